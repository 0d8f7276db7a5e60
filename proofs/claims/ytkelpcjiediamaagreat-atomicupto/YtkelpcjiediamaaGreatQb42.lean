import Derived.Test.YtkelpcjiediamaaGreatQb41
set_option maxRecDepth 100000
set_option maxHeartbeats 0
set_option linter.all false
namespace Go.Proofs.YtkelpcjiediamaaGreat
open Go renaming Calls→aK,TypeId→bW,Value→aj,World→ah,maxLen→dH
open Go.RowKit renaming intOf→dX
open Option renaming none→af,some→ae
open Go.Proofs.Tryz
open Go.RowKit Go.Maps
section
structure Wn where
 q:Int
 p:Int
 t:Int
 s:ByteArray
structure Fa where
 p:Int
 t:Int
 o:Int
structure PG where
 ep:List Int
 dn:Bool
 wr:List Wn
 fa:List Fa
 gt:List (List Rec)
 st:List Nat
def Wn.WQ(w:Wn):gm:=⟨1,w.p,w.t,w.s⟩
def Fa.is(p t:Int)(f:Fa):Bool:=decide (f.p=p)&&decide (f.t=t)
def iE(l:List Fa)(p t:Int):Int:=((l.find?<|Fa.is p t).map Fa.o).getD 0
structure Pg(N:Nat)(h:HS)(L:List Rc)(g:PG):Prop where
 sn:Sn N h L
 ep:(g.ep.length:Int)=h.P
 ee:∀(i:Nat) (e:Int),g.ep[i]? =ae e->e=(aY L i).e/\1<=e
 dn:g.dn= !h.up
 wr:∀(q:Nat) (p:PL),h.pl[q]? =ae p->p.s.data=(g.wr.filter fun w=>decide<|w.q=(q:Int)).map Wn.WQ
 fa:∀f∈g.fa,(f.o=1/\fM L f.p f.t true)\/(f.o=2/\fM L f.p f.t false)
 fc:∀p t,fM L p t true->∃f∈g.fa,f.p=p/\f.t=t
 gl:g.gt.length=h.pl.length
 sl:g.st.length=h.pl.length
 aU:∀(q:Nat) (p:PL),h.pl[q]? =ae p->∃s0,Ext s0 p.s/\g.gt[q]? =ae (s0.aU 0 s0.bZ)/\g.st[q]? =ae s0.bZ
section
variable{N:Nat}{h:HS}{L:List Rc}{g:PG}
variable{p t:Int}{q:Nat}
def abI{f:Fa}:f.is p t=true↔f.p=p/\f.t=t:=by simp[Fa.is]
def abJ(c:Pg N h L g)(p t:Int):(iE g.fa p t=0/\¬fM L p t true)\/(iE g.fa p t=1/\fM L p t true)\/(iE g.fa p t=2/\fM L p t false):=by
 unfold iE;cases e:g.fa.find? (Fa.is p t)with
 |none=>
  refine .inl ⟨rfl,fun d=>?_⟩;obtain⟨f,hf,h1,h2⟩:=c.fc p t d;have:=List.find?_eq_none.1 e f hf;exact this<|abI.2 ⟨h1,h2⟩
 |some f=>
  obtain⟨h1,h2⟩:=abI.1<|List.find?_some e;have hf:=c.fa f<|List.mem_of_find?_eq_some e;rw[h1,h2]at hf;exact .inr hf
def Ot(c:Pg N h L g):iE g.fa p t=1↔fM L p t true:=by
 have:=(c.sn.valid.NC p).one t;rcases abJ c p t with⟨e,d⟩|⟨e,d⟩|⟨e,d⟩
 ·exact⟨fun z=>by omega,fun z=>absurd z d⟩
 ·exact⟨fun _=>d,fun _=>e⟩
 ·exact⟨fun z=>by omega,fun z=>by have:=this _ _ z d;cases this⟩
def atD(c:Pg N h L g)(i:Int):((aY L i).s=1->iE g.fa i (aY L i).t=0)/\((aY L i).s=2->iE g.fa i (aY L i).t=1)/\((aY L i).s=3->iE g.fa i (aY L i).t=0\/iE g.fa i (aY L i).t=2):=by
 have d:=c.sn.valid.NC i;refine⟨fun z=>?_,fun z=>?_,fun z=>?_⟩
 ·rcases abJ c i (aY L i).t with⟨e,_⟩|⟨_,h⟩|⟨_,h⟩
  ·exact e
  ·have:=d.le _ _ h;omega
  ·have:=d.le _ _ h;omega
 ·have:=d.now (by omega);rw[z]at this;exact(Ot c).2 this
 ·have hd:=d.now (by omega);rw[z]at hd;rcases abJ c i (aY L i).t with⟨e,_⟩|⟨_,h⟩|⟨e,_⟩
  ·exact .inl e
  ·have:=d.one _ _ _ h hd;cases this
  ·exact .inr e
def ah6(s:aA):∀k,k<=s.es.length->(s.aU 0 k).map (fun r=>(r.p,r.s))=((s.es.take k).filter s.CB).map fun e=>(e.p,e.s)
 |0,_=>by simp[aA.aU]
 |k+1,hk=>by
  have he:=dR (show k<s.es.length by omega);rw[aA.FH s<|lK k,MS,ah6 s k<|by omega,zK,he,yJ,MS];congr 1;unfold aA.pick;rw[he];simp only[Ea];cases hp:s.CB s.es[k]<;>simp[hp]
def Pg.ah7(c:Pg N h L g){p:PL}(hp:h.pl[q]? =ae p):(g.wr.filter fun w=>decide (w.q=(q:Int))&&decide (iE g.fa w.p w.t=1)).map (fun w=>(w.p,w.s))=(p.s.aU 0 p.s.bZ).map (fun r=>(r.p,r.s))++((p.s.es.drop p.s.bZ).filter fun e=>decide (e.k=1)&&decide (iE g.fa e.p e.t=1)).map fun e=>(e.p,e.s):=by
 have k:=c.sn.dG q p hp;have ayx:=alT k.inv;have hS:=p.s.Nc;have e1:(p.s.es.take p.s.bZ).filter p.s.CB=(p.s.es.take p.s.bZ).filter fun e=>decide (e.k=1)&&decide (iE g.fa e.p e.t=1):=by
  refine UE fun e he=>?_;unfold aA.CB;by_cases h1:e.k=1
  ·simp only[h1,decide_true,Bool.true_and];obtain⟨i,hi,hie⟩:=List.mem_iff_getElem.1 he;have kQ:i<p.s.bZ:=by
    have:=hi;rw[JK]at this;omega
   have MI:p.s.es[i]? =ae e:=by
    rw[List.getElem_take]at hie;rw[<-hie];exact dR _
   obtain⟨qq,st⟩:=ayx i e kQ MI h1;have atE:nH p.s.es e.p e.t=ae qq:=st.nH;obtain⟨m,x,_,hxm,Jr⟩:=st.late;have hx:=fD hxm;have hxk:=st.all x hx Jr;have hd:=k.dec x hx Jr.1;rw[Jr.2.1,Jr.2.2,hxk]at hd;rw[atE];by_cases h2:qq=2
   ·subst h2;have:iE g.fa e.p e.t=1:=(Ot c).2 hd;simp[this]
   ·have Hf:fM L e.p e.t false:=by simpa[h2]using hd
    have:iE g.fa e.p e.t≠1:=fun z=>by
     have:=(c.sn.valid.NC e.p).one _ _ _ ((Ot c).1 z) Hf;cases this
    simp[this,h2]
  ·simp[h1]
 have e2:(g.wr.filter fun w=>decide (w.q=(q:Int))&&decide (iE g.fa w.p w.t=1)).map (fun w=>(w.p,w.s))=(p.s.es.filter fun e=>decide (e.k=1)&&decide (iE g.fa e.p e.t=1)).map fun e=>(e.p,e.s):=by
  have hd:=c.wr q p hp;have h1:(p.s.es.filter fun e=>decide (e.k=1)&&decide (iE g.fa e.p e.t=1))=p.s.data.filter fun e=>decide (iE g.fa e.p e.t=1):=by
   unfold aA.data;rw[List.filter_filter];exact UE fun e _=>Bool.and_comm _ _
  rw[h1,hd,List.filter_map,List.map_map,List.filter_filter];have h2:(g.wr.filter fun w=>decide (w.q=(q:Int))&&decide (iE g.fa w.p w.t=1))=g.wr.filter fun a=>((fun e:gm=>decide<|iE g.fa e.p e.t=1)∘Wn.WQ) a&&decide (a.q=(q:Int)):=UE fun w _=>Bool.and_comm _ _;rw[h2];rfl
 rw[e2,ah6 p.s p.s.bZ hS,e1,<-MS,<-yJ,YE]
def Pg.atF(c:Pg N h L g){p:PL}(hp:h.pl[q]? =ae p):∃rest,(g.wr.filter fun w=>decide (w.q=(q:Int))&&decide (iE g.fa w.p w.t=1)).map (fun w=>(w.p,w.s))=(p.s.aU 0 p.s.bZ).map (fun r=>(r.p,r.s))++rest:=⟨_,c.ah7 hp⟩
end
end
section
section
variable{N M:Nat}{h h':HS}{L L':List Rc}{g:PG}
def Pg.mono(c:Pg N h L g)(hM:N<=M):Pg M h L g:=⟨c.sn.mono hM,c.ep,c.ee,c.dn,c.wr,c.fa,c.fc,c.gl,c.sl,c.aU⟩
def Pg.step(c:Pg N h L g)(sn:Sn M h' L')(hP:h'.P=h.P)(hu:h'.up=h.up)(gr:sF h.pl h'.pl)(he:∀i,(aY L' i).e=(aY L i).e)(hd:∀p t b,fM L p t b->fM L' p t b)(Hf:∀p t,fM L' p t true->fM L p t true):Pg M h' L' g:=by
 have back:∀(q:Nat) (p':PL),h'.pl[q]? =ae p'->∃p,h.pl[q]? =ae p/\Gw p p':=fun q p' hq=>by
  have hl:q<h.pl.length:=by rw[<-gr.1];exact(dD.1 hq).1
  obtain⟨p2,h2,gw⟩:=gr.2 q _<|dR hl;rw[hq]at h2;cases h2;exact⟨_,dR hl,gw⟩
 refine⟨sn,by rw[hP];exact c.ep,fun i e hi=>by rw[he];exact c.ee i e hi,by rw[hu];exact c.dn,fun q p' hq=>?_,fun f hf=>(c.fa f hf).imp (fun z=>⟨z.1,hd _ _ _ z.2⟩) fun z=>⟨z.1,hd _ _ _ z.2⟩,fun p t z=>c.fc p t<|Hf p t z,by rw[gr.1];exact c.gl,by rw[gr.1];exact c.sl,fun q p' hq=>?_⟩
 ·obtain⟨p,hp,gw⟩:=back q p' hq;rw[gw.data];exact c.wr q p hp
 ·obtain⟨p,hp,gw⟩:=back q p' hq;obtain⟨s0,e0,e1,e2⟩:=c.aU q p hp;exact⟨s0,e0.trans gw.ext,e1,e2⟩
variable{r:Rc}{p t:Int}{i q:Nat}
def WR(L:List Rc)(hr:r.k≠1)(i:Int):(aY (L++[r]) i).e=(aY L i).e:=by
 rw[xE];unfold St.step;simp only[if_neg hr];repeat' split
 all_goals rfl
def Qt.e(q:Qt L L')(i:Int):(aY L' i).e=(aY L i).e:=by
 obtain⟨l,rfl,hl⟩:=q;induction l generalizing L with
 |nil=>rw[qh]
 |cons r l ih=>
  rw[show L++r::l=(L++[r])++l by simp,ih (L:=L++[r]) (fun x hx=>hl x<|by simp[hx]),WR L (by have:=hl r (by simp);omega)]
def Qt.dec(q:Qt L L'):fM L' p t true->fM L p t true:=by
 obtain⟨l,rfl,hl⟩:=q;rintro⟨r,hr,h1,h2,h3,h4⟩;rcases og.1 hr with hr|hr
 ·exact⟨r,hr,h1,h2,h3,h4⟩
 ·have:=hl r hr;simp only[if_true]at h4;omega
def Qt.more(q:Qt L L'){b:Bool}(d:fM L p t b):fM L' p t b:=by
 obtain⟨l,rfl,_⟩:=q;exact d.more l
def Pg.EE(c:Pg N h L g)(sn:Sn M h' L')(w:tY h L h' L'):Pg M h' L' g:=c.step sn w.P w.up w.grow w.qt.e (fun _ _ _ d=>w.qt.more d) fun _ _ d=>w.qt.dec d
def Pg.atG(c:Pg N h L g){i:Int}(hd:fM L i t false):Pg N h L {g with fa:=g.fa++[⟨i,t,2⟩]}:=
 ⟨c.sn,c.ep,c.ee,c.dn,c.wr,fun f hf=>by
  rcases og.1 hf with hf|hf
  ·exact c.fa f hf
  ·rw[nY.1 hf];exact .inr ⟨rfl,hd⟩,fun p t d=>by
  obtain⟨f,hf,e⟩:=c.fc p t d;exact⟨f,H7 _ hf,e⟩,c.gl,c.sl,c.aU⟩
def Pg.ended(c:Pg N h L g){cm:Bool}(sn:Sn M h' (L++[⟨3,i,if cm then 1 else 0,t⟩]))(hP:h'.P=h.P)(hu:h'.up=h.up)(iF:h'.pl=h.pl):Pg M h' (L++[⟨3,i,if cm then 1 else 0,t⟩]) {g with fa:=g.fa++[⟨i,t,if cm then 1 else 2⟩]}:=by
 have zn:fM (L++[⟨3,i,if cm then 1 else 0,t⟩]) i t cm:=⟨⟨3,i,if cm then 1 else 0,t⟩,Ut _<|nY.2 rfl,rfl,rfl,rfl,rfl⟩;refine⟨sn,by rw[hP];exact c.ep,fun j e hj=>by rw[WR L<|by simp];exact c.ee j e hj,by rw[hu];exact c.dn,fun q p hq=>c.wr q p (by rw[<-iF];exact hq),fun f hf=>?_,fun p t' d=>?_,by rw[iF];exact c.gl,by rw[iF];exact c.sl,fun q p hq=>c.aU q p (by rw[<-iF];exact hq)⟩
 ·rcases og.1 hf with hf|hf
  ·exact(c.fa f hf).imp (fun z=>⟨z.1,z.2.snoc _⟩) fun z=>⟨z.1,z.2.snoc _⟩
  ·rw[nY.1 hf];cases cm
   ·exact .inr ⟨rfl,zn⟩
   ·exact .inl ⟨rfl,zn⟩
 ·rcases d.CS with d|⟨_,h2,h3,_⟩
  ·obtain⟨f,hf,e⟩:=c.fc p t' d;exact⟨f,H7 _ hf,e⟩
  ·exact⟨⟨i,t,if cm then 1 else 2⟩,Ut _<|nY.2 rfl,h2,h3⟩
def Pg.atH(c:Pg N h L g){e0:Int}(hi:g.ep[i]? =ae e0)(sn:Sn M h' (L++[⟨1,i,0,e0+1⟩]))(hP:h'.P=h.P)(hu:h'.up=h.up)(iF:h'.pl=h.pl):Pg M h' (L++[⟨1,i,0,e0+1⟩]) {g with ep:=g.ep.set i<|e0+1}:=by
 have old:∀{p t b},fM (L++[⟨1,i,0,e0+1⟩]) p t b->fM L p t b:=fun d=>d.CS.resolve_right (fun z=>by have:=z.1;simp at this);refine⟨sn,by rw[hP,yK];exact c.ep,fun j e hj=>?_,by rw[hu];exact c.dn,fun q p hq=>c.wr q p (by rw[<-iF];exact hq),fun f hf=>(c.fa f hf).imp (fun z=>⟨z.1,z.2.snoc _⟩) fun z=>⟨z.1,z.2.snoc _⟩,fun p t d=>c.fc p t<|old d,by rw[iF];exact c.gl,by rw[iF];exact c.sl,fun q p hq=>c.aU q p (by rw[<-iF];exact hq)⟩;rw[xE];rcases Bc hj with⟨rfl,rfl⟩|⟨bM,BM⟩
 ·have:=(c.ee j e0 hi).2;exact⟨by simp[St.step],by omega⟩
 ·rw[St.FM _ (by show(i:Int)≠j;omega)];exact c.ee j e BM
def Pg.add(c:Pg N h L g)(hr:r.k=2)(sn:Sn M h' (L++[r]))(hP:h'.P=h.P)(hu:h'.up=h.up)(gr:sF h.pl h'.pl):Pg M h' (L++[r]) g:=
 c.step sn hP hu gr (WR L<|by omega) (fun _ _ _ d=>d.snoc r) fun _ _ d=>d.CS.resolve_right fun z=>by have:=z.1;omega
def Pg.same(c:Pg N h L g)(sn:Sn M h' L)(hP:h'.P=h.P)(hu:h'.up=h.up)(gr:sF h.pl h'.pl):Pg M h' L g:=c.step sn hP hu gr (fun _=>rfl) (fun _ _ _ d=>d) fun _ _ d=>d
def Pg.abort(c:Pg N h L g)(sn:Sn M h' (L++[⟨3,i,0,t⟩]))(hP:h'.P=h.P)(hu:h'.up=h.up)(iF:h'.pl=h.pl):Pg M h' (L++[⟨3,i,0,t⟩]) g:=
 c.step sn hP hu (by rw[iF];exact .refl _) (WR L<|by simp) (fun _ _ _ d=>d.snoc _) fun _ _ d=>(Qt.one (L:=L) (r:=⟨3,i,0,t⟩)<|.inr ⟨rfl,rfl⟩).dec d
def Pg.put(c:Pg N h L g){p:PL}{ts:ByteArray}{p':PL}(hp:h.pl[q]? =ae p)(sn:Sn M h' L)(hP:h'.P=h.P)(hu:h'.up=h.up)(iF:h'.pl=h.pl.set q p')(hd:p'.s.data=p.s.data++[⟨1,i,t,ts⟩])(ext:Ext p.s p'.s):Pg M h' L {g with wr:=g.wr++[⟨q,i,t,ts⟩]}:=by
 refine⟨sn,by rw[hP];exact c.ep,c.ee,by rw[hu];exact c.dn,fun j a ha=>?_,c.fa,c.fc,by rw[iF,yK];exact c.gl,by rw[iF,yK];exact c.sl,fun j a ha=>?_⟩
 ·rw[iF]at ha;show a.s.data=((g.wr++[(⟨q,i,t,ts⟩:Wn)]).filter fun w:Wn=>decide<|w.q=(j:Int)).map Wn.WQ;rw[yJ,MS];rcases Bc ha with⟨rfl,rfl⟩|⟨bM,ha'⟩
  ·rw[hd,c.wr j p hp];simp[Wn.WQ]
  ·rw[c.wr j a ha'];have:¬((q:Int)=j):=by omega
   simp[this]
 ·rw[iF]at ha;rcases Bc ha with⟨rfl,rfl⟩|⟨_,ha'⟩
  ·obtain⟨s0,e0,e1,e2⟩:=c.aU j p hp;exact⟨s0,e0.trans ext,e1,e2⟩
  ·exact c.aU j a ha'
def Pg.looked(c:Pg N h L g){p:PL}(hp:h.pl[q]? =ae p):Pg N h L {g with gt:=g.gt.set q<|p.s.aU 0 p.s.bZ,st:=g.st.set q p.s.bZ}:=by
 have hl:=(dD.1 hp).1;refine⟨c.sn,c.ep,c.ee,c.dn,c.wr,c.fa,c.fc,by rw[yK];exact c.gl,by rw[yK];exact c.sl,fun j a ha=>?_⟩;by_cases e:q=j
 ·subst e;rw[hp]at ha;cases ha;exact⟨p.s,.refl _,mD (by rw[c.gl];exact hl),mD (by rw[c.sl];exact hl)⟩
 ·obtain⟨s0,e0,e1,e2⟩:=c.aU j a ha;exact⟨s0,e0,by rw[vz e];exact e1,by rw[vz e];exact e2⟩
def Pg.abE(c:Pg N h L g):Pg N h.zS L {g with dn:=true}:=⟨c.sn.abE,c.ep,c.ee,rfl,c.wr,c.fa,c.fc,c.gl,c.sl,c.aU⟩
def Pg.abG(c:Pg N h L g)(jv:aj):Pg N (h.FY jv L) L {g with dn:=false}:=⟨c.sn.abG jv,c.ep,c.ee,rfl,c.wr,c.fa,c.fc,c.gl,c.sl,c.aU⟩
end
end
section
def Wn.cs(x:Wn):List Value:=[.int .i64 x.q,.int .i64 x.p,.int .i64 x.t,.string x.s]
def Fa.cs(x:Fa):List Value:=[.int .i64 x.p,.int .i64 x.t,.int .i64 x.o]
structure PV where
 ev:aj
 wv:aj
 fv:aj
 gv:aj
 sv:aj
 gs:List aj
def PV.dZ(v:PV)(pb k:Nat):Prop:=k=pb\/v.ev.ownBlock=ae k\/v.wv.ownBlock=ae k\/v.fv.ownBlock=ae k\/v.gv.ownBlock=ae k\/v.sv.ownBlock=ae k\/∃u∈v.gs,u.ownBlock=ae k
structure gU(w:ah)(B pb xb:Nat)(h:HS)(g:PG)(v:PV):Prop where
 blk:w.heap[pb]? =ae (.cells #[.pointer<|ae ⟨xb,0,af⟩,.int .i64 h.P,.int .i64 h.Q,.int .i64 h.T,.int .i64 h.K,v.ev,.bool g.dn,v.wv,v.fv,v.gv,v.sv] 48 (0,0))
 ep:w.ownsRow B 3 1 v.ev g.ep.length (fK g.ep)
 wr:w.ownsRow B 66 4 v.wv g.wr.length (g.wr.flatMap Wn.cs)
 fa:w.ownsRow B 114 3 v.fv g.fa.length (g.fa.flatMap Fa.cs)
 gt:w.ownsRow B 67 1 v.gv v.gs.length v.gs
 gl:v.gs.length=g.gt.length
 rc:∀(q:Nat) (u:aj) (l:List Rec),v.gs[q]? =ae u->g.gt[q]? =ae l->w.ownsRow B 94 3 u l.length (qi l)
 st:w.ownsRow B 3 1 v.sv g.st.length (fK<|g.st.map Int.ofNat)
 ap:∀k,v.ev.ownBlock=ae k->v.sv.ownBlock≠ae k
 hb:B<=pb
section
variable{w w':ah}{B pb xb n:Nat}{h:HS}{g:PG}{v:PV}
variable{u:aj}{k wd m:Nat}{ty:bW}
def gU.ah8(a:gU w B pb xb h g v)(hu:u∈v.gs):∃l:List Rec,w.ownsRow B 94 3 u l.length (qi l):=by
 obtain⟨q,hq⟩:=Us.1 hu;have hl:q<g.gt.length:=by rw[<-a.gl];exact(dD.1 hq).1
 exact⟨_,a.rc q u _ hq<|dR hl⟩
def gU.stay{S:Nat->Prop}(a:gU w B pb xb h g v)(f:Fr S w w')(hS:∀k,S k->v.dZ pb k->False):gU w' B pb xb h g v:=
 ⟨(f.block pb (aS a.blk) fun e=>hS _ e<|.inl rfl).trans a.blk,f.ownsRow a.ep fun k hk e=>hS k e<|.inr<|.inl hk,f.ownsRow a.wr fun k hk e=>hS k e<|.inr<|.inr<|.inl hk,f.ownsRow a.fa fun k hk e=>hS k e<|.inr<|.inr<|.inr<|.inl hk,f.ownsRow a.gt fun k hk e=>hS k e<|.inr<|.inr<|.inr<|.inr<|.inl hk,a.gl,fun q u l h1 h2=>f.ownsRow (a.rc q u l h1 h2) fun k hk e=>hS k e<|.inr<|.inr<|.inr<|.inr<|.inr<|.inr ⟨u,fD h1,hk⟩,f.ownsRow a.st fun k hk e=>hS k e<|.inr<|.inr<|.inr<|.inr<|.inr<|.inl hk,a.ap,a.hb⟩
def gU.after(a:gU w B pb xb h g v)(f:Fr aH w w'):gU w' B pb xb h g v:=a.stay f fun _ e _=>e
def gU.rV(a:gU w B pb xb h g v)(hk:v.dZ pb k):k<w.heap.size/\B<=k:=by
 rcases hk with rfl|hk|hk|hk|hk|hk|⟨u,hu,hk⟩
 ·exact⟨aS a.blk,a.hb⟩
 ·exact(a.ep.lt k hk).symm
 ·exact(a.wr.lt k hk).symm
 ·exact(a.fa.lt k hk).symm
 ·exact(a.gt.lt k hk).symm
 ·exact(a.st.lt k hk).symm
 ·obtain⟨l,hl⟩:=a.ah8 hu;exact(hl.lt k hk).symm
def gU.tags(a:gU w B pb xb h g v)(hk:v.dZ pb k):tag w k=48\/tag w k=3\/tag w k=66\/tag w k=114\/tag w k=67\/tag w k=94:=by
 rcases hk with rfl|hk|hk|hk|hk|hk|⟨u,hu,hk⟩
 ·exact .inl<|lD a.blk
 ·exact .inr<|.inl<|ig a.ep hk
 ·exact .inr<|.inr<|.inl<|ig a.wr hk
 ·exact .inr<|.inr<|.inr<|.inl<|ig a.fa hk
 ·exact .inr<|.inr<|.inr<|.inr<|.inl<|ig a.gt hk
 ·exact .inr<|.inl<|ig a.st hk
 ·obtain⟨l,hl⟩:=a.ah8 hu;exact .inr<|.inr<|.inr<|.inr<|.inr<|ig hl hk
def ay.tags(a:ay w B xb n h)(hk:h.dZ xb k):tag w k=111\/tag w k=5\/tag w k=98\/tag w k=119\/tag w k=163\/tag w k=1000000\/tag w k=55:=by
 rcases hk with rfl|hk|hk|hk|⟨p,hp,hk⟩
 ·exact .inl<|lD a.blk
 ·exact .inr<|.inl<|ig a.lL hk
 ·exact .inr<|.inr<|.inl<|ig a.jD hk
 ·exact .inr<|.inr<|.inr<|.inl<|ig a.lY hk
 ·have l:=a.dG p hp;rcases hk with rfl|rfl|hk
  ·exact .inr<|.inr<|.inr<|.inr<|.inl<|lD l.blk
  ·exact .inr<|.inr<|.inr<|.inr<|.inr<|.inl<|aen l.map
  ·exact .inr<|.inr<|.inr<|.inr<|.inr<|.inr<|ig l.row hk
def ay.off(a:ay w B xb n h)(b:gU w B pb xb h g v)(h1:h.dZ xb k)(h2:v.dZ pb k):False:=by
 have:=a.tags h1;have:=b.tags h2;omega
def ah9{α:Type}(cs:α->List aj)(wd:Nat)(hw:∀a,(cs a).length=wd):∀(l:List α) (k:Nat) (e:α) (j:Nat),l[k]? =ae e->j<wd->(l.flatMap cs)[k*wd+j]? =(cs e)[j]?
 |[],k,e,j,h,_=>by simp at h
 |x::r,0,e,j,h,hj=>by
  simp only[xA,fJ]at h;subst h;simp only[nZ,Nat.zero_mul,Cm];exact tJ (by rw[hw];exact hj)
 |x::r,k+1,e,j,h,hj=>by
  simp only[zJ]at h;have:=ah9 cs wd hw r k e j h hj;rw[nZ,wG (by rw[hw,Nat.add_mul];omega),<-this];congr 1;rw[hw,Nat.add_mul];omega
def BC{α:Type}{cs:α->List aj}(hw:∀a,(cs a).length=wd){l:List α}{g' cap:Nat}(ho:w.ownsRow B ty wd (.slice (ae ⟨g',0,af⟩) m cap) l.length (l.flatMap cs)){e:α}(hk:l[k]? =ae e){j:Nat}(hj:(cs e)[j]? =ae u):w.cell? ⟨g',k*wd+j,af⟩=ae u:=by
 have hjw:j<wd:=by rw[<-hw e];exact(dD.1 hj).1
 have:=ho.cells (g:=g') rfl (k*wd+j) u<|(ah9 cs wd hw l k e j hk hjw).trans hj;rw[aCo]at this;simpa using this
def uO{xs:List aj}(ho:w.ownsRow B ty wd u m xs)(hm:0<m):∃g' cap,u=.slice (ae ⟨g',0,af⟩) m cap/\g'<w.heap.size/\m<=cap/\cap<=dH/\B<=g':=by
 rcases ho.2 with⟨_,h0⟩|⟨g',cap,cur,hv,hb,hg,h1,h2,_⟩
 ·omega
 ·exact⟨g',cap,hv,aS hg,h1,h2,hb⟩
end
structure dB where
 h:HS
 L:List Rc
 g:PG
 v:PV
def dB.dZ(s:dB)(pb xb k:Nat):Prop:=s.h.dZ xb k\/s.v.dZ pb k
structure bu(w:ah)(B pb xb N:Nat)(s:dB):Prop where
 ha:ay w B xb N s.h
 ax:iC s.h.pl
 pa:gU w B pb xb s.h s.g s.v
 pg:Pg N s.h s.L s.g
 wr:s.g.wr.length<=N
 fa:s.g.fa.length<=N
structure bQ(w w':ah)(B pb xb:Nat)(s:dB)(N:Nat)(s':dB):Prop where
 at_:bu w' B pb xb N s'
 fr:Fr (s.dZ pb xb) w w'
 sub:∀k,s'.dZ pb xb k->s.dZ pb xb k\/w.heap.size<=k
 cf:s'.h.P=s.h.P/\s'.h.Q=s.h.Q/\s'.h.T=s.h.T/\s'.h.K=s.h.K
section
variable{w w1 w':ah}{B pb xb N M:Nat}{s s1 s':dB}
def bu.mono(a:bu w B pb xb N s)(hM:N<=M):bu w B pb xb M s:=⟨a.ha.mono hM,a.ax,a.pa,a.pg.mono hM,dP a.wr hM,dP a.fa hM⟩
def bu.after(a:bu w B pb xb N s)(f:Fr aH w w'):bu w' B pb xb N s:=⟨a.ha.after f,a.ax,a.pa.after f,a.pg,a.wr,a.fa⟩
def bu.lt(a:bu w B pb xb N s){k:Nat}(hk:s.dZ pb xb k):k<w.heap.size/\B<=k:=hk.elim (fun z=>a.ha.rV z) fun z=>a.pa.rV z
def bQ.mono(a:bQ w w' B pb xb s N s')(hM:N<=M):bQ w w' B pb xb s M s':=⟨a.at_.mono hM,a.fr,a.sub,a.cf⟩
def bQ.after(a:bQ w w1 B pb xb s N s')(f:Fr aH w1 w'):bQ w w' B pb xb s N s':=⟨a.at_.after f,a.fr.trans f fun _ h=>h.elim,a.sub,a.cf⟩
def bQ.behind(f:Fr aH w w1)(a:bQ w1 w' B pb xb s N s'):bQ w w' B pb xb s N s':=⟨a.at_,(f.mono fun _ h=>h.elim).trans a.fr fun _=>.inl,fun k hk=>(a.sub k hk).imp id fun e=>dP f.size e,a.cf⟩
def bQ.trans(a:bQ w w1 B pb xb s M s1)(t:bQ w1 w' B pb xb s1 N s'):bQ w w' B pb xb s N s':=
 ⟨t.at_,a.fr.trans t.fr fun k hk=>a.sub k hk,fun k hk=>by
  rcases t.sub k hk with e|e
  ·exact a.sub k e
  ·exact .inr<|dP a.fr.size e,⟨t.cf.1.trans a.cf.1,t.cf.2.1.trans a.cf.2.1,t.cf.2.2.1.trans a.cf.2.2.1,t.cf.2.2.2.trans a.cf.2.2.2⟩⟩
def bQ.refl(a:bu w B pb xb N s):bQ w w B pb xb s N s:=⟨a,Fr.refl _ _,fun _ h=>.inl h,rfl,rfl,rfl,rfl⟩
def bQ.still(a:bu w B pb xb N s)(f:Fr aH w w'):bQ w w' B pb xb s N s:=(bQ.refl a).after f
def bQ.dV(a:bu w B pb xb M s)(t:bQ w w' B pb xb s N s'):Fr (fun k=>B<=k) w w':=t.fr.mono fun _ hk=>.inl (a.lt hk).2
def bQ.atJ(a:bu w B pb xb N s){n':Nat}{h':HS}{L':List Rc}(m:bI w w' B xb N s.h n' h')(hc:h'.P=s.h.P/\h'.Q=s.h.Q/\h'.T=s.h.T/\h'.K=s.h.K)(ax:iC h'.pl)(hn:n'<=M)(hM:N<=M)(pg:Pg M h' L' s.g):bQ w w' B pb xb s M ⟨h',L',s.g,s.v⟩:=by
 have p1:=a.pa.stay m.fr fun k e hf=>a.ha.off a.pa e hf;refine⟨⟨m.at_.mono hn,ax,⟨?_,p1.ep,p1.wr,p1.fa,p1.gt,p1.gl,p1.rc,p1.st,p1.ap,p1.hb⟩,pg,dP a.wr hM,dP a.fa hM⟩,m.fr.mono fun _ e=>.inl<|.inl e,fun k hk=>?_,hc⟩
 ·obtain⟨e1,e2,e3,e4⟩:=hc;show _=ae (Obj.cells #[_,.int .i64 h'.P,.int .i64 h'.Q,.int .i64 h'.T,.int .i64 h'.K,_,_,_,_,_,_] 48 (0,0));rw[e1,e2,e3,e4];exact p1.blk
 ·rcases hk with hk|hk
  ·exact(m.sub k hk).imp .inl id
  ·exact .inl<|.inr hk
def bu.cells(a:bu w B pb xb N s):w.cell? ⟨pb,0,af⟩=ae (.pointer<|ae ⟨xb,0,af⟩)/\w.cell? ⟨pb,1,af⟩=ae (.int .i64 s.h.P)/\w.cell? ⟨pb,2,af⟩=ae (.int .i64 s.h.Q)/\w.cell? ⟨pb,5,af⟩=ae s.v.ev/\w.cell? ⟨pb,6,af⟩=ae (.bool s.g.dn)/\w.cell? ⟨pb,7,af⟩=ae s.v.wv/\w.cell? ⟨pb,8,af⟩=ae s.v.fv/\w.cell? ⟨pb,9,af⟩=ae s.v.gv/\w.cell? ⟨pb,10,af⟩=ae s.v.sv:=
 have b:=a.pa.blk
 ⟨aG b 0,aG b 1,aG b 2,aG b 5,aG b 6,aG b 7,aG b 8,aG b 9,aG b 10⟩
end
end
section
def Fa.len(x:Fa):x.cs.length=3:=rfl
def Wn.len(x:Wn):x.cs.length=4:=rfl
def aia{p t:Int}:∀{fs:List Fa} {k:Nat} {x:Fa},fs[k]? =ae x->x.is p t=true->(∀(j:Nat) y,j<k->fs[j]? =ae y->y.is p t=false)->iE fs p t=x.o
 |[],k,x,h,_,_=>by simp at h
 |a::fs,0,x,h,h1,_=>by
  simp only[xA,fJ]at h;subst h;simp[iE,h1]
 |a::fs,k+1,x,h,h1,h2=>by
  have ha:=h2 0 a (by omega) rfl;simp only[zJ]at h;have:=aia h h1 fun j y hj hy=>h2 (j+1) y (by omega) (by simpa using hy);rw[<-this];simp[iE,ha]
def atK{p t:Int}{fs:List Fa}(h:∀(j:Nat) y,j<fs.length->fs[j]? =ae y->y.is p t=false):iE fs p t=0:=by
 have:fs.find? (Fa.is p t)=none:=List.find?_eq_none.2 fun x hx=>by
  obtain⟨j,hj⟩:=Us.1 hx;have:=h j x (dD.1 hj).1 hj;rw[this];simp
 simp[iE,this]
section
variable{w:ah}{B pb:Nat}
def WS{fs:List Fa}{v:aj}(hr:w.ownsRow B 114 3 v fs.length (fs.flatMap Fa.cs))(c0:w.cell? ⟨pb,8,af⟩=ae v)(p t:Int):
 aK prog 18 #[.pointer<|ae ⟨pb,0,af⟩,.int .i64 p,.int .i64 t] w fun e w'=>e=.returned (.int .i64<|iE fs p t)/\w=w':=by
 obtain⟨va,vc,rfl,hl⟩:=oL hr;unfold dH at hl;have H:Hid (w.ownsRow B 114 3 (.slice va fs.length vc) fs.length<|fs.flatMap Fa.cs):=hr;clear hr;go_enter func18,ntmps18
 go_wp2_with fail
 go_loop [7] (fun i=>∃k:Nat,k<=fs.length/\i=.int .i64 k/\∀(j:Nat) y,j<k->fs[j]? =ae y->y.is p t=false) (fun i=>fs.length-(dX i).toNat)
 case atStart=>exact⟨0,lK _,rfl,fun j x hj=>by omega⟩
 case round=>
  obtain⟨k,hk,rfl,ji⟩:=hrel
  have HA:Hid (∀(j:Nat) y,j<k->fs[j]? =ae y->y.is p t=false):=ji
  clear ji
  by_cases aB:k<fs.length
  ·obtain⟨x,hx⟩:∃x,fs[k]? =ae x:=⟨_,dR aB⟩
   have HX:Hid (fs[k]? =ae x):=hx
   obtain⟨g,cap,hv,hg,h1,h2,hb⟩:=uO H.out<|by omega
   simp only[aB7]at hv
   obtain⟨rfl,_,rfl⟩:=hv
   have r0:w.cell? ⟨g,k*3,af⟩=ae (.int .i64 x.p):=BC Fa.len H.out hx (j:=0) rfl
   have r1:w.cell? ⟨g,k*3+1,af⟩=ae (.int .i64 x.t):=BC Fa.len H.out hx (j:=1) rfl
   have r2:w.cell? ⟨g,k*3+2,af⟩=ae (.int .i64 x.o):=BC Fa.len H.out hx (j:=2) rfl
   have yh:(k:Int)<(fs.length:Int):=by omega
   have sV:(0:Int)<=(k:Int):=by omega
   clear hx hg h2 hb
   have HN:Hid (x.is p t=false->∀(j:Nat) z,j<k+1->fs[j]? =ae z->z.is p t=false):=fun e j z hj hz=>by
    by_cases ej:j=k
    ·subst ej;have:=HX.out.symm.trans hz;cases this;exact e
    ·exact HA.out j z (by omega) hz
   by_cases e1:x.p=p
   ·have e1':(x.p==p)=true:=by simpa using e1
    by_cases e2:x.t=t
    ·have HM:Hid (x.is p t=true):=abI.2 ⟨e1,e2⟩
     have e2':(x.t==t)=true:=by simpa using e2
     clear e1 e2
     go_wp2
     go_ret
     exact⟨by rw[aia HX.out HM.out HA.out];rfl,rfl⟩
    ·have HM:Hid (x.is p t=false):=by show x.is p t=false;simp[Fa.is,e2]
     have e2':(x.t==t)=false:=by simpa using e2
     clear e1 e2
     go_wp2
     go_round
     case rel=>exact⟨k+1,by omega,by go_num,HN.out HM.out⟩
     case measure=>simp[dX]<;>omega
   ·have HM:Hid (x.is p t=false):=by show x.is p t=false;simp[Fa.is,e1]
    have e1':(x.p==p)=false:=by simpa using e1
    clear e1
    go_wp2
    go_round
    case rel=>exact⟨k+1,by omega,by go_num,HN.out HM.out⟩
    case measure=>simp[dX]<;>omega
  ·have HF:Hid (iE fs p t=0):=atK fun j y hj=>HA.out j y (by omega)
   go_wp2
   go_ret
   exact⟨by rw[HF.out];rfl,rfl⟩
end
end
end Go.Proofs.YtkelpcjiediamaaGreat
