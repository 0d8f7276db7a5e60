import Derived.Test.YtkelpcjiediamaaGreatQk
set_option maxRecDepth 100000
set_option maxHeartbeats 0
set_option linter.all false
namespace Go.Proofs.YtkelpcjiediamaaGreat
open Bool renaming false->ah,true->A
open Go renaming Calls->aH,Program->gB,TypeId->dB,Value->ai,World->ae,execOp->eG,maxLen->cZ,undef->F
open Go.Ending renaming returned->aU
open Go.IntKind renaming i64->Z
open Go.Obj renaming cells->aC
open Go.Proofs.Tryz renaming prog->aj
open Go.RowKit renaming Hid->I,intOf->bM
open Go.Value renaming agg->jf,bool->aA,int->V,ownBlock->dw,pointer->ak,slice->aP,string->dN,tuple->dZ
open Go.World renaming alloc->bH,cell?->au,heap->R,ownsRow->bI,setCell->aZ
open Option renaming none->U,some->Y
open _root_.Array renaming size->M
open _root_.List renaming length->O
open Go.Proofs.Tryz
open Go.RowKit Go.Maps
section
structure Fr(S:Nat->Prop)(w w2:ae):Prop where
 os:w2.os=w.os
 tape:w2.tape=w.tape
 output:w2.output=w.output
 size:M (R w)<=M (R w2)
 block:∀k,k<M (R w)->¬S k->w2.heap[k]? =w.heap[k]?
theorem Fr.refl(S w):Fr S w w:=⟨J,J,J,fC _,Zv⟩
variable{S a w2 p}
theorem Fr.t{T b c}(h:Fr S a b)(k:Fr T b c)(hT:∀i,T i->S i\/a.heap.size<=i):Fr S a c:=⟨k.os.t h.os,k.tape.t h.tape,k.output.t h.output,dX h.size k.size,(by grind[cases Fr])⟩
theorem Fr.z{T b}(h:Fr S a b)(hT:∀i,S i->T i\/a.heap.size<=i):Fr T a b:=
 {h with block:=(by grind[cases Fr])}
theorem Fr.drew{w}(h:Fr S a w):Fr S a w.drew:={h with}
def Fr.drewN{w}(h:Fr S a w)(n):Fr S a (w.drewN n):={h with}
theorem Fr.alloc{w}(h:Fr S a w)(o):Fr S a (bH w o):=
 {h with size:=by have:=h.size;simp<;>omega,block:=(by grind[Below.heap_alloc,Fr.block])}
theorem Fr.setCell{w}(h:Fr S a w)(hp:S p.block\/a.heap.size<=p.block)(u):Fr S a (aZ w p u):=
 {h with size:=by simpa using h.size,block:=(by grind[Below.heap_setCell,cases Fr])}
def Fr.grown{w H}(h:Fr S a w)(hg:w.grownBy w2 H)(hr:∀k,H=Y k->S k\/a.heap.size<=k):Fr S a w2:=⟨hg.os.t h.os,hg.tape.t h.tape,hg.output.t h.output,dX h.size hg.size,(by grind[cases Fr,World.grownBy.block])⟩
theorem Fr.cell{w}(h:Fr S w w2)(hp:p.block<M (R w))(hn:¬S p.block):w2 p=w p:=(by grind[World.cell?_of_block,cases Fr])
theorem Fr.ownsRow{w}(h:Fr S w w2){base e size v n xs}(H:bI w base e size v n xs)(hn:∀k,dw v=Y k->¬S k):bI w2 base e size v n xs:=by have aO:=H.lt;refine⟨H.1,?_⟩;rcases H.2 with h2|⟨g,cap,cur,rfl,hb,hg,r⟩;{grind};exact .inr ⟨g,cap,cur,J,hb,by rwa[h.block g (aO g rfl).2<|hn g rfl],r⟩
def Fr.ownsMap{H w}(h:Fr S w w2){P k aPX b n}{D:DataW H}(ho:w.ownsMap P k aPX b n D)(hn:¬S b):w2.ownsMap P k aPX b n D:=have aO:=ho.lt;have⟨es,clock,hb,r⟩:=ho;⟨es,clock,(h.block b aO hn).t hb,r⟩
def Bc:ai->Option (DataW ai×List MemPlace):=λv=>Y (.held v,[])
def lg(w:ae)(P:gB)(k:dB)(b n:Nat)(f:ai->Option ai):Prop:=∃D,w.ownsMap P k Bc b n D/\∀H kl,keyOf P k H=Y kl->(∀z,D.atKey kl (.held z)=.held ((f H).getD z))/\Maps.has D kl=(f H).isSome
section
variable{P k w b n f}
theorem lg.lt(h:lg w P k b n f):b<w:=have⟨D,H,_⟩:=h;H.lt
theorem lg.z(h:lg w P k b n f){m}(H:n<=m):lg w P k b m f:=have⟨D,h1,h2⟩:=h;⟨D,h1.mono H,h2⟩
def lg.congr(h:lg w P k b n f){g}(hg:∀H kl,keyOf P k H=Y kl->g H=f H):lg w P k b n g:=have⟨D,h1,h2⟩:=h;⟨D,h1,Zv⟩
def Fr.Gh{S w2}(h:Fr S w w2)(ho:lg w P k b n f)(H:¬S b):lg w2 P k b n f:=have⟨D,h1,h2⟩:=ho;⟨D,h.ownsMap h1 H,h2⟩
def lg.made(w P k):lg (w.alloc<|.map #[] 0) P k (M (R w)) 0 (λ_=>U):=by refine⟨.map [],World.ownsMap_made w P k _,λH kl _=>⟨λz=>?_,?_⟩⟩;{grind[WideAt.atKey_none]};grind[has_false_of_atKey,WideAt.atKey_none]
variable{t e z key kl}
def lg.look(h:lg w P k b n f)(K:Keyed P k)(ht:P.underlying t=Y (.map k e))(hz:(zeroValue e).run P w=.ok z w)(uw:keyOf P k key=Y kl):(Instr.lookup t (.map b) key ah).run P w=.ok ((f key).getD z) w:=by have⟨D,H,h2⟩:=h;have⟨v,ps,hr,hv⟩:=H.lookup K ht hz J uw;simp only[Bc,iR,Ri,aRV]at hv;grind
def lg.look_ok(h:lg w P k b n f)(K:Keyed P k)(ht:P.underlying t=Y (.map k e))(hz:(zeroValue e).run P w=.ok z w)(uw:keyOf P k key=Y kl):(Instr.lookup t (.map b) key A).run P w=.ok (dZ #[(f key).getD z,(f key).isSome]) w:=by have⟨D,H,h2⟩:=h;have⟨v,ps,hr,hv⟩:=H.look_ok K ht hz J uw;simp only[Bc,iR,Ri,aRV]at hv;grind
def lg.store(h:lg w P k b n f)(K:Keyed P k)(ht:P.underlying t=Y (.map k e))(hn:n<cZ){val}(uw:keyOf P k key=Y kl){g} (AP:g key=Y val)(JZ:∀x,x≠key->g x=f x):∃w2,(Instr.mapUpdate t (.map b) key val).run P w=.ok () w2/\lg w2 P k b (n+1) g/\w.mapTurned w2 b:=by have⟨D,H,h2⟩:=h;have⟨w2,hr,ho,QH⟩:=H.store K ht hn uw (d:=.held val) J;have hD:=H.isMap;refine⟨w2,hr,⟨_,ho,λx xl hx=>?_⟩,QH⟩;by_cases e:xl=kl;{grind[Keyed.inj,atKey_put_same,Keyed.key,has_put_same]};have fE:x≠key:=Zv;grind[atKey_put_other,has_put_other]
end
def YR{P}(w){ops rest o a Q} (hg:o.guard=U)(m x v t)(bu:o.op=Op.mapUpdate t m x v) (k e)(K:Keyed P k)(ht:P.underlying t=Y (.map k e))(b n f) (hm:a.eval m=.map b)(fK:lg w P k b n f)(hn:n<cZ)(H val kl)(hx:a.eval x=H)(hv:a.eval v=val)(uw:keyOf P k H=Y kl) (g)(AP:g H=Y val)(JZ:∀x,x≠H->g x=f x) (hK:∀w2,lg w2 P k b (n+1) g->w.mapTurned w2 b->wpList P ops Q rest (a.put o.dst F) w2):wpList P ops Q (o::rest) a w:=by refine aR4 hg λK2 Oq=>?_;have⟨w2,jU,r1,r2⟩:=fK.store K ht hn uw AP JZ;unfold Oper.wp;simp[eG,bu,hm,hx,hv,jU,Result.andThen];exact Oq _ _<|hK w2 r1 r2
variable{cs t}
theorem aJ{w b fr}(h:w.heap[b]? =Y (.cells cs t fr))(o):au w ⟨b,o,U⟩=cs[o]? :=by simp[World.cell?,h]
def gJ{w:ae}{b}(h:w.heap[b]? =Y (.cells cs t (0,0)))(o):w.frozen? ⟨b,o,U⟩=false:=by simp[World.frozen?,h]
theorem eX{w b fr}(h:w.heap[b]? =Y (.cells cs t fr))(o u):(aZ w ⟨b,o,U⟩ u).heap[b]? =Y (.cells (cs.setIfInBounds o u) t fr):=by simp[World.setCell,Array.getElem?_modify,h]
def bF{w b o}(h:w.heap[b]? =Y o):b<M (R w):=Zv
def cc{w b fr v}(h:w.heap[b]? =Y (.cells cs t fr))(o)(e:cs[o]? =Y v:=by simp only[acI,Rf,Q9];exact J):au w ⟨b,o,U⟩=Y v:=(aJ h o).t e
def eH{S w}:Fr S w w:=Fr.refl S w
end
structure dF where
 k:Int
 p:Int
 t:Int
 s:ByteArray
def dF.cs(e:dF):List Value:=[e.k,e.p,e.t,e.s]
def jL(l:List dF):List Value:=l.flatMap dF.cs
structure aN where
 es:List dF
 d:Nat
 nw:Int->Option (Int×Bool)
def lh(H:Int->Option (Int×Bool)):ai->Option ai| .int .i64 p=>(H p).map λx=>jf #[x.1,x.2]|_=>U
def aN.isOpen(s:aN)(p t:Int):Bool:=decide<|s.nw p=(t,A)
structure eY(w:ae)(B lb bm:Nat)(v:ai)(n:Nat)(s:aN):Prop where
 blk:w.heap[lb]? =Y (aC #[v,V Z s.d,.map<|Y bm] 163 (0,0))
 row:bI w B 55 4 v (O s.es) (jL s.es)
 map:lg w aj 3 bm n (lh s.nw)
 hl:B<=lb
 hm:B<=bm
def Gi:Keyed aj 3:=int_keyed underlying3
def agV(w):(zeroValue 189).run aj w=.ok (jf #[V Z 0,ah]) w:=KG
def awO(w):aH aj 71 #[] w λe w'=>e=(ak<|Y ⟨M (R w)+1,0,U⟩)/\ eY w' w (w+1) w (aP U 0 0) 0 ⟨[],0,λ_=>U⟩/\Fr aB w w':=by have TQ:=@run_makeMap aj;go_enter func71,ntmps71;go_wp2;go_ret;refine⟨J,⟨?_,aQS _ _ _ _,?_,YV,YV⟩,(eH.alloc _).alloc _⟩;{have:=heap_alloc_new (w.alloc<|.map #[] 0)<|aC #[aP U 0 0,V Z 0,.map (w)] 163;simpa using this};refine((Fr.refl (λ_=>False) _).alloc _).Gh (lg.congr (lg.made w aj 3) ?_) λh=>h;intro H kl _;cases H<;>simp[lh];split<;>rfl
def Nh{w B lb bm n v s}(h:eY w B lb bm v n s)(p t)(hp:(Lit.int .i64 p).wf=A):aH aj 122 #[ak lb,p,V Z t] w λe w'=>e=aU (.bool<|s.isOpen p t)/\w'=w:=by (have c2:au w (lb,2)=Y (.map<|Y bm):=by rw[aJ h.blk];rfl);have yM:=h.map.look Gi underlying161 (agV w)<|aRx underlying3 hp;rcases hx:s.nw p with _|⟨t',o⟩;{rw[show lh s.nw p=U by simp[lh,hx]]at yM;(have H:s.isOpen p t=false:=by simp[aN.isOpen,hx]);simp only[Option.getD_none]at yM;rw[H];clear h hx H hp;go_enter func122,ntmps122;go_wp2;go_ret;exact⟨J,J⟩};rw[show lh s.nw p=Y (jf #[t',o])by simp[lh,hx]]at yM;simp only[iT]at yM;by_cases e:t'=t;{subst e;(have H:s.isOpen p t'=o:=by simp only[aN.isOpen,hx];cases o<;>simp);rw[H];clear h hx H hp;cases o;all_goals go_enter func122,ntmps122;go_wp2;go_ret;exact⟨J,J⟩};(have H:s.isOpen p t=false:=by simp only[aN.isOpen,hx];cases o<;>simp[e]);(have hb:(t'==t)=false:=by simp[e]);rw[H];clear h hx H hp;go_enter func122,ntmps122;go_wp2;go_ret;exact⟨J,J⟩
section
def aN.vV(s:aN)(p t:Int):Bool:=match s.nw p with|none=>A|some (t',o)=>!o&&decide (t'<t)
def aN.set(s:aN)(p t:Int)(o:Bool):aN:={s with nw:=λq=>if q=p then (t,o)else s.nw q}
def aN.opened(s:aN)(p t:Int):aN:=if s.vV p t then s.set p t A else s
def UX(H:Int->Option (Int×Bool))(p t o):lh (λq=>if q=p then (t,o)else H q) p=jf #[V Z t,.bool o]:=by simp[lh]
def UY(H p t o x)(hx:x≠.int .i64 p):lh (λq=>if q=p then Y (t,o)else H q) x=lh H x:=by unfold lh;grind
variable{S w w2 B lb bm n v s}
def Fr.rZ{a b}(h:Fr S a w)(H:w.mapTurned w2 b)(hb:S b\/a.heap.size<=b):Fr S a w2:=h.grown H.grown Zv
theorem eY.lt(h:eY w B lb bm v n s):lb<w:=bF h.blk
theorem eY.ne(h:eY w B lb bm v n s):lb≠bm:=by have⟨D,⟨es,H,hb,_⟩,_⟩:=h.map;grind[cases eY]
theorem eY.EK(h:eY w B lb bm v n s):dw v≠lb:=by intro e;rcases h.row.2 with⟨rfl,_⟩|⟨g,cap,H,rfl,_,hg,_⟩;{simp[Value.ownBlock]at e};simp[Value.ownBlock]at e;grind[cases eY]
theorem eY.agW(h:eY w B lb bm v n s):dw v≠bm:=by intro e;have⟨D,⟨es,H,hb,_⟩,_⟩:=h.map;rcases h.row.2 with⟨rfl,_⟩|⟨g,cap,cur,rfl,_,hg,_⟩;{simp[Value.ownBlock]at e};simp[Value.ownBlock]at e;grind
theorem Fr.logAt(f:Fr S w w2)(h:eY w B lb bm v n s)(H:¬S lb)(h2:¬S bm)(h3:∀k,dw v=Y k->¬S k):eY w2 B lb bm v n s:=⟨(f.block lb h.lt H).t h.blk,f.ownsRow h.row h3,f.Gh h.map h2,h.hl,h.hm⟩
theorem eY.z(h:eY w B lb bm v n s){m}(H:n<=m):eY w B lb bm v m s:=
 {h with map:=h.map.z H}
def eY.UZ{p t o}(h:eY w B lb bm v n s)(f:Fr (λk=>k=bm) w w2)(H:lg w2 aj 3 bm (n+1) (lh (s.set p t o).nw)):eY w2 B lb bm v (n+1) (s.set p t o):=⟨(f.block lb h.lt h.ne).t h.blk,f.ownsRow h.row<|by grind[eY.agW],H,h.hl,h.hm⟩
theorem aQ(o):Fr aB w (bH w o):=eH.alloc _
def awP(h:eY w B lb bm v n s)(p t)(hp:(Lit.int .i64 p).wf=A)(hn:n<cZ):aH aj 126 #[ak lb,p,V Z t] w λe w'=>e=aU (.bool<|s.vV p t)/\eY w' B lb bm v (n+1) (s.opened p t)/\Fr (λk=>k=bm) w w':=by have c2:=cc h.blk 2;have uw:=aRx underlying3 hp;have yM:=h.map.look_ok Gi underlying161 (agV w) uw;have aO:=h.lt;have c3:=aR5 w (lb,2) c2;have H:=aQe h;have HN:=aQe hn;have HK:=aQe uw;rcases hx:s.nw p with _|⟨t',o⟩;{rw[show lh s.nw p=U by simp[lh,hx]]at yM;simp only[Option.getD_none,Option.isSome_none]at yM;(have hc:s.vV p t=true:=by simp[aN.vV,hx]);rw[show s.opened p t=s.set p t A by simp[aN.opened,hc],hc];clear h hx hc hp hn uw;go_enter func126,ntmps126;go_wp2_with (at_mapUpdate;refine YR _ J _ _ _ 161 J 3 189 Gi Y0 bm n (lh s.nw) J ((aQ _).Gh H.map id) HN _ _ _ J J HK (lh (s.set p t A).nw) (UX _ _ _ _) (UY _ _ _ _) ?_;intro w1 xG ht1);go_ret;have hf:Fr (λk=>k=bm) w w1:=(eH.alloc _).rZ ht1<|.inl J;exact⟨J,H.UZ hf xG,hf⟩};rw[show lh s.nw p=Y (jf #[t',o])by simp[lh,hx]]at yM;simp only[iT,Option.isSome_some]at yM;cases o;{by_cases jD:t'<t;{(have hc:s.vV p t=true:=by simp[aN.vV,hx,jD]);rw[show s.opened p t=s.set p t A by simp[aN.opened,hc],hc];(have LY:¬(t<=t'):=YV);clear h hx hc hp hn uw;go_enter func126,ntmps126;go_wp2_with (at_mapUpdate;refine YR _ J _ _ _ 161 J 3 189 Gi Y0 bm n (lh s.nw) J ((aQ _).Gh H.map id) HN _ _ _ J J HK (lh (s.set p t A).nw) (UX _ _ _ _) (UY _ _ _ _) ?_;intro w1 xG ht1);go_ret;have hf:Fr (λk=>k=bm) w w1:=(eH.alloc _).rZ ht1<|.inl J;exact⟨J,H.UZ hf xG,hf⟩};(have hc:s.vV p t=false:=by simp[aN.vV,hx,jD]);rw[show s.opened p t=s by simp[aN.opened,hc],hc];(have LY:t<=t':=YV);clear h hx hc hp hn uw jD;go_enter func126,ntmps126;go_wp2;go_ret;exact⟨J,(by grind[Fr.logAt,aQ,eY.z,Hid]),eH.alloc _⟩};(have hc:s.vV p t=false:=by simp[aN.vV,hx]);rw[show s.opened p t=s by simp[aN.opened,hc],hc];clear h hx hc hp hn uw;go_enter func126,ntmps126;go_wp2;go_ret;exact⟨J,(by grind[Fr.logAt,aQ,eY.z,Hid]),eH.alloc _⟩
end
section
attribute [local go_sem ↓] Go.wp_at_zero Go.wp_at_succ
def YS:(prog.info? 55).map (λi=>(i.zero,i.size,i.bytes))=(Y<|jf #[V Z 0,V Z 0,V Z 0,dN ⟨#[]⟩],4,40):=KG
def aN.put(s:aN)(x:dF):aN:={s with es:=s.es++[x]}
def amX(w o H):((bH w o).alloc H).drew.heap[M (R w)+1]? =H:=by have:=heap_alloc_new (bH w o) H;rw[show(bH w o).heap.size=w+1 by simp]at this;exact this
variable{w B lb bm n v s}
def Ae{a}(h:a.block<M (R w))(o):(bH w o).frozen? a=w.frozen? a:=World.frozen?_of_block (w:=w)<|Below.heap_alloc w o a.block h
theorem adh(l x):jL (l++[x])=jL l++x.cs:=by simp[jL]
def eY.U0{W w1 v' x}(h:eY w B lb bm v n s)(hW:Fr aB w W)(hg:W.grownBy w1 v.ownBlock) (fK:bI w1 B 55 4 v' (s.es+1) (jL s.es++x.cs))(dR:∀k,dw v'=Y k->dw v=k\/w<=k):eY (aZ w1 lb v') B lb bm v' n (s.put x)/\Fr (λk=>k=lb\/dw v=k) w (aZ w1 lb v'):=by have f1:Fr (λk=>dw v=k) w w1:=(hW.z dA).grown hg λk e=>e;have f2:Fr (λk=>k=lb\/dw v=k) w (aZ w1 lb v'):=(f1.z λk h=>h).setCell (.inl<|.inl J) _;have b1:w1.heap[lb]? =aC #[v,s.d,.map bm] 163 (0,0):=(f1.block lb h.lt h.EK).t h.blk;refine⟨⟨?_,?_,?_,h.hl,h.hm⟩,f2⟩;{rw[eX b1];rfl};{have hr:Fr (λk=>k=lb) w1 (aZ w1 lb v'):=(Fr.refl (λk=>k=lb) w1).setCell (p:=lb) (.inl J) _;have:=hr.ownsRow fK (λk hk e=>by subst e;rcases dR _ hk with H|H;{exact h.EK H};have:=h.lt;omega);simpa[aN.put,adh]using this};exact f2.Gh h.map (λe=>by rcases e with e|e;{exact h.ne e.s};exact h.agW e)
def agX(h:eY w B lb bm v n s)(x)(hb:(O s.es+1)*40<=2^47):aH aj 184 #[ak lb,jf #[x.k,x.p,x.t,x.s]] w λe w'=>e=dZ #[]/\ ∃v',eY w' B lb bm v' n (s.put x)/\Fr (λk=>k=lb\/dw v=k) w w'/\(∀k,dw v'=Y k->dw v=k\/w<=k):=by have⟨xk,xp,xt,xs⟩:=x;have⟨i0,dL,fM,ed,fV⟩:=aQX YS;(have c0:au w lb=Y v:=by rw[aJ h.blk];rfl);have f0:w.frozen? lb=false:=gJ h.blk 0;have aO:=h.lt;have qP:=h.EK;have nb:=aR5 w lb c0;have f1:∀o,(bH w o).frozen? lb=false:=λo=>(Ae aO o).t f0;have f2:∀o o',((bH w o).alloc o').frozen? lb=false:=λo o'=>(Ae Xz o').t<|f1 o;have H:=aQe h;have HB:=aQe hb;clear h hb;go_enter func184,ntmps184;go_wp2_with fail;go_region_law ((apply aRd _ aQr _ _ _ aQr B 55 i0 _ 4 40 underlying49 dL fM ed fV J YV v (O s.es) (jL s.es) aQr (((H.row.alloc _).alloc _).drew) ⟨M (R w)+1,0,U⟩ 1 1 [xk,xp,xt,xs] aQr aQr (World.news_of_block (cs:=#[xk,xp,xt,xs]) (t:=55) (fr:=(0,0))<|amX _ _ _) Y7 YV (by have:=HB.o;exact aQp) HB (by have:=H.hl;simp<;>omega) (w+2) Xy;intro gg cap w1 afl oz dR aO;have k0:=(oz.cell_far lb Xz<|Ne.s qP);have k1:=(oz.frozen_far lb Xz<|Ne.s qP);simp only[World.cell?_drew,World.frozen?_drew,f2]at k0 k1));all_goals go_end0;have⟨r1,r2⟩:=H.U0 (x:=⟨xk,xp,xt,xs⟩) (((aQ _).alloc _).drew) oz afl (λk hk=>by simp only[Value.ownBlock,iR]at hk;subst hk;rcases dR with h1|h1;{exact .inl h1};{exact .inr YV});refine⟨J,_,r1,r2,λk hk=>?_⟩;simp only[Value.ownBlock,iR]at hk;subst hk;rcases dR with h1|h1;{exact .inl h1};{exact .inr YV}
end
def aN.vW(s:aN)(p t:Int)(x:ByteArray):Int:=if s.isOpen p t=ah then 11 else if 8<x.size then 4 else if 200<=s.d then 12 else 0
def aN.pW(s:aN)(p t:Int)(x:ByteArray):aN:=
 if s.vW p t x=0 then{(s.put ⟨1,p,t,x⟩)with d:=s.d+1}else s
def aN.zD(c:Bool):Int:=if c then 2 else 3
def aN.closed(s:aN)(p t:Int)(c:Bool):aN:=if s.isOpen p t then(s.put ⟨aN.zD c,p,t,⟨#[]⟩⟩).set p t ah else s
def eY.awQ{w}{B H bm n d:Nat}{v s}(h:eY w B H bm v n s):
 eY (aZ w (H,1) d) B H bm v n {s with d:=d}/\Fr (λk=>k=H) w (aZ w (H,1) d):=by
 have hr:Fr (λk=>k=H) w (aZ w (H,1) d):=(Fr.refl (λk=>k=H) w).setCell (p:=(H,1)) (.inl J) _;refine⟨⟨?_,hr.ownsRow h.row (λk hk e=>h.EK<|by rw[hk,e]),hr.Gh h.map λe=>h.ne e.s,h.hl,h.hm⟩,hr⟩;rw[eX h.blk];rfl
structure Left(w w':ae)(B lb bm:Nat)(v v':ai)(n:Nat)(s':aN):Prop where
 log:eY w' B lb bm v' n s'
 fr:Fr (λk=>k=lb\/k=bm\/dw v=Y k) w w'
 mY:∀k,dw v'=Y k->dw v=Y k\/M (R w)<=k
def awR{w B lb bm n v s}(h:eY w B lb bm v n s)(p t x)(hp:(Lit.int .i64 p).wf=A)(hx:x.size<=cZ)(hb:(O s.es+1)*40<=2^47):
 aH aj 136 #[ak lb,p,V Z t,.string x] w λe w'=>e=aU (.int .i64<|s.vW p t x)/\
  ∃v',Left w w' B lb bm v v' n (s.pW p t x):=by
 unfold cZ at hx
 have c1:w (lb,1)=(s.d):=by rw[aJ h.blk];rfl
 have H:=aQe h
 have HP:=aQe hp
 have HB:=aQe hb
 clear h hp hb
 by_cases ho:s.isOpen p t=A
 ·by_cases h8:8<x.size
  ·have hc:s.vW p t x=4:=by simp[aN.vW,ho,h8]
   have hs:s.pW p t x=s:=by simp[aN.pW,hc]
   rw[hc,hs]
   clear hc hs
   go_enter func136,ntmps136
   go_wp2_with (go_at_call 122;apply(Nh H _ _ HP).z;rintro e w' ⟨rfl,rfl⟩)
   go_ret
   exact⟨J,v,H,Fr.refl _ _,λk hk=>hk⟩
  ·by_cases hd:200<=s.d
   ·have hc:s.vW p t x=12:=by simp[aN.vW,ho,h8,hd]
    have hs:s.pW p t x=s:=by simp[aN.pW,hc]
    rw[hc,hs]
    clear hc hs
    go_enter func136,ntmps136
    go_wp2_with (go_at_call 122;apply(Nh H _ _ HP).z;rintro e w' ⟨rfl,rfl⟩)
    go_ret
    exact⟨J,v,H,Fr.refl _ _,λk hk=>hk⟩
   ·have hc:s.vW p t x=0:=by simp[aN.vW,ho,h8,hd]
    have hs:s.pW p t x={(s.put ⟨1,p,t,x⟩)with d:=s.d+1}:=by simp[aN.pW,hc]
    rw[hc,hs]
    clear hc hs
    go_enter func136,ntmps136
    go_wp2_with (first
     |(go_at_call 122;apply(Nh H _ _ HP).z;rintro e w' ⟨rfl,rfl⟩)
     |(go_at_call 184;apply(agX H ⟨1,p,t,x⟩ HB).z;rintro e w1 ⟨rfl,v',nX,aI,bV⟩
       have k1:w1 (lb,1)=(s.d):=by rw[aJ nX.blk];rfl
       have k2:w1.frozen? (lb,1)=false:=gJ nX.blk 1))
    go_ret
    have⟨r1,r2⟩:=nX.awQ (d:=s.d+1)
    refine⟨J,v',r1,?_,bV⟩
    exact(aI.z λk hk=>.inl (by rcases hk with e|e;exact .inl e;exact .inr<|.inr e)).t r2 λk hk=>hk
 ·have hc:s.vW p t x=11:=by simp[aN.vW,ho]
  have hs:s.pW p t x=s:=by simp[aN.pW,hc]
  rw[hc,hs]
  have Az:s.isOpen p t=false:=by simpa using ho
  clear hc hs ho
  go_enter func136,ntmps136
  go_wp2_with (go_at_call 122;apply(Nh H _ _ HP).z;rintro e w' ⟨rfl,rfl⟩)
  go_ret
  exact⟨J,v,H,Fr.refl _ _,λk hk=>hk⟩
section
def awS(l):(jL l).length=4*l:=by induction l with|nil=>rfl|cons x r H=>simp only[jL,Ad,kZ]at H⊢;rw[H];simp[dF.cs]<;>omega
def agY:∀(l:List dF) (k:Nat) (e:dF) (j:Nat),l[k]? =Y e->j<4->(jL l)[k*4+j]? =e.cs[j]?|[],k,e,j,h,_=>aQB|x::r,0,e,j,h,hj=>(by simp at h;subst h;simp only[jL,Ad];rw[Q8 (by simp[dF.cs]<;>omega)];simp)|x::r,k+1,e,j,h,hj=>by have:=agY r k e j h hj;simp only[jL,Ad]at this⊢;rw[OJ (by simp[dF.cs]<;>omega),<-this];congr 1;simp[dF.cs]<;>omega
variable{w:ae}{B n:Nat}{es:List dF}{v:ai}
def adi{g cap}(h:bI w B 55 4 (aP (Y ⟨g,0,U⟩) n cap) (O es) (jL es)){k e}(hk:es[k]? =Y e):w.cell? (g,k*4)=e.k/\w (g,k*4+1)=e.p/\w (g,k*4+2)=e.t/\w (g,k*4+3)=e.s:=by have hc:=h.cells J;(have H:∀j u,j<4->e.cs[j]? =Y u->w (g,k*4+j)=Y u:=λj u hj hu=>by have:=hc _ u<|(agY es k e j hk hj).t hu;grind[Addr.add_lit]);exact⟨H 0 _ YV J,H 1 _ YV J,H 2 _ YV J,H 3 _ YV J⟩
def YT(h:bI w B 55 4 v es (jL es)):(v=aP U 0 0/\es=[])\/∃g cap,v=aP (Y ⟨g,0,U⟩) es cap/\es<=cap/\cap<=cZ/\B<=g/\g<w:=by rcases h.2 with⟨hv,h0⟩|⟨g,cap,H,hv,hb,hg,h1,h2,_⟩;{grind};grind
def aN.blocked(s:aN)(e:dF):Bool:=decide (e.k=1)&&s.isOpen e.p e.t
def aN.oL(s:aN):Nat:=s.es.findIdx s.blocked
def aN.Wf(s:aN):Prop:=∀e∈s.es,(Lit.int .i64 e.p).wf=A/\(Lit.int .i64 e.t).wf=A
def agZ{α:Type}(p:α->Bool):∀(l:List α) (k:Nat) (e:α),(∀j x,j<k->l[j]? =Y x->p x=ah)->l[k]? =Y e->p e=A->l.findIdx p=k|[],k,e,_,h,_=>aQB|x::r,0,e,_,h,hp=>Zv|x::r,k+1,e,ha,h,hp=>by have h0:=ha 0 x YV Xy;have:=agZ p r k e Zv Zv hp;grind
def amY{α:Type}(p)(l:List α)(ha:∀(j:Nat) x,l[j]? =Y x->p x=ah):l.findIdx p=l:=by apply List.findIdx_eq_length.2;intro x hx;obtain⟨j,hj,rfl⟩:=UA hx;exact ha j _ Zv
def amZ{lb bm s}(h:eY w B lb bm v n s)(zh:s.Wf):aH aj 59 #[ak lb] w λe w'=>e=s.oL/\Fr aB w w':=by have c0:=cc h.blk 0;have aO:=h.lt;rcases YT h.row with⟨rfl,he⟩|⟨g,cap,rfl,Ej,oV,G6,hg⟩;{(have hs:s.oL=0:=by simp[aN.oL,he]);rw[hs];clear h zh hs he;go_enter func59,ntmps59;go_wp2_with fail;go_loopw [10] (λi w'=>i=.int .i64 0/\w'=w) (λ_ _=>0);(case atStart=>grind);case round=>obtain⟨rfl,rfl⟩:=hrel;go_wp2;go_ret;exact⟨J,Fr.refl _ _⟩};{unfold cZ at oV;have H:=aQe h;have HW:=aQe zh;clear h zh;go_enter func59,ntmps59;go_wp2_with fail;go_loopw [10] (λi w'=>∃k,k<=O s.es/\i=k/\Fr aB w w'/\∀j x,j<k->s.es[j]? =Y x->s.blocked x=ah) (λi _=>O s.es-(bM i).toNat);(case atStart=>exact⟨0,jQ _,J,Fr.refl _ _,YV⟩);case round=>obtain⟨k,hk,rfl,bT,lT⟩:=hrel;(have HL:=aQe<|bT.logAt H id id Zv);have k0:=cc HL.blk 0;have gV:=bT.size;have HF:=aQe bT;have HA:=aQe lT;clear bT lT;by_cases jD:k<O s.es;{have⟨e,he⟩:∃e,s.es[k]? =Y e:=Y0;have⟨r0,r1,r2,r3⟩:=adi HL.row he;have J3:=aQe<|(HW e Zv).1;have HE:=aQe he;have Ef:∀o,(bH wr o).heap.size=wr+1:=Y0;clear he;by_cases h1:e.k=1;{by_cases ho:s.isOpen e.p e.t=A;{have HS:I (s.oL=k):=agZ _ _ k e HA HE (by simp[aN.blocked,h1,ho]);go_wp2_with (go_at_call 122;refine(Nh (by exact(aQ _).logAt HL id id<|by grind) _ _ J3).z ?_;rintro e w' ⟨rfl,rfl⟩);go_ret;exact⟨by rw[HS]<;>rfl,HF.alloc _⟩};{(have hb:s.blocked e=false:=by simp[aN.blocked,ho]);(have Az:s.isOpen e.p e.t=false:=by grind);(have Em:I (∀j x,j<k+1->s.es[j]? =Y x->s.blocked x=ah):=λj x hj hx=>by grind[Hid.o]);clear hb ho;go_wp2_with (go_at_call 122;refine(Nh (by exact(aQ _).logAt HL id id<|by grind) _ _ J3).z ?_;rintro e w' ⟨rfl,rfl⟩);go_roundw;(case rel=>exact⟨k+1,by omega,by go_num,HF.alloc _,Em⟩);case measure=>simp[bM]<;>omega}};{(have hb:s.blocked e=false:=by simp[aN.blocked,h1]);(have BK:(e.k==1)=false:=by grind);(have Em:I (∀j x,j<k+1->s.es[j]? =Y x->s.blocked x=ah):=λj x hj hx=>by grind[Hid.o]);clear hb;go_wp2;go_roundw;(case rel=>exact⟨k+1,by omega,by go_num,HF.alloc _,Em⟩);case measure=>simp[bM]<;>omega}};have HS:I (s.oL=O s.es):=amY _ _ (by grind[Hid.o]);go_wp2;go_ret;exact⟨by rw[HS]<;>rfl,HF⟩}
end
section
def awT(l):∀u∈jL l,u.oneCell'=true:=by intro u H;simp only[jL,List.mem_flatMap]at H;have⟨e,_,he⟩:=H;simp only[dF.cs,zA,Dy,DC]at he;rcases he with rfl|rfl|rfl|rfl<;>rfl
variable{w B v}
def awU{es}(h:bI w B 55 4 v (O es) (jL es))(hb:O es*40<=2^47):aH aj 110 #[v] w λe w'=>∃v',e=aU v'/\bI w' w 55 4 v' es (jL es)/\Fr aB w w':=by have⟨i0,dL,fM,ed,fV⟩:=aQX YS;have atO:∀wx a n c,(binOp .eql 49 (.slice a n c)<|aP U 0 0).run aj wx=.ok a.isNone wx:=(by grind[Lib.run_eql_slice_nil,underlying49]);rcases YT h with⟨rfl,he⟩|⟨g,cap,rfl,Ej,oV,G6,hg⟩;{subst he;clear h hb;go_enter func110,ntmps110;go_wp2;go_ret;exact⟨_,J,aQS _ _ _ _,Fr.refl _ _⟩};have H:=aQe h;have HB:=aQe hb;have HM:I (es<=cZ):=Zv;clear h hb oV;go_enter func110,ntmps110;go_wp2_with (at_builtin;apply wpList_append_own_at _ J _ _ 49 J w 55 i0 _ 4 40 Y0 dL fM ed fV J Xa _ 0 [] J (World.ownsRow_made w _ 0 YV YV J) _ _ _ _ J (by rw[awS,Nat.mul_comm]) ((H.alloc _).cells J) (awT es) (by simpa using HM.o) (by simpa using HB.o) Xy;intro v' w1 afl aJQ aNO aL6);go_ret;simp at afl;exact⟨_,J,afl,(aQ _).grown aJQ (λk e=>by cases e;grind)⟩
def am0{lb bm n s}(h:eY w B lb bm v n s)(hb:O s.es*40<=2^47):aH aj 51 #[ak lb] w λe w'=>∃v',e=aU v'/\bI w' w 55 4 v' s.es (jL s.es)/\Fr aB w w':=by have c0:=cc h.blk 0;have H:=aQe h;have HB:=aQe hb;go_enter func51,ntmps51;go_wp2_with (apply(awU H.row HB).z;rintro e w1 ⟨v',rfl,IV,aI⟩);go_ret;simp_all
end
def vX(es:List dF)(p t:Int):Option Int:=es.foldl (λo e=>if e.k≠1/\e.p=p/\e.t=t then e.k else o) U
def YU(es x p t):vX (es++[x]) p t=if x.k≠1/\x.p=p/\x.t=t then x.k else vX es p t:=by simp[vX,UC]
def yT(es:List dF):ai->Option ai| .agg cs=>(match cs.toList with|[.int .i64 p,.int .i64 t]=>(vX es p t).map<|Value.int .i64|_=>U)|_=>U
def am1(es p t):yT es (jf #[V Z p,V Z t])=(vX es p t).map (Value.int .i64):=rfl
def awV(es x)(h:x.k=1):yT (es++[x])=yT es:=by funext v;unfold yT;split;{split;{rw[YU,if_neg<|by simp[h]]};rfl};rfl
def awW(es x)(h:x.k≠1):yT (es++[x]) (jf #[x.p,x.t])=x.k:=by rw[am1,YU,if_pos ⟨h,rfl,rfl⟩];rfl
def awX(es x v)(hv:v≠jf #[x.p,x.t]):yT (es++[x]) v=yT es v:=by unfold yT;split;{split;{rename_i cs _ p t H;rw[YU,if_neg];rintro⟨_,rfl,rfl⟩;exact hv<|by rw[show cs=#[V Z x.p,x.t]from by rw[<-Array.toList_inj,H]]};rfl};rfl
theorem laidOut:laidOutB aj=true:=KG
def awY:(231:dB)<prog.types.size:=Yy KG
def awZ:prog.types.size=282:=KG
def ag0:prog.cellsOf 3=1:=KG
def am2:prog.cellsOf 231=2:=KG
def aw0:(match prog.underlying 231 with|some (.array _ _)|some (.struct _)=>A|_=>ah)=true:=by rw[underlying231]
def aw1:prog.keyTypeAt 3 231=true:=KG
def am3:Keyed aj 231:=Keyed.of_law<|deep_law_laid (P:=aj) laidOut (m:=3) Xa (k:=231) awY aw1 aw0
def aw2(w):(zeroValue 3).run aj w=.ok (.int .i64 0) w:=KG
def aw3:prog.keyType 231=true:=KG
def aw4(d){p t}(H:(Lit.int .i64 p).wf=A)(ht:(Lit.int .i64 t).wf=A):prog.keyLits (d+2) 231 [p,t]=Y [.int .i64 p,.int .i64 t]:=by simp[Program.keyLits,underlying231,ag0,am2,underlying3,H,ht]
def am4{p t}(H:(Lit.int .i64 p).wf=A)(ht:(Lit.int .i64 t).wf=A):∃kl,keyOf aj 231 (jf #[p,t])=Y kl:=by (have hf:(Value.agg #[p,t]).formed aj 231=true:=by simp[Value.formed,underlying231,am2]);have hl:=aw4 281 H ht;unfold keyOf;rw[underlying231,aw3,hf,awZ];exact⟨_,by simp only[Bool.and_self,if_true];rw[show(Value.agg #[p,t]).cells.toList=[.int .i64 p,.int .i64 t]from rfl,hl];rfl⟩
def aw5{w B lb bm n v s}(h:eY w B lb bm v n s)(zh:s.Wf):aH aj 174 #[ak lb] w λe w'=>e=aU (.map (w))/\lg w' aj 231 w s.es (yT s.es)/\Fr aB w w':=by (have c0:au w lb=Y v:=by rw[aJ h.blk];rfl);have aO:=h.lt;have TQ:=@run_makeMap aj;have nb:=aR5 w lb c0;have HM0:I (lg (w.alloc<|.map #[] 0) aj 231 w 0<|yT []):=(lg.made w aj 231).congr (λkey kl _=>by unfold yT;split;{split<;>rfl};rfl);rcases YT h.row with⟨rfl,he⟩|⟨g,cap,rfl,Ej,oV,G6,hg⟩;{rw[he];clear h zh he;go_enter func174,ntmps174;go_wp2_with fail;go_loopw [12] (λi w'=>i=.int .i64 0/\w'=bH w (.map #[] 0)) (λ_ _=>0);(case atStart=>exact⟨J,J⟩);case round=>obtain⟨rfl,rfl⟩:=hrel;go_wp2;go_ret;exact⟨J,HM0,aQ _⟩};{have HC:=aQe oV;unfold cZ at oV;have H:=aQe h;have HW:=aQe zh;clear h zh;go_enter func174,ntmps174;go_wp2_with fail;go_loopw [12] (λi w'=>∃k,k<=O s.es/\i=k/\Fr aB w w'/\lg w' aj 231 w k (yT<|s.es.take k)) (λi _=>O s.es-(bM i).toNat);(case atStart=>exact⟨0,jQ _,J,aQ _,by simpa using HM0.o⟩);case round=>obtain⟨k,hk,rfl,bT,abR⟩:=hrel;have HL:=aQe<|bT.logAt H id id λ_ _=>id;(have k0:au wr lb=Y (aP g (O s.es) cap):=by rw[aJ HL.blk];rfl);have gV:=bT.size;have HF:=aQe bT;have HM:=aQe abR;clear bT abR;by_cases jD:k<O s.es;{have⟨e,he⟩:∃e,s.es[k]? =Y e:=⟨_,gG jD⟩;have⟨r0,r1,r2,r3⟩:=adi HL.row he;(have HT:I (s.es.take (k+1)=s.es.take k++[e]):=by show s.es.take (k+1)=s.es.take k++[e];rw[uz,he];rfl);have⟨kl,qJ⟩:=am4 (HW e<|iO he).1 (HW e<|iO he).2;have HK:=aQe qJ;clear he qJ;by_cases h1:e.k=1;{(have HM2:I (lg wr aj 231 w (k+1)<|yT<|s.es.take<|k+1):=by show lg wr aj 231 w (k+1) (yT<|s.es.take<|k+1);rw[HT,awV _ _ h1];exact HM.z YV);go_wp2;go_roundw;(case rel=>exact⟨k+1,YV,Y4,HF.alloc _,(aQ _).Gh HM2 id⟩);case measure=>simp[bM]<;>omega};{(have BK:(e.k==1)=false:=by simpa using h1);have HN:=aQe<|gZ jD<|dX Ej HC;go_wp2_with (at_mapUpdate;refine YR _ J _ _ _ 228 J 231 3 am3 underlying228 w k (yT<|s.es.take k) J ((aQ _).Gh HM id) HN _ _ kl J J HK (yT<|s.es.take k++[e]) (awW _ _ h1) (awX _ _) ?_;intro w2 Eh QH);go_roundw;(case rel=>exact⟨k+1,by omega,by go_num,(HF.alloc _).rZ QH<|.inr<|fC _,by rw[HT];exact Eh⟩);case measure=>simp[bM]<;>omega}};have HT:I (s.es.take k=s.es):=xN (by omega);(have HK:I (k=O s.es):=by show k=O s.es;omega);go_wp2;go_ret;exact⟨J,by have:=HM;rw[HT,HK]at this;exact this,HF⟩}
section
structure Rec where
 o:Int
 p:Int
 s:ByteArray
def Rec.cs(e:Rec):List Value:=[e.o,e.p,e.s]
def tq(l:List Rec):List Value:=l.flatMap Rec.cs
def am6(l x):tq (l++[x])=tq l++x.cs:=by simp[tq]
def ag1:(prog.info? 94).map (λi=>(i.zero,i.size,i.bytes))=(Y<|jf #[V Z 0,V Z 0,.string ⟨#[]⟩],3,32):=KG
def aN.Jj(s:aN)(e:dF):Bool:=decide (e.k=1)&&decide (vX s.es e.p e.t=Y 2)
def aN.pick(s:aN)(i:Nat):List Rec:=match s.es[i]? with|some e=>if s.Jj e then[⟨i,e.p,e.s⟩]else[]|none=>[]
def aN.di(s:aN)(a b:Nat):List Rec:=(List.range' a<|b-a).flatMap s.pick
def aN.am7(s:aN)(a):s.di a a=[]:=by simp[aN.di]
variable{a k n B:Nat}{w:ae}{e:dF}{v:ai}{rs:List Rec}{s:aN}
theorem aN.U3(s:aN)(h:a<=k):s.di a (k+1)=s.di a k++s.pick k:=by unfold aN.di;rw[show k+1-a=(k-a)+1 by omega,List.range'_concat,ED];grind
def aN.am8(s:aN)(a:Nat):∀k,a<=k->(s.di a k).length<=k-a|0,h=>(by simp[aN.di])|k+1,h=>by by_cases e:a=k+1;{subst e;simp[aN.di]};rw[s.U3 YV,kZ];have:=aN.am8 s a k YV;(have h2:(s.pick k).length<=1:=by unfold aN.pick;grind);omega
def aN.start(f:Int):Nat:=(max f 0).toNat
def aN.vY(s:aN)(f m:Int):List Rec:=(s.di (aN.start f) s.oL).take m.toNat
theorem lg.EK{P k b f}(h:lg w P k b n f){e size m xs}(ho:bI w B e size v m xs):dw v≠b:=by intro ev;have⟨D,⟨es,H,hb,_⟩,_⟩:=h;rcases ho.2 with⟨rfl,_⟩|⟨g,cap,cur,rfl,_,hg,_⟩;{simp[Value.ownBlock]at ev};simp[Value.ownBlock]at ev;grind
theorem am9(h:bI w B 94 3 v rs (tq rs)):(v=aP U 0 0/\rs=[])\/∃g cap,v=aP (Y ⟨g,0,U⟩) rs cap/\rs<=cap/\cap<=cZ/\B<=g/\g<w:=by rcases h.2 with⟨hv,h0⟩|⟨g,cap,H,hv,hb,hg,h1,h2,_⟩;{grind};grind
def ana(h:bI w B 94 3 v rs (tq rs)):∃a cap,v=.slice a rs cap:=by grind[am9]
def aN.anb(s:aN):s.oL<=s.es:=List.findIdx_le_length
def aN.anc(s:aN)(h:a<=k):∀d,∃t,s.di a (k+d)=s.di a k++t|0=>Y0|d+1=>by have⟨t,ht⟩:=aN.anc s h d;grind[aN.U3]
def aN.ane(s:aN){f m}(h1:aN.start f<=k)(H:k<=aN.start f\/k<=s.oL)(h3:((s.di (aN.start f) k).length:Int)<=max m 0)(h4:s.oL<=k\/m<=(s.di (aN.start f) k).length):s.vY f m=s.di (aN.start f) k:=by unfold aN.vY;generalize aN.start f=a at*;(have aw7:s.oL<=k->s.di a s.oL=s.di a k:=by intro h;rcases H with H|H;{(have:k=a:=YV);subst this;simp only[aN.di];grind};grind);by_cases hk:s.oL<=k;{grind[List.take_of_length_le]};have⟨t,ht⟩:=s.anc h1<|s.oL-k;grind[List.take_left]
theorem aN.aw8(he:s.es[k]? =e)(H:e.k=1)(h2:(vX s.es e.p e.t).getD 0=2):s.pick k=[⟨k,e.p,e.s⟩]:=by (have:vX s.es e.p e.t=Y 2:=by cases hq:vX _ _ _ with|none=>grind|some q=>grind);simp[aN.pick,he,aN.Jj,H,this]
theorem aN.anf(H:s.es[k]? =e)(h2:e.k≠1\/(vX s.es e.p e.t).getD 0≠2):s.pick k=[]:=by (have:s.Jj e=false:=by simp only[aN.Jj,Bool.and_eq_false_iff,au2];grind);simp[aN.pick,H,this]
theorem ang(w o H):((bH w o).alloc H).heap[M (R w)+1]? =H:=amX w o H
def aw9(s:aN)(w:ae)(f m:Int)(r i:ai)(w':ae):Prop:=∃k,aN.start f<=k/\i=k/\(k<=aN.start f\/k<=s.oL)/\Fr aB w w'/\ w'.ownsRow w 94 3 r (s.di (aN.start f) k).length (tq<|s.di (aN.start f) k)/\ lg w' aj 231 w s.es (yT s.es)/\((s.di (aN.start f) k).length:Int)<=max m 0
def axa{lb bm}(h:eY w B lb bm v n s)(zh:s.Wf)(hb:O s.es*40<=2^47)(f m):aH aj 121 #[ak lb,V Z f,V Z m] w λe w'=>∃v',e=aU v'/\bI w' w 94 3 v' (s.vY f m).length (tq<|s.vY f m)/\Fr aB w w':=by have⟨i0,dL,fM,ed,fV⟩:=aQX ag1;have H:=aQe h;have HW:=aQe zh;have HB:=aQe hb;have HS:=aQe s.anb;have hlw:=h.lt;clear h zh hb;go_enter func121,ntmps121;go_wp2_with (first|(go_at_call 174;apply(aw5 H.o HW.o).z;rintro e w1 ⟨rfl,xG,aI⟩;have HM1:=aQe xG;have je:=aQe aI;clear xG aI)|(go_at_call 59;apply(amZ (je.o.logAt H.o id id λ_ _=>id) HW.o).z;rintro e w2 ⟨rfl,bJ⟩;have uT:=aQe bJ;clear bJ));all_goals go_loopw [9,10] (λr i w'=>aw9 s w f m r i w') (λ_ i _=>s.oL-(bM i).toNat);(case atStart=>exact⟨aN.start f,fC _,by simp[aN.start]<;>omega,YV,je.o.t uT.o dA,by rw[s.am7];exact aQS _ _ _ _,uT.o.Gh HM1.o id,by rw[s.am7];simp<;>omega⟩);case round=>obtain⟨k,aX,rfl,jH,bT,fK,abR,hlen⟩:=hrel;obtain⟨ra,anh,rfl⟩:=ana fK;have HO:=aQe fK;have HF:=aQe bT;have HM:=aQe abR;have HL:=aQe<|bT.logAt H.o id id λ_ _=>id;have HN:=aQe hlen;have HG:=aQe<|s.am8 _ _ aX;have gV:=bT.size;have k0:=cc HL.o.blk 0;clear fK bT abR hlen;by_cases eF:k<s.oL;{by_cases Eh:((s.di (aN.start f) k).length:Int)<m;{have Fp:k<O s.es:=gZ eF HS.o;have⟨e,he⟩:∃e,s.es[k]? =Y e:=Y0;rcases YT HL.o.row with⟨_,h0⟩|⟨g,cap,rfl,Ej,oV,G6,hg⟩;{grind};unfold cZ at oV;have⟨r0,r1,r2,r3⟩:=adi HL.o.row he;have⟨kl,qJ⟩:=am4 (HW.o e Zv).1 (HW.o e Zv).2;(have yM:∀o,(Instr.lookup 228 (.map<|Y (w)) (jf #[e.p,e.t]) ah).run aj (bH wr o)=.ok (.int .i64<|(vX s.es e.p e.t).getD 0) (bH wr o):=λo=>by have:=((aQ o).Gh HM.o id).look am3 underlying228 (aw2 _) qJ;rw[am1]at this;simp_all);have HE:=aQe he;clear he qJ;by_cases h1:e.k=1;{by_cases h2:(vX s.es e.p e.t).getD 0=2;{(have HP:I (s.di (aN.start f) (k+1)=s.di (aN.start f) k++[⟨k,e.p,e.s⟩]):=by grind[aN.U3,aN.aw8,Hid.o]);rw[h2]at yM;have HK:=aQe Fp;clear h2;go_wp2_with (at_builtin;apply aQU _ J _ _ 67 J w 94 i0 _ 3 32 underlying67 dL fM ed fV J Xa _ (s.di (aN.start f) k).length (tq<|s.di (aN.start f) k) J ((HO.o.alloc _).alloc _) ⟨M (R wr)+1,0,U⟩ 1 1 [k,e.p,e.s] J J (World.news_of_block (cs:=#[k,e.p,e.s]) (t:=94) (fr:=(0,0))<|ang _ _ _) Y7 Xa (by have:=HG.o;have:=HB.o;have:=HK.o;exact aQp) (by have:=HG.o;have:=HB.o;omega) Xz (wr+2) Xy;intro gg jG w3 jO gW lX mW);go_roundw;(case rel=>have yh:Fr (λx=>Value.ownBlock (.slice ra (s.di (aN.start f) k).length anh)=Y x) wr w3:=((eH.alloc _).alloc _).grown gW λx ex=>.inl ex;refine⟨k+1,YV,Y4,.inr YV,HF.o.t yh λx hx=>.inr (HO.o.lt x hx).1,?_,yh.Gh HM.o<|HM.o.EK HO.o,?_⟩;{rw[HP.o,am6];simpa[Rec.cs]using jO};rw[HP.o];simp<;>omega);case measure=>simp[bM]<;>omega};{(have h2':((vX s.es e.p e.t).getD 0==2)=false:=by simpa using h2);(have HP:I (s.di (aN.start f) (k+1)=s.di (aN.start f) k):=by grind[aN.U3,aN.anf,Hid.o]);clear h2;generalize(vX s.es e.p e.t).getD 0=q at yM h2';go_wp2;go_roundw;(case rel=>exact⟨k+1,YV,Y4,.inr YV,HF.o.alloc _,by rw[HP.o];exact HO.o.alloc _,(aQ _).Gh HM.o id,by rw[HP.o];exact HN.o⟩);case measure=>simp[bM]<;>omega}};{(have BK:(e.k==1)=false:=by simpa using h1);(have HP:I (s.di (aN.start f) (k+1)=s.di (aN.start f) k):=by show s.di (aN.start f) (k+1)=s.di (aN.start f) k;rw[s.U3 aX,aN.anf HE.o<|.inl h1,pV]);clear yM;go_wp2;go_roundw;(case rel=>exact⟨k+1,YV,Y4,.inr YV,HF.o.alloc _,by rw[HP.o];exact HO.o.alloc _,(aQ _).Gh HM.o id,by rw[HP.o];exact HN.o⟩);case measure=>simp[bM]<;>omega}};have HD:=aQe<|s.ane aX jH HN.o (.inr YV);go_wp2;go_ret;exact⟨_,J,by rw[HD.o];exact HO.o,HF.o⟩};have HD:=aQe<|s.ane aX jH HN.o (.inl YV);go_wp2;go_ret;exact⟨_,J,by rw[HD.o];exact HO.o,HF.o⟩
end
section
def aQf(w:ae)(v:ai)(rs:List Rec):Prop:=(v=aP U 0 0/\rs=[])\/∃g cap,v=aP (Y ⟨g,0,U⟩) rs cap/\rs<=cap/\cap<=cZ/\ ∀k r,rs[k]? =Y r->w (g,k*3)=(r.o)/\w (g,k*3+1)=(r.p)/\w (g,k*3+2)=(r.s)
def ani:∀(l:List Rec) (k:Nat) (e:Rec) (j:Nat),l[k]? =Y e->j<3->(tq l)[k*3+j]? =e.cs[j]?|[],k,e,j,h,_=>aQB|x::r,0,e,j,h,hj=>(by simp at h;subst h;simp only[tq,Ad];rw[Q8 (by simp[Rec.cs]<;>omega)];simp)|x::r,k+1,e,j,h,hj=>by have:=ani r k e j h hj;simp only[tq,Ad]at this⊢;rw[OJ (by simp[Rec.cs]<;>omega),<-this];congr 1;simp[Rec.cs]<;>omega
variable{w rs}
def anj{B v}(h:bI w B 94 3 v (O rs) (tq rs)):aQf w v rs:=by rcases am9 h with⟨rfl,rfl⟩|⟨g,cap,rfl,h1,h2,_⟩;{exact .inl ⟨J,J⟩};refine .inr ⟨g,cap,J,h1,h2,λk r hk=>?_⟩;have hc:=h.cells J;(have H:∀j u,j<3->r.cs[j]? =Y u->w (g,k*3+j)=Y u:=λj u hj hu=>by have:=hc _ u<|(ani rs k r j hk hj).t hu;grind[Addr.add_lit]);exact⟨H 0 _ YV J,H 1 _ YV J,H 2 _ YV J⟩
def axd(w a b x):(binOp .neq 94 (jf #[V Z a,V Z b,dN x])<|jf #[a,b,x]).run aj w=.ok ah w:=aQt
def axe{va vb}(ha:aQf w va rs)(hb:aQf w vb rs):aH aj 98 #[va,vb] w λe w'=>e=A/\∃q,w'=w.drewN q:=by
 obtain⟨a1,c1,rfl,oH⟩:∃a1 c1,va=.slice a1 rs c1/\rs<=maxLen:=by rcases ha with⟨rfl,rfl⟩|⟨g,cap,rfl,h1,h2,_⟩;{simp_all};grind
 obtain⟨a2,c2,rfl⟩:∃a2 c2,vb=.slice a2 rs c2:=by rcases hb with⟨rfl,rfl⟩|⟨g,cap,rfl,h1,h2,_⟩;{grind};grind
 unfold cZ at oH;have HA:=aQe ha;have HB:=aQe hb;clear ha hb;go_enter func98,ntmps98;go_wp2;go_loopw [5] (λi w'=>∃k,k<=O rs/\i=.int _ k/\∃q,w'=w.drewN q) (λi _=>rs-(bM i).toNat);case atStart=>exact⟨0,jQ _,J,0,J⟩
 case round=>obtain⟨k,hk,rfl,q,rfl⟩:=hrel;by_cases aO:k<rs;{have⟨r,hr⟩:∃r,rs[k]? =Y r:=Y0;(obtain⟨H,rfl,x0,x1,x2⟩:∃H,a1=Y ⟨H,0,U⟩/\w (H,k*3)=(r.o)/\w (H,k*3+1)=Y (r.p)/\w (H,k*3+2)=Y (r.s):=by rcases HA with⟨_,h0⟩|⟨g,cap,e,h1,h2,h3⟩;{grind};grind);(obtain⟨g2,rfl,y0,y1,y2⟩:∃H,a2=Y ⟨H,0,U⟩/\w ⟨H,k*3,U⟩=Y (r.o)/\w ⟨H,k*3+1,U⟩=Y (r.p)/\w ⟨H,k*3+2,U⟩=Y (r.s):=by rcases HB with⟨_,h0⟩|⟨g,cap,e,h1,h2,h3⟩;{grind};grind);clear hr;go_wp2;go_quiet (fail);go_wp2;go_roundw;(case rel=>exact⟨k+1,YV,Y4,q+nq,Zv⟩);case measure=>simp[bM]<;>omega};go_wp2;go_ret;exact⟨J,q,J⟩
end
def YW(w:ae)(v:ai)(es:List dF):Prop:=(v=aP U 0 0/\es=[])\/∃g cap,v=aP (Y ⟨g,0,U⟩) es cap/\es<=cap/\cap<=cZ/\ ∀k e,es[k]? =Y e->w (g,k*4)=(e.k)/\w (g,k*4+1)=(e.p)/\w (g,k*4+2)=(e.t)/\w (g,k*4+3)=(e.s)
def ank{w B v es}(h:bI w B 55 4 v (O es) (jL es)):YW w v es:=by rcases YT h with⟨rfl,rfl⟩|⟨g,cap,rfl,h1,h2,_⟩;{exact .inl ⟨J,J⟩};exact .inr ⟨g,cap,J,h1,h2,λk e H=>adi h H⟩
def dF.ends(x e:dF):Prop:=x.k≠1/\x.p=e.p/\x.t=e.t
structure axf(es:List dF)(i:Nat)(e:dF)(q:Int):Prop where
 nz:q≠0
 vX:vX es e.p e.t=Y q
 late:∃(m:Nat) (x:dF),i<m/\es[m]? =Y x/\x.ends e
 all:∀x∈es,x.ends e->x.k=q
def axg(s:aN)(S:Nat):Prop:=∀i e,i<S->s.es[i]? =Y e->e.k=1->∃q,axf s.es i e q
section
def fF(n:Int):Prop:=(Lit.int .i64 n).wf=A
def cnt(es:List dF):Nat:=(es.filter λe=>decide<|e.k=1).length
structure Inv(s:aN):Prop where
 wf:s.Wf
 kinds:∀e∈s.es,e.k=1\/e.k=2\/e.k=3
 U4:∀e∈s.es,∃t' o,s.nw e.p=Y (t',o)/\e.t<=t'/\(e.k≠1->e.t<t'\/o=ah)
 closed:∀(i:Nat) e,s.es[i]? =Y e->e.k=1->s.isOpen e.p e.t=ah->∃(m:Nat) (x:dF),i<m/\s.es[m]? =Y x/\x.ends e
 uniq:∀x∈s.es,∀y∈s.es,x.k≠1->y.k≠1->x.p=y.p->x.t=y.t->x.k=y.k
 d:s.d=cnt s.es
 axh:s.d<=200
 shut:∀p t,s.nw p=Y (t,ah)->∃e∈s.es,e.k≠1/\e.p=p/\e.t=t
def axi:Inv ⟨[],0,λ_=>U⟩:=⟨λe h=>aQB,Zv,Zv,Zv,Zv,J,Xy,Zv⟩
structure Ext(s s':aN):Prop where
 es:∃t,s'.es=s.es++t
 open_:∀e∈s.es,e.k=1->s.isOpen e.p e.t=ah->s'.isOpen e.p e.t=ah
 vX:∀e∈s.es,e.k=1->s.isOpen e.p e.t=ah->vX s'.es e.p e.t=vX s.es e.p e.t
theorem Ext.refl(s):Ext s s:=⟨Y0,Zv,Zv⟩
variable{s:aN}{p t i}
theorem O4:s.isOpen p t=A↔s.nw p=(t,A):=by simp[aN.isOpen]
theorem Jk:s.isOpen p t=ah↔s.nw p≠(t,A):=by simp[aN.isOpen]
def anl{α:Type}{l}{x e:α}(h:(l++[x])[i]? =e):l[i]? =e\/(i=O l/\e=x):=Zv
def axj(h:Inv s)(p t):Inv (s.opened p t)/\Ext s (s.opened p t):=by
 unfold aN.opened;split
 ·rename_i hc;have LZ:∀t' o,s.nw p=(t',o)->o=ah/\t'<t:=λt' o e=>by
   simp only[aN.vV,e,pq,af2,OU]at hc;exact hc
  have bu:∀e∈s.es,(s.set p t A).isOpen e.p e.t=ah\/e.p≠p:=λe H=>by
   by_cases ep:e.p=p
   ·left;have⟨t',o,h1,h2,_⟩:=h.U4 e H;rw[ep]at h1;have:=LZ t' o h1;rw[Jk];simp only[aN.set,ep,if_true,ne_eq,iR,Ri,UF];omega
   omega
  have abS:∀e∈s.es,s.isOpen e.p e.t=(s.set p t A).isOpen e.p e.t:=λe H=>by
   by_cases ep:e.p=p
   ·grind[Jk]
   ·simp[aN.isOpen,aN.set,ep]
  refine⟨{h with U4:=?_,closed:=?_,shut:=λq u hq=>h.shut q u (by
   by_cases e:q=p
   ·simp[aN.set,e]at hq
   ·simpa[aN.set,e]using hq)},⟨⟨[],by simp[aN.set]⟩,Zv,λ_ _ _ _=>J⟩⟩
  ·intro e H;have⟨t',o,h1,h2,h3⟩:=h.U4 e H;by_cases ep:e.p=p
   ·have h4:=LZ t' o (by rwa[<-ep]);exact⟨t,A,by simp[aN.set,ep],YV,YV⟩
   ·exact⟨t',o,by simp[aN.set,ep];exact h1,h2,h3⟩
  ·intro i e H hk ho;exact h.closed i e H hk<|by rwa[abS e<|iO H]
 ·exact⟨h,Ext.refl s⟩
def axk(es x)(hx:x.k=1)(p t):vX (es++[x]) p t=vX es p t:=by rw[YU,if_neg<|by simp[hx]]
theorem axl(h:Inv s)(p t x)(hp:fF p)(ht:fF t):Inv (s.pW p t x)/\Ext s (s.pW p t x):=by unfold aN.pW;split;{rename_i hc;(have ho:s.isOpen p t=true:=by unfold aN.vW at hc;grind);(have hd:s.d<200:=by unfold aN.vW at hc;omega);have hn:=O4.1 ho;refine⟨⟨?_,?_,?_,?_,?_,?_,?_,λq u hq=>(h.shut q u hq).imp λe H=>⟨Yx _ H.1,H.2⟩⟩,⟨⟨[⟨1,p,t,x⟩],J⟩,λ_ _ _ h=>h,λe _ _ _=>axk _ _ J _ _⟩⟩;{intro e H;simp only[aN.put,yu,yQ]at H;rcases H with H|rfl;{exact h.wf e H};exact⟨hp,ht⟩};{intro e H;simp only[aN.put,yu,yQ]at H;grind[cases Inv]};{intro e H;simp only[aN.put,yu,yQ]at H;rcases H with H|rfl;{exact h.U4 e H};exact⟨t,A,hn,Int.le_refl _,Zv⟩};{intro i e H hk bu;simp only[aN.put]at H⊢;rcases anl H with H|⟨_,rfl⟩;{have⟨m,y,h1,h2,h3⟩:=h.closed i e H hk bu;exact⟨m,y,h1,Zv,h3⟩};exact absurd ho (by rw[show s.isOpen p t=ah from bu];simp)};{intro a ha b hb h1 h2 h3 h4;simp only[aN.put,yu,yQ]at ha hb;grind[cases Inv]};{simp only[aN.put,cnt,FY,kZ];have:=h.d;unfold cnt at this;grind};grind};exact⟨h,Ext.refl s⟩
def axm(h:Inv s)(p t c)(hp:fF p)(ht:fF t):Inv (s.closed p t c)/\Ext s (s.closed p t c):=by unfold aN.closed;split;{rename_i ho;have hn:=O4.1 ho;(have L6:aN.zD c=2\/aN.zD c=3:=by cases c<;>simp[aN.zD]);(have aX:aN.zD c≠1:=YV);(have atQ:∀q u,((s.put ⟨aN.zD c,p,t,⟨#[]⟩⟩).set p t ah).isOpen q u=ah↔(s.isOpen q u=ah\/(q=p/\u=t)):=λq u=>by rw[Jk,Jk];simp only[aN.set,aN.put];grind);refine⟨⟨?_,?_,?_,?_,?_,?_,h.axh,λq u hq=>by by_cases e:q=p;{simp only[aN.set,e,if_true,iR,Ri,UF]at hq;exact⟨⟨aN.zD c,p,t,⟨#[]⟩⟩,List.mem_append_right _ Xy,aX,e.s,hq⟩};exact(h.shut q u<|by simpa[aN.set,aN.put,e]using hq).imp λy hy=>⟨Yx _ hy.1,hy.2⟩⟩,⟨⟨[⟨aN.zD c,p,t,⟨#[]⟩⟩],J⟩,Zv,λe H hk h2=>?_⟩⟩;{intro e H;simp only[aN.put,aN.set,yu,yQ]at H;rcases H with H|rfl;{exact h.wf e H};exact⟨hp,ht⟩};{intro e H;simp only[aN.put,aN.set,yu,yQ]at H;grind[cases Inv]};{intro e H;simp only[aN.put,aN.set,yu,yQ]at H;rcases H with H|rfl;{have⟨t',o,h1,h2,h3⟩:=h.U4 e H;by_cases ep:e.p=p;{rw[ep,hn]at h1;simp at h1;obtain⟨rfl,rfl⟩:=h1;exact⟨t,ah,by simp[aN.set,ep],h2,Zv⟩};exact⟨t',o,by simp[aN.set,aN.put,ep];exact h1,h2,h3⟩};exact⟨t,ah,by simp[aN.set],Int.le_refl _,Zv⟩};{intro i e H hk bu;simp only[aN.put,aN.set]at H⊢;rcases anl H with H|⟨_,rfl⟩;{rcases(atQ _ _).1 bu with h1|⟨h1,h2⟩;{have⟨m,y,h1,h2,h3⟩:=h.closed i e H hk h1;exact⟨m,y,h1,Zv,h3⟩};exact⟨s.es,⟨aN.zD c,p,t,⟨#[]⟩⟩,Zv,Xy,⟨aX,h1.s,h2.s⟩⟩};grind};{have old:∀a∈s.es,a.k≠1->a.p=p->a.t=t->False:=(by grind[cases Inv]);intro a ha b hb h1 h2 h3 h4;simp only[aN.put,aN.set,yu,yQ]at ha hb;grind[cases Inv]};{simp only[aN.put,aN.set,cnt,FY,kZ];have:=h.d;unfold cnt at this;grind};simp only[aN.put,aN.set];rw[YU,if_neg];grind};exact⟨h,Ext.refl s⟩
def axn{α:Type}(p:α->Bool):∀(l:List α) (k:Nat) (e:α),k<l.findIdx p->l[k]? =Y e->p e=ah|[],k,e,_,h=>aQB|x::r,0,e,H,h=>Zv|x::r,k+1,e,H,h=>Zv
def axo{e}(hi:i<s.oL)(he:s.es[i]? =Y e)(H:e.k=1):s.isOpen e.p e.t=false:=by have:=axn _ _ i e hi he;simpa[aN.blocked,H]using this
def anm(e:dF)(q:Int):∀(es:List dF) (o:Option Int),(∀x∈es,x.ends e->x.k=q)->((∃x∈es,x.ends e)\/o=Y q)->es.foldl (λo x=>if x.k≠1/\x.p=e.p/\x.t=e.t then Y x.k else o) o=Y q|[],o,_,h=>Zv|x::r,o,lT,h=>by rw[List.foldl_cons];apply anm e q r _ Zv;by_cases hx:x.ends e;{right;rw[if_pos<|show x.k≠1/\x.p=e.p/\x.t=e.t from hx,lT x Xy hx]};rw[if_neg<|show¬(x.k≠1/\x.p=e.p/\x.t=e.t)from hx];grind
def axp(es e q)(lT:∀x∈es,x.ends e->x.k=q)(H:∃x∈es,x.ends e):vX es e.p e.t=Y q:=anm e q es _ lT H
def axq(h:Inv s):axg s s.oL:=by intro i e hi he hk;have⟨m,x,h1,h2,h3⟩:=h.closed i e he hk<|axo hi he hk;have hx:=iO h2;have lT:∀y∈s.es,y.ends e->y.k=x.k:=λy hy H=>h.uniq y hy x hx H.1 h3.1 (H.2.1.t h3.2.1.s)<|H.2.2.t h3.2.2.s;refine⟨x.k,?_,axp _ _ _ lT Zv,Zv,lT⟩;grind[cases Inv]
end
section
variable{w:ae}{B:Nat}{ty:dB}{es:List dF}{v:ai}
def Rw{g n cap}(h:bI w B ty 4 (aP (Y ⟨g,0,U⟩) n cap) (O es) (jL es)){k e}(hk:es[k]? =Y e):w.cell? (g,k*4)=e.k/\w (g,k*4+1)=e.p/\w (g,k*4+2)=e.t/\w (g,k*4+3)=e.s:=by have hc:=h.cells J;(have H:∀j u,j<4->e.cs[j]? =Y u->w (g,k*4+j)=Y u:=λj u hj hu=>by have:=hc _ u<|(agY es k e j hk hj).t hu;grind[Addr.add_lit]);exact⟨H 0 _ YV J,H 1 _ YV J,H 2 _ YV J,H 3 _ YV J⟩
theorem O6(h:bI w B ty 4 v es (jL es)):(v=aP U 0 0/\es=[])\/∃g cap,v=aP (Y ⟨g,0,U⟩) es cap/\es<=cap/\cap<=cZ/\B<=g/\g<w:=by rcases h.2 with⟨hv,h0⟩|⟨g,cap,H,hv,hb,hg,h1,h2,_⟩;{grind};grind
def Rx(h:bI w B ty 4 v es (jL es)):∃a cap,v=.slice a es cap/\es<=maxLen:=by grind[O6]
structure iU(w:ae)(B yb:Nat)(u:ai)(L:List dF):Prop where
 blk:w.heap[yb]? =Y (aC #[u] 142 (0,0))
 row:bI w B 238 4 u (O L) (jL L)
 hy:B<=yb
variable{yb:Nat}{u:ai}{L:List dF}
theorem iU.lt(h:iU w B yb u L):yb<w:=bF h.blk
theorem iU.EK(h:iU w B yb u L):dw u≠yb:=by intro e;rcases h.row.2 with⟨rfl,_⟩|⟨g,cap,H,rfl,_,hg,_⟩;{simp[Value.ownBlock]at e};simp[Value.ownBlock]at e;grind[cases iU]
theorem Fr.qw{S H}(f:Fr S w H)(h:iU w B yb u L)(h1:¬S yb)(h3:∀k,dw u=Y k->¬S k):iU H B yb u L:=⟨(f.block yb h.lt h1).t h.blk,f.ownsRow h.row h3,h.hy⟩
def KD(p t:Int)(o:Bool)(e:dF):Bool:=if e.p=p/\e.t=t then(e.k==0||(o&&e.k==1))else o
def lI(L:List dF)(p t:Int):Bool:=L.foldl (KD p t) ah
def adk(L x p t):lI (L++[x]) p t=KD p t (lI L p t) x:=by simp[lI,UC]
def xR(h:iU w B yb u L)(p t):aH aj 137 #[ak yb,V Z p,V Z t] w λe w'=>e=aU (.bool<|lI L p t)/\Fr aB w w':=by have H:=aQe h;obtain⟨ua,Nj,rfl,Nk⟩:=Rx h.row;unfold cZ at Nk;have aO:=h.lt;clear h;go_enter func137,ntmps137;go_wp2_with fail;go_loopw [7,8] (λo i w'=>∃k,k<=O L/\i=k/\o=lI (L.take k) p t/\Fr aB w w') (λ_ i _=>O L-(bM i).toNat);(case atStart=>exact⟨0,jQ _,J,J,Fr.refl _ _⟩);case round=>obtain⟨k,hk,rfl,rfl,bT⟩:=hrel;have HF:=aQe bT;(have HR:=aQe<|bT.qw H id Zv);have k0:=cc HR.blk 0;have gV:=bT.size;clear bT;by_cases jD:k<O L;{have⟨e,he⟩:∃e,L[k]? =Y e:=Y0;(have HT:I (lI (L.take<|k+1) p t=KD p t (lI (L.take k) p t) e):=by show lI (L.take<|k+1) p t=KD p t (lI (L.take k) p t) e;rw[uz,he,Cb,adk]);rcases O6 HR.row with⟨_,h0⟩|⟨g,cap,e1,Ej,oV,G6,hg⟩;{grind};simp only[aQQ]at e1;obtain⟨rfl,_,rfl⟩:=e1;have⟨r0,r1,r2,r3⟩:=Rw HR.row he;clear he oV;generalize lI (L.take k) p t=o at HT;by_cases hp:e.p=p;{(have IW:(e.p==p)=true:=Zv);by_cases ht:e.t=t;{(have L8:(e.t==t)=true:=Zv);(have zi:I (lI (L.take<|k+1) p t=(e.k==0||(o&&e.k==1))):=by show lI (L.take<|k+1) p t=(e.k==0||(o&&e.k==1));rw[HT];simp[KD,hp,ht]);clear hp ht HT;by_cases h0:e.k=0;{go_wp2;go_roundw;(case rel=>exact⟨k+1,YV,Y4,by rw[zi];simp[h0],HF.alloc _⟩);case measure=>simp[bM]<;>omega};(have TR:(e.k==0)=false:=Zv);cases o;{go_wp2;go_roundw;(case rel=>exact⟨k+1,YV,Y4,by rw[zi];simp[h0],HF.alloc _⟩);case measure=>simp[bM]<;>omega};{go_wp2;go_roundw;(case rel=>exact⟨k+1,YV,Y4,by rw[zi];simp[h0],HF.alloc _⟩);case measure=>simp[bM]<;>omega}};{(have L8:(e.t==t)=false:=Zv);(have zi:I (lI (L.take<|k+1) p t=o):=by show lI (L.take<|k+1) p t=o;rw[HT];simp[KD,ht]);clear hp HT;go_wp2;go_roundw;(case rel=>exact⟨k+1,YV,Y4,by rw[zi],HF.alloc _⟩);case measure=>simp[bM]<;>omega}};{(have IW:(e.p==p)=false:=Zv);(have zi:I (lI (L.take<|k+1) p t=o):=by show lI (L.take<|k+1) p t=o;rw[HT];simp[KD,hp]);clear HT;go_wp2;go_roundw;(case rel=>exact⟨k+1,YV,Y4,by rw[zi],HF.alloc _⟩);case measure=>simp[bM]<;>omega}};have HT:I (L.take k=L):=xN (by omega);go_wp2;go_ret;exact⟨by rw[HT]<;>rfl,HF⟩
def ann(h:iU w B yb u L):aH aj 185 #[ak yb] w λe w'=>e=aU (.int .i64<|cnt L)/\w=w':=by have H:=aQe h;obtain⟨ua,Nj,rfl,Nk⟩:=Rx h.row;unfold cZ at Nk;have k0:=cc h.blk 0;clear h;go_enter func185,ntmps185;go_wp2_with fail;go_loop [3,4] (λc i=>∃k,k<=O L/\i=.int _ k/\c=.int _ (cnt<|L.take k)) (λ_ i=>O L-(bM i).toNat);(case atStart=>exact⟨0,jQ _,J,J⟩);case round=>obtain⟨k,hk,rfl,rfl⟩:=hrel;(have yg:cnt (L.take k)<=k:=dX (AX _ _) Zv);by_cases jD:k<O L;{have⟨e,he⟩:∃e,L[k]? =Y e:=Y0;(have HT:I (cnt (L.take<|k+1)=cnt (L.take k)+if e.k=1 then 1 else 0):=by show cnt (L.take<|k+1)=cnt (L.take k)+if e.k=1 then 1 else 0;rw[uz,he,Cb];unfold cnt;grind);rcases O6 H.row with⟨_,h0⟩|⟨g,cap,e1,Ej,oV,G6,hg⟩;{grind};simp at e1;obtain⟨rfl,_,rfl⟩:=e1;have⟨r0,r1,r2,r3⟩:=Rw H.row he;clear he oV;by_cases h1:e.k=1;{go_wp2;go_round;(case rel=>exact⟨k+1,YV,Y4,by rw[HT,if_pos h1];go_num⟩);case measure=>simp[bM]<;>omega};{(have BK:(e.k==1)=false:=Zv);go_wp2;go_round;(case rel=>exact⟨k+1,YV,Y4,by rw[HT,if_neg h1];rfl⟩);case measure=>simp[bM]<;>omega}};have HT:I (L.take k=L):=xN (by omega);go_wp2;go_ret;exact⟨by rw[HT]<;>rfl,J⟩
end
section
def ag2:(prog.info? 238).map (λi=>(i.zero,i.size,i.bytes))=(Y<|jf #[V Z 0,V Z 0,V Z 0,dN ⟨#[]⟩],4,40):=KG
structure Ci(w w':ae)(B yb:Nat)(u u':ai)(L':List dF):Prop where
 ref:iU w' B yb u' L'
 fr:Fr (λk=>k=yb\/dw u=Y k) w w'
 mY:∀k,dw u'=Y k->dw u=Y k\/M (R w)<=k
variable{w w1:ae}{B yb:Nat}{u u':ai}{L:List dF}{p t:Int}
def iU.U0{W x}(h:iU w B yb u L)(hW:Fr aB w W)(H:W.grownBy w1 u.ownBlock) (fK:bI w1 B 238 4 u' (L+1) (jL L++x.cs))(dR:∀k,dw u'=Y k->dw u=k\/w<=k):Ci w (aZ w1 yb u') B yb u u' (L++[x]):=by have f1:Fr (λk=>dw u=k) w w1:=(hW.z Zv).grown H Zv;have f2:Fr (λk=>k=yb\/dw u=k) w (aZ w1 yb u'):=(by grind[Fr.setCell,Fr.z]);have b1:=(f1.block yb h.lt h.EK).t h.blk;refine⟨⟨?_,?_,h.hy⟩,f2,dR⟩;{rw[eX b1];rfl};have hr:Fr (λk=>k=yb) w1 (aZ w1 yb u'):=aQx;grind[Fr.ownsRow,iU.EK,cases iU,adh]
theorem Ci.a{w' H}(l:Ci w1 w' B yb u u' H)(f:Fr aB w w1):Ci w w' B yb u u' H:=⟨l.ref,(f.z Zv).t l.fr Zv,(by grind[cases Ci,cases Fr])⟩
def Ic{H n cap d}(dR:dw u=Y H\/H=w+d):∀k,Value.ownBlock (aP H n cap)=Y k->dw u=k\/w<=k:=by intro k hk;simp only[Value.ownBlock,iR]at hk;grind
def Fr.box{S cs ty}(f:Fr S (w.alloc<|.cells cs ty) w1)(H:¬S w)(j):w1 ⟨M (R w),j,U⟩=cs[j]? :=by rw[f.cell Xy H];simp
def Af(L:List dF)(p t:Int)(e:dF):Bool:=decide (e.p=p)&&decide (e.k=0)&&(lI L p e.t||decide (t<=e.t))
def KE(L:List dF)(p t:Int):Bool:=!(L.any<|Af L p t)
def oq(L:List dF)(p t:Int):List dF:=if KE L p t then L++[⟨0,p,t,⟨#[]⟩⟩]else L
def adm{k:Nat}{e}(he:L[k]? =Y e)(hb:Af L p t e=A):KE L p t=false:=by simp only[KE,Bool.not_eq_false',al0];grind
def ag3(ha:∀(j:Nat) x,L[j]? =Y x->Af L p t x=ah):KE L p t=true:=by simp only[KE,af2,List.any_eq_false];intro x hx;obtain⟨j,hj,rfl⟩:=UA hx;rw[ha j _ Zv];simp
def ano(h:iU w B yb u L)(p t)(hb:(O L+1)*40<=2^47):aH aj 134 #[ak yb,V Z p,V Z t] w λe w'=>e=aU (.bool<|KE L p t)/\∃u',Ci w w' B yb u u' (oq L p t):=by have⟨i0,dL,fM,ed,fV⟩:=aQX ag2;have H:=aQe h;have HB:=aQe hb;obtain⟨ua,Nj,rfl,Nk⟩:=Rx h.row;unfold cZ at Nk;have aO:=h.lt;clear h hb;go_enter func134,ntmps134;go_wp2_with fail;go_loopw [7] (λi w'=>∃k,k<=O L/\i=V Z k/\Fr aB w w'/\∀j x,j<k->L[j]? =Y x->Af L p t x=ah) (λi _=>O L-(bM i).toNat);(case atStart=>exact⟨0,jQ _,J,Fr.refl _ _,YV⟩);case round=>obtain⟨k,hk,rfl,bT,lT⟩:=hrel;have HF:=aQe bT;have HR:=aQe<|bT.qw H id λ_ _=>id;have HA:=aQe lT;have k0:=cc HR.blk 0;have f0:wr.frozen? yb=false:=gJ HR.blk 0;have gV:=bT.size;clear bT lT;by_cases jD:k<O L;{have⟨e,he⟩:∃e,L[k]? =Y e:=Y0;rcases O6 HR.row with⟨_,h0⟩|⟨g,cap,e1,Ej,oV,G6,hg⟩;{grind};simp only[aQQ]at e1;obtain⟨rfl,_,rfl⟩:=e1;have⟨r0,r1,r2,r3⟩:=Rw HR.row he;have HE:=aQe he;(have step:Af L p t e=ah->I (∀j x,j<k+1->L[j]? =Y x->Af L p t x=ah):=λfE j x hj hx=>by by_cases ej:j=k;{grind};exact HA j x YV hx);clear he oV;by_cases hp:e.p=p;{(have IW:(e.p==p)=true:=by simpa using hp);by_cases h0:e.k=0;{(have TR:(e.k==0)=true:=by simpa using h0);cases ho:lI L p e.t;{by_cases hte:t<=e.t;{have HC:I (KE L p t=ah):=adm HE (by simp[Af,hp,h0,hte]);(have HO:I (oq L p t=L):=by show oq L p t=L;simp[oq,HC.o]);clear step hp h0;go_wp2_with (go_at_call 137;apply(xR ((aQ _).qw HR id λ_ _=>id) _ _).z;rintro x w1 ⟨rfl,aI⟩;rw[ho];have y2:au w1 (M (R wr),2)=Y (V Z e.t):=Fr.box aI id 2;have je:=aQe<|(HF.alloc _).t aI dA;clear aI);go_ret;exact⟨by rw[HC]<;>rfl,_,by rw[HO];exact⟨je.qw H id λ_ _=>id,je.z dA,λ_ hk=>.inl hk⟩⟩};{have HS:=step (by simp[Af,ho,hte]);clear step hp h0;go_wp2_with (go_at_call 137;apply(xR ((aQ _).qw HR id λ_ _=>id) _ _).z;rintro x w1 ⟨rfl,aI⟩;rw[ho];have y2:au w1 (M (R wr),2)=Y (V Z e.t):=Fr.box aI id 2;have je:=aQe<|(HF.alloc _).t aI dA;clear aI);go_roundw;(case rel=>exact⟨k+1,YV,Y4,je,HS⟩);case measure=>simp[bM]<;>omega}};have HC:I (KE L p t=ah):=adm HE (by simp[Af,hp,h0,ho]);(have HO:I (oq L p t=L):=by show oq L p t=L;simp[oq,HC.o]);clear step hp h0;go_wp2_with (go_at_call 137;apply(xR ((aQ _).qw HR id λ_ _=>id) _ _).z;rintro x w1 ⟨rfl,aI⟩;rw[ho];have y2:au w1 (M (R wr),2)=Y (V Z e.t):=Fr.box aI id 2;have je:=aQe<|(HF.alloc _).t aI dA;clear aI);go_ret;exact⟨by rw[HC]<;>rfl,_,by rw[HO];exact⟨je.qw H id λ_ _=>id,je.z dA,λ_ hk=>.inl hk⟩⟩};{(have TR:(e.k==0)=false:=by simpa using h0);(have HS:=step<|by simp[Af,h0]);clear step hp;go_wp2;go_roundw;(case rel=>exact⟨k+1,YV,Y4,HF.alloc _,HS⟩);case measure=>simp[bM]<;>omega}};{(have IW:(e.p==p)=false:=by simpa using hp);(have HS:=step<|by simp[Af,hp]);clear step;go_wp2;go_roundw;(case rel=>exact⟨k+1,YV,Y4,HF.alloc _,HS⟩);case measure=>simp[bM]<;>omega}};have HC:=aQe<|ag3 (λj x hx=>HA j x Zv hx);(have HO:I (oq L p t=L++[⟨0,p,t,⟨#[]⟩⟩]):=by show oq L p t=L++[⟨0,p,t,⟨#[]⟩⟩];simp[oq,HC.o]);have qP:Value.ownBlock (.slice ua (O L) Nj)≠Y yb:=H.EK;have Cj:=HR.lt;go_wp2_with (at_builtin;apply aQU _ J _ _ 140 J B 238 i0 _ 4 40 underlying140 dL fM ed fV J Xa _ (O L) (jL L) J (HR.row.alloc _) (M (R wr)) 1 1 [V Z 0,V Z p,V Z t,dN ⟨#[]⟩] J J (World.news_of_block (cs:=#[V Z 0,V Z p,V Z t,dN ⟨#[]⟩]) (t:=238) (fr:=(0,0))<|heap_alloc_new _ _) Y7 Xa (by have:=HB.o;exact aQp) HB.o (by have:=HR.o.hy;simp<;>omega) (M (R wr)+1) Xy;intro gg jG w3 jO gW lX mW;have q0:=gW.cell_far yb Xz<|Ne.s qP;have q1:=gW.frozen_far yb Xz<|Ne.s qP;rw[aQV _ _ _ Cj,k0]at q0;rw[Ae Cj,f0]at q1);go_ret;have l3:=HR.U0 (x:=⟨0,p,t,⟨#[]⟩⟩) (aQ _) gW jO<|Ic lX;have l4:=l3.a HF;rw[<-HO]at l4;exact⟨by rw[HC]<;>rfl,_,l4⟩
def vk(L:List dF)(p t:Int)(x:ByteArray):Int:=if lI L p t=ah then 11 else if 8<x.size then 4 else if 200<=cnt L then 12 else 0
def pX(L:List dF)(p t:Int)(x:ByteArray):List dF:=if vk L p t x=0 then L++[⟨1,p,t,x⟩]else L
def qW(L:List dF)(p t:Int)(c:Bool):List dF:=if lI L p t then L++[⟨aN.zD c,p,t,⟨#[]⟩⟩]else L
theorem Ci.same(h:iU w B yb u L)(f:Fr aB w w1):Ci w w1 B yb u u L:=⟨f.qw h id Zv,f.z Zv,Zv⟩
def axr(h:iU w B yb u L)(p t x)(hx:x.size<=cZ)(hb:(O L+1)*40<=2^47):aH aj 138 #[ak yb,V Z p,V Z t,dN x] w λe w'=>e=aU (.int .i64<|vk L p t x)/\∃u',Ci w w' B yb u u' (pX L p t x):=by have⟨i0,dL,fM,ed,fV⟩:=aQX ag2;unfold cZ at hx;have H:=aQe h;have HB:=aQe hb;clear h hb;cases ho:lI L p t;{(have HC:I (vk L p t x=11):=by show vk L p t x=11;simp[vk,ho]);(have HO:I (pX L p t x=L):=by show pX L p t x=L;simp[pX,HC.o]);go_enter func138,ntmps138;go_wp2_with (go_at_call 137;apply(xR H.o _ _).z;rintro e w1 ⟨rfl,aI⟩;rw[ho];have je:=aQe aI;clear aI);go_ret;have l4:=Ci.same H.o je.o;rw[<-HO.o]at l4;exact⟨by rw[HC.o]<;>rfl,_,l4⟩};{by_cases h8:8<x.size;{(have HC:I (vk L p t x=4):=by show vk L p t x=4;simp[vk,ho,h8]);(have HO:I (pX L p t x=L):=by show pX L p t x=L;simp[pX,HC.o]);go_enter func138,ntmps138;go_wp2_with (go_at_call 137;apply(xR H.o _ _).z;rintro e w1 ⟨rfl,aI⟩;rw[ho];have je:=aQe aI;clear aI);go_ret;have l4:=Ci.same H.o je.o;rw[<-HO.o]at l4;exact⟨by rw[HC.o]<;>rfl,_,l4⟩};{by_cases hd:200<=cnt L;{(have HC:I (vk L p t x=12):=by show vk L p t x=12;simp[vk,ho,h8,hd]);(have HO:I (pX L p t x=L):=by show pX L p t x=L;simp[pX,HC.o]);go_enter func138,ntmps138;go_wp2_with (first|(go_at_call 137;apply(xR H.o _ _).z;rintro e w1 ⟨rfl,aI⟩;rw[ho];have je:=aQe aI;clear aI)|(go_at_call 185;apply(ann<|je.o.qw H.o id λ_ _=>id).z;rintro e w2 ⟨rfl,rfl⟩));go_ret;have l4:=Ci.same H.o je.o;rw[<-HO.o]at l4;exact⟨by rw[HC.o]<;>rfl,_,l4⟩};(have HC:I (vk L p t x=0):=by show vk L p t x=0;simp[vk,ho,h8,hd]);(have HO:I (pX L p t x=L++[⟨1,p,t,x⟩]):=by show pX L p t x=L++[⟨1,p,t,x⟩];simp[pX,HC.o]);go_enter func138,ntmps138;go_wp2_with (first|(go_at_call 137;apply(xR H.o _ _).z;rintro e w1 ⟨rfl,aI⟩;rw[ho];have je:=aQe aI;clear aI)|(go_at_call 185;apply(ann<|je.o.qw H.o id λ_ _=>id).z;rintro e w2 ⟨rfl,rfl⟩;have HR:=aQe<|je.o.qw H.o id Zv;have k0:=cc HR.o.blk 0;have f0:w1.frozen? yb=false:=gJ HR.o.blk 0;have qP:dw u≠Y yb:=H.o.EK;have Cj:=HR.o.lt)|(at_builtin;apply aQU _ J _ _ 140 J B 238 i0 _ 4 40 Y0 dL fM ed fV J Xa _ (O L) (jL L) J (HR.o.row.alloc _) w1 1 1 [V Z 1,p,t,x] J J aQz Y7 Xa (by have:=HB.o;exact aQp) HB.o (by have:=HR.o.hy;simp<;>omega) (w1+1) Xy;intro gg jG w3 jO gW lX mW;have q0:=gW.cell_far yb Xz<|Ne.s qP;have q1:=gW.frozen_far yb Xz<|Ne.s qP;rw[aQV _ _ _ Cj,k0]at q0;rw[Ae Cj,f0]at q1));go_ret;have l3:=HR.o.U0 (x:=⟨1,p,t,x⟩) (aQ _) gW jO<|Ic lX;have l4:=l3.a je.o;rw[<-HO.o]at l4;exact⟨by rw[HC.o]<;>rfl,_,l4⟩}}
def axs(h:iU w B yb u L)(p t c)(hb:(O L+1)*40<=2^47):aH aj 188 #[ak yb,V Z p,V Z t,aA c] w λe w'=>e=aU (.bool<|lI L p t)/\∃u',Ci w w' B yb u u' (qW L p t c):=by have⟨i0,dL,fM,ed,fV⟩:=aQX ag2;have H:=aQe h;have HB:=aQe hb;clear h hb;cases ho:lI L p t;{(have HO:I (qW L p t c=L):=by show qW L p t c=L;simp[qW,ho]);go_enter func188,ntmps188;go_wp2_with (go_at_call 137;apply(xR H.o _ _).z;rintro e w1 ⟨rfl,aI⟩;rw[ho];have je:=aQe aI;clear aI);go_ret;have l4:=Ci.same H.o je.o;rw[<-HO.o]at l4;exact⟨J,_,l4⟩};{(have HO:I (qW L p t c=L++[⟨aN.zD c,p,t,⟨#[]⟩⟩]):=by show qW L p t c=_;simp[qW,ho]);cases c;{go_enter func188,ntmps188;go_wp2_with (first|(go_at_call 137;apply(xR H.o _ _).z;rintro e w1 ⟨rfl,aI⟩;rw[ho];have je:=aQe aI;clear aI;have HR:=aQe<|je.o.qw H.o id Zv;have k0:=cc HR.o.blk 0;have f0:=gJ HR.o.blk 0;have qP:dw u≠Y yb:=H.o.EK;have Cj:=HR.o.lt)|(at_builtin;apply aQU _ J _ _ 140 J B 238 i0 _ 4 40 Y0 dL fM ed fV J Xa _ (O L) (jL L) J (HR.o.row.alloc _) (M (R w1)) 1 1 [V Z 3,V Z p,V Z t,dN ⟨#[]⟩] J J aQz Y7 Xa (by have:=HB.o;exact aQp) HB.o (by have:=HR.o.hy;simp<;>omega) (M (R w1)+1) Xy;intro gg jG w3 jO gW lX mW;have q0:=gW.cell_far yb Xz<|Ne.s qP;have q1:=gW.frozen_far yb Xz<|Ne.s qP;rw[aQV _ _ _ Cj,k0]at q0;rw[Ae Cj,f0]at q1));go_ret;have l3:=HR.o.U0 (x:=⟨3,p,t,⟨#[]⟩⟩) (aQ _) gW jO<|Ic lX;have l4:=l3.a je.o;rw[show L++[⟨3,p,t,⟨#[]⟩⟩]=qW L p t ah from HO.o.s]at l4;exact⟨J,_,l4⟩};go_enter func188,ntmps188;go_wp2_with (first|(go_at_call 137;apply(xR H.o _ _).z;rintro e w1 ⟨rfl,aI⟩;rw[ho];have je:=aQe aI;clear aI;have HR:=aQe<|je.o.qw H.o id Zv;have k0:=cc HR.o.blk 0;have f0:w1.frozen? yb=false:=gJ HR.o.blk 0;have qP:dw u≠Y yb:=H.o.EK;have Cj:=HR.o.lt)|(at_builtin;apply aQU _ J _ _ 140 J B 238 i0 _ 4 40 Y0 dL fM ed fV J Xa _ (O L) (jL L) J (HR.o.row.alloc _) (M (R w1)) 1 1 [V Z 2,V Z p,V Z t,dN ⟨#[]⟩] J J aQz Y7 Xa (by have:=HB.o;exact aQp) HB.o (by have:=HR.o.hy;simp<;>omega) (M (R w1)+1) Xy;intro gg jG w3 jO gW lX mW;have q0:=gW.cell_far yb Xz<|Ne.s qP;have q1:=gW.frozen_far yb Xz<|Ne.s qP;rw[aQV _ _ _ Cj,k0]at q0;rw[Ae Cj,f0]at q1));go_ret;have l3:=HR.o.U0 (x:=⟨2,p,t,⟨#[]⟩⟩) (aQ _) gW jO<|Ic lX;have l4:=l3.a je.o;rw[show L++[⟨2,p,t,⟨#[]⟩⟩]=qW L p t A from HO.o.s]at l4;exact⟨J,_,l4⟩}
end
section
attribute [local go_sem ↓] Go.wp_at_zero Go.wp_at_succ
def lJ(L:List dF):List dF:=L.filter λe=>decide<|0<e.k
def adn(L x):lJ (L++[x])=lJ L++if 0<x.k then[x]else[]:=by by_cases h:0<x.k<;>simp[lJ,FY,h]
variable{w B yb u L}
def ado(h:iU w B yb u L)(hb:O L*40<=2^47):aH aj 146 #[ak yb] w λe w'=>∃v',e=aU v'/\bI w' w 55 4 v' (lJ L).length (jL<|lJ L)/\Fr aB w w':=by have⟨i0,dL,fM,ed,fV⟩:=aQX YS;have H:=aQe h;have HB:=aQe hb;obtain⟨ua,Nj,rfl,Nk⟩:=Rx h.row;unfold cZ at Nk;have aO:=h.lt;clear h hb;go_enter func146,ntmps146;go_wp2_with fail;go_loopw [3,4] (λo i w'=>∃k,k<=O L/\i=k/\bI w' w 55 4 o (lJ<|L.take k).length (jL<|lJ<|L.take k)/\Fr aB w w') (λ_ i _=>O L-(bM i).toNat);(case atStart=>exact⟨0,jQ _,J,aQS _ _ _ _,Fr.refl _ _⟩);case round=>obtain⟨k,hk,rfl,fK,bT⟩:=hrel;have HF:=aQe bT;(have HR:=aQe<|bT.qw H.o id Zv);have HO:=aQe fK;(have HG:I ((lJ<|L.take k).length<=k):=dX (AX _ _) Zv);have k0:=cc HR.blk 0;have gV:=bT.size;clear bT fK;by_cases jD:k<O L;{have⟨e,he⟩:∃e,L[k]? =Y e:=Y0;(have HT:I (lJ (L.take<|k+1)=lJ (L.take k)++if 0<e.k then[e]else[]):=by show lJ (L.take<|k+1)=_;rw[uz,he,Cb,adn]);rcases O6 HR.row with⟨_,h0⟩|⟨g,cap,e1,Ej,oV,G6,hg⟩;{grind};simp only[aQQ]at e1;obtain⟨rfl,_,rfl⟩:=e1;have⟨r0,r1,r2,r3⟩:=Rw HR.row he;have HK:=aQe jD;clear he oV;by_cases h1:0<e.k;{go_wp2_with (at_builtin;apply aQU _ J _ _ 49 J w 55 i0 _ 4 40 Y0 dL fM ed fV J Xa _ (lJ<|L.take k).length (jL<|lJ<|L.take k) J (HO.o.alloc _) wr 1 1 [e.k,e.p,e.t,e.s] J J aQz Y7 Xa (by have:=HG.o;have:=HB.o;have:=HK.o;exact aQp) (by have:=HG.o;have:=HB.o;omega) Xz (wr+1) Xy;intro gg jG w3 jO gW lX mW);go_roundw;(case rel=>have yh:Fr (λx=>dw u3=Y x) wr w3:=(eH.alloc _).grown gW λx ex=>.inl ex;refine⟨k+1,YV,Y4,?_,HF.t yh λx hx=>.inr (HO.lt x hx).1⟩;rw[HT,if_pos h1,adh];simpa[dF.cs]using jO);case measure=>simp[bM]<;>omega};{go_wp2;go_roundw;(case rel=>exact⟨k+1,YV,Y4,by rw[HT,if_neg h1,pV];exact HO,HF.o⟩);case measure=>simp[bM]<;>omega}};have HT:I (L.take k=L):=xN (by omega);go_wp2;go_ret;exact⟨_,J,by have:=HO.o;rw[HT.o]at this;simp_all,HF.o⟩
def Np(L:List dF):Nat:=(lJ L).findIdx λe=>lI L e.p e.t
def anp(h:iU w B yb u L)(hb:O L*40<=2^47):aH aj 147 #[ak yb] w λe w'=>e=aU (.int .i64<|Np L)/\Fr aB w w':=by have H:=aQe h;have HB:=aQe hb;clear h hb;go_enter func147,ntmps147;go_wp2_with (go_at_call 146;apply(ado H HB).z;rintro e w1 ⟨v1,rfl,IV,aI⟩;have HO:=aQe IV;have je:=aQe aI;clear IV aI);obtain⟨va,lY,rfl,vM⟩:=Rx HO;unfold cZ at vM;go_loopw [4] (λi w'=>∃k,k<=(lJ L).length/\i=k/\Fr aB w1 w'/\∀j x,j<k->(lJ L)[j]? =Y x->lI L x.p x.t=ah) λi _=>(lJ L).length-(bM i).toNat;(case atStart=>exact⟨0,jQ _,J,Fr.refl _ _,YV⟩);case round=>obtain⟨k,hk,rfl,bT,lT⟩:=hrel;have HF:=aQe bT;(have HR:=aQe<|(je.t bT Zv).drew.qw H id Zv);(have DF:=aQe<|bT.ownsRow HO Zv);have HA:=aQe lT;clear bT lT;by_cases jD:k<(lJ L).length;{have⟨e,he⟩:∃e,(lJ L)[k]? =Y e:=Y0;rcases O6 DF with⟨_,h0⟩|⟨g,cap,e1,Ej,oV,G6,hg⟩;{grind};{simp only[aQQ]at e1;obtain⟨rfl,_,rfl⟩:=e1;have⟨r0,r1,r2,r3⟩:=Rw DF he;have HE:=aQe he;have dL:(0:Int)<=(k:Int):=YV;(have lU:(k:Int)<((lJ L).length:Int):=YV);clear he oV;cases ho:lI L e.p e.t;{(have Em:I (∀j x,j<k+1->(lJ L)[j]? =Y x->lI L x.p x.t=ah):=λj x hj hx=>aQO);go_wp2_with fail;go_region_held3 (λw'=>au w' (g,k*4+1)=Y (V Z e.p)/\au w' (g,k*4+2)=Y (V Z e.t)) (first|go_keep|(go_split_ands;refine⟨?_,?_⟩;{(rw[bJ.cell (p:=(g,k*4+1)) hg id];omega)};(rw[bJ.cell (p:=(g,k*4+2)) hg id];omega))) ((go_at_call 137;apply(xR HR _ _).z;rintro x w2 ⟨rfl,bJ⟩;rw[ho]));go_wp2;go_roundw;(case rel=>exact⟨k+1,YV,Y4,HF.drew.t bJ Zv,Em⟩);case measure=>simp[bM]<;>omega};have HS:I (Np L=k):=agZ _ _ k e HA HE ho;go_wp2_with fail;go_region_held3 (λw'=>au w' (g,k*4+1)=Y (V Z e.p)/\au w' (g,k*4+2)=Y (V Z e.t)) (first|go_keep|(go_split_ands;refine⟨?_,?_⟩;{(rw[bJ.cell (p:=(g,k*4+1)) hg id];omega)};(rw[bJ.cell (p:=(g,k*4+2)) hg id];omega))) ((go_at_call 137;refine(xR HR _ _).z ?_;rintro x w2 ⟨rfl,bJ⟩;rw[ho]));go_wp2;go_ret;exact⟨by rw[HS]<;>rfl,je.t (HF.drew.t bJ Zv) Zv⟩}};have HS:I (Np L=(lJ L).length):=amY _ _ (λj x hx=>HA j x (by grind) hx);go_wp2;go_ret;exact⟨by rw[HS]<;>rfl,je.t HF Zv⟩
end
section
attribute [local go_sem ↓] Go.wp_at_zero Go.wp_at_succ
def Nq(e x:dF):Bool:=decide (x.k=2)&&decide (x.p=e.p)&&decide (x.t=e.t)
def vZ(H:List dF)(e:dF)(i j:Nat):Bool:=((H.take j).drop i).any<|Nq e
def axt(H e i):vZ H e i i=false:=by simp[vZ]
variable{aPS e i B w}
def axu{x j}(BN:i<=j)(hx:aPS[j]? =Y x):vZ aPS e i (j+1)=(vZ aPS e i j||Nq e x):=by unfold vZ;grind[List.take_add_one]
def O7(aPS:List dF)(e:dF)(i:Nat):Bool:=vZ aPS e i aPS
def Cm(aPS:List dF)(f m:Int)(o:List Rec)(i:Nat)(e:dF):Bool:=decide (e.k=1)&&O7 aPS e i&&decide (f<=(i:Int))&&decide ((o:Int)<m)
def mF(aPS:List dF)(f m:Int):Nat->List Rec|0=>[]|i+1=>match aPS[i]? with|some e=>if Cm aPS f m (mF aPS f m i) i e then mF aPS f m i++[⟨i,e.p,e.s⟩]else mF aPS f m i|none=>mF aPS f m i
def anq{f m}(H:aPS[i]? =Y e):mF aPS f m (i+1)=if Cm aPS f m (mF aPS f m i) i e then mF aPS f m i++[⟨i,e.p,e.s⟩]else mF aPS f m i:=by simp[mF,H]
def anr(aPS:List dF)(f m:Int):∀i,(mF aPS f m i).length<=i|0=>(by simp[mF])|i+1=>by have:=anr aPS f m i;simp only[mF];grind
def YX(L:List dF)(f m:Int):List Rec:=mF (lJ L) f m<|Np L
def axv(L):Np L<=(lJ L).length:=List.findIdx_le_length
def axw{B' v o g n n' cap xs ys}(h:bI w B 55 4 v n xs)(ho:bI w B' 94 3 o n' ys)(hv:v=aP (Y ⟨g,0,U⟩) n cap):dw o≠g:=by intro e;subst hv;rcases ho.2 with⟨rfl,_⟩|⟨g2,atT,aL7,rfl,_,JZ,_⟩;{simp[Value.ownBlock]at e};simp[Value.ownBlock]at e;rcases h.2 with⟨H,_⟩|⟨g3,aJR,aL8,H,_,hg3,_⟩;{cases H};grind
theorem axx{yb u L}(h:iU w B yb u L)(hb:O L*40<=2^47)(f m):aH aj 149 #[ak yb,V Z f,V Z m] w λe w'=>∃v',e=aU v'/\bI w' w 94 3 v' (YX L f m).length (tq<|YX L f m)/\Fr aB w w':=by have⟨i0,dL,fM,ed,fV⟩:=aQX ag1;have H:=aQe h;have HB:=aQe hb;have HBA:I ((lJ L).length<=O L):=AX _ _;clear h hb;go_enter func149,ntmps149;go_wp2_with (first|(go_at_call 146;apply(ado H HB).z;rintro e w1 ⟨v1,rfl,IV,aI⟩;have HO:=aQe IV;have je:=aQe aI;clear IV aI)|(go_at_call 147;apply(anp (je.qw H id λ_ _=>id) HB).z;rintro e w2 ⟨rfl,bJ⟩;have uT:=aQe<|je.t bJ dA;have DF:=aQe<|bJ.ownsRow HO λ_ _=>id;clear bJ));have J4:=axv L;have HRF:I (YX L f m=mF (lJ L) f m (Np L)):=J;generalize Np L=S at*;generalize lJ L=aPS at*;obtain⟨va,lY,rfl,vM⟩:=Rx DF;unfold cZ at vM;go_loopw [7,10] (λo iv w'=>∃i,i<=S/\iv=V Z i/\Fr aB w w'/\bI w' (M (R w)) 55 4 (.slice va (O aPS) lY) (O aPS) (jL aPS)/\bI w' (M (R w)) 94 3 o (mF aPS f m i).length (tq<|mF aPS f m i)) λ_ iv _=>S-(bM iv).toNat;(case atStart=>exact⟨0,jQ _,J,uT,DF,aQS _ _ _ _⟩);case round=>obtain⟨i,hi,rfl,bT,hA,fK⟩:=hrel;have HF:=aQe bT;have HA:=aQe hA;obtain⟨oa,EL,rfl⟩:=ana fK;have HG:=aQe fK;have gV:=bT.size;have zk:=anr aPS f m i;clear bT hA fK;by_cases aO:i<S;{have⟨e,he⟩:∃e,aPS[i]? =Y e:=⟨_,gG YV⟩;rcases O6 HA with⟨_,h0⟩|⟨g,cap,e1,Ej,oV,G6,hg⟩;{rw[h0]at he;simp at he};{simp only[aQQ]at e1;obtain⟨rfl,_,rfl⟩:=e1;have U5:=aQe<|axw HA HG J;have HC:I (∀k x,aPS[k]? =Y x->au wr (g,k*4)=Y (V Z x.k)/\au wr (g,k*4+1)=Y (V Z x.p)/\au wr (g,k*4+2)=Y (V Z x.t)/\au wr (g,k*4+3)=Y (dN x.s)):=λk x hx=>Rw HA hx;have⟨r0,r1,r2,r3⟩:=HC i e he;have HE:=aQe he;(have hiA:i<O aPS:=YV);clear he oV;go_wp2_with fail;go_loopw [11,12] (λc kv w'=>∃k,i<=k/\k<=O aPS/\kv=V Z k/\c=aA (vZ aPS e i k)/\∃q,w'=wr.drewN q) (λ_ kv _=>O aPS-(bM kv).toNat);(case atStart=>exact⟨i,fC _,YV,J,by rw[axt],0,J⟩);case round=>obtain⟨k,aX,jH,rfl,rfl,q,rfl⟩:=hrel;by_cases axz:k<O aPS;{have⟨x,hx⟩:∃x,aPS[k]? =Y x:=⟨_,gG axz⟩;have⟨s0,s1,s2,s3⟩:=HC k x hx;have HT:I (vZ aPS e i (k+1)=(vZ aPS e i k||Nq e x)):=axu aX hx;clear hx;generalize vZ aPS e i k=c at HT;cases c;{by_cases xC:x.k=2;{(have axA:(x.k==2)=true:=by simpa using xC);by_cases Yc:x.p=e.p;{(have axB:(x.p==e.p)=true:=by simpa using Yc);by_cases QI:x.t=e.t;{(have axC:(x.t==e.t)=true:=by simpa using QI);(have zi:I (vZ aPS e i (k+1)=A):=by show vZ aPS e i (k+1)=A;rw[HT];simp[Nq,xC,Yc,QI]);clear HT Yc QI;go_wp2_with fail;go_quiet (fail);go_wp2;go_roundw;(case rel=>exact⟨k+1,YV,YV,Y4,by rw[zi],q+nq,aQy⟩);case measure=>simp[bM]<;>omega};{(have axC:(x.t==e.t)=false:=by simpa using QI);(have zi:I (vZ aPS e i (k+1)=ah):=by show vZ aPS e i (k+1)=ah;rw[HT];simp[Nq,QI]);clear HT Yc;go_wp2_with fail;go_quiet (fail);go_wp2;go_roundw;(case rel=>exact⟨k+1,YV,YV,Y4,by rw[zi],q+nq,aQy⟩);case measure=>simp[bM]<;>omega}};{(have axB:(x.p==e.p)=false:=by simpa using Yc);(have zi:I (vZ aPS e i (k+1)=ah):=by show vZ aPS e i (k+1)=ah;rw[HT];simp[Nq,Yc]);clear HT;go_wp2_with fail;go_quiet (fail);go_wp2;go_roundw;(case rel=>exact⟨k+1,YV,YV,Y4,by rw[zi],q+nq,aQy⟩);case measure=>simp[bM]<;>omega}};{(have axA:(x.k==2)=false:=by simpa using xC);(have zi:I (vZ aPS e i (k+1)=ah):=by show vZ aPS e i (k+1)=ah;rw[HT];simp[Nq,xC]);clear HT;go_wp2_with fail;go_quiet (fail);go_wp2;go_roundw;(case rel=>exact⟨k+1,YV,YV,Y4,by rw[zi],q+nq,aQy⟩);case measure=>simp[bM]<;>omega}};{(have zi:I (vZ aPS e i (k+1)=A):=by show vZ aPS e i (k+1)=A;rw[HT];simp);clear HT;go_wp2_with fail;go_quiet (fail);go_wp2;go_roundw;(case rel=>exact⟨k+1,YV,YV,Y4,by rw[zi],q+nq,aQy⟩);case measure=>simp[bM]<;>omega}};(have hkA:k=O aPS:=YV);subst hkA;have HN:I (mF aPS f m (i+1)=if Cm aPS f m (mF aPS f m i) i e then mF aPS f m i++[⟨i,e.p,e.s⟩]else mF aPS f m i):=anq HE;have D:Fr aB wr (wr.drewN q):=eH.drewN q;have YY:=aQe<|D.ownsRow HA λ_ _=>id;have O8:=aQe<|D.ownsRow HG λ_ _=>id;have J5:=aQe<|HF.drewN q;clear D;by_cases Fv:Cm aPS f m (mF aPS f m i) i e=A;{have hk:=Fv;simp only[Cm,pq,OU,O7]at hk;have⟨⟨⟨t1,t2⟩,t3⟩,t4⟩:=hk;(have DI:I (mF aPS f m (i+1)=mF aPS f m i++[⟨i,e.p,e.s⟩]):=by show mF aPS f m (i+1)=_;rw[HN,if_pos Fv]);have aL9:(0:Int)<=(i:Int):=Int.natCast_nonneg _;(have aMa:(i:Int)<(O aPS:Int):=YV);have hxx:(wr.drewN q).heap.size=M (R wr):=J;clear Fv HN;go_wp2_with fail;go_region_held3 (λw'=>au w' (g,i*4+1)=Y (V Z e.p)/\au w' (g,i*4+3)=Y (dN e.s)) (first|go_keep|(go_split_ands;refine⟨?_,?_⟩;{(rw[gW.cell_far (g,i*4+1) Xz<|Ne.s U5];assumption)};(rw[gW.cell_far (g,i*4+3) Xz<|Ne.s U5];assumption))) ((apply aRd _ aQr _ _ _ aQr (M (R w)) 94 i0 _ 3 32 underlying67 dL fM ed fV J YV _ (mF aPS f m i).length (tq<|mF aPS f m i) aQr ((O8.alloc _).drew) (M (R wr)) 1 1 [V Z i,V Z e.p,dN e.s] aQr aQr (World.news_of_block (cs:=#[V Z i,V Z e.p,dN e.s]) (t:=94) (fr:=(0,0))<|heap_alloc_new wr _) Y7 YV (by have:=HB;have:=HBA;exact aQp) (by have:=HB.o;have:=HBA.o;omega) Xz (M (R wr)+1) Xy;intro gg jG w3 jO gW lX mW));go_wp2;go_roundw;(case rel=>have yh:Fr (λx=>Value.ownBlock (.slice oa (mF aPS f m i).length EL)=Y x) (wr.drewN q) w3:=(eH.alloc _).drew.grown gW λx ex=>.inl ex;refine⟨i+1,YV,Y4,J5.t yh λx hx=>.inr (O8.lt x hx).1,yh.ownsRow YY (λx hx e2=>U5 (by simp only[Value.ownBlock,iR]at hx;rw[hx];exact e2)),?_⟩;rw[DI,am6];simpa[Rec.cs]using jO);case measure=>simp[bM]<;>omega};(have DI:I (mF aPS f m (i+1)=mF aPS f m i):=by show mF aPS f m (i+1)=_;rw[HN,if_neg Fv]);(have hk:¬(e.k=1/\vZ aPS e i (O aPS)=A/\f<=(i:Int)/\((mF aPS f m i).length:Int)<m):=by rintro⟨t1,t2,t3,t4⟩;exact Fv<|by simp[Cm,O7,t1,t2,t3,t4]);clear Fv HN;by_cases t1:e.k=1;{cases t2:vZ aPS e i (O aPS);{go_wp2;go_roundw;(case rel=>exact⟨i+1,YV,Y4,J5,YY,by rw[DI];exact O8⟩);case measure=>simp[bM]<;>omega};by_cases t3:f<=(i:Int);{have t4:¬((mF aPS f m i).length:Int)<m:=λh=>hk ⟨t1,t2,t3,h⟩;clear hk;go_wp2;go_roundw;(case rel=>exact⟨i+1,YV,Y4,J5,YY,by rw[DI];exact O8⟩);case measure=>simp[bM]<;>omega};{clear hk;go_wp2;go_roundw;(case rel=>exact⟨i+1,YV,Y4,J5,YY,by rw[DI];exact O8⟩);case measure=>simp[bM]<;>omega}};{(have t1':(e.k==1)=false:=by simpa using t1);clear hk;go_wp2;go_roundw;(case rel=>exact⟨i+1,YV,Y4,J5,YY,by rw[DI];exact O8⟩);case measure=>simp[bM]<;>omega}}};(have HS:I (i=S):=by show i=S;omega);go_wp2;go_ret;exact⟨_,J,by rw[HRF,<-HS];exact HG,HF⟩
end
section
def Ry:(prog.info? 3).map (λi=>(i.zero,i.size,i.bytes))=(Y<|V Z 0,1,8):=KG
def adp:ai->Nat| .slice _ n _=>n|_=>0
def dY(l:List Int):List Value:=l.map<|Value.int .i64
variable{w:ae}{B:Nat}{v:ai}{l:List Int}
theorem U6(h:bI w B 3 1 v l (dY l)):(v=aP U 0 0/\l=[])\/∃g cap,v=aP (Y ⟨g,0,U⟩) l cap/\l<=cap/\cap<=cZ/\B<=g/\g<w:=by rcases h.2 with⟨hv,h0⟩|⟨g,cap,H,hv,hb,hg,h1,h2,_⟩;{grind};grind
theorem Jl{g n cap}(h:bI w B 3 1 (aP (Y ⟨g,0,U⟩) n cap) (O l) (dY l)){k x}(H:l[k]? =Y x):w ⟨g,k,U⟩=V Z x:=by have:=h.cells J k x (by simp[dY,H]);grind[Addr.add_lit]
def jg(h:bI w B 3 1 v l (dY l)):∃a cap,v=.slice a l cap/\l<=maxLen:=by grind[U6]
structure Rz(L:List dF)(S:List Int):Prop where
 rising:S.Pairwise (· < ·)
 mem:∀x,x∈S↔∃e∈L,e.p=x/\lI L e.p e.t=A
def RD(L:List dF)(T:List Int)(e:dF):Prop:=lI L e.p e.t=A/\∀y∈T,y<e.p
def Found(L:List dF)(T:List Int)(j:Nat)(H:Bool)(b:Int):Prop:=(H=ah/\∀e∈L.take j,¬RD L T e)\/(H=A/\(∃e∈L.take j,RD L T e/\e.p=b)/\∀e∈L.take j,RD L T e->b<=e.p)
variable{L:List dF}{j n:Nat}{x:dF}{fd:Bool}{b y:Int}{S:List Int}
theorem YZ{e}(H:L[j]? =x):e∈L.take (j+1)↔e∈L.take j\/e=x:=by rw[uz,H];simp
def Found.skip{T}(h:Found L T j fd b)(hx:L[j]? =x)(hc:¬RD L T x\/(fd=A/\b<=x.p)):Found L T (j+1) fd b:=by rcases h with⟨H,h2⟩|⟨H,⟨e0,h2,h3⟩,h4⟩;{refine .inl ⟨H,λe he=>?_⟩;grind[YZ]};refine .inr ⟨H,⟨e0,(YZ hx).2 h2,h3⟩,λe he BO=>?_⟩;grind[YZ]
def Found.lH{T}(h:Found L T j fd b)(hx:L[j]? =x)(hc:RD L T x)(hb:fd=ah\/x.p<b):Found L T (j+1) A x.p:=by refine .inr ⟨J,(by grind[YZ]),λe H BO=>?_⟩;rcases(YZ hx).1 H with H|rfl;{rcases h with⟨h1,h2⟩|⟨h1,_,h4⟩;{grind};grind};omega
def ag4(h:S.Pairwise (· < ·)){x}(hx:S[n]? =Y x)(hy:y∈S.take n):y<x:=by grind[List.getElem_of_mem,List.pairwise_iff_getElem]
def Found.none(H:Rz L S)(h:Found L (S.take n) L ah b):S.take n=S:=by rcases h with⟨_,h2⟩|⟨h1,_⟩;{apply xN;apply Nat.le_of_not_lt;intro hn;have hx:=gG hn;have⟨e,he,hp,ho⟩:=(H.mem S[n]).1 Zv;refine h2 e Zv ⟨ho,λy hy=>?_⟩;rw[hp];exact ag4 H.rising hx hy};grind
def Found.next(H:Rz L S)(h:Found L (S.take n) L A b):S[n]? =b:=by rcases h with⟨h1,_⟩|⟨_,⟨e,h2,h3,h4⟩,h5⟩;{cases h1};rw[xN YV]at h2;have hb:=(H.mem b).2 ⟨e,h2,h4,h3.1⟩;have⟨i,hi,hib⟩:=UA hb;(have iy:¬i<n:=λaO=>by have:=h3.2 b (by grind[List.mem_take_iff_getElem]);omega);(have hn:n<S:=YV);have hx:=gG hn;have⟨e2,he2,jI,J6⟩:=(H.mem S[n]).1 Zv;have hle:=h5 e2 Zv ⟨J6,λy hy=>by rw[jI];exact ag4 H.rising hx hy⟩;grind[List.pairwise_iff_getElem,cases Rz]
def axE(h:S.Pairwise (· < ·)){p}(hy:S[n]? =y):(∀z∈S.take (n+1),z<p)↔y<p:=by constructor;{intro H;exact H y (by rw[uz,hy];simp)};intro hp z H;rw[uz,hy]at H;simp at H;rcases H with H|rfl;{have:=ag4 h hy H;omega};omega
def axF{yb u}(h:iU w B yb u L)(hS:Rz L S)(hb:(O S+1)*8<=2^47):aH aj 148 #[ak yb] w λe w'=>∃v',e=aU v'/\bI w' w 3 1 v' S (dY S)/\Fr aB w w':=by have⟨i0,dL,fM,ed,fV⟩:=aQX Ry;have H:=aQe h;have HS:=aQe hS;have HB:=aQe hb;obtain⟨ua,Nj,rfl,Nk⟩:=Rx h.row;unfold cZ at Nk;have aO:=h.lt;clear h hS hb;go_enter func148,ntmps148;go_wp2_with fail;go_loopw [3] (λo w'=>∃n,n<=O S/\bI w' w 3 1 o (S.take n).length (dY<|S.take n)/\Fr aB w w') (λo _=>O S-adp o);(case atStart=>exact⟨0,jQ _,aQS _ _ _ _,Fr.refl _ _⟩);case round=>rename ae=>wo;have⟨n,hn,fK,akR⟩:=hrel;(have qP:(S.take n).length=n:=Xz);have HF0:=aQe akR;obtain⟨oa,EL,rfl,_⟩:=jg fK;(have HO:I (bI wo w 3 1 (.slice oa n EL) n<|dY<|S.take n):=by rw[qP]at fK;exact fK);(have HOG:I (∀k x,(S.take n)[k]? =Y x->∃og,oa=Y ⟨og,0,U⟩/\og<wo/\au wo ⟨og,k,U⟩=Y (V Z x)/\n<=EL):=λk x hx=>by grind[U6,Jl]);have aNT:=akR.size;(have hSb:O S<2^63-1:=by have:=HB.o;omega);clear fK akR;rw[qP];clear qP;go_wp2_with fail;go_loopw [4,5,6] (λfv bv iv w'=>∃j fd b,j<=O L/\iv=V Z j/\fv=aA fd/\bv=V Z b/\Found L (S.take n) j fd b/\Fr aB wo w') (λ_ _ iv _=>O L-(bM iv).toNat);(case atStart=>exact⟨0,ah,0,jQ _,J,J,J,.inl ⟨J,λe he=>by simp at he⟩,Fr.refl _ _⟩);case round=>obtain⟨j,fd,b,hj,rfl,rfl,rfl,hfd,bT⟩:=hrel;have HF:=aQe bT;have HD:=aQe hfd;have HR:=aQe<|(HF0.t bT dA).qw H id λ_ _=>id;have k0:=cc HR.blk 0;have gV:=bT.size;clear bT hfd;by_cases jD:j<O L;{have⟨e,he⟩:∃e,L[j]? =Y e:=⟨_,gG jD⟩;rcases O6 HR.row with⟨_,h0⟩|⟨g,cap,e1,Ej,oV,G6,hg⟩;{rw[h0]at jD;simp at jD};{simp only[aQQ]at e1;obtain⟨rfl,_,rfl⟩:=e1;have⟨r0,r1,r2,r3⟩:=Rw HR.row he;have HE:=aQe he;clear he oV;cases n with|zero=>(cases ho:lI L e.p e.t;{have HX:=aQe<|HD.skip HE (.inl (λh=>by rw[h.1]at ho;cases ho));go_wp2_with (go_at_call 137;apply(xR ((aQ _).qw HR id λ_ _=>id) _ _).z;rintro x w1 ⟨rfl,aI⟩;rw[ho];have y1:au w1 (M (R wr),1)=Y (V Z e.p):=Fr.box aI id 1;have je:=aQe<|(HF.alloc _).t aI dA;clear aI);go_quiet (fail);go_wp2;go_roundw;(case rel=>exact⟨j+1,fd,b,YV,Y4,J,J,HX,je.drewN nq⟩);case measure=>simp[bM]<;>omega};have hc:RD L (S.take 0) e:=⟨ho,λy hy=>by simp at hy⟩;cases fd;{have HX:=aQe<|HD.lH HE hc (.inl J);clear hc;go_wp2_with (go_at_call 137;apply(xR ((aQ _).qw HR id λ_ _=>id) _ _).z;rintro x w1 ⟨rfl,aI⟩;rw[ho];have y1:au w1 (M (R wr),1)=Y (V Z e.p):=Fr.box aI id 1;have je:=aQe<|(HF.alloc _).t aI dA;clear aI);go_quiet (fail);go_wp2;go_roundw;(case rel=>exact⟨j+1,A,e.p,YV,Y4,J,J,HX,je.drewN nq⟩);case measure=>simp[bM]<;>omega};by_cases L9:e.p<b;{have HX:=aQe<|HD.lH HE hc (.inr L9);clear hc;go_wp2_with (go_at_call 137;apply(xR ((aQ _).qw HR id λ_ _=>id) _ _).z;rintro x w1 ⟨rfl,aI⟩;rw[ho];have y1:au w1 (M (R wr),1)=Y (V Z e.p):=Fr.box aI id 1;have je:=aQe<|(HF.alloc _).t aI dA;clear aI);go_quiet (fail);go_wp2;go_roundw;(case rel=>exact⟨j+1,A,e.p,YV,Y4,J,J,HX,je.drewN nq⟩);case measure=>simp[bM]<;>omega};{have HX:=aQe<|HD.skip HE (.inr ⟨J,YV⟩);clear hc;go_wp2_with (go_at_call 137;apply(xR ((aQ _).qw HR id λ_ _=>id) _ _).z;rintro x w1 ⟨rfl,aI⟩;rw[ho];have y1:au w1 (M (R wr),1)=Y (V Z e.p):=Fr.box aI id 1;have je:=aQe<|(HF.alloc _).t aI dA;clear aI);go_quiet (fail);go_wp2;go_roundw;(case rel=>exact⟨j+1,A,b,YV,Y4,J,J,HX,je.drewN nq⟩);case measure=>simp[bM]<;>omega})|succ n'=>have⟨y,hy⟩:∃y,S[n']? =Y y:=⟨_,gG YV⟩;obtain⟨og,rfl,axH,zc0,hoc⟩:=HOG n' y (by rw[List.getElem?_take_of_lt YV];exact hy);have zc:au wr (og,n')=Y (V Z y):=(HF.cell (p:=(og,n')) axH id).t zc0;(have Fz:og<M (R wr):=YV);have Nr:I ((∀z∈S.take (n'+1),z<e.p)↔y<e.p):=axE HS.rising hy;(have fE:((n':Int)+1==0)=false:=Xz);(have uU:((n':Int)+1-1)=n':=YV);clear hy zc0;cases ho:lI L e.p e.t;{have HX:=aQe<|HD.skip HE (.inl (λh=>by rw[h.1]at ho;cases ho));go_wp2_with (go_at_call 137;apply(xR ((aQ _).qw HR id λ_ _=>id) _ _).z;rintro x w1 ⟨rfl,aI⟩;rw[ho];have y1:au w1 (M (R wr),1)=Y (V Z e.p):=Fr.box aI id 1;have z1:au w1 (og,n')=Y (V Z y):=(aI.cell (p:=(og,n')) (by show og<_;simp<;>omega) id).t<|(aQV _ _ _ Fz).t zc;have je:=aQe<|(HF.alloc _).t aI dA;clear aI);go_quiet (fail);go_wp2;go_roundw;(case rel=>exact⟨j+1,fd,b,YV,Y4,J,J,HX,je.drewN nq⟩);case measure=>simp[bM]<;>omega};by_cases hyp:y<e.p;{have hc:RD L (S.take<|n'+1) e:=⟨ho,Nr.2 hyp⟩;cases fd;{have HX:=aQe<|HD.lH HE hc (.inl J);clear hc;go_wp2_with (go_at_call 137;apply(xR ((aQ _).qw HR id λ_ _=>id) _ _).z;rintro x w1 ⟨rfl,aI⟩;rw[ho];have y1:au w1 (M (R wr),1)=Y (V Z e.p):=Fr.box aI id 1;have z1:au w1 (og,n')=Y (V Z y):=(aI.cell (p:=(og,n')) (by show og<_;simp<;>omega) id).t<|(aQV _ _ _ Fz).t zc;have je:=aQe<|(HF.alloc _).t aI dA;clear aI);go_quiet (fail);go_wp2;go_roundw;(case rel=>exact⟨j+1,A,e.p,YV,Y4,J,J,HX,je.drewN nq⟩);case measure=>simp[bM]<;>omega};by_cases L9:e.p<b;{have HX:=aQe<|HD.lH HE hc (.inr L9);clear hc;go_wp2_with (go_at_call 137;apply(xR ((aQ _).qw HR id λ_ _=>id) _ _).z;rintro x w1 ⟨rfl,aI⟩;rw[ho];have y1:au w1 (M (R wr),1)=Y (V Z e.p):=Fr.box aI id 1;have z1:au w1 (og,n')=Y (V Z y):=(aI.cell (p:=(og,n')) (by show og<_;simp<;>omega) id).t<|(aQV _ _ _ Fz).t zc;have je:=aQe<|(HF.alloc _).t aI dA;clear aI);go_quiet (fail);go_wp2;go_roundw;(case rel=>exact⟨j+1,A,e.p,YV,Y4,J,J,HX,je.drewN nq⟩);case measure=>simp[bM]<;>omega};{have HX:=aQe<|HD.skip HE (.inr ⟨J,YV⟩);clear hc;go_wp2_with (go_at_call 137;apply(xR ((aQ _).qw HR id λ_ _=>id) _ _).z;rintro x w1 ⟨rfl,aI⟩;rw[ho];have y1:au w1 (M (R wr),1)=Y (V Z e.p):=Fr.box aI id 1;have z1:au w1 (og,n')=Y (V Z y):=(aI.cell (p:=(og,n')) (by show og<_;simp<;>omega) id).t<|(aQV _ _ _ Fz).t zc;have je:=aQe<|(HF.alloc _).t aI dA;clear aI);go_quiet (fail);go_wp2;go_roundw;(case rel=>exact⟨j+1,A,b,YV,Y4,J,J,HX,je.drewN nq⟩);case measure=>simp[bM]<;>omega}};{have HX:=aQe<|HD.skip HE (.inl λh=>hyp<|Nr.1 h.2);go_wp2_with (go_at_call 137;apply(xR ((aQ _).qw HR id λ_ _=>id) _ _).z;rintro x w1 ⟨rfl,aI⟩;rw[ho];have y1:au w1 (M (R wr),1)=Y (V Z e.p):=Fr.box aI id 1;have z1:au w1 (og,n')=Y (V Z y):=(aI.cell (p:=(og,n')) (by show og<_;simp<;>omega) id).t<|(aQV _ _ _ Fz).t zc;have je:=aQe<|(HF.alloc _).t aI dA;clear aI);go_quiet (fail);go_wp2;go_roundw;(case rel=>exact⟨j+1,fd,b,YV,Y4,J,J,HX,je.drewN nq⟩);case measure=>simp[bM]<;>omega}}};(have Dj:j=O L:=YV);subst Dj;have DF:=aQe<|HF.ownsRow HO λ_ _=>id;have Ie:=aQe<|HF0.t HF dA;cases fd;{have HT:=aQe<|HD.none HS;(have HL:I (n=O S):=by have:=jV List.length HT;simp at this;show n=O S;omega);go_wp2;go_ret;exact⟨_,J,by have:=DF;rw[HT,HL]at this;rw[HL];exact this,Ie⟩};{have HT:=aQe<|HD.next HS;have En:n<O S:=(kY.1 HT).1;(have Bd:I (S.take (n+1)=S.take n++[b]):=by show S.take (n+1)=_;rw[uz,HT];rfl);have hwz:=Ie.size;go_wp2_with (at_builtin;apply aQU _ J _ _ 43 J (M (R w)) 3 i0 _ 1 8 underlying43 dL fM ed fV J Xa _ n (dY<|S.take n) J (DF.alloc _) (M (R wr)) 1 1 [V Z b] J J (World.news_of_block (cs:=#[V Z b]) (t:=3) (fr:=(0,0))<|heap_alloc_new _ _) Y7 Xa (by have:=HB;exact aQp) (by have:=HB.o;omega) Xz (M (R wr)+1) Xy;intro gg jG w3 jO gW lX mW);go_roundw;(case rel=>have yh:Fr (λx=>Value.ownBlock (.slice oa n EL)=Y x) wr w3:=(eH.alloc _).grown gW λx ex=>.inl ex;refine⟨n+1,YV,?_,Ie.o.t yh λx hx=>.inr (DF.o.lt x hx).1⟩;rw[Bd.o];simpa[dY,af6 hn]using jO);case measure=>simp[adp]<;>omega}
end
section
def kJ(n:Nat)(mc:List ai):List Value:=(List.replicate n mc).flatten
theorem adq(n mc):(kJ n mc).length=n*mc:=by simp[kJ]
def anw(n mc):kJ (n+1) mc=kJ n mc++mc:=by simp[kJ,List.replicate_succ',List.flatten_append]
def ag5(mc:List ai):∀(n i c:Nat),i<n->c<O mc->(kJ n mc)[i*O mc+c]? =mc[c]?|0,_,_,h,_=>YV|n+1,i,c,h,hc=>by rw[anw];by_cases e:i<n;{rw[Q8];{exact ag5 mc n i c e hc};rw[adq];have:(i+1)*mc<=n*mc:=Yw _ e;grind};grind[adq]
variable{w:ae}{B wd g n cap:Nat}{ty:dB}{xs:List ai}{P:gB}
theorem U7(h:bI w B ty wd (aP (Y ⟨g,0,U⟩) n cap) n xs){j}(_hj:j<n*wd)(u):(aZ w (g,j) u).ownsRow B ty wd (aP g n cap) n (xs.set j u):=by refine⟨by simpa using h.1,?_⟩;rcases h.2 with⟨h1,_⟩|⟨g',cap',H,h1,hb,hg,h2,h3,h4,h5⟩;{cases h1};obtain⟨⟨rfl,_⟩,_,rfl⟩:=h1;refine .inr ⟨g,cap,H.setIfInBounds j u,J,hb,eX hg j u,h2,h3,Zv,?_⟩;grind[List.take_set]
theorem axI{B' m cap' ys}(h:bI w B ty wd (aP (Y ⟨g,0,U⟩) n cap) n xs)(hm:m<=n)(hy:ys=xs.take (m*wd))(hc:cap'=cap)(hB:B'<=B):w.ownsRow B' ty wd (aP g m cap') m ys:=by subst hy hc;have hle:m*wd<=n*wd:=Yw _ hm;refine⟨by rw[Rh,h.1];omega,?_⟩;rcases h.2 with⟨h1,_⟩|⟨g',c',H,h1,hb,hg,h2,h3,h4,h5⟩;{cases h1};obtain⟨⟨rfl,_⟩,_,rfl⟩:=h1;refine .inr ⟨g,cap',H,J,YV,hg,YV,h3,h4,?_⟩;grind
def axJ(w B t ty e i z size bytes)(ht:P.underlying t=Y (.slice e))(hi:P.info? e=Y i)(hz:i.zero=Y z) (afn:i.size=size)(hby:i.bytes=bytes)(hzs:z.cells.size=size)(v n xs)(fK:bI w B e size v n xs) (a c news)(hl:O news=1*size)(yN:∀j u,news[j]? =Y u->w (a.add j)=Y u)(h1:∀u∈news,u.oneCell'=A) (TU:n+1<=cZ)(afo:(n+1)*bytes<=2^47)(J7:B<=w):∃g cap w',(Builtin.append_ #[t,t] ty #[v,aP (Y a) 1 c]).run P w=.ok (aP (Y ⟨g,0,U⟩) (n+1) cap) w'/\bI w' B e size (aP g (n+1) cap) (n+1) (xs++news)/\ ((v=aP g n cap/\w.grownBy w' g)\/(g=w/\w.grownBy w' U)):=by
 subst afn hby;have akU:((n+1:Nat):Int)<=9223372036854775807:=by simp only[cZ]at TU;omega
 have H:(xs++news).length=(n+1)*i.size:=by rw[kZ,fK.1,hl,acO]
 have aMb:∀old,(w.drew.alloc<|.cells (xs.toArray++news.toArray++Builtin.zeroCells z.cells (grownCap w (n+1) old e-(n+1))) e).ownsRow B e _ _ _ _:=λold=>by have LY:=grownCap_ge w (n+1) old e;refine⟨H,.inr ⟨w,_,_,J,J7,heap_alloc_new _ _,LY,grownCap_le_maxLen w _ _ e TU,?_,?_⟩⟩;{(have:(grownCap w (n+1) old e)*i.size=(n+1)*i.size+(grownCap w (n+1) old e-(n+1))*i.size:=by rw[<-acO];grind);grind[size_zeroCells]};grind
 have aMc:∀o,w.grownBy (w.drew.alloc o) none:=λo=>⟨J,J,J,Xy,λk hk _=>Below.heap_alloc _ o k hk⟩;rcases fK.2 with⟨rfl,rfl⟩|⟨g,cap,cur,rfl,hbg,hg,hnc,oV,hcs,atW⟩;{have hx:xs=[]:=Y0;subst hx;(have hr:=run_append_nil w t ty e i z ht hi hz a 1 c _ hl yN YV YV YV);grind};by_cases Yd:n+1<=cap;{(have aJT:n*i.size+news<=cur.size:=by rw[hl,hcs,<-acO];exact Yw _ Yd);have hr:=run_append_room w t ty e i ht hi g n _ _ hg a 1 c _ hl yN h1 Yd aJT;refine⟨g,cap,_,hr,⟨H,.inr ⟨g,cap,_,J,hbg,setRow_heap w g _ _ e _ hg,Yd,oV,?_,?_⟩⟩,.inl ⟨J,⟨J,J,J,Xy,(by grind[setRow_other])⟩⟩⟩;{grind};grind};have hr:=run_append_grow w t ty e i z ht hi hz _ n cap xs fK.1 (fK.cells (g:=g) J) a 1 c news hl yN YV akU (growslice_fits YV afo);grind
def ag6(w){ops rest o a Q}(hgd:o.guard=U)(s x t)
 (ho:o.op=.call {callee:=.builtin .append,args:=#[s,x],argTypes:=#[t,t]})
 (B e i z size bytes)(ht:P.underlying t=Y (.slice e))(hi:P.info? e=Y i)(hz:i.zero=Y z)
 (afn:i.size=size)(hby:i.bytes=bytes)(hzs:z.cells.size=size)(v n xs)(hs:a.eval s=v)(fK:bI w B e size v n xs)
 (ad c news)(hx:a.eval x=aP (Y ad) 1 c)(hl:O news=1*size)(yN:∀j u,news[j]? =Y u->w (ad.add j)=Y u)(h1:∀u∈news,u.oneCell'=A)
 (TU:n+1<=cZ)(H:(n+1)*bytes<=2^47)(J7:B<=w)
 (h:∀g cap w',bI w' B e size (aP (Y ⟨g,0,U⟩) (n+1) cap) (n+1) (xs++news)->((v=aP g n cap/\w.grownBy w' g)\/(g=w/\w.grownBy w' U))->wpList P ops Q rest (a.put o.dst<|aP g (n+1) cap) w'):
 wpList P ops Q (o::rest) a w:=by
 refine aR4 hgd λK hK=>?_;have⟨g,cap,w',hr,h2,h3⟩:=axJ w B t o.type e i z _ bytes ht hi hz afn hby hzs v n xs fK ad c _ hl yN h1 TU H J7;unfold Oper.wp eG;simp only[ho,resolve,invoke,builtin,aRW,Sem.run_pure,Result.andThen_ok,acL,uj,uA,hs,hx,hr];exact hK _ _<|h g _ w' h2 h3
end
section
open Go.Shelf
def axK:Go.Shelf.Ren:=⟨λ|189=>123|125=>176|257=>175|128=>205|129=>206|294=>196|295=>197|296=>198|297=>199|298=>200|299=>201|216=>202|300=>203|301=>204|328=>207|329=>208|330=>209|331=>210|332=>211|215=>212|343=>213|n=>n,λ|28=>43|3=>3|46=>214|0=>0|51=>175|53=>172|4=>4|183=>253|182=>252|131=>257|5=>5|9=>9|218=>261|222=>264|228=>266|229=>267|n=>n,λ|n=>n⟩
def anx:Go.Proofs.Lays.n189 aj axK:={
 mixed:=KG
 f125:=func176.t<|jV _ KG
 f128:=func205.t<|jV _ KG
 f129:=func206.t<|jV _ KG
 f189:=func123.t<|jV _ KG
 f215:=func212.t<|jV _ KG
 f216:=func202.t<|jV _ KG
 f257:=func175.t<|jV _ KG
 f294:=func196.t<|jV _ KG
 f295:=func197.t<|jV _ KG
 f296:=func198.t<|jV _ KG
 f297:=func199.t<|jV _ KG
 f298:=func200.t<|jV _ KG
 f299:=func201.t<|jV _ KG
 f300:=func203.t<|jV _ KG
 f301:=func204.t<|jV _ KG
 f328:=func207.t<|jV _ KG
 f329:=func208.t<|jV _ KG
 f330:=func209.t<|jV _ KG
 f331:=func210.t<|jV _ KG
 f332:=func211.t<|jV _ KG
 f343:=func213.t<|jV _ KG
 t0:=underlying0
 a0:=isAgg0
 z0:=sizeOf0
 v0:=zeroValue0
 t3:=underlying3
 a3:=isAgg3
 z3:=sizeOf3
 v3:=zeroValue3
 t4:=underlying4
 a4:=isAgg4
 z4:=sizeOf4
 v4:=zeroValue4
 t5:=underlying5
 a5:=isAgg5
 z5:=sizeOf5
 v5:=zeroValue5
 t9:=underlying9
 a9:=isAgg9
 z9:=sizeOf9
 v9:=zeroValue9
 t28:=underlying43
 a28:=isAgg43
 z28:=sizeOf43
 v28:=zeroValue43
 t46:=underlying214
 a46:=isAgg214
 z46:=sizeOf214
 v46:=zeroValue214
 t51:=underlying175
 a51:=isAgg175
 z51:=sizeOf175
 v51:=zeroValue175
 t53:=underlying172
 a53:=isAgg172
 z53:=sizeOf172
 v53:=zeroValue172
 t131:=underlying257
 a131:=isAgg257
 z131:=sizeOf257
 v131:=zeroValue257
 t182:=underlying252
 a182:=isAgg252
 z182:=sizeOf252
 v182:=zeroValue252
 t183:=underlying253
 a183:=isAgg253
 z183:=sizeOf253
 v183:=zeroValue253
 t218:=underlying261
 a218:=isAgg261
 z218:=sizeOf261
 v218:=zeroValue261
 t222:=underlying264
 a222:=isAgg264
 z222:=sizeOf264
 v222:=zeroValue264
 t228:=underlying266
 a228:=isAgg266
 z228:=sizeOf266
 v228:=zeroValue266
 t229:=underlying267
 a229:=isAgg267
 z229:=sizeOf267
 v229:=zeroValue267}
open Go.Sort Go.RowKit in def slices_Sort_int(H off cap zs w)(hH:Holds (Value.int .i64) w H off zs.toArray)(Ot:H<w)(gV:O zs<4611686018427387904):aH aj 123 #[aP (Y (H,off)) zs cap] w λe w'=>e=dZ #[]/\∃n os,w'=grow (putRow (Value.int .i64) (Sort.ahead w n) H off (zs.mergeSort λx y=>decide<|x<=y).toArray) os:=Any.slices_Sort_int anx _ _ _ zs w hH Ot gV
def axL(p cap w):aH aj 123 #[.slice p 0 cap] w λe w'=>e=dZ #[]/\w'=w:=Any.slices_Sort_int_none anx p _ w
end
section
def KF(x y:Int):Bool:=decide<|x<=y
variable{w B v}
def axM{T}(h:bI w B 3 1 v (O T) (dY T))(hl:O T<4611686018427387904):aH aj 123 #[v] w λe w'=>e=dZ #[]/\bI w' B 3 1 v T (dY<|T.mergeSort KF)/\w.grownBy w' v.ownBlock:=by rcases h.2 with⟨rfl,h0⟩|⟨g,cap,cur,rfl,hb,hg,h1,H,h3,h4⟩;{exact(axL _ 0 w).z λe w' ⟨h1,H⟩=>by subst H;exact⟨h1,Y0,World.grownBy.refl _ _⟩};refine(slices_Sort_int g 0 _ T w (holds_of_blockI hg<|by simpa[dY]using h4) Zv hl).z λe w' ⟨h5,n,os,h6⟩=>?_;subst h6;exact⟨h5,ownsRow_sortedI Xy hb hg h1 H h3,grownBy_sortedI _⟩
def sD{B' ty wd n xs}(h:bI w B ty wd v n xs)(hB:B'<=B):bI w B' ty wd v n xs:=by refine⟨h.1,?_⟩;rcases h.2 with h1|⟨g,cap,H,h1,h2,h3⟩;{grind};exact .inr ⟨g,cap,H,h1,YV,h3⟩
structure EM(nw:Int->Option (Int×Bool))(D:DataW ai)(left:Lit->Bool)(T:List Int):Prop where
 nodup:T.Nodup
 wf:∀x∈T,fF x
 mem:∀x,fF x->(x∈T↔Maps.has D (.int .i64 x)=A/\left (.int .i64 x)=ah/\∃t,nw x=Y (t,A))
theorem axN(x y):(Lit.int .i64 y).sameKey (.int .i64 x)=decide (y=x):=by by_cases e:y=x;{subst e;rw[WideAt.sameKey_self<|by trivial];simp};grind[WideAt.sameKey_eq]
def EM.start(H D):EM H D (Maps.has D) []:=⟨List.nodup_nil,Zv,Zv⟩
theorem EM.step{H D left T}(h:EM H D left T){x t o}(hx:fF x)(hl:left (.int .i64 x)=A)(hh:Maps.has D (.int .i64 x)=A)(hn:H x=Y (t,o)):
 EM H D (λz=>left z&& !z.sameKey (.int .i64 x)) (if o then T++[x]else T):=by
 have aNV:∀y,(left (.int .i64 y)&& !(Lit.int .i64 y).sameKey (.int .i64 x))=ah↔left (.int .i64 y)=ah\/y=x:=(by grind[axN]);cases o
 ·refine{h with mem:=λy hy=>?_}
  grind[cases EM]
 ·refine⟨?_,?_,λy hy=>?_⟩
  ·grind[cases EM]
  ·grind[cases EM]
  grind[cases EM]
def axO{T:List Int}(h:T.Nodup):(T.mergeSort KF).Pairwise (· < ·):=have h1:=List.pairwise_mergeSort (le:=KF) (λa b c=>by simp[KF]<;>omega) (λa b=>by simp[KF]<;>omega) T;have h2:(T.mergeSort KF).Nodup:=(by grind[List.mergeSort_perm]);have h3:=h1.and h2;h3.imp (λ⟨a,b⟩=>by simp[KF]at a;omega)
def ag7{c d}(h:(DataW.held c:DataW ai)=.held d):c=d:=Zv
def anz{lb bm n s}(h:eY w B lb bm v n s)(hn:(n+1)*8<=2^47):aH aj 60 #[ak lb] w λe w'=>∃v' S,e=aU v'/\bI w' w 3 1 v' (O S) (dY S)/\Fr aB w w'/\S.Pairwise (· < ·)/\S<=n/\(∀x∈S,fF x)/\∀x,fF x->(x∈S↔∃t,s.nw x=Y (t,A)):=by obtain⟨i0,dL,fM,ed,fV⟩:=aQX Ry;have⟨D,fK,hD⟩:=h.map;have c2:=cc h.blk 2;have hkD:∀x,fF x->(∀z,D.atKey (.int .i64 x) (.held z)=.held ((lh s.nw x).getD z))/\Maps.has D (.int .i64 x)=(lh s.nw x).isSome:=λx hx=>hD (.int .i64 x) (.int .i64 x) (aRx Y0 hx);have HD:=aQe hkD;have HO:=aQe fK;have HZ:=aQe fK.size_le;have HN:=aQe hn;have hbm:=fK.lt;clear h hD hkD fK hn;go_enter func60,ntmps60;go_wp2_with (at_range;apply wpList_range_own _ J _ 161 J 3 189 Gi Y0 Bc bm n D J HO.o;intro w0 atX QJ AQ;have HR0:=aQe atX;have HG0:=aQe QJ;clear atX QJ AQ);go_frame;go_loopw [3] (λo w'=>∃left cnt T,w'.ranges aj 3 Bc bm w n D left cnt/\Fr aB w w'/\bI w' (w+1) 3 1 o (O T) (dY T)/\EM s.nw D left T/\O T+cnt<=Maps.size D/\M (R w)+1<=M (R w')) (λ_ w'=>w'.rangeLeft bm (M (R w)));(case atStart=>exact⟨_,_,[],HR0.o,eH.grown HG0.o Zv,aQS _ _ _ _,EM.start _ _,Xy,by have:=HR0.o.lt;omega⟩);case round=>have⟨left,cnt,T,hrg,bT,fK,anB,at1,gV⟩:=hrel;have U8:=aQe hrg;have HF:=aQe bT;have HW:=aQe fK;have HC:=aQe anB;have HCN:=aQe at1;have U9:=aQe gV;clear hrg bT fK anB at1 gV;go_wp2_with (at_next;refine wpList_next_ranges _ J _ J 3 Gi Bc (Value.int .i64) id (by grind[keyOf_int_inv,underlying3]) Y0 bm w n D left cnt J U8.o ?_ ?_);{intro IX zl;have HL:=aQe zl;clear IX zl;(have Nr:I (O T<4611686018427387904):=by have:=HCN.o;have:=HZ.o;have:=HN.o;show (O T)<4611686018427387904;omega);go_wp2_with (go_at_call 123;apply(axM HW.o Nr.o).z;rintro e w3 ⟨rfl,zS,hg3⟩;have HO3:=aQe zS;have O8:=aQe hg3;clear zS hg3);go_ret;refine⟨_,T.mergeSort KF,J,by rw[List.length_mergeSort];exact sD HO3.o YV,HF.o.grown O8.o (λk e=>.inr (by have:=(HW.o.lt k e).1;omega)),axO HC.o.nodup,by grind[List.length_mergeSort,Hid.o],(by grind[EM.wf,Hid.o,List.mergeSort_perm]),λx hx=>?_⟩;rw[(List.mergeSort_perm T KF).mem_iff,HC.o.mem x hx];refine⟨λh=>h.2.2,λ⟨t,ht⟩=>⟨?_,HL.o _,t,ht⟩⟩;rw[(HD.o x hx).2];simp[lh,ht]};intro x c kl yd yp w1 abV uw yM hv dR at6 abW AP Ou hen;obtain⟨x',ex,rfl,H⟩:=Maps.keyOf_int_inv underlying3 uw;cases ex;simp only[Bc,iR,Ri]at hv;obtain⟨rfl,rfl⟩:=hv;(obtain⟨t,o,LZ,rfl⟩:∃t o,s.nw x=Y (t,o)/\c=jf #[t,o]:=by have h1:=λz=>(dR<|.held z).s.t<|(HD.o x H).1 z;cases hq:s.nw x with|none=>have a:=ag7<|h1 A;have b:=ag7<|h1 ah;simp only[lh,hq,Option.map_none,Option.getD_none]at a b;grind|some to=>have a:=ag7<|h1 A;simp only[lh,hq,af5,iT]at a;grind);(have HH:I (Maps.has D (.int .i64 x)=A):=by show Maps.has D (.int .i64 x)=A;rw[(HD.o x H).2];simp[lh,LZ]);have CB:=aQe<|HC.o.step H yM HH.o LZ;have HR1:=aQe at6;(have je:=aQe<|HF.o.grown AP Zv);have J3:I (bI w1 (w+1) 3 1 u3 (O T)<|dY T):=(by grind[World.ownsRow.kept,Hid.o,row_ne_iter]);have RF:I (M (R w)+1<=M (R w1)):=(by grind);have HLT:I (abV<cnt):=abW;(try simp only[id]at hen);(try simp only[id]);clear uw yM dR at6 abW AP Ou LZ;cases o;{go_wp2;go_roundw;(case rel=>exact⟨_,abV,T,HR1.o.alloc _,je.o.alloc _,J3.o.alloc _,CB.o,by grind[Hid.o],by have:=RF.o;simp<;>omega⟩);case measure=>rw[(HR1.o.alloc _).left_eq,U8.o.left_eq];exact HLT.o};(have Nr:I (O T+1<=n):=by have:=HCN.o;have:=HZ.o;have:=HLT.o;show (O T)+1<=n;omega);go_wp2_with (at_builtin;apply aQU _ J _ _ 43 J (w+1) 3 i0 _ 1 8 Y0 dL fM ed fV J Xa _ (O T) (dY T) J ((J3.o.alloc _).alloc _) ⟨M (R w1)+1,0,U⟩ 1 1 [x] J J (by grind[World.news_of_block,ang]) Y7 Xa (by have:=Nr.o;have:=HN.o;exact aQp) (by grind[Hid.o]) (by have:=RF.o;simp<;>omega) (w1+2) Xy;intro gg jG w3 jO gW lX mW);(have HR3:=aQe<|((HR1.o.alloc _).alloc _).kept gW (row_ne_low J3.o YV)<|row_ne_low J3.o YV);have yh:Fr (λz=>dw u3=Y z) w1 w3:=((eH.alloc _).alloc _).grown gW λz ez=>.inl ez;have J5:=aQe<|je.o.t yh λz hz=>.inr (by have:=(J3.o.lt z hz).1;omega);have HS3:=aQe<|dX RF.o yh.size;(have HW3:I (bI w3 (w+1) 3 1 (aP gg (O T+1) jG) (T++[x]).length<|dY<|T++[x]):=by unfold I;simpa[dY]using jO);clear jO gW lX mW yh;go_roundw;(case rel=>exact⟨_,abV,T++[x],HR3.o,J5.o,HW3.o,CB.o,aQO,HS3.o⟩);grind[World.ranges.left_eq,Hid.o]
end
section
def tu(k:Nat):List Value:=[.int .i64<|-1-k]
def CE(k:Nat):List Value:=[.int .i64<|-1-k,V Z 0,V Z 0,dN ⟨#[]⟩]
def CG(k:Nat):List Value:=[.int .i64<|-1-k,V Z 0,dN ⟨#[]⟩]
def xU(H:List (ai×Nat)):List Value:=H.flatMap λo=>[o.1,o.2]
def axR(H l)(k:Nat):xU (H++[(l,k)])=xU H++[l,V Z k]:=by simp[xU]
def ag9:∀(l:List (ai×Nat)) (k:Nat) (e:ai×Nat),l[k]? =Y e->(xU l)[k*2]? =Y e.1/\(xU l)[k*2+1]? =Y (V Z e.2)|[],k,e,h=>aQB|x::r,0,e,h=>(by simp at h;subst h;simp[xU])|x::r,k+1,e,h=>by have:=ag9 r k e h;simp only[xU,Ad]at this⊢;grind
structure Shelf(w:ae)(B:Nat)(rH ty:dB)(wd:Nat)(mk:Nat->List ai)(v:ai)(outs:List (ai×Nat)):Prop where
 row:bI w B rH 2 v (O outs) (xU outs)
 ok:∀o∈outs,∃len,bI w B ty wd o.1 len<|kJ len<|mk o.2
variable{w B wd n ty Ov v xs}
def Fr.Jm{S w2}(f:Fr S w w2){rH mk H}(h:Shelf w B rH ty wd mk v H) (h1:∀k,dw v=Y k->¬S k)(h2:∀o∈H,∀k,o.1.ownBlock=Y k->¬S k):Shelf w2 B rH ty wd mk v H:=⟨f.ownsRow h.row h1,(by grind[cases Shelf,Fr.ownsRow])⟩
def aQi{B' H v' n' xs'}(h:bI w B ty wd v n xs)(h':bI w B' Ov H v' n' xs')(fE:ty≠Ov):∀k,dw v=Y k->dw v'≠k:=by intro k hk gI;rcases h.2 with⟨rfl,_⟩|⟨g,cap,cur,rfl,_,hg,_⟩;{simp[Value.ownBlock]at hk};rcases h'.2 with⟨rfl,_⟩|⟨g',cap',aNW,rfl,_,kF,_⟩;{simp[Value.ownBlock]at gI};simp[Value.ownBlock]at hk gI;grind
theorem aQh{b cs fr}(h:bI w B ty wd v n xs)(hb:w.heap[b]? =Y (.cells cs Ov fr))(fE:ty≠Ov):dw v≠Y b:=by intro H;rcases h.2 with⟨rfl,_⟩|⟨g,cap,cur,rfl,_,hg,_⟩;{simp[Value.ownBlock]at H};simp[Value.ownBlock]at H;grind
structure sF(w:ae)(B bb:Nat)(vi ve vr:ai)(oi oe dC:List (ai×Nat)):Prop where
 blk:w.heap[bb]? =Y (aC #[vi,ve,vr] 84 (0,0))
 si:Shelf w B 88 3 1 tu vi oi
 se:Shelf w B 90 55 4 CE ve oe
 sr:Shelf w B 92 94 3 CG vr dC
 hb:B<=bb
variable{mc lv l nn}
theorem sF.lt{bb vi H vr oi oe dC}(h:sF w B bb vi H vr oi oe dC):bb<w:=bF h.blk
def CJ(w:ae)(B:Nat)(ty:dB)(wd:Nat)(mc:List ai)(lv:ai)(nn:Nat)(l:ai):Prop:=(∃g cap m,lv=aP (Y ⟨g,0,U⟩) nn cap/\m<=nn/\l=aP g m cap)\/((∃H,bI w B ty wd l H<|kJ H mc)/\∀x,dw l=Y x->dw lv≠x)
theorem axS(mc){m}(hw:O mc=wd)(h:m<=n):kJ m mc=(kJ n mc).take (m*wd):=by obtain⟨d,rfl⟩:=Nat.exists_eq_add_of_le h;(have:kJ (m+d) mc=kJ m mc++kJ d mc:=by simp only[kJ,<-List.replicate_append_replicate,List.flatten_append]);grind[adq]
def CJ.owns(hw:O mc=wd)(h:CJ w B ty wd mc lv nn l)(ho:bI w B ty wd lv nn (kJ nn mc)):∃H,bI w B ty wd l H (kJ H mc):=by rcases h with⟨g,cap,m,rfl,hm,rfl⟩|h;{exact⟨m,(by grind[axI,axS])⟩};grind
theorem CJ.step{w W w1 B ty wd mc lv l nn g cap}(hw:O mc=wd)(h:CJ w B ty wd mc lv nn l)(ho:bI w B ty wd lv nn (kJ nn mc))(f:Fr aB w W) (hc:(lv=aP (Y ⟨g,0,U⟩) nn cap/\W.grownBy w1 g)\/(g=W/\W.grownBy w1 U)):CJ w1 B ty wd mc (aP g (nn+1) cap) (nn+1) l:=by rcases hc with⟨rfl,hg⟩|⟨rfl,hg⟩;{rcases h with⟨g',cap',m,e,hm,rfl⟩|⟨⟨H,hl⟩,hx⟩;{exact .inl Zv};have f1:Fr (λk=>k=g) w w1:=(f.z Zv).grown hg Zv;refine .inr ⟨⟨H,f1.ownsRow hl λk hk e=>?_⟩,λx xC=>by simpa[Value.ownBlock]using hx x xC⟩;subst e;exact hx k hk J};have f1:=f.grown hg Zv;have⟨H,hl⟩:=h.owns hw ho;refine .inr ⟨(by grind[Fr.ownsRow]),λx hx=>?_⟩;have:=(hl.lt x hx).2;have:=f.size;simp only[Value.ownBlock,ne_eq,iR];omega
theorem CJ.aW{S w1}(h:CJ w B ty wd mc lv nn l)(f:Fr S w w1)(hS:∀H xs,bI w B ty wd l H xs->∀k,dw l=Y k->¬S k):CJ w1 B ty wd mc lv nn l:=by rcases h with h|⟨⟨H,hl⟩,hx⟩;{exact .inl h};{exact .inr<|by grind[Fr.ownsRow]}
def aha{H}(hw:O mc=wd)(hl:O H=n*wd)(h:∀q,q<n*wd->H[q]? =(kJ n mc)[q]?):H=kJ n mc:=by apply af1;grind[adq]
end
section
structure Be(Bk:ae->ai->List (ai×Nat)->Prop)(B bb j:Nat)(rH ty:dB)(wd:Nat)(mk:Nat->List ai):Prop where
 sh:∀{w v o},Bk w v o->Shelf w B rH ty wd mk v o
 blk:∀{w v o},Bk w v o->∃cs:Array ai,w.heap[bb]? =Y (.cells cs 84 (0,0))/\cs[j]? =Y v
 hb:∀{w v o},Bk w v o->B<=bb
 on:∀{w w':ae} {v v' o o'} {S:Nat->Prop},Bk w v o->Fr S w w'->(∀k,S k->k=bb\/∃cs t fr,w.heap[k]? =Y (.cells cs t fr)/\(t=rH\/t=ty))->(∀cs,w.heap[bb]? =Y (.cells cs 84 (0,0))->w'.heap[bb]? =Y (.cells (cs.setIfInBounds j v') 84 (0,0)))->Shelf w' B rH ty wd mk v' o'->Bk w' v' o'
 ne:rH≠ty/\rH≠84/\ty≠84
 len:∀k,(mk k).length=wd
section
variable{Bk:ae->ai->List (ai×Nat)->Prop}{B bb j:Nat}{rH ty:dB}{wd:Nat}{mk:Nat->List ai}{w w1 W:ae}{v v' l lv:ai}{o news:List (ai×Nat)}{K nn:Nat}{xs:List ai}
variable{t:dB}{d n:Nat}{vi vr ve:ai}
def ahb{k}(h:bI w B t d v n xs)(H:dw v=Y k):∃cs fr,w.heap[k]? =Y (.cells cs t fr):=by rcases h.2 with⟨rfl,_⟩|⟨g,cap,cur,rfl,_,hg,_⟩;{simp[Value.ownBlock]at H};simp[Value.ownBlock]at H;subst H;exact⟨_,_,hg⟩
def Fr.eU{S H t' m}(f:Fr S w w1)(hS:∀k,S k->k=bb\/∃cs t fr,w.heap[k]? =Y (.cells cs t fr)/\(t=rH\/t=ty))(hb:∃cs fr,w.heap[bb]? =Y (.cells cs 84 fr))(h:Shelf w B H t' d m v o)(n:(H≠rH/\H≠ty/\H≠84)/\t'≠rH/\t'≠ty/\t'≠84):Shelf w1 B H t' d m v o:=by have⟨cs,fr,hb⟩:=hb;(have key:∀{t d n x xs},bI w B t d x n xs->t≠rH/\t≠ty/\t≠84->∀k,dw x=Y k->¬S k:=λh n k hk e=>by have⟨c1,f1,h1⟩:=ahb h hk;rcases hS k e with rfl|⟨c2,t2,f2,h2,e2⟩;{rw[h1]at hb;cases hb;exact n.2.2 J};rw[h1]at h2;cases h2;exact e2.e n.1 n.2.1);exact f.Jm h (key h.row n.1) λo ho=>have⟨len,hx⟩:=h.ok o ho;key hx n.2
def aMd{oi dC}:Be (λw v o=>sF w B bb vi v vr oi o dC) B bb 1 90 55 4 CE:=⟨λh=>h.se,λh=>⟨_,h.blk,J⟩,λh=>h.hb,λh f H hw hs=>⟨hw _ h.blk,f.eU H ⟨_,_,h.blk⟩ h.si Xa,hs,f.eU H ⟨_,_,h.blk⟩ h.sr Xa,h.hb⟩,Xa,λ_=>J⟩
def aMe{oe dC}:Be (λw v o=>sF w B bb v ve vr o oe dC) B bb 0 88 3 1 tu:=⟨λh=>h.si,λh=>⟨_,h.blk,J⟩,λh=>h.hb,λh f H hw hs=>⟨hw _ h.blk,hs,f.eU H ⟨_,_,h.blk⟩ h.se Xa,f.eU H ⟨_,_,h.blk⟩ h.sr Xa,h.hb⟩,Xa,λ_=>J⟩
def aMf{oi oe}:Be (λw v o=>sF w B bb vi ve v oi oe o) B bb 2 92 94 3 CG:=⟨λh=>h.sr,λh=>⟨_,h.blk,J⟩,λh=>h.hb,λh f H hw hs=>⟨hw _ h.blk,f.eU H ⟨_,_,h.blk⟩ h.si Xa,f.eU H ⟨_,_,h.blk⟩ h.se Xa,hs,h.hb⟩,Xa,λ_=>J⟩
variable(aPT:Be Bk B bb j rH ty wd mk)
def Be.lt(h:Bk w v o):bb<w:=let ⟨_,H,_⟩:=aPT.blk h;bF H
def Be.cell(h:Bk w v o):w (bb,j)=v:=let ⟨_,hb,H⟩:=aPT.blk h;(aJ hb j).t H
def Be.Zd(h:Bk w v o)(k):w.frozen? ⟨bb,k,U⟩=false:=let ⟨_,H,_⟩:=aPT.blk h;gJ H k
def Be.nb(h:Bk w v o)(hr:bI w B t d l n xs)(ht:t≠84):dw l≠bb:=let ⟨_,H,_⟩:=aPT.blk h;aQh hr H ht
def Be.put(h:Bk w v o)(f:Fr aB w W)(hg:W.grownBy w1 v.ownBlock) (fK:bI w1 B rH 2 v' (o+1) (xU o++[l,K]))(dR:∀k,dw v'=Y k->dw v=k\/w<=k)(hl:∃H,bI w B ty wd l H<|kJ H<|mk K):Bk (aZ w1 (bb,j) v') v' (o++[(l,K)])/\Fr (λk=>k=bb\/dw v=k) w (aZ w1 (bb,j) v'):=by have f1:Fr (λk=>dw v=k) w w1:=(f.z dA).grown hg λk e=>e;have f2:Fr (λk=>k=bb\/dw v=k) w (aZ w1 (bb,j) v'):=(f1.z λk h=>h).setCell (.inl<|.inl J) _;have hr:Fr (λk=>k=bb) w1 (aZ w1 (bb,j) v'):=(Fr.refl (λk=>k=bb) w1).setCell (p:=(bb,j)) (.inl J) _;have s:=aPT.sh h;have TV:=aPT.nb h s.row aPT.ne.2.1;have eU:∀{n y xs},bI w B ty wd y n xs->∀k,dw y=Y k->¬(k=bb\/dw v=k):=λhy k hk e=>e.e (λe=>aPT.nb h hy aPT.ne.2.2<|e▸hk) λe=>aQi hy s.row (Ne.s aPT.ne.1) k hk e;have lt:=aPT.lt h;refine⟨aPT.on h f2 (λk hk=>hk.imp id λhk=>let ⟨cs,fr,e⟩:=ahb s.row hk;⟨cs,_,fr,e,.inl J⟩) (λcs hc=>?_) ⟨?_,λx hx=>?_⟩,f2⟩;{rw[eX<|(f1.block bb lt TV).t hc]};{(have:=hr.ownsRow fK λk hk e=>(dR k hk).e (λa=>TV<|e▸a) λa=>by have:k=bb:=e;omega);simpa[axR]using this};simp only[yu,yQ]at hx;rcases hx with hx|rfl;{have⟨H,hy⟩:=s.ok x hx;exact⟨H,f2.ownsRow hy<|eU hy⟩};have⟨H,hy⟩:=hl;exact⟨H,f2.ownsRow hy<|eU hy⟩
def Be.grow(h:Bk w v (o++news))(Oo:bI w B ty wd lv nn xs)(f:Fr (λk=>dw lv=Y k) w w1) (hold:∀x∈o,∀k,x.1.ownBlock=Y k->dw lv≠k)(Ef:∀x∈news,∃H,bI w1 B ty wd x.1 H<|kJ H<|mk x.2):Bk w1 v (o++news):=by have s:=aPT.sh h;refine aPT.on h f (λk hk=>.inr (let ⟨cs,fr,e⟩:=ahb Oo hk;⟨cs,_,fr,e,.inr J⟩)) (λcs hc=>?_) ⟨f.ownsRow s.row λk hk e=>aQi s.row Oo aPT.ne.1 k hk e,λx hx=>?_⟩;{have⟨cs',hb,hj⟩:=aPT.blk h;rw[hc]at hb;cases hb;rw[f.block bb (aPT.lt h)<|aPT.nb h Oo aPT.ne.2.2,hc];congr 2;refine afZ λi=>?_;rw[alQ];split;{rename_i e;subst e;rw[hj];simp[(uZ.1 hj).1]};rfl};rcases yu.1 hx with hx|hx;{have⟨H,hy⟩:=s.ok x<|Yx _ hx;exact⟨H,f.ownsRow hy<|hold x hx⟩};exact Ef x hx
end
end
section
theorem axT:(prog.info? 88).map (λi=>(i.zero,i.size,i.bytes))=(Y<|jf #[aP U 0 0,V Z 0],2,32):=KG
theorem axU:(prog.info? 90).map (λi=>(i.zero,i.size,i.bytes))=(Y<|jf #[aP U 0 0,V Z 0],2,32):=KG
theorem axV:(prog.info? 92).map (λi=>(i.zero,i.size,i.bytes))=(Y<|jf #[aP U 0 0,V Z 0],2,32):=KG
variable{n c b m xs mc Ov cs}
theorem jR{w B ty H v}(h:bI w B ty H v n xs):∃a cap,v=.slice a n cap/\n<=maxLen:=by rcases h.2 with⟨rfl,rfl⟩|⟨g,cap,cur,rfl,_,_,h1,h2,_⟩;{grind};grind
theorem Ns{w B ty v H}(h:bI w B ty 2 v (O H) (xU H)):∃a cap,v=.slice a H cap/\H<=maxLen:=jR h
theorem adr{j}(h:(j+3)*b<=2^47)(hc:c<3):(j+c+1)*b<=2^47:=dX (Yw _ YV) h
theorem ahc{j}(H:0<b)(h:(j+3)*b<=2^47)(hc:c<3):j+c+1<=maxLen:=by have h1:=adr h hc;have h2:(j+c+1)*1<=(j+c+1)*b:=Nat.mul_le_mul_left _ H;exact aQp
theorem ahd(hm:m=n+(c+1))(h:(n+4)*32<=2^47)(hc:c<3):(m+1)*32<=2^47:=YV
theorem ahe(hm:m=n+(c+1))(h:(n+4)*32<=2^47)(hc:c<3):m+1<=maxLen:=by exact aQp
theorem anF{w B H wd v fr}(hb:w.heap[b]? =Y (.cells cs Ov fr))(h:bI w B H wd v n xs)(fE:H≠Ov):¬dw v=Y b:=aQh h hb fE
theorem anG{w w' W w1 B o l lv ty wd nn g cap}(hb:w'.heap[M (R w)]? =Y o)(Oo:∀k,dw lv=Y k->dw l=k\/w+1<=k)(hl:bI w B ty wd l n xs)(f:Fr aB w' W) (hc:(lv=aP (Y ⟨g,0,U⟩) nn cap/\W.grownBy w1 g)\/(g=W/\W.grownBy w1 U)):w1.heap[M (R w)]? =Y o:=by (have f1:Fr (λk=>dw lv=k) w' w1:=by rcases hc with⟨rfl,H⟩|⟨rfl,H⟩;{exact(f.z Zv).grown H (λk e=>by cases e;exact .inl J)};{exact(f.z Zv).grown H Zv});rw[f1.block _ Zv λe=>?_];{exact hb};rcases Oo _ e with h1|h1;{have:=(hl.lt _ h1).2;omega};omega
theorem anH{w4 W w5 B bb H ty wd v v2}(hb:w4.heap[b]? =Y (.cells cs ty (0,0)))(hr:bI w4 B Ov wd v n xs)(fE:Ov≠ty)(hbb:b≠bb)(f:Fr aB w4 W)(hg:W.grownBy w5 v.ownBlock):(aZ w5 ⟨bb,H,U⟩ v2).heap[b]? =Y (.cells cs ty (0,0)):=by have f1:Fr (λk=>k=bb\/dw v=k) w4 (aZ w5 (bb,H) v2):=(((f.z Zv).grown hg Zv)).setCell Zv _;grind[cases Fr,aQh]
def DJ:List ai->Nat->List ai->List ai|H,_,[]=>H|H,o,a::r=>DJ (H.set o a) (o+1) r
def Gj:ae->Nat->Nat->List ai->ae|w,_,_,[]=>w|w,g,o,a::r=>Gj (aZ w (g,o) a) g (o+1) r
theorem ahf:∀(mc H:List ai) (o:Nat),(DJ H o mc).length=O H|[],_,_=>J|a::r,H,o=>by simp[DJ,ahf r]
theorem ads:∀(mc H:List ai) (o q:Nat),o+O mc<=O H->(DJ H o mc)[q]? =if o<=q/\q<o+O mc then mc[q-o]? else H[q]?|[],H,o,q,_=>(by rw[if_neg Zv];rfl)|a::r,H,o,q,h=>by rw[DJ,ads r _ _ q Zv];grind
theorem ahg{ys j H}(hw:O mc=H)(hl:O ys=n*H)(hj:j<n)(h:∀q,q<j*H->ys[q]? =(kJ n mc)[q]?):∀q,q<(j+1)*H->(DJ ys (j*H) mc)[q]? =(kJ n mc)[q]? :=by intro q hq;subst hw;have hle:(j+1)*mc<=n*mc:=Yw _ hj;rw[acO,Nat.one_mul]at hle hq;rw[ads mc ys _ q YV];by_cases hc:j*mc<=q;{have:=ag5 mc n j (q-j*mc) hj YV;grind};grind
theorem Xb{B:Nat}{ty:dB}{wd g cap:Nat}:∀{mc:List ai} {w:ae} {H:List ai} {o:Nat},bI w B ty wd (aP (Y ⟨g,0,U⟩) n cap) n H->o+O mc<=n*wd->(Gj w g o mc).ownsRow B ty wd (aP (Y ⟨g,0,U⟩) n cap) n (DJ H o mc)|[],_,_,_,h,_=>h|a::r,w,H,o,h,hl=>by simp at hl;exact Xb (o:=o+1) (by grind[U7]) YV
theorem Fr.Gj{S:Nat->Prop}{a:ae}{g:Nat}:∀{w:ae} (_:Fr S a w) (_:S g\/a.heap.size<=g) (o:Nat) (mc:List ai),Fr S a (Gj w g o mc)|_,h,_,_,[]=>h|_,h,H,o,u::r=>Fr.Gj (by grind[Fr.setCell]) H _ r
theorem CJ.self{w B ty H l}(h:bI w B ty H l n (kJ n mc)):CJ w B ty H mc l n l:=by rcases h.2 with⟨rfl,rfl⟩|⟨g,cap,cur,rfl,_⟩;{exact .inr ⟨⟨0,h⟩,λx hx=>by simp[Value.ownBlock]at hx⟩};{exact .inl Zv}
section
variable{Bk B bb j rH ty wd mk w w' w1 W v v' v2 l lv o news nn hi g cap}
structure adt(Bk:ae->ai->List (ai×Nat)->Prop)(bb:Nat)(w w':ae)(v:ai)(o:List (ai×Nat))(l v':ai)(news:List (ai×Nat)):Prop where
 book:Bk w' v' (o++news)
 fr:Fr (λk=>k=bb\/dw v=Y k\/dw l=Y k) w w'
 mY:∀x∈news,∀k,x.1.ownBlock=Y k->dw l=Y k\/M (R w)<=k
 Xc:∀k,dw v'=Y k->dw v=Y k\/M (R w)<=k
structure CO(Bk:ae->ai->List (ai×Nat)->Prop)(B bb:Nat)(ty:dB)(wd:Nat)(mk:Nat->List ai)(w w':ae)(v:ai)(o:List (ai×Nat))(l lv v':ai)(news:List (ai×Nat))(nn hi:Nat):Prop where
 own:adt Bk bb w w' v o l v' news
 row:bI w' B ty wd lv nn (kJ nn<|mk (O o))
 new:∀x∈news,x.2=O o/\CJ w' B ty wd (mk (O o)) lv nn x.1
 RG:∀k,dw lv=Y k->dw l=Y k\/hi<=k
theorem CO.grown(h:CO Bk B bb ty wd mk w w' v o l lv v' news nn hi)(aPT:Be Bk B bb j rH ty wd mk)(hw:Bk w v o)(hhi:w<=hi)(aNX:hi<=w') (hold:∀x∈o,∀k,x.1.ownBlock=Y k->dw l≠k)(f:Fr aB w' W)(fK:bI w1 B ty wd (aP (Y ⟨g,0,U⟩) (nn+1) cap) (nn+1) (kJ nn (mk o)++mk o)) (hc:(lv=aP g nn cap/\W.grownBy w1 g)\/(g=W/\W.grownBy w1 U)):CO Bk B bb ty wd mk w w1 v o l (aP g (nn+1) cap) v' news (nn+1) hi:=by
 have f1:Fr (λk=>dw lv=k) w' w1:=by rcases hc with⟨rfl,hg⟩|⟨rfl,hg⟩;{exact(f.z dA).grown hg (λk e=>by cases e;exact .inl J)};{exact(f.z dA).grown hg λk e=>aQC}
 have fresh:∀x∈o,∀k,x.1.ownBlock=Y k->dw lv≠k:=λx H k hk e=>(h.RG k e).e (hold x H k hk) λh1=>by have⟨len,H⟩:=(aPT.sh hw).ok x H;have:=(H.lt k hk).2;omega
 have Ef:∀x∈news,x.2=o/\CJ w1 B ty wd (mk o) (aP g (nn+1) cap) (nn+1) x.1:=λx H=>⟨(h.new x H).1,(h.new x H).2.step (aPT.len _) h.row f hc⟩;have fD:bI w1 B ty wd (aP g (nn+1) cap) (nn+1) (kJ (nn+1)<|mk o):=by rw[anw];exact fK
 refine⟨⟨aPT.grow h.own.book h.row f1 fresh λx H=>?_,h.own.fr.t f1 λk hk=>?_,h.own.mY,h.own.Xc⟩,fD,Ef,λk hk=>?_⟩;{rw[(Ef x H).1];exact(Ef x H).2.owns (aPT.len _) fD};{rcases h.RG k hk with h1|h1;{exact .inl<|.inr<|.inr h1};{exact YV}};rcases hc with⟨rfl,hg⟩|⟨rfl,hg⟩;{exact h.RG k hk};{simp only[Value.ownBlock,iR]at hk;have:=f.size;exact YV}
theorem CO.put(h:CO Bk B bb ty wd mk w w' v o l lv v' news nn hi)(aPT:Be Bk B bb j rH ty wd mk)(hhi:w<=hi)(f:Fr aB w' W)(hg:W.grownBy w1 v'.ownBlock) (fK:bI w1 B rH 2 v2 ((o++news).length+1) (xU (o++news)++[lv,o]))(dR:∀k,dw v2=Y k->dw v'=k\/w'<=k):CO Bk B bb ty wd mk w (aZ w1 (bb,j) v2) v o l lv v2 (news++[(lv,O o)]) nn hi:=by have⟨lV,jI⟩:=aPT.put (l:=lv) (K:=o) h.own.book f hg fK dR ⟨_,h.row⟩;have eU:∀{n y xs},bI w' B ty wd y n xs->∀k,dw y=Y k->¬(k=bb\/dw v'=k):=λhy k hk e=>e.e (λe=>aPT.nb h.own.book hy aPT.ne.2.2<|e▸hk) λe=>aQi hy (aPT.sh h.own.book).row (Ne.s aPT.ne.1) k hk e;have gV:=h.own.fr.size;refine⟨⟨by rw[<-Jd];exact lV,h.own.fr.t jI λk hk=>?_,λx H k hk=>?_,λk hk=>?_⟩,jI.ownsRow h.row<|eU h.row,λx H=>?_,h.RG⟩;{rcases hk with e|e;{exact .inl<|.inl e};exact(h.own.Xc k e).imp (λh1=>.inr<|.inl h1) id};{simp only[yu,yQ]at H;rcases H with H|rfl;{exact h.own.mY x H k hk};{exact(h.RG k hk).imp id λh1=>YV}};{exact(dR k hk).e (h.own.Xc k) λh1=>YV};simp only[yu,yQ]at H;rcases H with H|rfl;{exact⟨(h.new x H).1,(h.new x H).2.aW jI λlen xs H=>eU H⟩};exact⟨J,CJ.self<|jI.ownsRow h.row<|eU h.row⟩
theorem CO.begin{n}{wr w3:ae}{ys}(H:Be Bk B bb j rH ty wd mk)(hw:Bk w v o)(hl:bI w B ty wd l n ys)(hold:∀x∈o,∀k,x.1.ownBlock=Y k->dw l≠k)(f:Fr (λx=>dw l=x) w wr)(hy:bI wr B ty wd l n (kJ n<|mk o)):Bk wr v o/\∀{W w3 v2 hi},Fr aB wr W->W.grownBy w3 v.ownBlock->bI w3 B rH 2 v2 (o+1) (xU o++[l,o])->(∀k,dw v2=Y k->dw v=k\/wr<=k)->CO Bk B bb ty wd mk w (aZ w3 (bb,j) v2) v o l l v2 [(l,o)] n hi:=by (have HB:Bk wr v o:=by have:=H.grow (news:=[]) (by rw[pV];exact hw) hl f hold Xy;rwa[pV]at this);refine⟨HB,λ{W w3 v2 hi} fW hg fK dR=>?_⟩;have⟨lV,jI⟩:=H.put (l:=l) (K:=o) HB fW hg fK dR ⟨_,hy⟩;have eU:∀k,dw l=Y k->¬(k=bb\/dw v=k):=λk hk e=>e.e (λe=>H.nb HB hy H.ne.2.2<|e▸hk) λe=>aQi hy (H.sh HB).row (Ne.s H.ne.1) k hk e;have hr:=jI.ownsRow hy eU;refine⟨⟨lV,(f.z λk h=>h).t jI λk hk=>.inl<|hk.imp id .inl,λx hx k hk=>?_,λk hk=>(dR k hk).imp id<|dX f.size⟩,hr,λx hx=>?_,λk hk=>hk⟩;{simp only[yQ]at hx;subst hx;exact .inl hk};simp only[yQ]at hx;subst hx;exact⟨J,CJ.self hr⟩
end
end
section
def axW(w a b c x):(binOp .neq 55 (jf #[V Z a,V Z b,V Z c,dN x])<|jf #[a,b,c,x]).run aj w=.ok ah w:=aQt
variable{w va vb}
def axX{rs}(ha:YW w va rs)(hb:YW w vb rs):aH aj 101 #[va,vb] w λe w'=>e=A/\∃q,w'=w.drewN q:=by
 obtain⟨a1,c1,rfl,oH⟩:∃a1 c1,va=.slice a1 rs c1/\rs<=maxLen:=by rcases ha with⟨rfl,rfl⟩|⟨g,cap,rfl,h1,h2,_⟩;{exact⟨U,0,J,jQ _⟩};exact⟨_,_,J,dX h1 h2⟩
 obtain⟨a2,c2,rfl⟩:∃a2 c2,vb=.slice a2 rs c2:=by rcases hb with⟨rfl,rfl⟩|⟨g,cap,rfl,h1,h2,_⟩;{exact⟨U,0,J⟩};exact⟨_,_,J⟩
 unfold cZ at oH;have HA:=aQe ha;have HB:=aQe hb;clear ha hb;go_enter func101,ntmps101;go_wp2_with fail;go_loopw [5] (λi w'=>∃k,k<=O rs/\i=k/\∃q,w'=w.drewN q) (λi _=>rs-(bM i).toNat);case atStart=>exact⟨0,jQ _,J,0,J⟩
 case round=>obtain⟨k,hk,rfl,q,rfl⟩:=hrel;by_cases aO:k<rs;{have⟨r,hr⟩:∃r,rs[k]? =Y r:=⟨_,gG aO⟩;(obtain⟨H,rfl,x0,x1,x2,x3⟩:∃H,a1=Y ⟨H,0,U⟩/\w (H,k*4)=Y (r.k)/\w (H,k*4+1)=Y (r.p)/\w (H,k*4+2)=Y (r.t)/\w (H,k*4+3)=Y (r.s):=by rcases HA with⟨_,h0⟩|⟨g,cap,e,h1,h2,h3⟩;{rw[h0]at aO;simp at aO};simp only[aQQ]at e;exact⟨g,e.1,h3 k r hr⟩);(obtain⟨g2,rfl,y0,y1,y2,y3⟩:∃H,a2=Y ⟨H,0,U⟩/\w ⟨H,k*4,U⟩=Y (r.k)/\w ⟨H,k*4+1,U⟩=Y (r.p)/\w ⟨H,k*4+2,U⟩=Y (r.t)/\w ⟨H,k*4+3,U⟩=Y (r.s):=by rcases HB with⟨_,h0⟩|⟨g,cap,e,h1,h2,h3⟩;{rw[h0]at aO;simp at aO};simp only[aQQ]at e;exact⟨g,e.1,h3 k r hr⟩);clear hr;go_wp2_with fail;go_quiet (fail);go_wp2;go_roundw;(case rel=>exact⟨k+1,YV,Y4,q+nq,aQy⟩);case measure=>simp[bM]<;>omega};go_wp2;go_ret;exact⟨J,q,J⟩
def ahh{B B' rs}(ha:bI w B 3 1 va (O rs) (dY rs))(hb:bI w B' 3 1 vb rs (dY rs)):aH aj 94 #[va,vb] w λe w'=>e=A/\∃q,w'=w.drewN q:=by obtain⟨a1,c1,rfl,oH⟩:=jg ha;obtain⟨a2,c2,rfl,_⟩:=jg hb;unfold cZ at oH;have HA:=aQe ha;have HB:=aQe hb;clear ha hb;go_enter func94,ntmps94;go_wp2_with fail;go_loopw [5] (λi w'=>∃k,k<=O rs/\i=k/\∃q,w'=w.drewN q) (λi _=>rs-(bM i).toNat);(case atStart=>exact⟨0,jQ _,J,0,J⟩);case round=>obtain⟨k,hk,rfl,q,rfl⟩:=hrel;by_cases aO:k<rs;{have⟨r,hr⟩:∃r,rs[k]? =Y r:=⟨_,gG aO⟩;(obtain⟨H,rfl,x0⟩:∃H,a1=Y ⟨H,0,U⟩/\w (H,k)=(r):=by rcases U6 HA with⟨_,h0⟩|⟨g,cap,e,_⟩;{rw[h0]at aO;simp at aO};simp only[aQQ]at e;obtain⟨rfl,_⟩:=e;exact⟨g,J,Jl HA hr⟩);(obtain⟨g2,rfl,y0⟩:∃H,a2=Y ⟨H,0,U⟩/\w ⟨H,k,U⟩=(r):=by rcases U6 HB with⟨_,h0⟩|⟨g,cap,e,_⟩;{rw[h0]at aO;simp at aO};simp only[aQQ]at e;obtain⟨rfl,_⟩:=e;exact⟨g,J,Jl HB hr⟩);clear hr;go_wp2_with fail;go_quiet (fail);go_wp2;go_roundw;(case rel=>exact⟨k+1,YV,Y4,q+nq,aQy⟩);case measure=>simp[bM]<;>omega};go_wp2;go_ret;exact⟨J,q,J⟩
def anI{k a b}(h:a=b):Ending.returned (.int k a)=aU (.int k b):=by rw[h]
end
section
variable{w:ae}{B bb wd c:Nat}{vi ve vr:ai}{ty:dB}{a:Option Addr}
def Fr.RH{H}(f:Fr aB w H){oi oe dC}(h:sF w B bb vi ve vr oi oe dC):sF H B bb vi ve vr oi oe dC:=⟨(f.block bb h.lt id).t h.blk,f.Jm h.si (λ_ _=>id) λ_ _ _ _=>id,f.Jm h.se (λ_ _=>id) λ_ _ _ _=>id,f.Jm h.sr (λ_ _=>id) λ_ _ _ _=>id,h.hb⟩
def Xd{rH mk H}(h:Shelf w B rH ty wd mk (.slice a (O H) c) H){i o}(ho:H[i]? =Y o):∃vg,a=Y ⟨vg,0,U⟩/\H<=c/\w (vg,i*2)=o.1/\w (vg,i*2+1)=o.2:=by rcases h.row.2 with⟨e,h0⟩|⟨g,cap,cur,e,_,hg,h1,_⟩;{have:H=[]:=List.eq_nil_of_length_eq_zero h0;rw[this]at ho;simp at ho};simp only[aQQ]at e;obtain⟨rfl,_,rfl⟩:=e;have hc:=h.row.cells (g:=g) J;have⟨e1,e2⟩:=ag9 H i o ho;have h3:=hc _ _ e1;have h4:=hc _ _ e2;rw[Addr.add_lit]at h3 h4;exact⟨g,J,h1,by simpa using h3,by simpa using h4⟩
def ahi{mc H}(h:bI w B ty wd (.slice a H c) H (kJ H mc))(hw:mc=wd){k}(hk:k<H):∃g,a=Y ⟨g,0,U⟩/\H<=c/\∀q,q<wd->w (g,k*wd+q)=mc[q]? :=by subst hw;rcases h.2 with⟨e,h0⟩|⟨g,cap,cur,e,_,hg,h1,_⟩;{omega};simp only[aQQ]at e;obtain⟨rfl,_,rfl⟩:=e;refine⟨g,J,h1,λq hq=>?_⟩;have hc:=h.cells (g:=g) J (k*mc+q) _<|(ag5 mc H k q hk hq).t<|gG hq;rw[Addr.add_lit]at hc;rw[gG hq];simpa using hc
def axY{oi oe dC}(h:sF w B bb vi ve vr oi oe dC)(hm:∀o,(o∈oi\/o∈oe\/o∈dC)->(o.2:Int)<=2^47):aH aj 13 #[ak bb] w λe w'=>e=A/\Fr aB w w':=by obtain⟨via,Nu,rfl,AU⟩:=Ns h.si.row;obtain⟨RI,vec,rfl,G7⟩:=Ns h.se.row;obtain⟨RJ,Nv,rfl,yl⟩:=Ns h.sr.row;unfold cZ at AU G7 yl;have H:=aQe h;have HMK:=aQe hm;clear h hm;go_enter func13,ntmps13;go_wp2_with fail;go_loopw [3] (λiv w'=>∃i,i<=O oi/\iv=V Z i/\Fr aB w w') (λiv _=>O oi-(bM iv).toNat);(case atStart=>exact⟨0,jQ _,J,Fr.refl _ _⟩);case round=>obtain⟨i,hi,rfl,bT⟩:=hrel;rename ae=>woI;have HFI:=aQe bT;have HB:=aQe<|bT.RH H;(have k0:au woI bb=Y (.slice via (O oi) Nu):=by rw[aJ HB.blk];rfl);clear bT;by_cases aO:i<O oi;{have⟨o,ho⟩:∃o,oi[i]? =Y o:=⟨_,gG aO⟩;have HOI:=aQe ho;have⟨vg,hv,hvc,r0,r1⟩:=Xd HB.si ho;subst hv;have hmk:=HMK o<|.inl<|iO ho;have⟨len,zl⟩:=H.si.ok o<|iO ho;have⟨la,gQ,xH,TW⟩:=jR zl;have⟨o1,o2⟩:=o;simp only at xH r0 r1 hmk zl;subst xH;unfold cZ at TW;have HL0:=aQe zl;clear zl ho;go_wp2_with fail;go_loopw [4] (λkv w'=>∃k,k<=len/\kv=V Z k/\Fr aB woI w') (λkv _=>len-(bM kv).toNat);(case atStart=>exact⟨0,jQ _,J,Fr.refl _ _⟩);case round=>obtain⟨k,hk,rfl,G9⟩:=hrel;have HFN:=aQe G9;have uT:=aQe<|HFI.t G9 dA;have yt:=aQe<|uT.RH H;(have kk0:au wr bb=Y (aP vg (O oi) Nu):=by rw[aJ yt.blk];rfl);have⟨vg2,jo,_,Y8,Y9⟩:=Xd yt.si HOI;simp only[iR,aRv,UF]at jo;subst jo;simp only at Y8 Y9;clear G9;by_cases jH:k<len;{obtain⟨g,rfl,Ej,hcell⟩:=ahi (uT.ownsRow HL0 λ_ _=>id) J jH;(have c0:au wr (g,k)=Y (.int .i64<|-1-(o2:Int)):=by have:=hcell 0 Xa;simpa[tu]using this);clear hcell;go_wp2_with fail;go_quiet (fail);go_wp2;go_roundw;(case rel=>exact⟨k+1,YV,Y4,HFN.drewN nq⟩);case measure=>simp[bM]<;>omega};{go_wp2;go_roundw;(case rel=>exact⟨i+1,YV,Y4,uT⟩);case measure=>simp[bM]<;>omega}};{skip;go_wp2_with fail;clear aO k0;go_loopw [5] (λiv w'=>∃i,i<=O oe/\iv=V Z i/\Fr aB w w') (λiv _=>O oe-(bM iv).toNat);(case atStart=>exact⟨0,jQ _,J,HFI⟩);case round=>obtain⟨i,hi,rfl,bT⟩:=hrel;rename ae=>Ig;have HFE:=aQe bT;have HB:=aQe<|bT.RH H;(have k0:Ig.cell? (bb,1)=Y (.slice RI (O oe) vec):=by rw[aJ HB.blk];rfl);clear bT;by_cases aO:i<O oe;{have⟨o,ho⟩:∃o,oe[i]? =Y o:=⟨_,gG aO⟩;have HOI:=aQe ho;have⟨vg,hv,hvc,r0,r1⟩:=Xd HB.se ho;subst hv;have hmk:=HMK o<|.inr<|.inl<|iO ho;have⟨len,zl⟩:=H.se.ok o<|iO ho;have⟨la,gQ,xH,TW⟩:=jR zl;have⟨o1,o2⟩:=o;simp only at xH r0 r1 hmk zl;subst xH;unfold cZ at TW;have HL0:=aQe zl;clear zl ho;go_wp2_with fail;go_loopw [7] (λkv w'=>∃k,k<=len/\kv=k/\Fr aB (Ig.alloc<|aC #[.int .i64<|-1-(o2:Int),V Z 0,V Z 0,dN ⟨#[]⟩] 55) w') (λkv _=>len-(bM kv).toNat);(case atStart=>exact⟨0,jQ _,J,Fr.refl _ _⟩);case round=>obtain⟨k,hk,rfl,G9⟩:=hrel;have HFN:=aQe G9;have uT:=aQe<|(HFE.alloc _).t G9 dA;have yt:=aQe<|uT.RH H;(have kk0:au wr (bb,1)=Y (aP vg (O oe) vec):=by rw[aJ yt.blk];rfl);have⟨vg2,jo,_,Y8,Y9⟩:=Xd yt.se HOI;simp only[iR,aRv,UF]at jo;subst jo;simp only at Y8 Y9;have qQ:wr.heap[Ig.heap.size]? =Y (aC #[.int .i64<|-1-(o2:Int),V Z 0,V Z 0,dN ⟨#[]⟩] 55 (0,0)):=(G9.block Ig.heap.size Xy id).t<|heap_alloc_new Ig _;(have b0:au wr Ig.heap.size=Y (.int .i64<|-1-(o2:Int)):=by rw[aJ qQ];rfl);(have b1:au wr (Ig.heap.size,1)=Y (V Z 0):=by rw[aJ qQ];rfl);(have b2:au wr (Ig.heap.size,2)=Y (V Z 0):=by rw[aJ qQ];rfl);(have b3:au wr (Ig.heap.size,3)=Y (dN ⟨#[]⟩):=by rw[aJ qQ];rfl);clear qQ;clear G9;by_cases jH:k<len;{obtain⟨g,rfl,Ej,hcell⟩:=ahi (uT.ownsRow HL0 λ_ _=>id) J jH;(have c0:au wr (g,k*4)=Y (.int .i64<|-1-(o2:Int)):=have:=hcell 0 Xa;this);(have c1:au wr (g,k*4+1)=Y (V Z 0):=have:=hcell 1 Xa;this);(have c2:au wr (g,k*4+2)=Y (V Z 0):=have:=hcell 2 Xa;this);(have c3:au wr (g,k*4+3)=Y (dN ⟨#[]⟩):=have:=hcell 3 Xa;this);clear hcell;have Ha:∀wx,(binOp .neq 55 (jf #[.int .i64<|-1-(o2:Int),V Z 0,V Z 0,dN ⟨#[]⟩])<|jf #[.int .i64<|-1-(o2:Int),V Z 0,V Z 0,dN ⟨#[]⟩]).run aj wx=.ok (aA ah) wx:=λwx=>axW wx _ _ _ _;go_wp2_with fail;go_quiet (fail);go_wp2;go_roundw;(case rel=>exact⟨k+1,YV,Y4,HFN.drewN nq⟩);case measure=>simp[bM]<;>omega};{go_wp2;go_roundw;(case rel=>exact⟨i+1,YV,Y4,uT⟩);case measure=>simp[bM]<;>omega}};{skip;go_wp2_with fail;clear aO k0;go_loopw [8] (λiv w'=>∃i,i<=O dC/\iv=i/\Fr aB w w') (λiv _=>O dC-(bM iv).toNat);(case atStart=>exact⟨0,jQ _,J,HFE⟩);case round=>obtain⟨i,hi,rfl,bT⟩:=hrel;rename ae=>Jn;have HFR:=aQe bT;have HB:=aQe<|bT.RH H;(have k0:Jn.cell? (bb,2)=Y (.slice RJ (O dC) Nv):=by rw[aJ HB.blk];rfl);clear bT;by_cases aO:i<O dC;{have⟨o,ho⟩:∃o,dC[i]? =Y o:=⟨_,gG aO⟩;have HOI:=aQe ho;have⟨vg,hv,hvc,r0,r1⟩:=Xd HB.sr ho;subst hv;have hmk:=HMK o<|.inr<|.inr<|iO ho;have⟨len,zl⟩:=H.sr.ok o<|iO ho;have⟨la,gQ,xH,TW⟩:=jR zl;have⟨o1,o2⟩:=o;simp only at xH r0 r1 hmk zl;subst xH;unfold cZ at TW;have HL0:=aQe zl;clear zl ho;go_wp2_with fail;go_loopw [10] (λkv w'=>∃k,k<=len/\kv=k/\Fr aB (Jn.alloc<|aC #[.int .i64<|-1-(o2:Int),V Z 0,dN ⟨#[]⟩] 94) w') (λkv _=>len-(bM kv).toNat);(case atStart=>exact⟨0,jQ _,J,Fr.refl _ _⟩);case round=>obtain⟨k,hk,rfl,G9⟩:=hrel;have HFN:=aQe G9;have uT:=aQe<|(HFR.alloc _).t G9 dA;have yt:=aQe<|uT.RH H;(have kk0:au wr (bb,2)=Y (aP vg (O dC) Nv):=by rw[aJ yt.blk];rfl);have⟨vg2,jo,_,Y8,Y9⟩:=Xd yt.sr HOI;simp only[iR,aRv,UF]at jo;subst jo;simp only at Y8 Y9;have qQ:wr.heap[Jn.heap.size]? =Y (aC #[.int .i64<|-1-(o2:Int),V Z 0,dN ⟨#[]⟩] 94 (0,0)):=(G9.block Jn.heap.size Xy id).t<|heap_alloc_new Jn _;(have b0:au wr Jn.heap.size=Y (.int .i64<|-1-(o2:Int)):=by rw[aJ qQ];rfl);(have b1:au wr (Jn.heap.size,1)=Y (V Z 0):=by rw[aJ qQ];rfl);(have b2:au wr (Jn.heap.size,2)=Y (dN ⟨#[]⟩):=by rw[aJ qQ];rfl);clear qQ;clear G9;by_cases jH:k<len;{obtain⟨g,rfl,Ej,hcell⟩:=ahi (uT.ownsRow HL0 λ_ _=>id) J jH;(have c0:au wr (g,k*3)=Y (.int .i64<|-1-(o2:Int)):=have:=hcell 0 Xa;this);(have c1:au wr (g,k*3+1)=Y (V Z 0):=have:=hcell 1 Xa;this);(have c2:au wr (g,k*3+2)=Y (dN ⟨#[]⟩):=have:=hcell 2 Xa;this);clear hcell;have Ha:∀wx,(binOp .neq 94 (jf #[.int .i64<|-1-(o2:Int),V Z 0,dN ⟨#[]⟩])<|jf #[.int .i64<|-1-(o2:Int),V Z 0,dN ⟨#[]⟩]).run aj wx=.ok (aA ah) wx:=λwx=>axd wx _ _ _;go_wp2_with fail;go_quiet (fail);go_wp2;go_roundw;(case rel=>exact⟨k+1,YV,Y4,HFN.drewN nq⟩);case measure=>simp[bM]<;>omega};{go_wp2;go_roundw;(case rel=>exact⟨i+1,YV,Y4,uT⟩);case measure=>simp[bM]<;>omega}};skip;go_wp2;go_ret;exact⟨J,HFR⟩}}
end
section
structure Rel(s:aN)(L:List dF):Prop where
 inv:Inv s
 es:s.es=lJ L
 op:∀p t,lI L p t=s.isOpen p t
 nw:∀p t o,s.nw p=Y (t,o)->∃e∈L,e.k=0/\e.p=p/\e.t=t
 top:∀e∈L,e.k=0->∃t o,s.nw e.p=Y (t,o)/\e.t<=t
 wf:∀e∈L,fF e.p/\fF e.t
def axZ:Rel ⟨[],0,λ_=>U⟩ []:=⟨axi,J,λp t=>J,Zv,Zv,Zv⟩
variable{s:aN}{L:List dF}{e:dF}{i:Nat}
def Rel.can(h:Rel s L)(p t):KE L p t=s.vV p t:=by cases hn:s.nw p with|none=>(have H:s.vV p t=true:=by simp[aN.vV,hn]);rw[H];refine ag3 λj x hx=>?_;cases hb:Af L p t x;{rfl};simp only[Af,pq,OU]at hb;grind[cases Rel]|some to=>have⟨t',o⟩:=to;have⟨e0,he0,FB,Mc,ht0⟩:=h.nw p t' o hn;have⟨j0,hj0,aMg⟩:=UA he0;(have Ox:L[j0]? =e0:=Zv);cases o;{by_cases aO:t'<t;{(have H:s.vV p t=true:=by simp[aN.vV,hn,aO]);rw[H];refine ag3 λj x hx=>?_;cases hb:Af L p t x;{rfl};simp only[Af,pq,OU,acN]at hb;grind[cases Rel,O4]};(have H:s.vV p t=false:=by simp[aN.vV,hn,aO]);rw[H];exact adm Ox (by simp[Af,Mc,FB,ht0]<;>omega)};{(have H:s.vV p t=false:=by simp[aN.vV,hn]);rw[H];exact adm Ox<|by simp[Af,Mc,FB,ht0,h.op,O4.2 hn]}
def ax0(L):cnt (lJ L)=cnt L:=by unfold cnt lJ;rw[UB];grind
def Rel.code(h:Rel s L)(p t x):vk L p t x=s.vW p t x:=by (have H:s.d=cnt L:=by rw[h.inv.d,h.es,ax0]);simp only[vk,aN.vW,h.op,H]
theorem Rel.blocked(h:Rel s L)(he:e∈s.es):lI L e.p e.t=s.blocked e:=by rw[h.op];by_cases H:e.k=1;{simp[aN.blocked,H]};have⟨t',o,h1,h2,h3⟩:=h.inv.U4 e he;(have:s.isOpen e.p e.t=false:=by rw[Jk,h1];grind);simp[aN.blocked,this]
theorem anP{α:Type}{p q:α->Bool}:∀{l:List α},(∀x∈l,p x=q x)->l.findIdx p=l.findIdx q|[],_=>J|x::r,h=>by rw[List.findIdx_cons,List.findIdx_cons,h x Xy,anP λy hy=>h y<|by simp[hy]]
theorem Rel.oL(h:Rel s L):Np L=s.oL:=by unfold Np aN.oL;grind[cases Rel,anP,Rel.blocked]
def anQ{H}:O7 H e i=A↔∃(m:Nat) (x:dF),i<=m/\H[m]? =x/\x.k=2/\x.p=e.p/\x.t=e.t:=by unfold O7 vZ;rw[xN YV,al0];constructor;{rintro⟨x,hx,hc⟩;obtain⟨j,hj,rfl⟩:=UA hx;simp only[Nq,pq,OU]at hc;refine⟨i+j,_,YV,?_,hc.1.1,hc.1.2,hc.2⟩;grind};rintro⟨m,x,hm,hx,h1,h2,h3⟩;refine⟨x,?_,by simp[Nq,h1,h2,h3]⟩;(have:(H.drop i)[m-i]? =x:=Zv);grind
def ax1(h:Inv s)(hi:i<s.oL)(he:s.es[i]? =e)(hk:e.k=1):s.Jj e=O7 s.es e i:=by have⟨q,hq⟩:=axq h i e hi he hk;(have h1:s.Jj e=decide (q=2):=by simp[aN.Jj,hk,hq.vX]);by_cases e2:q=2;{subst e2;have⟨m,x,h3,h4,H⟩:=hq.late;have:=(anQ (i:=i)).2 ⟨m,x,YV,h4,hq.all x Zv H,H.2.1,H.2.2⟩;grind};(have:O7 s.es e i=false:=by cases hc:O7 _ e i;{rfl};have⟨m,x,_,h4,H,h6,h7⟩:=anQ.1 hc;have h8:=hq.all x Zv ⟨YV,h6,h7⟩;omega);grind
theorem anR(h:Inv s)(f m:Int):∀i,i<=s.oL->mF s.es f m i=(s.di (aN.start f) i).take m.toNat|0,_=>(by simp[mF,aN.di])|i+1,hi=>by have ih:=anR h f m i YV;have hl:=gZ hi s.anb;have he:=gG hl;rw[anq he,ih];by_cases hf:f<=(i:Int);{(have ha:aN.start f<=i:=by simp only[aN.start];omega);(have hp:s.pick i=if s.Jj s.es[i]then[⟨i,s.es[i].p,s.es[i].s⟩]else[]:=by simp[aN.pick,he]);rw[s.U3 ha,hp];by_cases hk:s.es[i].k=1;{have H:=ax1 h YV he hk;cases hb:s.Jj _;{(have:Cm s.es f m ((s.di (aN.start f) i).take m.toNat) i s.es[i]=false:=by simp[Cm,<-H,hb]);grind};by_cases hlen:(s.di (aN.start f) i).length<m.toNat;{(have:Cm s.es f m ((s.di (aN.start f) i).take m.toNat) i s.es[i]=true:=by simp only[Cm,<-H,hb,hk,hf,decide_true,Bool.true_and,OU,Rh];omega);rw[this,if_pos rfl,if_pos rfl,xN YV,xN Zv]};(have:Cm s.es f m ((s.di (aN.start f) i).take m.toNat) i s.es[i]=false:=by (have:¬(((s.di (aN.start f) i).take m.toNat).length:Int)<m:=Zv);simp only[Cm,jr this,Bool.and_false]);grind};(have h2:s.Jj s.es[i]=false:=by simp[aN.Jj,hk]);(have:Cm s.es f m ((s.di (aN.start f) i).take m.toNat) i s.es[i]=false:=by simp[Cm,hk]);grind};(have:Cm s.es f m ((s.di (aN.start f) i).take m.toNat) i s.es[i]=false:=by simp[Cm,hf]);rw[this];(have hz:s.di (aN.start f) (i+1)=[]/\s.di (aN.start f) i=[]:=by simp only[aN.di,aN.start];rw[show i+1-(max f 0).toNat=0 by omega,show i-(max f 0).toNat=0 by omega];simp);grind
theorem Rel.vY(h:Rel s L)(f m):YX L f m=s.vY f m:=by unfold YX aN.vY;grind[Rel.oL,cases Rel,anR]
def Rel.opens(h:Rel s L){S}(H:S.Pairwise (· < ·))(h2:∀x∈S,fF x)(h3:∀x,fF x->(x∈S↔∃t,s.nw x=Y (t,A))):Rz L S:=by refine⟨H,λx=>⟨λhx=>?_,λ⟨e,he,hp,ho⟩=>?_⟩⟩;{grind[cases Rel,O4]};grind[cases Rel,O4]
theorem Rel.opened(h:Rel s L)(p t)(hp:fF p)(ht:fF t):Rel (s.opened p t) (oq L p t):=by have hi:=(axj h.inv p t).1;unfold oq;rw[h.can p t];unfold aN.opened at hi⊢;cases hc:s.vV p t;{grind};simp only[hc,if_true]at hi⊢;(have LZ:∀t' o,s.nw p=(t',o)->o=ah/\t'<t:=λt' o e=>by simp only[aN.vV,e,pq,af2,OU]at hc;exact hc);refine⟨hi,?_,λq u=>?_,λq u o hq=>?_,λe H hk=>?_,λe H=>?_⟩;{rw[adn];simpa[aN.set]using h.es};{rw[adk];unfold KD;by_cases O9:p=q/\t=u;{obtain⟨rfl,rfl⟩:=O9;rw[if_pos ⟨rfl,rfl⟩];(have:(s.set p t A).isOpen p t=true:=by simp[aN.isOpen,aN.set]);grind};rw[if_neg O9,h.op];by_cases hq:q=p;{subst hq;have hut:t≠u:=YV;(have a:s.isOpen q u=false:=by rw[Jk];grind);(have b:(s.set q t A).isOpen q u=false:=by rw[Jk];simp[aN.set,hut]);rw[a,b]};simp[aN.isOpen,aN.set,hq]};{by_cases e:q=p;{subst e;simp only[aN.set,if_true,iR,Ri]at hq;simp_all};simp only[aN.set,e,jX]at hq;grind[cases Rel]};{simp at H;rcases H with H|rfl;{have⟨t',o,h1,h2⟩:=h.top e H hk;by_cases e2:e.p=p;{rw[e2]at h1;have:=LZ t' o h1;exact⟨t,A,by simp[aN.set,e2],YV⟩};exact⟨t',o,by simp[aN.set,e2,h1],h2⟩};exact⟨t,A,by simp[aN.set],Int.le_refl _⟩};grind[cases Rel]
theorem Rel.pW(h:Rel s L)(p t x)(hp:fF p)(ht:fF t):Rel (s.pW p t x) (pX L p t x):=by have hi:=(axl h.inv p t x hp ht).1;unfold pX;rw[h.code p t x];unfold aN.pW at hi⊢;by_cases hc:s.vW p t x=0;{simp only[hc,if_true]at hi⊢;refine⟨hi,?_,λq u=>?_,λq u o hq=>?_,λe H hk=>?_,λe H=>?_⟩;{rw[adn,<-h.es];simp[aN.put]};{rw[adk];unfold KD;by_cases O9:p=q/\t=u;{obtain⟨rfl,rfl⟩:=O9;rw[if_pos ⟨rfl,rfl⟩];show((1:Int)==0||(lI L p t&&(1:Int)==1))=s.isOpen p t;rw[h.op];grind};rw[if_neg O9,h.op];rfl};{have⟨e0,h1,h2⟩:=h.nw q u o hq;grind};{simp at H;rcases H with H|rfl;{exact h.top e H hk};grind};grind[cases Rel]};grind
theorem Rel.closed(h:Rel s L)(p t c)(hp:fF p)(ht:fF t):Rel (s.closed p t c) (qW L p t c):=by have hi:=(axm h.inv p t c hp ht).1;unfold qW;rw[h.op p t];unfold aN.closed at hi⊢;cases hc:s.isOpen p t;{grind};simp only[hc,if_true]at hi⊢;have hn:=O4.1 hc;(have L6:aN.zD c=2\/aN.zD c=3:=by cases c<;>simp[aN.zD]);refine⟨hi,?_,λq u=>?_,λq u o hq=>?_,λe H hk=>?_,λe H=>?_⟩;{rw[adn,<-h.es,if_pos Zv];rfl};{rw[adk];unfold KD;by_cases O9:p=q/\t=u;{obtain⟨rfl,rfl⟩:=O9;rw[if_pos ⟨rfl,rfl⟩];(have b:((s.put ⟨aN.zD c,p,t,⟨#[]⟩⟩).set p t ah).isOpen p t=false:=by rw[Jk];simp[aN.set]);grind};rw[if_neg O9,h.op];by_cases hq:q=p;{subst hq;(have a:s.isOpen q u=false:=by rw[Jk,hn];grind);(have b:((s.put ⟨aN.zD c,q,t,⟨#[]⟩⟩).set q t ah).isOpen q u=false:=by rw[Jk];simp[aN.set]);rw[a,b]};simp[aN.isOpen,aN.set,aN.put,hq]};{by_cases e:q=p;{subst e;simp only[aN.set,if_true,iR,Ri]at hq;grind[cases Rel]};simp only[aN.set,aN.put,e,jX]at hq;grind[cases Rel]};{simp at H;rcases H with H|rfl;{have⟨t',o,h1,h2⟩:=h.top e H hk;by_cases e2:e.p=p;{rw[e2,hn]at h1;simp at h1;obtain⟨rfl,rfl⟩:=h1;exact⟨t,ah,by simp[aN.set,e2],h2⟩};exact⟨t',o,by simp[aN.set,aN.put,e2,h1],h2⟩};grind};grind[cases Rel]
theorem anS(L p t):(oq L p t).length<=L+1:=by unfold oq;grind
theorem anT(L p t x):(pX L p t x).length<=L+1:=by unfold pX;grind
theorem ahk(L p t c):(qW L p t c).length<=L+1:=by unfold qW;grind
end
def ax2{Bk w B bb ve l oe n xs}(aPT:Be Bk B bb 1 90 55 4 CE)(h:Bk w ve oe)(hl:bI w B 55 4 l n xs) (hold:∀o∈oe,∀k,o.1.ownBlock=Y k->dw l≠k)(qR:(O oe+4)*32<=2^47)(kE:(n+3)*40<=2^47):aH aj 102 #[ak bb,l] w λe w'=>e=dZ #[]/\∃v' news,adt Bk bb w w' ve oe l v' news/\O news=4/\∀o∈news,o.2=oe:=by
 have⟨i0,dL,fM,ed,fV⟩:=aQX axU;have⟨i1,lU,hy0,QK,zT⟩:=aQX YS;obtain⟨va,lY,rfl,vM⟩:=Ns (aPT.sh h).row;obtain⟨la,gQ,rfl,qP⟩:=jR hl;unfold cZ at vM qP;have FF:=aQe aPT;have H:=aQe h;have HL:=aQe hl;have HOLD:=aQe hold;have FC:=aQe qR;have yt:=aQe kE;have hK:(O oe:Int)<=2^47:=YV
 have Md:=aPT.lt h;have k0:=aPT.cell h;clear aPT h hl hold qR kE;go_enter func102,ntmps102;go_wp2_with fail;go_loopw [6] (λi w'=>∃j ys,j<=n/\i=j/\bI w' B 55 4 (.slice la n gQ) n ys/\(∀q,q<j*4->ys[q]? =(kJ n<|CE (O oe))[q]?)/\Fr (λx=>Value.ownBlock (.slice la n gQ)=Y x) (w.alloc<|aC #[.int .i64<|-1-(O oe:Int),V Z 0,V Z 0,dN ⟨#[]⟩] 55) w') (λi _=>n-(bM i).toNat);case atStart=>exact⟨0,xs,jQ _,J,(aQ _).ownsRow HL.o λ_ _=>id,λq hq=>YV,Fr.refl _ _⟩
 case round=>obtain⟨j,ys,hj,rfl,QL,QM,bT⟩:=hrel;have HY:=aQe QL;have HP:=aQe QM;have HF:=aQe bT;have qQ:wr.heap[M (R w)]? =Y (aC #[.int .i64<|-1-(O oe:Int),V Z 0,V Z 0,dN ⟨#[]⟩] 55 (0,0)):=(bT.block (M (R w)) Xy (λe=>by have:=(HL.o.lt _ e).2;omega)).t<|heap_alloc_new w _;(have x0:au wr (M (R w))=Y (.int .i64<|-1-(O oe:Int)):=by rw[aJ qQ];rfl);(have x1:au wr (M (R w),1)=Y (V Z 0):=by rw[aJ qQ];rfl);(have x2:au wr (M (R w),2)=Y (V Z 0):=by rw[aJ qQ];rfl);(have x3:au wr (M (R w),3)=Y (dN ⟨#[]⟩):=by rw[aJ qQ];rfl);have RN:=aQe qQ;clear qQ;clear QL QM bT;by_cases aO:j<n;{rcases HY.o.2 with⟨e,h0⟩|⟨g,cap,cur,e,G6,hg,hnc,oV,hcs,Fv⟩;{omega};{simp only[aQQ]at e;obtain⟨rfl,_,rfl⟩:=e;have fz:∀o,wr.frozen? (g,o)=false:=λo=>gJ hg o;(have cz:∀q,q<4->∃u,au wr (g,j*4+q)=Y u:=λq hq=>by (have jD:j*4+q<O ys:=by rw[HY.o.1];omega);have:=HY.o.cells (g:=g) J (j*4+q) _<|gG jD;rw[Addr.add_lit]at this;exact⟨_,by simpa using this⟩);(have⟨u0x,c0⟩:=cz 0 YV);(have⟨u1x,c1⟩:=cz 1 YV);(have⟨u2x,c2⟩:=cz 2 YV);(have⟨u3x,c3⟩:=cz 3 YV);simp only[Rj]at c0;have HG:=aQe hg;clear hg oV hcs Fv cz;go_wp2;go_roundw;(case rel=>have ab2:=Xb HY.o (o:=j*4) (mc:=CE (O oe)) (by show j*4+4<=n*4;omega);have Zc:=(Fr.refl (λx=>Value.ownBlock (aP g n gQ)=Y x) wr).Gj (g:=g) (.inl J) (j*4)<|CE (O oe);refine⟨j+1,DJ ys (j*4)<|CE (O oe),YV,Y4,?_,ahg J HY.o.1 aO HP.o,?_⟩;{exact ab2};exact HF.o.t Zc λ_ h=>.inl h);case measure=>simp[bM]<;>omega}};{(have JV:j=n:=YV);subst JV;have TY:ys=kJ j (CE (O oe)):=aha J HY.o.1 HP.o;have Ie:=aQe<|(eH.alloc _).t HF.o λ_ h=>.inl h;(have Jo:I (bI wr B 55 4 (.slice la j gQ) j<|kJ j<|CE (O oe)):=by have:=HY.o;rw[TY]at this;exact this);have BG:=CO.begin FF.o H.o HL.o HOLD.o Ie.o Jo.o (w3:=w);have HB:=aQe BG.1;have Zj:I (∀{W w3 v2 hi},Fr aB wr W->W.grownBy w3 (Value.ownBlock<|.slice va (O oe) lY)->bI w3 B 90 2 v2 (O oe+1) (xU oe++[.slice la j gQ,V Z (O oe)])->(∀k,dw v2=Y k->Value.ownBlock (.slice va (O oe) lY)=Y k\/M (R wr)<=k)->CO Bk B bb 55 4 CE w (aZ w3 (bb,1) v2) (.slice va (O oe) lY) oe (.slice la j gQ) (.slice la j gQ) v2 [(.slice la j gQ,O oe)] j hi):=BG.2;clear BG;have k1:=FF.o.cell HB.o;have f1:=FF.o.Zd HB.o 1;have Eo:=FF.o.lt HB.o;(have Me:Value.ownBlock (.slice va (O oe) lY)≠Y bb:=FF.o.nb HB.o (FF.o.sh HB.o).row<|by decide);clear TY HY HP;go_wp2_with (at_builtin;refine aQU _ J _ _ 81 J B 90 i0 _ 2 32 underlying81 dL fM ed fV J (by decide) _ (O oe) (xU oe) J (by exact(FF.o.sh HB.o).row.alloc _) (M (R wr)) 1 1 [.slice la j gQ,V Z (O oe)] J J (World.news_of_block (cs:=#[.slice la j gQ,V Z (O oe)]) (t:=90) (fr:=(0,0))<|heap_alloc_new _ _) (by simp[Value.oneCell']) (by decide) (by have:=FC.o;simp only[cZ];omega) (by have:=FC.o;omega) (by have:=FF.o.hb HB.o;simp<;>omega) (M (R wr)+1) (by simp) ?_;intro gg jG w3 jO gW lX mW;have q0:=gW.cell_far ⟨bb,1,U⟩ (by simp<;>omega)<|Ne.s Me;have q1:=gW.frozen_far ⟨bb,1,U⟩ (by simp<;>omega)<|Ne.s Me;rw[aQV _ _ _ Eo,k1]at q0;rw[Ae Eo,f1]at q1);have jI:=(FF.o.put (l:=.slice la j gQ) (K:=O oe) HB.o (aQ _) gW jO (Ic lX) ⟨_,Jo.o⟩).2;have M0:I (CO Bk B bb 55 4 CE w (aZ w3 (bb,1)<|aP gg (O oe+1) jG) (.slice va (O oe) lY) oe (.slice la j gQ) (.slice la j gQ) (aP gg (O oe+1) jG) [(.slice la j gQ,O oe)] j<|M (R w)+1):=Zj.o (aQ _) gW jO<|Ic lX;have BX0:I ((aZ w3 (bb,1)<|aP gg (O oe+1) jG).heap[M (R w)]? =Y (aC #[.int .i64<|-1-(O oe:Int),V Z 0,V Z 0,dN ⟨#[]⟩] 55 (0,0))):=(jI.block (M (R w)) (bF RN.o) (by rintro(e|e);exact absurd e (by have:=FF.o.lt H.o;omega);exact anF RN.o (FF.o.sh HB.o).row (by decide) e)).t RN.o;clear jO gW lX mW q0 q1 jI aO Zj;rename ae=>wo;go_loopw [1,7] (λlv iv w'=>∃(c:Nat) (v':ai) (news:List (ai×Nat)),c<=3/\iv=V Z c/\O news=c+1/\CO Bk B bb 55 4 CE w w' (.slice va (O oe) lY) oe (.slice la j gQ) lv v' news (j+c) (M (R w)+1)/\w'.heap[M (R w)]? =Y (aC #[.int .i64<|-1-(O oe:Int),V Z 0,V Z 0,dN ⟨#[]⟩] 55 (0,0))) (λ_ iv _=>3-(bM iv).toNat);(case atStart=>exact⟨0,_,_,by omega,J,J,M0.o,BX0.o⟩);case round=>obtain⟨c,v',news,IY,rfl,yN,oW,uq⟩:=hrel;have HM:I (CO Bk B bb 55 4 CE w wr (.slice va (O oe) lY) oe (.slice la j gQ) u1 v' news (j+c)<|M (R w)+1):=oW;obtain⟨EN,EO,jo,Ep⟩:=Ns (FF.o.sh oW.own.book).row;obtain⟨N2,EP⟩:∃N2,(oe++news).length=N2:=⟨_,J⟩;rw[EP]at jo;subst jo;have DI:I ((oe++news).length=N2):=EP;clear Ep;(have xH:N2=O oe+(c+1):=by rw[<-EP,kZ,yN]);clear EP;have HM:I (CO Bk B bb 55 4 CE w wr (.slice va (O oe) lY) oe (.slice la j gQ) u1 (.slice EN N2 EO) news (j+c)<|M (R w)+1):=oW;have Pg:I (O news=c+1):=yN;have ahm:=oW.own.fr.size;have qX:I (wr.heap[M (R w)]? =Y (aC #[.int .i64<|-1-(O oe:Int),V Z 0,V Z 0,dN ⟨#[]⟩] 55 (0,0))):=uq;(have b0:au wr (M (R w))=Y (.int .i64<|-1-(O oe:Int)):=by rw[aJ uq];rfl);(have b1:au wr (M (R w),1)=Y (V Z 0):=by rw[aJ uq];rfl);(have b2:au wr (M (R w),2)=Y (V Z 0):=by rw[aJ uq];rfl);(have b3:au wr (M (R w),3)=Y (dN ⟨#[]⟩):=by rw[aJ uq];rfl);clear oW yN uq;by_cases ER:c<3;{have U9:I (M (R w)+1<=M (R wr)):=bF qX.o;have DK:I (j+c+1<=cZ):=ahc (b:=40) (by decide) yt.o ER;have KH:I ((j+c+1)*40<=2^47):=adr yt.o ER;have Ze:I (B<=M (R wr)):=dX (FF.o.hb HM.o.own.book)<|EG<|FF.o.lt HM.o.own.book;have Zf:I (N2+1<=cZ):=ahe xH FC.o ER;have Zg:I ((N2+1)*32<=2^47):=ahd xH FC.o ER;(have Ph:∀m∈CE (O oe),m.oneCell'=true:=by simp[CE,Value.oneCell']);have Zh:I (∀m∈CE (O oe),m.oneCell'=A):=Ph;clear Ph xH;go_wp2_with (at_builtin;refine ag6 _ J _ _ 49 J B 55 i1 _ 4 40 underlying49 lU hy0 QK zT J _ (j+c) (kJ (j+c)<|CE (O oe)) J (by exact HM.o.row.alloc _) (M (R wr)) 1 (CE (O oe)) J J (World.news_of_block (cs:=#[.int .i64<|-1-(O oe:Int),V Z 0,V Z 0,dN ⟨#[]⟩]) (t:=55) (fr:=(0,0))<|heap_alloc_new _ _) Zh.o DK.o KH.o (by rw[aRk];exact MP Ze.o) ?_);intro g4 zn w4 IZ FH;(have FH:(u1=aP g4 (j+c) zn/\(wr.alloc<|aC #[.int .i64<|-1-(O oe:Int),V Z 0,V Z 0,dN ⟨#[]⟩] 55).grownBy w4 (Y g4))\/(g4=(wr.alloc<|aC #[.int .i64<|-1-(O oe:Int),V Z 0,V Z 0,dN ⟨#[]⟩] 55).heap.size/\(wr.alloc<|aC #[.int .i64<|-1-(O oe:Int),V Z 0,V Z 0,dN ⟨#[]⟩] 55).grownBy w4 U):=by rcases FH with h1|⟨h1,h2⟩;{exact .inl h1};exact .inr ⟨by rw[aRk];exact h1,h2⟩);have rJ:I (CO Bk B bb 55 4 CE w w4 (.slice va (O oe) lY) oe (.slice la j gQ) (aP g4 (j+c+1) zn) (.slice EN N2 EO) news (j+c+1)<|M (R w)+1):=HM.o.grown FF.o H.o (by omega) U9.o HOLD.o (aQ _) IZ FH;have RP:I (w4.heap[M (R w)]? =Y (aC #[.int .i64<|-1-(O oe:Int),V Z 0,V Z 0,dN ⟨#[]⟩] 55 (0,0))):=anG qX.o HM.o.RG HL.o (aQ _) FH;clear IZ FH;(have R4:I (bI w4 B 90 2 (.slice EN N2 EO) N2<|xU<|oe++news):=by have:=(FF.o.sh rJ.o.own.book).row;rw[DI.o]at this;exact this);have k4:=FF.o.cell rJ.o.own.book;have f4:=FF.o.Zd rJ.o.own.book 1;have BP:=FF.o.lt rJ.o.own.book;(have I4:Value.ownBlock (.slice EN N2 EO)≠Y bb:=FF.o.nb rJ.o.own.book (FF.o.sh rJ.o.own.book).row<|by decide);go_wp2_with (at_builtin;refine aQU _ J _ _ 81 J B 90 i0 _ 2 32 underlying81 dL fM ed fV J (by decide) _ N2 (xU<|oe++news) J (by exact R4.o.alloc _) (M (R w4)) 1 1 [aP g4 (j+c+1) zn,V Z (O oe)] J J (World.news_of_block (cs:=#[aP g4 (j+c+1) zn,V Z (O oe)]) (t:=90) (fr:=(0,0))<|heap_alloc_new _ _) (by simp[Value.oneCell']) (by decide) Zf.o Zg.o (by rw[aRk];exact MP<|dX (FF.o.hb rJ.o.own.book)<|EG<|FF.o.lt rJ.o.own.book) (M (R w4)+1) (by simp) ?_);intro g5 MB w5 I5 vw ES RQ;have q0:=vw.cell_far (bb,1) (by simp<;>omega)<|Ne.s I4;have q1:=vw.frozen_far (bb,1) (by simp<;>omega)<|Ne.s I4;rw[aQV _ _ _ BP,k4]at q0;rw[Ae BP,f4]at q1;go_wp2;have Zi:I (CO Bk B bb 55 4 CE w (aZ w5 (bb,1)<|aP g5 (N2+1) MB) (.slice va (O oe) lY) oe (.slice la j gQ) (aP g4 (j+c+1) zn) (aP g5 (N2+1) MB) (news++[(aP g4 (j+c+1) zn,O oe)]) (j+c+1)<|M (R w)+1):=rJ.o.put FF.o (by omega) (aQ _) vw (by rw[DI.o];exact I5)<|Ic ES;have Xe:I ((aZ w5 (bb,1)<|aP g5 (N2+1) MB).heap[M (R w)]? =Y (aC #[.int .i64<|-1-(O oe:Int),V Z 0,V Z 0,dN ⟨#[]⟩] 55 (0,0))):=anH RP.o R4.o (by decide) (by have:=FF.o.lt H.o;omega) (aQ _) vw;clear I5 vw ES RQ;go_roundw;(case rel=>exact⟨c+1,_,_,by omega,by go_num,by rw[kZ,Pg.o];rfl,Zi.o,Xe.o⟩);case measure=>simp[bM]<;>omega};(have HC:I (c=3):=by show c=3;omega);go_wp2;go_end0;exact⟨J,_,_,HM.o.own,by rw[Pg.o,HC.o],λo ho=>(HM.o.new o ho).1⟩}
def ax5{Bk w B bb vi l oi n xs}(aPT:Be Bk B bb 0 88 3 1 tu)(h:Bk w vi oi)(hl:bI w B 3 1 l n xs) (hold:∀o∈oi,∀k,o.1.ownBlock=Y k->dw l≠k)(qR:(O oi+4)*32<=2^47)(kE:(n+3)*8<=2^47):aH aj 95 #[ak bb,l] w λe w'=>e=dZ #[]/\∃v' news,adt Bk bb w w' vi oi l v' news/\O news=4/\∀o∈news,o.2=oi:=by
 have⟨i0,dL,fM,ed,fV⟩:=aQX axT;have⟨i1,lU,hy0,QK,zT⟩:=aQX Ry;obtain⟨va,lY,rfl,vM⟩:=Ns (aPT.sh h).row;obtain⟨la,gQ,rfl,qP⟩:=jR hl;unfold cZ at vM qP;have FF:=aQe aPT;have H:=aQe h;have HL:=aQe hl;have HOLD:=aQe hold;have FC:=aQe qR;have yt:=aQe kE;have hK:(O oi:Int)<=2^47:=YV
 have Md:=aPT.lt h;have k0:=aPT.cell h;clear aPT h hl hold qR kE;go_enter func95,ntmps95;go_wp2_with fail;go_loopw [5] (λi w'=>∃j ys,j<=n/\i=j/\bI w' B 3 1 (.slice la n gQ) n ys/\(∀q,q<j*1->ys[q]? =(kJ n<|tu (O oi))[q]?)/\Fr (λx=>Value.ownBlock (.slice la n gQ)=Y x) w w') (λi _=>n-(bM i).toNat);case atStart=>exact⟨0,xs,jQ _,J,HL,YV,Fr.refl _ _⟩
 case round=>obtain⟨j,ys,hj,rfl,QL,QM,bT⟩:=hrel;have HY:=aQe QL;have HP:=aQe QM;have HF:=aQe bT;clear QL QM bT;by_cases aO:j<n;{rcases HY.2 with⟨e,h0⟩|⟨g,cap,cur,e,G6,hg,hnc,oV,hcs,Fv⟩;{omega};{simp only[aQQ]at e;obtain⟨rfl,_,rfl⟩:=e;have fz:∀o,wr.frozen? (g,o)=false:=λo=>gJ hg o;(have cz:∀q,q<1->∃u,au wr (g,j*1+q)=Y u:=λq hq=>by (have jD:j*1+q<O ys:=Zv);have:=HY.cells (g:=g) J (j*1+q) _<|gG jD;grind[Addr.add_lit]);(have⟨u0x,c0⟩:=cz 0 YV);simp only[Nat.mul_one,Rj]at c0;have HG:=aQe hg;clear hg oV hcs Fv cz;go_wp2;go_roundw;(case rel=>have ab2:=Xb HY (o:=j*1) (mc:=tu (O oi)) (by show j*1+1<=n*1;omega);have Zc:=(Fr.refl (λx=>Value.ownBlock (aP g n gQ)=Y x) wr).Gj (g:=g) (.inl J) (j*1)<|tu (O oi);refine⟨j+1,DJ ys (j*1)<|tu (O oi),YV,Y4,?_,ahg J HY.1 aO HP,?_⟩;{simpa[Gj,tu]using ab2};have:=HF.t Zc Zv;simpa[Gj,tu]using this);case measure=>simp[bM]<;>omega}};{(have JV:j=n:=YV);subst JV;have TY:ys=kJ j (tu (O oi)):=aha J HY.1 HP;have Ie:=aQe HF;(have Jo:I (bI wr B 3 1 (.slice la j gQ) j<|kJ j<|tu (O oi)):=Zv);have BG:=CO.begin FF H HL HOLD Ie Jo (w3:=w);have HB:I (Bk wr (.slice va (O oi) lY) oi):=BG.1;have Zj:I (∀{W w3 v2 hi},Fr aB wr W->W.grownBy w3 (Value.ownBlock<|.slice va (O oi) lY)->bI w3 B 88 2 v2 (O oi+1) (xU oi++[.slice la j gQ,V Z (O oi)])->(∀k,dw v2=Y k->Value.ownBlock (.slice va (O oi) lY)=Y k\/wr<=k)->CO Bk B bb 3 1 tu w (aZ w3 bb v2) (.slice va (O oi) lY) oi (.slice la j gQ) (.slice la j gQ) v2 [(.slice la j gQ,O oi)] j hi):=BG.2;clear BG;have k1:=FF.cell HB;have f1:=FF.Zd HB 0;have Eo:=FF.lt HB;(have Me:Value.ownBlock (.slice va (O oi) lY)≠Y bb:=FF.nb HB (FF.sh HB).row<|by decide);clear TY HY HP;go_wp2_with (at_builtin;refine aQU _ J _ _ 80 J B 88 i0 _ 2 32 (by simp_all) dL fM ed fV J (by decide) _ (O oi) (xU oi) J (by exact(FF.sh HB).row.alloc _) wr 1 1 [.slice la j gQ,O oi] J J (by grind[World.news_of_block,heap_alloc_new]) (by simp[Value.oneCell']) (by decide) (by have:=FC;simp only[cZ];omega) (by have:=FC.o;omega) (by have:=FF.o.hb HB.o;simp<;>omega) (wr+1) (by simp) ?_;intro gg jG w3 jO gW lX mW;have q0:=gW.cell_far bb (by simp<;>omega)<|Ne.s Me;have q1:=gW.frozen_far bb (by simp<;>omega)<|Ne.s Me;rw[aQV _ _ _ Eo,k1]at q0;rw[Ae Eo,f1]at q1);have M0:I (CO Bk B bb 3 1 tu w (aZ w3 bb<|aP gg (O oi+1) jG) (.slice va (O oi) lY) oi (.slice la j gQ) (.slice la j gQ) (aP gg (O oi+1) jG) [(.slice la j gQ,O oi)] j w):=Zj.o (aQ _) gW jO<|Ic lX;clear jO gW lX mW q0 q1 aO Zj;rename ae=>wo;go_loopw [1,6] (λlv iv w'=>∃(c:Nat) (v':ai) (news:List (ai×Nat)),c<=3/\iv=c/\O news=c+1/\CO Bk B bb 3 1 tu w w' (.slice va (O oi) lY) oi (.slice la j gQ) lv v' news (j+c) w) (λ_ iv _=>3-(bM iv).toNat);(case atStart=>exact⟨0,_,_,by omega,J,J,M0⟩);case round=>obtain⟨c,v',news,IY,rfl,yN,oW⟩:=hrel;have HM:I (CO Bk B bb 3 1 tu w wr (.slice va (O oi) lY) oi (.slice la j gQ) u1 v' news (j+c) w):=oW;obtain⟨EN,EO,jo,Ep⟩:=Ns (FF.sh oW.own.book).row;obtain⟨N2,EP⟩:∃N2,(oi++news).length=N2:=⟨_,J⟩;rw[EP]at jo;subst jo;have DI:I ((oi++news).length=N2):=EP;clear Ep;(have xH:N2=O oi+(c+1):=by grind);clear EP;have HM:I (CO Bk B bb 3 1 tu w wr (.slice va (O oi) lY) oi (.slice la j gQ) u1 (.slice EN N2 EO) news (j+c) w):=oW;have Pg:I (O news=c+1):=yN;have ahm:=oW.own.fr.size;clear oW yN;by_cases ER:c<3;{have U9:I (M (R w)<=M (R wr)):=ahm;have DK:I (j+c+1<=cZ):=ahc (b:=8) (by decide) yt ER;have KH:I ((j+c+1)*8<=2^47):=adr yt ER;(have Ze:I (B<=wr):=dX (FF.hb HM.own.book)<|by omega);have Zf:I (N2+1<=cZ):=ahe xH FC ER;have Zg:I ((N2+1)*32<=2^47):=ahd xH FC ER;(have Ph:∀m∈tu (O oi),m.oneCell'=true:=by simp[tu,Value.oneCell']);have Zh:I (∀m∈tu (O oi),m.oneCell'=A):=Ph;clear Ph xH;go_wp2_with (at_builtin;refine ag6 _ J _ _ 43 J B 3 i1 _ 1 8 (by simp_all) lU hy0 QK zT J _ (j+c) (kJ (j+c)<|tu (O oi)) J (by exact HM.row.alloc _) wr 1 (tu (O oi)) J J (World.news_of_block (cs:=#[.int .i64<|-1-(O oi:Int)]) (t:=3) (fr:=(0,0))<|heap_alloc_new _ _) Zh DK KH (by rw[aRk];exact MP Ze) ?_);intro g4 zn w4 IZ FH;(have FH:(u1=aP g4 (j+c) zn/\(wr.alloc<|aC #[.int .i64<|-1-(O oi:Int)] 3).grownBy w4 (Y g4))\/(g4=(wr.alloc<|aC #[.int .i64<|-1-(O oi:Int)] 3).heap.size/\(wr.alloc<|aC #[.int .i64<|-1-(O oi:Int)] 3).grownBy w4 U):=by simp_all);have rJ:I (CO Bk B bb 3 1 tu w w4 (.slice va (O oi) lY) oi (.slice la j gQ) (aP g4 (j+c+1) zn) (.slice EN N2 EO) news (j+c+1) w):=HM.grown FF H (by omega) U9 HOLD (aQ _) IZ FH;clear IZ FH;(have R4:I (bI w4 B 88 2 (.slice EN N2 EO) N2<|xU<|oi++news):=by have:=(FF.sh rJ.own.book).row;rw[DI]at this;exact this);have k4:=FF.cell rJ.own.book;have f4:=FF.Zd rJ.own.book 0;have BP:=FF.lt rJ.own.book;(have I4:Value.ownBlock (.slice EN N2 EO)≠Y bb:=FF.nb rJ.own.book (FF.sh rJ.own.book).row<|by decide);go_wp2_with (at_builtin;refine aQU _ J _ _ 80 J B 88 i0 _ 2 32 (by simp_all) dL fM ed fV J (by decide) _ N2 (xU<|oi++news) J (by exact R4.alloc _) w4 1 1 [aP g4 (j+c+1) zn,O oi] J J (World.news_of_block (cs:=#[aP g4 (j+c+1) zn,O oi]) (t:=88) (fr:=(0,0))<|heap_alloc_new _ _) (by simp[Value.oneCell']) (by decide) Zf Zg (by rw[aRk];exact MP<|dX (FF.hb rJ.own.book)<|by omega) (w4+1) (by simp) ?_);intro g5 MB w5 I5 vw ES RQ;have q0:=vw.cell_far bb (by simp<;>omega)<|Ne.s I4;have q1:=vw.frozen_far bb (by simp<;>omega)<|Ne.s I4;rw[aQV _ _ _ BP,k4]at q0;rw[Ae BP,f4]at q1;go_wp2;have Zi:I (CO Bk B bb 3 1 tu w (aZ w5 bb<|aP g5 (N2+1) MB) (.slice va (O oi) lY) oi (.slice la j gQ) (aP g4 (j+c+1) zn) (aP g5 (N2+1) MB) (news++[(aP g4 (j+c+1) zn,O oi)]) (j+c+1) w):=rJ.put FF (by omega) (aQ _) vw (by rw[DI];exact I5)<|Ic ES;clear I5 vw ES RQ;go_roundw;(case rel=>exact⟨c+1,_,_,by omega,by go_num,by rw[kZ,Pg];rfl,Zi⟩);case measure=>simp[bM]<;>omega};(have HC:I (c=3):=by show c=3;omega);go_wp2;go_end0;exact⟨J,_,_,HM.own,by rw[Pg,HC],λo ho=>(HM.new o ho).1⟩}
def ax6{Bk w B bb vr l dC n xs}(aPT:Be Bk B bb 2 92 94 3 CG)(h:Bk w vr dC)(hl:bI w B 94 3 l n xs) (hold:∀o∈dC,∀k,o.1.ownBlock=Y k->dw l≠k)(qR:(O dC+4)*32<=2^47)(kE:(n+3)*32<=2^47):aH aj 99 #[ak bb,l] w λe w'=>e=dZ #[]/\∃v' news,adt Bk bb w w' vr dC l v' news/\O news=4/\∀o∈news,o.2=dC:=by
 have⟨i0,dL,fM,ed,fV⟩:=aQX axV;have⟨i1,lU,hy0,QK,zT⟩:=aQX ag1;obtain⟨va,lY,rfl,vM⟩:=Ns (aPT.sh h).row;obtain⟨la,gQ,rfl,qP⟩:=jR hl;unfold cZ at vM qP;have FF:=aQe aPT;have H:=aQe h;have HL:=aQe hl;have HOLD:=aQe hold;have FC:=aQe qR;have yt:=aQe kE;have hK:(O dC:Int)<=2^47:=YV
 have Md:=aPT.lt h;have k0:=aPT.cell h;clear aPT h hl hold qR kE;go_enter func99,ntmps99;go_wp2_with fail;go_loopw [6] (λi w'=>∃j ys,j<=n/\i=j/\bI w' B 94 3 (.slice la n gQ) n ys/\(∀q,q<j*3->ys[q]? =(kJ n<|CG (O dC))[q]?)/\Fr (λx=>Value.ownBlock (.slice la n gQ)=Y x) (w.alloc<|aC #[.int .i64<|-1-(O dC:Int),V Z 0,dN ⟨#[]⟩] 94) w') (λi _=>n-(bM i).toNat);case atStart=>exact⟨0,xs,jQ _,J,(aQ _).ownsRow HL.o λ_ _=>id,λq hq=>YV,Fr.refl _ _⟩
 case round=>obtain⟨j,ys,hj,rfl,QL,QM,bT⟩:=hrel;have HY:=aQe QL;have HP:=aQe QM;have HF:=aQe bT;have qQ:wr.heap[M (R w)]? =Y (aC #[.int .i64<|-1-(O dC:Int),V Z 0,dN ⟨#[]⟩] 94 (0,0)):=(bT.block (M (R w)) Xy (λe=>by have:=(HL.o.lt _ e).2;omega)).t<|heap_alloc_new w _;(have x0:au wr (M (R w))=Y (.int .i64<|-1-(O dC:Int)):=by rw[aJ qQ];rfl);(have x1:au wr (M (R w),1)=Y (V Z 0):=by rw[aJ qQ];rfl);(have x2:au wr (M (R w),2)=Y (dN ⟨#[]⟩):=by rw[aJ qQ];rfl);have RN:=aQe qQ;clear qQ;clear QL QM bT;by_cases aO:j<n;{rcases HY.o.2 with⟨e,h0⟩|⟨g,cap,cur,e,G6,hg,hnc,oV,hcs,Fv⟩;{omega};{simp only[aQQ]at e;obtain⟨rfl,_,rfl⟩:=e;have fz:∀o,wr.frozen? (g,o)=false:=λo=>gJ hg o;(have cz:∀q,q<3->∃u,au wr (g,j*3+q)=Y u:=λq hq=>by (have jD:j*3+q<O ys:=by rw[HY.o.1];omega);have:=HY.o.cells (g:=g) J (j*3+q) _<|gG jD;rw[Addr.add_lit]at this;exact⟨_,by simpa using this⟩);(have⟨u0x,c0⟩:=cz 0 YV);(have⟨u1x,c1⟩:=cz 1 YV);(have⟨u2x,c2⟩:=cz 2 YV);simp only[Rj]at c0;have HG:=aQe hg;clear hg oV hcs Fv cz;go_wp2;go_roundw;(case rel=>have ab2:=Xb HY.o (o:=j*3) (mc:=CG (O dC)) (by show j*3+3<=n*3;omega);have Zc:=(Fr.refl (λx=>Value.ownBlock (aP g n gQ)=Y x) wr).Gj (g:=g) (.inl J) (j*3)<|CG (O dC);refine⟨j+1,DJ ys (j*3)<|CG (O dC),YV,Y4,?_,ahg J HY.o.1 aO HP.o,?_⟩;{exact ab2};exact HF.o.t Zc λ_ h=>.inl h);case measure=>simp[bM]<;>omega}};{(have JV:j=n:=YV);subst JV;have TY:ys=kJ j (CG (O dC)):=aha J HY.o.1 HP.o;have Ie:I (Fr (λx=>Value.ownBlock (.slice la j gQ)=Y x) w wr):=(eH.alloc _).t HF.o λ_ h=>.inl h;(have Jo:I (bI wr B 94 3 (.slice la j gQ) j<|kJ j<|CG (O dC)):=by have:=HY.o;rw[TY]at this;exact this);have BG:=CO.begin FF.o H.o HL.o HOLD.o Ie.o Jo.o (w3:=w);have HB:I (Bk wr (.slice va (O dC) lY) dC):=BG.1;have Zj:I (∀{W w3 v2 hi},Fr aB wr W->W.grownBy w3 (Value.ownBlock<|.slice va (O dC) lY)->bI w3 B 92 2 v2 (O dC+1) (xU dC++[.slice la j gQ,V Z (O dC)])->(∀k,dw v2=Y k->Value.ownBlock (.slice va (O dC) lY)=Y k\/M (R wr)<=k)->CO Bk B bb 94 3 CG w (aZ w3 (bb,2) v2) (.slice va (O dC) lY) dC (.slice la j gQ) (.slice la j gQ) v2 [(.slice la j gQ,O dC)] j hi):=BG.2;clear BG;have k1:=FF.o.cell HB.o;have f1:=FF.o.Zd HB.o 2;have Eo:=FF.o.lt HB.o;(have Me:Value.ownBlock (.slice va (O dC) lY)≠Y bb:=FF.o.nb HB.o (FF.o.sh HB.o).row<|by decide);clear TY HY HP;go_wp2_with (at_builtin;refine aQU _ J _ _ 82 J B 92 i0 _ 2 32 underlying82 dL fM ed fV J (by decide) _ (O dC) (xU dC) J (by exact(FF.o.sh HB.o).row.alloc _) (M (R wr)) 1 1 [.slice la j gQ,V Z (O dC)] J J (World.news_of_block (cs:=#[.slice la j gQ,V Z (O dC)]) (t:=92) (fr:=(0,0))<|heap_alloc_new _ _) (by simp[Value.oneCell']) (by decide) (by have:=FC.o;simp only[cZ];omega) (by have:=FC.o;omega) (by have:=FF.o.hb HB.o;simp<;>omega) (M (R wr)+1) (by simp) ?_;intro gg jG w3 jO gW lX mW;have q0:=gW.cell_far ⟨bb,2,U⟩ (by simp<;>omega)<|Ne.s Me;have q1:=gW.frozen_far ⟨bb,2,U⟩ (by simp<;>omega)<|Ne.s Me;rw[aQV _ _ _ Eo,k1]at q0;rw[Ae Eo,f1]at q1);have jI:=(FF.o.put (l:=.slice la j gQ) (K:=O dC) HB.o (aQ _) gW jO (Ic lX) ⟨_,Jo.o⟩).2;have M0:I (CO Bk B bb 94 3 CG w (aZ w3 (bb,2)<|aP gg (O dC+1) jG) (.slice va (O dC) lY) dC (.slice la j gQ) (.slice la j gQ) (aP gg (O dC+1) jG) [(.slice la j gQ,O dC)] j<|M (R w)+1):=Zj.o (aQ _) gW jO<|Ic lX;have BX0:I ((aZ w3 (bb,2)<|aP gg (O dC+1) jG).heap[M (R w)]? =Y (aC #[.int .i64<|-1-(O dC:Int),V Z 0,dN ⟨#[]⟩] 94 (0,0))):=(jI.block (M (R w)) (bF RN.o) (by rintro(e|e);exact absurd e (by have:=FF.o.lt H.o;omega);exact anF RN.o (FF.o.sh HB.o).row (by decide) e)).t RN.o;clear jO gW lX mW q0 q1 jI aO Zj;rename ae=>wo;go_loopw [1,7] (λlv iv w'=>∃(c:Nat) (v':ai) (news:List (ai×Nat)),c<=3/\iv=V Z c/\O news=c+1/\CO Bk B bb 94 3 CG w w' (.slice va (O dC) lY) dC (.slice la j gQ) lv v' news (j+c) (M (R w)+1)/\w'.heap[M (R w)]? =Y (aC #[.int .i64<|-1-(O dC:Int),V Z 0,dN ⟨#[]⟩] 94 (0,0))) (λ_ iv _=>3-(bM iv).toNat);(case atStart=>exact⟨0,_,_,by omega,J,J,M0.o,BX0.o⟩);case round=>obtain⟨c,v',news,IY,rfl,yN,oW,uq⟩:=hrel;have HM:I (CO Bk B bb 94 3 CG w wr (.slice va (O dC) lY) dC (.slice la j gQ) u1 v' news (j+c)<|M (R w)+1):=oW;obtain⟨EN,EO,jo,Ep⟩:=Ns (FF.o.sh oW.own.book).row;obtain⟨N2,EP⟩:∃N2,(dC++news).length=N2:=⟨_,J⟩;rw[EP]at jo;subst jo;have DI:I ((dC++news).length=N2):=EP;clear Ep;(have xH:N2=O dC+(c+1):=by rw[<-EP,kZ,yN]);clear EP;have HM:I (CO Bk B bb 94 3 CG w wr (.slice va (O dC) lY) dC (.slice la j gQ) u1 (.slice EN N2 EO) news (j+c)<|M (R w)+1):=oW;have Pg:I (O news=c+1):=yN;have ahm:=oW.own.fr.size;have qX:I (wr.heap[M (R w)]? =Y (aC #[.int .i64<|-1-(O dC:Int),V Z 0,dN ⟨#[]⟩] 94 (0,0))):=uq;(have b0:au wr (M (R w))=Y (.int .i64<|-1-(O dC:Int)):=by rw[aJ uq];rfl);(have b1:au wr (M (R w),1)=Y (V Z 0):=by rw[aJ uq];rfl);(have b2:au wr (M (R w),2)=Y (dN ⟨#[]⟩):=by rw[aJ uq];rfl);clear oW yN uq;by_cases ER:c<3;{have U9:I (M (R w)+1<=M (R wr)):=bF qX.o;have DK:I (j+c+1<=cZ):=ahc (b:=32) (by decide) yt.o ER;have KH:I ((j+c+1)*32<=2^47):=adr yt.o ER;have Ze:I (B<=M (R wr)):=dX (FF.o.hb HM.o.own.book)<|EG<|FF.o.lt HM.o.own.book;have Zf:I (N2+1<=cZ):=ahe xH FC.o ER;have Zg:I ((N2+1)*32<=2^47):=ahd xH FC.o ER;(have Ph:∀m∈CG (O dC),m.oneCell'=true:=by simp[CG,Value.oneCell']);have Zh:I (∀m∈CG (O dC),m.oneCell'=A):=Ph;clear Ph xH;go_wp2_with (at_builtin;refine ag6 _ J _ _ 67 J B 94 i1 _ 3 32 underlying67 lU hy0 QK zT J _ (j+c) (kJ (j+c)<|CG (O dC)) J (by exact HM.o.row.alloc _) (M (R wr)) 1 (CG (O dC)) J J (World.news_of_block (cs:=#[.int .i64<|-1-(O dC:Int),V Z 0,dN ⟨#[]⟩]) (t:=94) (fr:=(0,0))<|heap_alloc_new _ _) Zh.o DK.o KH.o (by rw[aRk];exact MP Ze.o) ?_);intro g4 zn w4 IZ FH;(have FH:(u1=aP g4 (j+c) zn/\(wr.alloc<|aC #[.int .i64<|-1-(O dC:Int),V Z 0,dN ⟨#[]⟩] 94).grownBy w4 (Y g4))\/(g4=(wr.alloc<|aC #[.int .i64<|-1-(O dC:Int),V Z 0,dN ⟨#[]⟩] 94).heap.size/\(wr.alloc<|aC #[.int .i64<|-1-(O dC:Int),V Z 0,dN ⟨#[]⟩] 94).grownBy w4 U):=by rcases FH with h1|⟨h1,h2⟩;{exact .inl h1};exact .inr ⟨by rw[aRk];exact h1,h2⟩);have rJ:I (CO Bk B bb 94 3 CG w w4 (.slice va (O dC) lY) dC (.slice la j gQ) (aP g4 (j+c+1) zn) (.slice EN N2 EO) news (j+c+1)<|M (R w)+1):=HM.o.grown FF.o H.o (by omega) U9.o HOLD.o (aQ _) IZ FH;have RP:I (w4.heap[M (R w)]? =Y (aC #[.int .i64<|-1-(O dC:Int),V Z 0,dN ⟨#[]⟩] 94 (0,0))):=anG qX.o HM.o.RG HL.o (aQ _) FH;clear IZ FH;(have R4:I (bI w4 B 92 2 (.slice EN N2 EO) N2<|xU<|dC++news):=by have:=(FF.o.sh rJ.o.own.book).row;rw[DI.o]at this;exact this);have k4:=FF.o.cell rJ.o.own.book;have f4:=FF.o.Zd rJ.o.own.book 2;have BP:=FF.o.lt rJ.o.own.book;(have I4:Value.ownBlock (.slice EN N2 EO)≠Y bb:=FF.o.nb rJ.o.own.book (FF.o.sh rJ.o.own.book).row<|by decide);go_wp2_with (at_builtin;refine aQU _ J _ _ 82 J B 92 i0 _ 2 32 underlying82 dL fM ed fV J (by decide) _ N2 (xU<|dC++news) J (by exact R4.o.alloc _) (M (R w4)) 1 1 [aP g4 (j+c+1) zn,V Z (O dC)] J J (World.news_of_block (cs:=#[aP g4 (j+c+1) zn,V Z (O dC)]) (t:=92) (fr:=(0,0))<|heap_alloc_new _ _) (by simp[Value.oneCell']) (by decide) Zf.o Zg.o (by rw[aRk];exact MP<|dX (FF.o.hb rJ.o.own.book)<|EG<|FF.o.lt rJ.o.own.book) (M (R w4)+1) (by simp) ?_);intro g5 MB w5 I5 vw ES RQ;have q0:=vw.cell_far (bb,2) (by simp<;>omega)<|Ne.s I4;have q1:=vw.frozen_far (bb,2) (by simp<;>omega)<|Ne.s I4;rw[aQV _ _ _ BP,k4]at q0;rw[Ae BP,f4]at q1;go_wp2;have Zi:I (CO Bk B bb 94 3 CG w (aZ w5 (bb,2)<|aP g5 (N2+1) MB) (.slice va (O dC) lY) dC (.slice la j gQ) (aP g4 (j+c+1) zn) (aP g5 (N2+1) MB) (news++[(aP g4 (j+c+1) zn,O dC)]) (j+c+1)<|M (R w)+1):=rJ.o.put FF.o (by omega) (aQ _) vw (by rw[DI.o];exact I5)<|Ic ES;have Xe:I ((aZ w5 (bb,2)<|aP g5 (N2+1) MB).heap[M (R w)]? =Y (aC #[.int .i64<|-1-(O dC:Int),V Z 0,dN ⟨#[]⟩] 94 (0,0))):=anH RP.o R4.o (by decide) (by have:=FF.o.lt H.o;omega) (aQ _) vw;clear I5 vw ES RQ;go_roundw;(case rel=>exact⟨c+1,_,_,by omega,by go_num,by rw[kZ,Pg.o];rfl,Zi.o,Xe.o⟩);case measure=>simp[bM]<;>omega};(have HC:I (c=3):=by show c=3;omega);go_wp2;go_end0;exact⟨J,_,_,HM.o.own,by rw[Pg.o,HC.o],λo ho=>(HM.o.new o ho).1⟩}
def Zk:fF 0:=by show(Lit.int .i64 0).wf=A;decide
def anW{w B H bm n v s}(h:eY w B H bm v n s)(p t)(hp:fF p)(hn:n<cZ):aH aj 126 #[ak H,p,V Z t] w λe w'=>e=aU (.bool<|s.vV p t)/\Left w w' B H bm v v (n+1) (s.opened p t):=(awP h p t hp hn).z λ_ _ ⟨h1,h2,h3⟩=>⟨h1,h2,h3.z λ_ e=>e,λ_ hk=>hk⟩
section
def tag(w:ae)(k:Nat):Nat:=match w.heap[k]? with|some (.cells _ H _)=>H|some (.map _ _)=>1000000|_=>2000000
variable{w w2 k B n lb bm yb}{ty:dB}{v u s L S}
theorem lM{cs fr}(h:w.heap[k]? =Y (.cells cs ty fr)):tag w k=ty:=by simp[tag,h]
theorem ig{wd xs}(h:bI w B ty wd v n xs)(H:dw v=Y k):tag w k=ty:=by rcases h.2 with⟨rfl,_⟩|⟨g,cap,cur,rfl,_,hg,_⟩;{simp[Value.ownBlock]at H};simp[Value.ownBlock]at H;subst H;exact lM hg
def ax7{P kt b f}(h:lg w P kt b n f):tag w b=1000000:=by have⟨D,⟨es,H,hb,_⟩,_⟩:=h;simp[tag,hb]
def Ih(lb bm:Nat)(v:ai)(k:Nat):Prop:=k=lb\/k=bm\/dw v=k
def Ii(yb:Nat)(u:ai)(k:Nat):Prop:=k=yb\/dw u=k
def anX(bb:Nat)(vi H vr:ai)(k:Nat):Prop:=k=bb\/dw vi=k\/dw H=k\/dw vr=k
theorem eY.tags(h:eY w B lb bm v n s)(H:Ih lb bm v k):tag w k=163\/tag w k=1000000\/tag w k=55:=by rcases H with rfl|rfl|H;{exact .inl<|lM h.blk};{exact .inr<|.inl<|ax7 h.map};grind[ig,cases eY]
theorem iU.tags(h:iU w B yb u L)(H:Ii yb u k):tag w k=142\/tag w k=238:=by rcases H with rfl|H;{exact .inl<|lM h.blk};exact .inr<|ig h.row H
theorem eY.stay(h:eY w B lb bm v n s)(f:Fr S w w2)(H:∀k,S k->Ih lb bm v k->False):eY w2 B lb bm v n s:=f.logAt h (λe=>H _ e<|.inl J) (λe=>H _ e<|.inr<|.inl J) (λ_ hk e=>H _ e<|.inr<|.inr hk)
theorem iU.stay(h:iU w B yb u L)(f:Fr S w w2)(H:∀k,S k->Ii yb u k->False):iU w2 B yb u L:=f.qw h (λe=>H _ e<|.inl J) (λ_ hk e=>H _ e<|.inr hk)
theorem sF.stay{bb vi ve vr oi oe dC}(h:sF w B bb vi ve vr oi oe dC)(f:Fr S w w2)(H:∀k,S k->anX bb vi ve vr k->False) (hL:∀o,(o∈oi\/o∈oe\/o∈dC)->∀k,o.1.ownBlock=Y k->¬S k):sF w2 B bb vi ve vr oi oe dC:=⟨(f.block bb h.lt λe=>H _ e<|.inl J).t h.blk,f.Jm h.si (λ_ hk e=>H _ e<|.inr<|.inl hk) Zv,f.Jm h.se (λ_ hk e=>H _ e<|.inr Zv) (λo ho=>Zv),f.Jm h.sr (λ_ hk e=>H _ e<|.inr Zv) (λo ho=>Zv),h.hb⟩
end
section
structure jY where
 vi:ai
 ve:ai
 vr:ai
 oi:List (ai×Nat)
 oe:List (ai×Nat)
 dC:List (ai×Nat)
def jY.all(o:jY)(bb k:Nat):Prop:=anX bb o.vi o.ve o.vr k\/∃q,(q∈o.oi\/q∈o.oe\/q∈o.dC)/\q.1.ownBlock=k
def ptr(b:Nat):Value:=ak b
abbrev xW(w1 w':ae)(v:ai)(l:List Int):Prop:=bI w' (M (R w1)) 3 1 v (O l)<|dY l
abbrev bg(aPT:Nat->Prop)(w w1:ae):Prop:=Fr (λk=>¬aPT k) w w1
theorem bg.t{H w w1 w2}(h:bg H w w1)(h2:bg H w1 w2):bg H w w2:=Fr.t h h2 Zv
theorem Fr.aW{H w w1}(f:Fr aB w w1):bg H w w1:=f.z Zv
structure adu(x y:ai)(n:Int)(w1:ae)(e t s er:Int)(aPS B:List Int):Prop where
 a:aH aj 30 #[x,V Z n] w1 λr w'=>∃va vb,r=aU (dZ #[jf #[V Z e,V Z t,V Z s,va,vb],V Z er])/\xW w1 w' va aPS/\xW w1 w' vb B/\(∀k,dw va=Y k->dw vb≠Y k)/\Fr aB w1 w'
 b:aH aj 93 #[y,V Z n] w1 λr w'=>∃va vb,r=aU (dZ #[jf #[V Z e,V Z t,V Z s,va,vb],V Z er])/\xW w1 w' va aPS/\xW w1 w' vb B/\Fr aB w1 w'
structure anY(x y:ai)(n:Int)(w1:ae)(o:Bool)(en st er:Int)(Pr:List Int->Prop):Prop where
 a:aH aj 23 #[x,V Z n] w1 λr w'=>∃va S,r=aU (dZ #[jf #[aA o,V Z en,V Z st,va],V Z er])/\Pr S/\xW w1 w' va S/\Fr aB w1 w'
 b:∀S,Pr S->aH aj 96 #[y,V Z n] w1 λr w'=>∃va,r=aU (dZ #[jf #[aA o,V Z en,V Z st,va],V Z er])/\xW w1 w' va S/\Fr aB w1 w'
structure ax8(x y:ai)(n f m:Int)(w1:ae)(er:Int)(rs:List Rec):Prop where
 a:aH aj 57 #[x,V Z n,V Z f,V Z m] w1 λr w'=>∃va,r=aU (dZ #[va,V Z er])/\bI w' (M (R w1)) 94 3 va (O rs) (tq rs)/\Fr aB w1 w'
 b:aH aj 97 #[y,V Z n,V Z f,V Z m] w1 λr w'=>∃va,r=aU (dZ #[va,V Z er])/\bI w' (M (R w1)) 94 3 va (O rs) (tq rs)/\Fr aB w1 w'
structure ax9(x y:ai)(n:Int)(w1:ae)(er:Int)(es:List dF):Prop where
 a:aH aj 17 #[x,V Z n] w1 λr w'=>∃va,r=aU (dZ #[va,V Z er])/\bI w' (M (R w1)) 55 4 va (O es) (jL es)/\Fr aB w1 w'
 b:aH aj 100 #[y,V Z n] w1 λr w'=>∃va,r=aU (dZ #[va,V Z er])/\bI w' (M (R w1)) 55 4 va (O es) (jL es)/\Fr aB w1 w'
structure anZ(x y:ai)(w1:ae)(s:ByteArray):Prop where
 a:aH aj 26 #[x] w1 λr w'=>r=aU (dN s)/\Fr aB w1 w'
 b:aH aj 42 #[y] w1 λr w'=>r=aU (dN s)/\Fr aB w1 w'
structure ahn(x y:ai)(w1:ae)(n:Nat):Prop where
 a:aH aj 36 #[x] w1 λr w'=>r=aU (V Z n)/\Fr aB w1 w'
 b:aH aj 37 #[y] w1 λr w'=>r=aU (V Z n)/\Fr aB w1 w'
structure adw(x y:ai)(k:Int)(w1:ae)(m1 m2 m3 m4 er:Int)(f:Bool):Prop where
 a:aH aj 87 #[x,V Z k] w1 λr w'=>r=aU (dZ #[jf #[V Z m1,V Z m2,V Z m3,V Z m4,aA f],V Z er])/\Fr aB w1 w'
 b:aH aj 88 #[y,V Z k] w1 λr w'=>r=aU (dZ #[jf #[V Z m1,V Z m2,V Z m3,V Z m4,aA f],V Z er])/\Fr aB w1 w'
structure Ask(w:ae)(aPT:Nat->Prop)(x y:ai):Prop where
 prod:∀n,fF n->∃e t s er aPS B,O aPS<=4/\O B<=4/\∀w1,bg aPT w w1->adu x y n w1 e t s er aPS B
 part:∀n,fF n->∃o en st er Pr,(∀S:List Int,Pr S->O S<=100000000)/\∀w1,bg aPT w w1->anY x y n w1 o en st er Pr
 vY:∀n f m,fF n->∃er rs,O rs<=100000000/\∀w1,bg aPT w w1->ax8 x y n f m w1 er rs
 aho:∀n,fF n->∃er es,O es<=100000000/\∀w1,bg aPT w w1->ax9 x y n w1 er es
 pG:∃s,∀w1,bg aPT w w1->anZ x y w1 s
 num:∃n:Nat,n<=100/\∀w1,bg aPT w w1->ahn x y w1 n
 Zl:∀k,fF k->∃a b c d er f,∀w1,bg aPT w w1->adw x y k w1 a b c d er f
theorem Ask.aW{w w':ae}{aPT:Nat->Prop}{x y:ai}(h:Ask w aPT x y)(k:bg aPT w w'):Ask w' aPT x y where
 prod n hn:=have⟨e,t,s,er,aPS,B,h1,h2,h3⟩:=h.prod n hn;⟨e,t,s,er,aPS,B,h1,h2,λw1 H=>h3 w1<|k.t H⟩
 part n hn:=have⟨o,en,st,er,S,h1,h3⟩:=h.part n hn;⟨o,en,st,er,S,h1,λw1 H=>h3 w1<|k.t H⟩
 vY n f m hn:=have⟨er,rs,h1,h3⟩:=h.vY n f m hn;⟨er,rs,h1,λw1 H=>h3 w1<|k.t H⟩
 aho n hn:=have⟨er,rs,h1,h3⟩:=h.aho n hn;⟨er,rs,h1,λw1 H=>h3 w1<|k.t H⟩
 pG:=have⟨s,h3⟩:=h.pG;⟨s,λw1 H=>h3 w1<|k.t H⟩
 num:=have⟨s,h1,h3⟩:=h.num;⟨s,h1,λw1 H=>h3 w1<|k.t H⟩
 Zl n hn:=have⟨a,b,c,d,er,f,h3⟩:=h.Zl n hn;⟨a,b,c,d,er,f,λw1 H=>h3 w1<|k.t H⟩
structure jw(w:ae)(B:Nat)(aPT:Nat->Prop)(wb xb yb bb n:Nat)(o:jY):Prop where
 blk:w.heap[wb]? =Y (aC #[ptr xb,ptr yb,ptr bb] 37 (0,0))
 hw:aPT wb
 book:sF w B bb o.vi o.ve o.vr o.oi o.oe o.dC
 ap:∀k,aPT k->o.all bb k->False
 Gl:∀k,aPT k->k<M (R w)
 fB:∀k,aPT k->B<=k
 ci:O o.oi<=4*n
 ce:O o.oe<=4*n
 cr:O o.dC<=4*n
 Ij:∀q:ai×Nat,(q∈o.oi\/q∈o.oe\/q∈o.dC)->q.2<=4*n
section
variable{w w':ae}{B:Nat}{aPT:Nat->Prop}{wb xb yb bb n:Nat}{o:jY}
def sF.Pj{vi ve vr oi oe dC}(h:sF w B bb vi ve vr oi oe dC){k}(H:jY.all ⟨vi,ve,vr,oi,oe,dC⟩ bb k):k<w/\B<=k:=by rcases H with(rfl|H|H|H)|⟨q,hq,H⟩;{exact⟨h.lt,h.hb⟩};{exact⟨(h.si.row.lt k H).2,(h.si.row.lt k H).1⟩};{exact⟨(h.se.row.lt k H).2,(h.se.row.lt k H).1⟩};{exact⟨(h.sr.row.lt k H).2,(h.sr.row.lt k H).1⟩};rcases hq with hq|hq|hq;{have⟨len,hx⟩:=h.si.ok q hq;exact⟨(hx.lt k H).2,(hx.lt k H).1⟩};{have⟨len,hx⟩:=h.se.ok q hq;exact⟨(hx.lt k H).2,(hx.lt k H).1⟩};have⟨len,hx⟩:=h.sr.ok q hq;exact⟨(hx.lt k H).2,(hx.lt k H).1⟩
def jw.cells(h:jw w B aPT wb xb yb bb n o):w wb=ptr xb/\w (wb,1)=ptr yb/\w (wb,2)=ptr bb:=by refine⟨?_,?_,?_⟩<;>(rw[aJ h.blk];rfl)
theorem jw.a(h:jw w B aPT wb xb yb bb n o)(f:Fr aB w w'):jw w' B aPT wb xb yb bb n o:=⟨(f.block wb (bF h.blk) id).t h.blk,h.hw,f.RH h.book,h.ap,λk H=>gZ (h.Gl k H) f.size,h.fB,h.ci,h.ce,h.cr,h.Ij⟩
def jw.room(h:jw w B aPT wb xb yb bb n o)(hn:n<=90000000):(O o.oi+4)*32<=2^47/\(O o.oe+4)*32<=2^47/\(O o.dC+4)*32<=2^47:=by have h3:=h.ci;have h4:=h.ce;have h5:=h.cr;omega
structure DL(w w':ae)(B:Nat)(aPT:Nat->Prop)(wb xb yb bb n:Nat)(o:jY)(l:ai)(o':jY):Prop where
 iK:jw w' B aPT wb xb yb bb (n+1) o'
 fr:Fr (λk=>o.all bb k\/dw l=Y k) w w'
 mY:∀k,o'.all bb k->o.all bb k\/dw l=Y k\/M (R w)<=k
variable{l:ai}{len:Nat}{xs:List ai}
theorem DL.aW{o'}(h:jw w B aPT wb xb yb bb n o)(hF:∀k,dw l=Y k->¬aPT k)(p:DL w w' B aPT wb xb yb bb n o l o'):bg aPT w w':=p.fr.z (λk H=>.inl (λhf=>by rcases H with H|H;{exact h.ap k hf H};grind))
def jw.ahp(h:jw w B aPT wb xb yb bb n o)(hn:n<=90000000)(hl:bI w B 3 1 l len xs)(hF:∀k,dw l=Y k->¬aPT k)(hA:∀k,dw l=Y k->¬o.all bb k)(hlen:len<=100000000):aH aj 95 #[ptr bb,l] w λe w'=>e=dZ #[]/\∃o',DL w w' B aPT wb xb yb bb n o l o':=by refine(ax5 aMe h.book hl (λq hq k H e=>hA k e<|.inr ⟨q,hq,H⟩) (h.room hn).1 YV).z λ_ w' ⟨h1,v',news,h2,h3,h4⟩=>⟨h1,⟨v',o.ve,o.vr,o.oi++news,o.oe,o.dC⟩,?_⟩;have fr:Fr (λk=>o.all bb k\/dw l=k) w w':=h2.fr.z (λk H=>.inl (by rcases H with H|H|H;{exact .inl<|.inl<|.inl H};{exact .inl<|.inl<|.inr<|.inl H};exact .inr H));(have mY:∀k,jY.all ⟨v',o.ve,o.vr,o.oi++news,o.oe,o.dC⟩ bb k->o.all bb k\/dw l=k\/w<=k:=by intro k H;rcases H with(H|H|H|H)|⟨q,hq,H⟩;{exact .inl<|.inl<|.inl H};{rcases h2.Xc k H with a|a;{exact .inl<|.inl<|.inr<|.inl a};exact .inr<|.inr a};{exact .inl<|.inl<|.inr<|.inr<|.inl H};{exact .inl<|.inl<|.inr<|.inr<|.inr H};simp only[yu]at hq;rcases hq with(hq|hq)|hq|hq;{exact .inl<|.inr ⟨q,hq,H⟩};{exact .inr<|h2.mY q hq k H};{exact .inl<|.inr ⟨q,hq,H⟩};exact .inl<|.inr ⟨q,hq,H⟩);have hci:=h.ci;refine⟨⟨(fr.block wb (bF h.blk) λH=>?_).t h.blk,h.hw,h2.book,λk hf H=>?_,λk H=>gZ (h.Gl k H) fr.size,h.fB,?_,?_,?_,?_⟩,fr,mY⟩;{rcases H with H|H;{exact h.ap wb h.hw H};exact hF wb H h.hw};{rcases mY k H with a|a|a;{exact h.ap k hf a};{exact hF k a hf};have:=h.Gl k hf;omega};{simp only[kZ];omega};{have:=h.ce;simp only;omega};{have:=h.cr;simp only;omega};intro q hq;simp only[yu]at hq;rcases hq with(hq|hq)|hq;{have:=h.Ij q hq;omega};{have:=h4 q hq;omega};have:=h.Ij q hq;omega
def jw.aya(h:jw w B aPT wb xb yb bb n o)(hn:n<=90000000)(hl:bI w B 55 4 l len xs)(hF:∀k,dw l=Y k->¬aPT k)(hA:∀k,dw l=Y k->¬o.all bb k)(hlen:len<=100000000):aH aj 102 #[ptr bb,l] w λe w'=>e=dZ #[]/\∃o',DL w w' B aPT wb xb yb bb n o l o':=by refine(ax2 aMd h.book hl (λq hq k H e=>hA k e<|.inr ⟨q,hq,H⟩) (h.room hn).2.1 YV).z λ_ w' ⟨h1,v',news,h2,h3,h4⟩=>⟨h1,⟨o.vi,v',o.vr,o.oi,o.oe++news,o.dC⟩,?_⟩;have fr:Fr (λk=>o.all bb k\/dw l=k) w w':=h2.fr.z (λk H=>.inl (by rcases H with H|H|H;{exact .inl<|.inl<|.inl H};{exact .inl<|.inl<|.inr<|.inr<|.inl H};exact .inr H));(have mY:∀k,jY.all ⟨o.vi,v',o.vr,o.oi,o.oe++news,o.dC⟩ bb k->o.all bb k\/dw l=k\/w<=k:=by intro k H;rcases H with(H|H|H|H)|⟨q,hq,H⟩;{exact .inl<|.inl<|.inl H};{exact .inl<|.inl<|.inr<|.inl H};{rcases h2.Xc k H with a|a;{exact .inl<|.inl<|.inr<|.inr<|.inl a};exact .inr<|.inr a};{exact .inl<|.inl<|.inr<|.inr<|.inr H};simp only[yu]at hq;rcases hq with hq|(hq|hq)|hq;{exact .inl<|.inr ⟨q,hq,H⟩};{exact .inl<|.inr ⟨q,hq,H⟩};{exact .inr<|h2.mY q hq k H};exact .inl<|.inr ⟨q,hq,H⟩);have BO:=h.ce;refine⟨⟨(fr.block wb (bF h.blk) λH=>?_).t h.blk,h.hw,h2.book,λk hf H=>?_,λk H=>gZ (h.Gl k H) fr.size,h.fB,?_,?_,?_,?_⟩,fr,mY⟩;{rcases H with H|H;{exact h.ap wb h.hw H};exact hF wb H h.hw};{rcases mY k H with a|a|a;{exact h.ap k hf a};{exact hF k a hf};have:=h.Gl k hf;omega};{have:=h.ci;simp only;omega};{simp only[kZ];omega};{have:=h.cr;simp only;omega};intro q hq;simp only[yu]at hq;rcases hq with hq|(hq|hq)|hq;{have:=h.Ij q hq;omega};{have:=h.Ij q hq;omega};{have:=h4 q hq;omega};have:=h.Ij q hq;omega
def jw.ayb(h:jw w B aPT wb xb yb bb n o)(hn:n<=90000000)(hl:bI w B 94 3 l len xs)(hF:∀k,dw l=Y k->¬aPT k)(hA:∀k,dw l=Y k->¬o.all bb k)(hlen:len<=100000000):aH aj 99 #[ptr bb,l] w λe w'=>e=dZ #[]/\∃o',DL w w' B aPT wb xb yb bb n o l o':=by refine(ax6 aMf h.book hl (λq hq k H e=>hA k e<|.inr ⟨q,hq,H⟩) (h.room hn).2.2 YV).z λ_ w' ⟨h1,v',news,h2,h3,h4⟩=>⟨h1,⟨o.vi,o.ve,v',o.oi,o.oe,o.dC++news⟩,?_⟩;have fr:Fr (λk=>o.all bb k\/dw l=k) w w':=h2.fr.z (λk H=>.inl (by rcases H with H|H|H;{exact .inl<|.inl<|.inl H};{exact .inl<|.inl<|.inr<|.inr<|.inr H};exact .inr H));(have mY:∀k,jY.all ⟨o.vi,o.ve,v',o.oi,o.oe,o.dC++news⟩ bb k->o.all bb k\/dw l=k\/w<=k:=by intro k H;rcases H with(H|H|H|H)|⟨q,hq,H⟩;{exact .inl<|.inl<|.inl H};{exact .inl<|.inl<|.inr<|.inl H};{exact .inl<|.inl<|.inr<|.inr<|.inl H};{rcases h2.Xc k H with a|a;{exact .inl<|.inl<|.inr<|.inr<|.inr a};exact .inr<|.inr a};simp only[yu]at hq;rcases hq with hq|hq|(hq|hq);{exact .inl<|.inr ⟨q,hq,H⟩};{exact .inl<|.inr ⟨q,hq,H⟩};{exact .inl<|.inr ⟨q,hq,H⟩};exact .inr<|h2.mY q hq k H);have hcr:=h.cr;refine⟨⟨(fr.block wb (bF h.blk) λH=>?_).t h.blk,h.hw,h2.book,λk hf H=>?_,λk H=>gZ (h.Gl k H) fr.size,h.fB,?_,?_,?_,?_⟩,fr,mY⟩;{rcases H with H|H;{exact h.ap wb h.hw H};exact hF wb H h.hw};{rcases mY k H with a|a|a;{exact h.ap k hf a};{exact hF k a hf};have:=h.Gl k hf;omega};{have:=h.ci;simp only;omega};{have:=h.ce;simp only;omega};{simp only[kZ];omega};intro q hq;simp only[yu]at hq;rcases hq with hq|hq|(hq|hq);{have:=h.Ij q hq;omega};{have:=h.Ij q hq;omega};{have:=h.Ij q hq;omega};have:=h4 q hq;omega
def jw.looks(h:jw w B aPT wb xb yb bb n o)(hn:n<=90000000):aH aj 13 #[ptr bb] w λe w'=>e=A/\Fr aB w w':=axY h.book (λq H=>by have:=h.Ij q H;omega)
end
end
section
structure PS where
 e:Int
 t:Int
 s:Int
 a:Int
 b:Int
 c:Int
 d:Int
 si:Int
 wa:Int
 ga:Int
def PS.cs(p:PS):List Value:=[p.e,p.t,p.s,p.a,p.b,p.c,p.d,p.si,p.wa,p.ga]
structure Ms where
 k:Int
 q:Int
 p:Int
 t:Int
 c:Bool
def Ms.cs(r:Ms):List Value:=[r.k,r.q,r.p,r.t,r.c]
structure PL where
 lb:Nat
 bm:Nat
 v:ai
 s:aN
 out:Bool
def PL.cs(p:PL):List Value:=[ptr p.lb,p.out]
def vz(l:List PL):List Value:=l.flatMap PL.cs
structure HS where
 P:Int
 Q:Int
 T:Int
 K:Int
 jv:ai
 jb:List ai
 up:Bool
 ps:List PS
 br:Bool
 kp:Int
 pv:ai
 pl:List PL
 fv:ai
 fl:List Ms
def HS.cells(h:HS):List Value:=[V Z h.P,h.Q,h.T,h.K,h.jv,h.up]++(h.ps.flatMap PS.cs++[aA h.br,h.kp,h.pv,h.fv])
def yz:PS:=⟨0,0,0,0,0,0,0,0,0,0⟩
def ET:List PS:=[yz,yz,yz,yz,yz,yz]
structure aG(w:ae)(B xb n:Nat)(h:HS):Prop where
 blk:w.heap[xb]? =Y (.cells h.cells.toArray 111 (0,0))
 pG:bI w B 5 1 h.jv (O h.jb) h.jb
 qK:bI w B 98 2 h.pv (O h.pl) (vz h.pl)
 tC:bI w B 119 5 h.fv (O h.fl) (h.fl.flatMap Ms.cs)
 dO:∀p∈h.pl,eY w B p.lb p.bm p.v n p.s
 hx:B<=xb
 hP:1<=h.P/\h.P<=6
 hQ:h.Q=O h.pl/\1<=h.Q/\h.Q<=4
 h6:O h.ps=6
def Ik{α:Type}{l:List α}(h:O l=6):∃a b c d e f,l=[a,b,c,d,e,f]:=by match l,h with|[a,b,c,d,e,f],_=>grind
def Xf(cs:Array ai)(o:Nat):List ai->Array ai|[]=>cs|v::r=>Xf (cs.setIfInBounds o v) (o+1) r
variable{b n B xb t}{w w':ae}{h:HS}
theorem Xg{fr:Nat×Nat}:∀(vs:List ai) (o:Nat) {w:ae} {cs:Array ai},w.heap[b]? =Y (.cells cs t fr)->(w.setCells b o vs).heap[b]? =Y (.cells (Xf cs o vs) t fr)|[],_,_,_,h=>h|v::r,o,_,_,h=>Xg r _<|eX h o v
theorem Fr.setCells{S:Nat->Prop}{a:ae}(H:S b\/a.heap.size<=b):∀(vs:List ai) (o:Nat) {w:ae},Fr S a w->Fr S a (w.setCells b o vs)|[],_,_,h=>h|v::r,o,_,h=>Fr.setCells H r _<|by grind[Fr.setCell]
theorem adx{cs}(h:w.heap[b]? =Y (.cells cs t (0,0))){o}(hn:o+n<=cs.size):w.there b o n:=λj hj=>by refine⟨?_,gJ h _⟩;rw[aJ h,afV YV];rfl
def ayc:(prog.info? 105).map (·.size)=Y 64:=KG
def HS.EU(h:HS):HS:={h with up:=ah,ps:=ET,br:=ah,kp:=0}
def ady(jv:ai):List Value:=[jv,ah]++(ET.flatMap PS.cs++[aA ah,V Z 0])
theorem adz(l):(l.flatMap PS.cs).length=O l*10:=by induction l with|nil=>rfl|cons a r H=>simp[Ad,H,PS.cs]<;>omega
theorem HS.size(H:O h.ps=6):h.cells.toArray.size=70:=by simp only[HS.cells,F7,kZ,adz,H,Cc,EF]
def HS.ayd(H:O h.ps=6):Xf h.cells.toArray 4 (ady h.jv)=h.EU.cells.toArray:=by obtain⟨P,Q,T,K,jv,jb,up,ps,br,kp,pv,pl,fv,fl⟩:=h;obtain⟨⟨e0,t0,s0,a0,b0,c0,d0,x0,y0,z0⟩,⟨e1,t1,s1,a1,b1,c1,d1,x1,y1,z1⟩,⟨e2,t2,s2,a2,b2,c2,d2,x2,y2,z2⟩,⟨e3,t3,s3,a3,b3,c3,d3,x3,y3,z3⟩,⟨e4,t4,s4,a4,b4,c4,d4,x4,y4,z4⟩,⟨e5,t5,s5,a5,b5,c5,d5,x5,y5,z5⟩,rfl⟩:=Ik H;kernel_rfl
theorem aG.Zm(H:aG w B xb n h):h.jv.ownBlock≠xb:=λe=>by have h1:=ig H.pG e;grind[lM,cases aG]
theorem aG.ahq(H:aG w B xb n h):h.pv.ownBlock≠xb:=λe=>by have h1:=ig H.qK e;grind[lM,cases aG]
theorem aG.ahr(H:aG w B xb n h):h.fv.ownBlock≠xb:=λe=>by have h1:=ig H.tC e;grind[lM,cases aG]
theorem aG.RU(H:aG w B xb n h){p}(hp:p∈h.pl):¬Ih p.lb p.bm p.v xb:=λe=>by have h0:=lM H.blk;grind[eY.tags,cases aG]
theorem aG.a(H:aG w B xb n h)(f:Fr aB w w'):aG w' B xb n h:=⟨(by grind[cases Fr,cases aG]),f.ownsRow H.pG Zv,(by grind[Fr.ownsRow,cases aG]),(by grind[Fr.ownsRow,cases aG]),(by grind[Fr.logAt,cases aG]),H.hx,H.hP,H.hQ,H.h6⟩
def aG.put{H}(hh:aG w B xb n h)(f:Fr (λk=>k=xb) w w')(hb:w'.heap[xb]? =Y (.cells H.cells.toArray 111 (0,0)))(hj:H.jv=h.jv)(hjb:H.jb=h.jb)(jB:H.pv=h.pv)(xI:H.pl=h.pl)(TZ:H.fv=h.fv)(He:H.fl=h.fl)(hP:H.P=h.P)(hQ:H.Q=h.Q)(h6:O H.ps=6):aG w' B xb n H:=⟨hb,by grind[Fr.ownsRow,cases aG,aG.Zm],by grind[Fr.ownsRow,cases aG,aG.ahq],by grind[Fr.ownsRow,cases aG,aG.ahr],(by grind[eY.stay,cases aG,aG.RU]),hh.hx,by rw[hP];exact hh.hP,by rw[hQ,xI];exact hh.hQ,h6⟩
def ahs(H:aG w B xb n h):aH aj 104 #[ak<|Y (xb,4)] w λe w'=>e=dZ #[]/\aG w' B xb n h.EU/\Fr (λk=>k=xb) w w':=by have HH:I _:=H;have k4:=cc H.blk 4;have⟨ja,jc,hj,_⟩:=jR H.pG;rw[hj]at k4;have HTH:I (w.there xb 4 64):=(by grind[adx,cases aG,HS.size]);have HJ:I (h.jv=.slice ja h.jb jc):=hj;have aO:=bF H.blk;clear H hj;go_enter func104,ntmps104;go_wp2_with (refine aRE J 105 _ _ J xb 4 (ady<|.slice ja h.jb jc).toArray J J HTH ayc (by simp[ady,PS.cs,yz,ET,Value.oneCell']) ?_);go_end0;have hc:=HS.ayd HH.h6;rw[HJ]at hc;have fr:Fr (λk=>k=xb) w (w.setCells xb 4<|ady<|.slice ja h.jb jc):=(by grind[Fr.setCells,Fr.refl]);refine⟨J,HH.put fr ?_ J J J J J J J J J,fr⟩;grind[Xg,aG.blk,Hid]
end
section
section
variable{w B xb n h}
def aG.cP(H:aG w B xb n h):w xb=h.P:=by rw[aJ H.blk];rfl
def aG.cJ(H:aG w B xb n h):w (xb,4)=h.jv:=by rw[aJ H.blk];rfl
def aG.cU(H:aG w B xb n h):w (xb,5)=h.up:=by rw[aJ H.blk];rfl
theorem HS.c4{h:HS}(H:O h.ps=6):h.cells.toArray[66]? =Y (aA h.br)/\h.cells.toArray[67]? =Y (V Z h.kp)/\h.cells.toArray[68]? =Y h.pv/\h.cells.toArray[69]? =Y h.fv:=by have⟨P,Q,T,K,jv,jb,up,ps,br,kp,pv,pl,fv,fl⟩:=h;obtain⟨p0,p1,p2,p3,p4,p5,rfl⟩:=Ik H;exact⟨J,J,J,J⟩
def aG.cB(hh:aG w B xb n h):w (xb,66)=h.br:=by grind[aJ,cases aG,HS.c4]
def aG.cK(hh:aG w B xb n h):w (xb,67)=h.kp:=by grind[aJ,cases aG,HS.c4]
def aG.cV(hh:aG w B xb n h):w (xb,68)=h.pv:=by grind[aJ,cases aG,HS.c4]
def aG.cF(hh:aG w B xb n h):w (xb,69)=h.fv:=by grind[aJ,cases aG,HS.c4]
def aht{m:Int}(h:¬0<=m):decide (0<=m)=false:=Zv
def CP(H:aG w B xb n h)(m):aH aj 64 #[ak xb,V Z m] w λe w'=>e=aU (.bool<|decide<|0<=m/\m<h.P)/\w=w':=by have c0:=H.cP;clear H;by_cases h1:0<=m;{by_cases h2:m<h.P;{go_wp2;go_ret;simp_all};go_wp2;go_ret;simp_all};go_wp2;go_ret;exact⟨by rw[aht YV]<;>rfl,J⟩
def KI(H:aG w B xb n h)(m):aH aj 50 #[ak xb,V Z m] w λe w'=>e=aU (.bool<|decide<|0<=m/\m<h.pl)/\w=w':=by have c0:=H.cV;have⟨pa,pc,hp,_⟩:=jR H.qK;rw[hp]at c0;clear H;by_cases h1:0<=m;{by_cases h2:m<h.pl;{go_wp2;go_ret;simp_all};go_wp2;go_ret;simp_all};go_wp2;go_ret;exact⟨by rw[aht YV]<;>rfl,J⟩
def PS.bU(p:PS):List Int:=[p.a,p.b,p.c,p.d]
def dH(ts:List Int)(l:Int)(k:Nat):List Int:=((List.range k).filter λi=>decide<|l<=ts.getD i 0).map Int.ofNat
def ayf(ts l k):dH ts l (k+1)=dH ts l k++(if l<=ts.getD k 0 then[(k:Int)]else[]):=by unfold dH;grind[List.range_succ]
def Xh(ts l k):(dH ts l k).length<=k:=by unfold dH;grind
def ayg(w a b c d):(Instr.index 100 (jf #[V Z a,V Z b,V Z c,V Z d])<|V Z 0).run aj w=.ok a w:=KG
def ayh(w a b c d):(Instr.index 100 (jf #[V Z a,V Z b,V Z c,V Z d])<|V Z 1).run aj w=.ok b w:=KG
def ayi(w a b c d):(Instr.index 100 (jf #[V Z a,V Z b,V Z c,V Z d])<|V Z 2).run aj w=.ok c w:=KG
def ayj(w a b c d):(Instr.index 100 (jf #[V Z a,V Z b,V Z c,V Z d])<|V Z 3).run aj w=.ok d w:=KG
def ayk(w)(p:PS){k:Nat}(H:k<4):(Instr.index 100 (jf #[p.a,p.b,p.c,p.d]) k).run aj w=.ok (.int .i64<|p.bU.getD k 0) w:=by match k,H with|0,_=>exact ayg w _ _ _ _|1,_=>exact ayh w _ _ _ _|2,_=>exact ayi w _ _ _ _|3,_=>exact ayj w _ _ _ _
theorem RV{b o}{p:PS}(H:∀j v,p.cs[j]? =Y v->w (b,o+j)=Y v)(l):aH aj 69 #[ak<|Y ⟨b,o,U⟩,V Z l] w λe w'=>∃v,e=aU v/\xW w w' v (dH p.bU l 4)/\Fr aB w w':=by have⟨i0,dL,fM,ed,fV⟩:=aQX Ry;have k3:=H 3 _ J;have k4:=H 4 _ J;have k5:=H 5 _ J;have k6:=H 6 _ J;clear H;go_enter func69,ntmps69;go_wp2_with fail;go_loopw [5,12] (λv i w'=>∃k:Nat,k<=4/\i=k/\xW w w' v (dH p.bU l k)/\Fr aB w w') (λ_ i _=>(4-bM i).toNat);(case atStart=>exact⟨0,YV,J,aQS _ _ _ _,Fr.refl _ _⟩);case round=>obtain⟨k,hk,rfl,hv,bT⟩:=hrel;have HF:=aQe bT;obtain⟨va,vc,rfl,vM⟩:=jg hv;have HV:=aQe hv;have HL:I ((dH p.bU l k).length<=k):=Xh _ _ _;have HT:I (dH p.bU l (k+1)=dH p.bU l k++(if l<=p.bU.getD k 0 then[(k:Int)]else[])):=ayf _ _ _;have gV:=bT.size;clear bT hv vM;by_cases aO:k<4;{have aJ3:=ayk wr p aO;generalize p.bU.getD k 0=x at aJ3 HT;(have J8:(k:Int)<4:=YV);by_cases hle:l<=x;{(have zi:I (dH p.bU l (k+1)=dH p.bU l k++[(k:Int)]):=Zv);clear HT;go_wp2_with (at_builtin;apply aQU _ J _ _ 43 J w 3 i0 _ 1 8 Y0 dL fM ed fV J Xa _ _ (dY<|dH p.bU l k) J (HV.o.alloc _) wr 1 1 [k] J J aQz Y7 Xa (by have:=HL.o;exact aQp) (by have:=HL.o;omega) Xz (wr+1) Xy;intro gg jG w3 jO gW lX mW);go_roundw;(case rel=>have yh:Fr (λx=>Value.ownBlock (.slice va (dH p.bU l k).length vc)=x) wr w3:=(eH.alloc _).grown gW λx ex=>.inl ex;refine⟨k+1,YV,Y4,?_,(by grind[Fr.t,Hid,World.ownsRow.lt])⟩;show w3.ownsRow _ _ _ _ _ _;rw[zi];simpa[dY]using jO);case measure=>simp[bM]<;>omega};{(have zi:I (dH p.bU l (k+1)=dH p.bU l k):=Zv);clear HT;go_wp2_with fail;go_roundw;(case rel=>grind[Hid.o]);case measure=>simp[bM]<;>omega}};(have I7:k=4:=YV);subst I7;go_wp2;go_ret;exact⟨_,J,HV.o,HF.o⟩
end
end
section
def Bf{fn}{p u:Tmp}{H}(h:fn.results=#[.cell p H,.tmp u])(tmps w g t cs fr d) (hp:tmps.getD p F=ak (Y ⟨g,0,U⟩))(hg:w.heap[g]? =Y (.cells cs t fr)) (hu:prog.underlying H=Y d)(hd:d.isRow=A)(hi:(prog.info? H).map (·.size)=cs.size):(results fn tmps).run aj w=.ok (dZ #[.agg cs,tmps.getD u F]) w:=by have:=run_loadVar_mid w g 0 H cs.toList d (λj v hv=>by grind[aJ]) hu hd YV;rw[results_cell_tmp h,hp];simp[asAddr,Result.andThen,this]
theorem Pm(w){b H o o'}(u)(h:b≠H):(aZ w ⟨H,o',U⟩ u).cell? (b,o)=w ⟨b,o,U⟩:=(by grind[World.cell?_of_block,Below.heap_setCell])
def RX:(prog.info? 58).map (·.size)=Y 5:=KG
section
variable{w B xb n h}
def an0:∀(l:List PS) (k:Nat) (e:PS) (j:Nat),l[k]? =Y e->j<10->(l.flatMap PS.cs)[k*10+j]? =e.cs[j]?|[],k,e,j,h,_=>aQB|x::r,0,e,j,h,hj=>(by simp at h;subst h;simp only[Ad];rw[Q8 (by simp[PS.cs]<;>omega)];simp)|x::r,k+1,e,j,h,hj=>by have:=an0 r k e j h hj;simp at this⊢;rw[OJ (by simp[PS.cs]<;>omega),<-this];congr 1;simp[PS.cs]<;>omega
variable{k:Nat}{p m}
def HS.ayl{h:HS}(H:h.ps[k]? =Y p)(j v)(hv:p.cs[j]? =Y v):h.cells.toArray[6+k*10+j]? =Y v:=by have hj:j<10:=(kY.1 hv).1;have hk:=(kY.1 H).1;rw[acI,<-hv,<-an0 _ k p j H hj];unfold HS.cells;rw[OJ Xz,Q8<|by grind[adz]];grind
def aG.kK(hh:aG w B xb n h)(H:h.ps[k]? =Y p)(j v)(hv:p.cs[j]? =Y v):w (xb,6+k*10+j)=Y v:=by rw[aJ hh.blk];exact HS.ayl H j v hv
def an1{H b o}{l:List ai}(f:Fr aB w H)(hb:b<M (R w))(hr:∀j v,l[j]? =Y v->w (b,o+j)=Y v):∀j v,l[j]? =Y v->H ⟨b,o+j,U⟩=Y v:=aQJ
def aym(hh:aG w B xb n h)(hm:¬(0<=m/\m<h.P)):aH aj 30 #[ak xb,m] w λr w'=>r=dZ #[jf #[V Z 0,V Z 0,V Z 0,aP U 0 0,aP U 0 0],V Z 2]/\Fr aB w w':=by have H:=aQe hh;go_enter func30,ntmps30;go_wp2_with (apply(CP (H.a<|aQ _) m).z;rintro e w1 ⟨rfl,rfl⟩);refine aQY (Bf J _ _ _ 58 _ _ _ J (heap_alloc_new _ _) underlying58 J RX) J ?_;exact⟨J,aQ _⟩
def ayn(H:aG w B xb n h)(hm:0<=m/\m<h.P)(hu:h.up=ah):aH aj 30 #[ak xb,m] w λr w'=>r=dZ #[jf #[V Z 0,V Z 0,V Z 0,aP U 0 0,aP U 0 0],V Z 5]/\Fr aB w w':=by have HH:=aQe H;have HM:I (decide (0<=m/\m<h.P)=A):=Zv;have c5:=H.cU;have aO:=bF H.blk;go_enter func30,ntmps30;go_wp2_with (apply(CP (HH.a<|aQ _) m).z;rw[HM];rintro e w1 ⟨rfl,rfl⟩);refine aQY (Bf J _ _ _ 58 _ _ _ J (heap_alloc_new _ _) underlying58 J RX) J ?_;exact⟨J,aQ _⟩
theorem ayo(hh:aG w B xb n h)(hm:(k:Int)<h.P)(hu:h.up=A)(hp:h.ps[k]? =Y p):aH aj 30 #[ak xb,k] w λr w'=>∃va vb,r=dZ #[jf #[p.e,p.t,p.s,va,vb],V Z 0]/\xW w w' va (dH p.bU 1 4)/\xW w w' vb (dH p.bU 2 4)/\(∀k,dw va=Y k->dw vb≠k)/\Fr aB w w':=by
 have HH:=aQe hh;have vN:k<6:=by have:=hh.hP.2;omega
 have HM:I (decide (0<=(k:Int)/\(k:Int)<h.P)=A):=iC ⟨YV,hm⟩;have HR:I (∀j v,p.cs[j]? =Y v->au w ⟨xb,6+k*10+j,U⟩=Y v):=λj v hv=>hh.kK hp j v hv;have c5:=hh.cU;rw[hu]at c5;have aO:=bF hh.blk;have aMl:(0:Int)<=(k:Int):=YV
 have aMm:(k:Int)<6:=YV
 have e0:au w ⟨xb,6+k*10,U⟩=Y (V Z p.e):=HR 0 _ J;have e1:au w ⟨xb,6+k*10+1,U⟩=Y (V Z p.t):=HR 1 _ J;have e2:au w ⟨xb,6+k*10+2,U⟩=Y (V Z p.s):=HR 2 _ J;clear hh hm hu hp;go_enter func30,ntmps30;go_wp2_with (go_at_call 64;apply(CP (HH.a<|aQ _) k).z;rw[HM];rintro e w1 ⟨rfl,rfl⟩);have g0:(w.alloc<|aC #[V Z 0,V Z 0,V Z 0,aP U 0 0,aP U 0 0] 58).cell? ⟨xb,6+k*10,U⟩=Y (V Z p.e):=(aQV _ _ _ aO).t e0;go_region_held3 (λw'=>au w' ⟨xb,6+k*10,U⟩=Y (V Z p.e)/\au w' ⟨xb,6+k*10+1,U⟩=Y (V Z p.t)/\au w' ⟨xb,6+k*10+2,U⟩=Y (V Z p.s)) (first|with_reducible exact⟨h0,h1,h2⟩|with_reducible exact⟨f0,f1,f2⟩|go_keep|grind[Pm]) (first|(go_at_call 69;have _:=F1;apply(RV (p:=p) (an1 F1 aO HR) 2).z;rintro e H ⟨vb,rfl,jo,bJ⟩;obtain⟨ba,bc,rfl,_⟩:=jg jo;have F2:=aQe<|F1.t bJ dA;have V2:=aQe jo;have U2:=aQe<|bJ.ownsRow V1 λ_ _=>id;have h0:au H ⟨xb,6+k*10,U⟩=Y (V Z p.e):=(F2.cell (p:=⟨xb,6+k*10,U⟩) aO id).t e0;have h1:au H ⟨xb,6+k*10+1,U⟩=Y (V Z p.t):=(by grind[Fr.cell,Hid]);have h2:au H ⟨xb,6+k*10+2,U⟩=Y (V Z p.s):=(by grind[Fr.cell,Hid]);have B2:=aQe<|(bJ.block _ (bF B1) id).t B1;(have b0:au H ⟨M (R w),0,U⟩=Y (V Z 0):=by rw[aJ B2];rfl);(have b1:au H ⟨M (R w),1,U⟩=Y (V Z 0):=by rw[aJ B2];rfl);(have b2:au H ⟨M (R w),2,U⟩=Y (V Z 0):=by rw[aJ B2];rfl);(have b3:au H ⟨M (R w),3,U⟩=Y (aP U 0 0):=by rw[aJ B2];rfl);(have b4:au H ⟨M (R w),4,U⟩=Y (aP U 0 0):=by rw[aJ B2];rfl);have bf:∀o,H.frozen? ⟨M (R w),o,U⟩=false:=gJ B2;(have bx:xb≠w.heap.size:=by omega);clear bJ jo)|(go_at_call 69;refine(RV (p:=p) (by exact an1 ((aQ _).drew) aO HR) 1).z ?_;rintro e w1 ⟨va,rfl,bV,aI⟩;obtain⟨aa,ac,rfl,_⟩:=jg bV;have F1:I (Fr aB w w1):=((aQ _).drew).t aI dA;(have V1:I (bI w1 (M (R w)+1) 3 1 (.slice aa (dH p.bU 1 4).length ac) (dH p.bU 1 4).length<|dY<|dH p.bU 1 4):=sD bV<|by simp);have f0:au w1 ⟨xb,6+k*10,U⟩=Y (V Z p.e):=(by grind[Fr.cell,Hid]);have f1:au w1 ⟨xb,6+k*10+1,U⟩=Y (V Z p.t):=(by grind[Fr.cell,Hid]);have f2:au w1 ⟨xb,6+k*10+2,U⟩=Y (V Z p.s):=(by grind[Fr.cell,Hid]);have B1:I (w1.heap[M (R w)]? =Y (aC #[V Z 0,V Z 0,V Z 0,aP U 0 0,aP U 0 0] 58 (0,0))):=(aI.block _ (by simp) id).t (by show(bH w _).heap[M (R w)]? =_;exact heap_alloc_new _ _);clear aI bV));go_wp2;have hb:=eX (eX (eX (eX (eX B2 0<|V Z p.e) 1<|V Z p.t) 2<|V Z p.s) 3<|.slice aa (dH p.bU 1 4).length ac) 4<|.slice ba (dH p.bU 2 4).length bc;have fs:=(((((Fr.refl (λx=>x=M (R w)) H).setCell (p:=⟨M (R w),0,U⟩) (.inl J)<|V Z p.e).setCell (p:=⟨M (R w),1,U⟩) (.inl J)<|V Z p.t).setCell (p:=⟨M (R w),2,U⟩) (.inl J)<|V Z p.s).setCell (p:=⟨M (R w),3,U⟩) (.inl J)<|.slice aa (dH p.bU 1 4).length ac).setCell (p:=⟨M (R w),4,U⟩) (.inl J)<|.slice ba (dH p.bU 2 4).length bc;have hz:M (R w)<M (R w1):=bF B1;refine aQY (Bf J _ _ _ 58 _ (0,0) _ J hb underlying58 J RX) J ?_;refine⟨_,_,J,?_,?_,λx hx hy=>?_,F2.t fs λx hx=>.inr<|by omega⟩;{exact sD (fs.ownsRow U2 (λx hx e=>by have:=(U2.lt x hx).1;omega))<|by omega};{exact sD (fs.ownsRow V2 (λx hx e=>by have:=(V2.lt x hx).1;omega))<|by omega};have h3:=(V1.lt x hx).2;have h4:=(V2.lt x hy).1;omega
end
end
section
def an2:∀(l:List PL) (k:Nat) (e:PL) (j:Nat),l[k]? =Y e->j<2->(vz l)[k*2+j]? =e.cs[j]?|[],k,e,j,h,_=>aQB|x::r,0,e,j,h,hj=>(by simp at h;subst h;simp only[vz,Ad];rw[Q8 (by simp[PL.cs]<;>omega)];simp)|x::r,k+1,e,j,h,hj=>by have:=an2 r k e j h hj;simp only[vz,Ad]at this⊢;rw[OJ (by simp[PL.cs]<;>omega),<-this];congr 1;simp[PL.cs]<;>omega
theorem ahu{w B g n cap l}(h:bI w B 98 2 (aP (Y ⟨g,0,U⟩) n cap) (O l) (vz l)){k e}(hk:l[k]? =Y e):w.cell? (g,k*2)=(ak e.lb)/\w (g,k*2+1)=e.out:=by have hc:=h.cells J;(have H:∀j u,j<2->e.cs[j]? =Y u->w (g,k*2+j)=Y u:=λj u hj hu=>by have:=hc _ u<|(an2 l k e j hk hj).t hu;grind[Addr.add_lit]);exact⟨H 0 _ YV J,H 1 _ YV J⟩
def adA:(prog.info? 62).map (·.size)=Y 4:=KG
section
variable{w B xb n h}
variable{k:Nat}{p}{m:Int}
def aG.place(hh:aG w B xb n h)(hk:h.pl[k]? =Y p):∃g cap,h.pv=aP (Y ⟨g,0,U⟩) h.pl cap/\g<w/\h.pl<=cap/\ w.cell? (g,k*2)=(ak p.lb)/\w (g,k*2+1)=p.out:=by have aO:=(kY.1 hk).1;rcases hh.qK.2 with⟨hv,h0⟩|⟨g,cap,H,hv,hb,hg,h1,h2,_⟩;{omega};grind[cases aG,ahu]
def ayp(hh:aG w B xb n h)(hm:¬(0<=m/\m<h.pl)):aH aj 23 #[ak xb,m] w λr w'=>r=dZ #[jf #[ah,V Z 0,V Z 0,aP U 0 0],V Z 3]/\Fr aB w w':=by have H:=aQe hh;go_enter func23,ntmps23;go_wp2_with (apply(KI (H.a<|aQ _) m).z;rintro e w1 ⟨rfl,rfl⟩);refine aQY (Bf J _ _ _ 62 _ _ _ J (heap_alloc_new _ _) underlying62 J adA) J ?_;exact⟨J,aQ _⟩
def ayq(hh:aG w B xb n h)(f1 f2)(hm:¬(0<=m/\m<h.pl)):aH aj 57 #[ak xb,m,V Z f1,V Z f2] w λr w'=>r=dZ #[aP U 0 0,V Z 3]/\Fr aB w w':=by have H:=aQe hh;go_enter func57,ntmps57;go_wp2_with (apply(KI H m).z;rintro e w1 ⟨rfl,rfl⟩);go_ret2;exact⟨J,Fr.refl _ _⟩
def ayr(hh:aG w B xb n h)(hm:¬(0<=m/\m<h.pl)):aH aj 17 #[ak xb,m] w λr w'=>r=dZ #[aP U 0 0,V Z 3]/\Fr aB w w':=by have H:=aQe hh;go_enter func17,ntmps17;go_wp2_with (apply(KI H m).z;rintro e w1 ⟨rfl,rfl⟩);go_ret2;exact⟨J,Fr.refl _ _⟩
def ays(H:aG w B xb n h)(hk:h.pl[k]? =Y p)(f1 f2)(hi:Inv p.s)(hb:O p.s.es*40<=2^47):aH aj 57 #[ak xb,k,V Z f1,V Z f2] w λr w'=>∃va,r=dZ #[va,V Z 0]/\bI w' w 94 3 va (p.s.vY f1 f2).length (tq<|p.s.vY f1 f2)/\Fr aB w w':=by have qJ:=(kY.1 hk).1;have HH:=aQe H;have HM:I (decide (0<=(k:Int)/\(k:Int)<h.pl)=A):=Y0;have⟨g,cap,hv,hg,oI,p0,p1⟩:=H.place hk;have RY:I (eY w B p.lb p.bm p.v n p.s):=(by grind[cases aG]);have HI:=aQe hi;have HB:=aQe hb;have c5:=H.cV;rw[hv]at c5;clear H hk hi hb;go_enter func57,ntmps57;go_wp2_with (first|(go_at_call 50;apply(KI HH k).z;rw[HM];rintro e w1 ⟨rfl,rfl⟩)|(go_at_call 121;apply(axa RY HI.wf HB f1 f2).z;rintro e w1 ⟨va,rfl,bV,aI⟩;have V1:=aQe bV;have F1:=aQe aI;clear bV aI));go_ret2;exact⟨_,J,V1,F1⟩
def ayt(H:aG w B xb n h)(hk:h.pl[k]? =Y p)(hb:O p.s.es*40<=2^47):aH aj 17 #[ak xb,k] w λr w'=>∃va,r=dZ #[va,V Z 0]/\bI w' w 55 4 va p.s.es (jL p.s.es)/\Fr aB w w':=by have qJ:=(kY.1 hk).1;have HH:=aQe H;have HM:I (decide (0<=(k:Int)/\(k:Int)<h.pl)=A):=Y0;have⟨g,cap,hv,hg,oI,p0,p1⟩:=H.place hk;have RY:I (eY w B p.lb p.bm p.v n p.s):=(by grind[cases aG]);have HB:=aQe hb;have c5:=H.cV;rw[hv]at c5;clear H hk hb;go_enter func17,ntmps17;go_wp2_with (first|(go_at_call 50;apply(KI HH k).z;rw[HM];rintro e w1 ⟨rfl,rfl⟩)|(go_at_call 51;apply(am0 RY HB).z;rintro e w1 ⟨va,rfl,bV,aI⟩;have V1:=aQe bV;have F1:=aQe aI;clear bV aI));go_ret2;exact⟨_,J,V1,F1⟩
def KJ(H:aG w B xb n h)(m):aH aj 139 #[ak<|Y (xb,69),V Z m] w λe w'=>e=aU (.bool<|decide<|0<=m/\m<h.fl)/\w=w':=by have c0:=H.cF;have⟨pa,pc,hp,_⟩:=jR H.tC;clear H;by_cases h1:0<=m;{by_cases h2:m<h.fl;{go_wp2;go_ret;simp_all};go_wp2;go_ret;simp_all};go_wp2;go_ret;exact⟨by rw[aht YV]<;>rfl,J⟩
def ayu(hh:aG w B xb n h)(hm:¬(0<=m/\m<h.fl)):aH aj 87 #[ak xb,m] w λr w'=>r=dZ #[jf #[V Z 0,V Z 0,V Z 0,V Z 0,ah],V Z 8]/\Fr aB w w':=by have HH:=aQe hh;go_enter func87,ntmps87;go_wp2_with (apply(KJ (HH.a<|aQ _) m).z;rintro e w1 ⟨rfl,rfl⟩);apply aQY (Bf J _ _ _ _ _ _ _ J (heap_alloc_new _ _) underlying119 J KG) J;exact⟨J,aQ _⟩
def ayv(H:aG w B xb n h):aH aj 36 #[ak xb] w λr w'=>r=(h.fl)/\Fr aB w w':=by have c0:=H.cF;have⟨pa,pc,hp,_⟩:=jR H.tC;go_wp2;go_ret;exact⟨J,Fr.refl _ _⟩
end
end
section
def adB(n:Nat)(s:aN)(S:List Int):Prop:=S.Pairwise (· < ·)/\S<=n/\(∀x∈S,fF x)/\∀x,fF x->(x∈S↔∃t,s.nw x=Y (t,A))
section
variable{w B xb n h}
def ayw(hh:aG w B xb n h){k:Nat}{p}(hk:h.pl[k]? =Y p)(hi:Inv p.s)(hb:O p.s.es*40<=2^47)(hn:(n+1)*8<=2^47):aH aj 23 #[ak xb,k] w λr w'=>∃va S,r=dZ #[jf #[p.out,p.s.es,p.s.oL,va],V Z 0]/\adB n p.s S/\xW w w' va S/\Fr aB w w':=by
 have qJ:=(kY.1 hk).1;have HH:I (aG w B xb n h):=hh;have HM:I (decide (0<=(k:Int)/\(k:Int)<O h.pl)=A):=iC ⟨by omega,by omega⟩;have⟨g,cap,hv,H,oI,p0,p1⟩:=hh.place hk;have RY:=aQe<|hh.dO p<|iO hk;have HI:=aQe hi;have HB:=aQe hb;have HN:=aQe hn;have c5:=hh.cV;rw[hv]at c5;have FB:(0:Int)<=(k:Int):=YV
 have aX:(k:Int)<(O h.pl:Int):=YV
 have aO:=bF hh.blk;have bx:g≠w.heap.size:=YV
 clear hh hk hi hb hn;go_enter func23,ntmps23;go_wp2_with (go_at_call 50;apply(KI (HH.a<|aQ _) k).z;rw[HM];rintro e w1 ⟨rfl,rfl⟩);go_region_held3 (λw'=>au w' (g,k*2)=Y (ak p.lb)/\au w' (g,k*2+1)=Y (aA p.out)) (first|with_reducible exact⟨i0,i1⟩|with_reducible exact⟨h0,h1⟩|with_reducible exact⟨f0,f1⟩|go_keep|(simp only[Pm _ _ bx];with_reducible exact⟨i0,i1⟩)) (first|(go_at_call 51;apply(am0 (((aQ _).drew).logAt RY id id λ_ _=>id) HB).z;rintro e w1 ⟨va,rfl,bV,aI⟩;obtain⟨ea,ec,rfl,_⟩:=jR bV;have F1:=aQe<|((aQ _).drew).t aI dA;have f0:au w1 (g,k*2)=Y (ak p.lb):=(F1.cell (p:=(g,k*2)) H id).t p0;have f1:au w1 (g,k*2+1)=Y (aA p.out):=(F1.cell (p:=(g,k*2+1)) H id).t p1;have B1:I (w1.heap[M (R w)]? =Y (aC #[aA ah,V Z 0,V Z 0,aP U 0 0] 62 (0,0))):=(aI.block _ (by simp) id).t aQL;clear aI bV)|(go_at_call 59;apply(amZ (F1.logAt RY id id λ_ _=>id) HI.wf).z;rintro e w2 ⟨rfl,bJ⟩;have F2:=aQe<|F1.t bJ dA;have h0:au w2 (g,k*2)=Y (ak p.lb):=(F2.cell (p:=(g,k*2)) H id).t p0;have h1:au w2 (g,k*2+1)=Y (aA p.out):=(F2.cell (p:=(g,k*2+1)) H id).t p1;have B2:=aQe<|(bJ.block _ (bF B1) id).t B1;clear bJ)|(go_at_call 60;apply(anz (F2.logAt RY id id λ_ _=>id) HN).z;rintro e w3 ⟨vb,S,rfl,Es,iL,hs⟩;obtain⟨ba,bc,rfl,_⟩:=jg Es;have F3:=aQe<|F2.t iL dA;have HSS:=aQe hs;have V3:=aQe Es;have i0:au w3 ⟨g,k*2,U⟩=Y (ak<|Y ⟨p.lb,0,U⟩):=(F3.cell (p:=⟨g,k*2,U⟩) H id).t p0;have i1:au w3 ⟨g,k*2+1,U⟩=Y (aA p.out):=(F3.cell (p:=⟨g,k*2+1,U⟩) H id).t p1;have B3:=aQe<|(iL.block _ (bF B2) id).t B2;(have b0:au w3 ⟨M (R w),0,U⟩=Y (aA ah):=by rw[aJ B3];rfl);(have b1:au w3 ⟨M (R w),1,U⟩=Y (V Z 0):=by rw[aJ B3];rfl);(have b2:au w3 ⟨M (R w),2,U⟩=Y (V Z 0):=by rw[aJ B3];rfl);(have b3:au w3 ⟨M (R w),3,U⟩=Y (aP U 0 0):=by rw[aJ B3];rfl);have bf:∀o,w3.frozen? ⟨M (R w),o,U⟩=false:=gJ B3;clear iL Es hs));go_wp2;have hb:=eX (eX (eX (eX B3 0<|aA p.out) 1<|V Z (O p.s.es)) 2<|V Z p.s.oL) 3<|.slice ba (O S) bc;have fs:=((((Fr.refl (λx=>x=M (R w)) w3).setCell (p:=⟨M (R w),0,U⟩) (.inl J)<|aA p.out).setCell (p:=⟨M (R w),1,U⟩) (.inl J)<|V Z (O p.s.es)).setCell (p:=⟨M (R w),2,U⟩) (.inl J)<|V Z p.s.oL).setCell (p:=⟨M (R w),3,U⟩) (.inl J)<|.slice ba (O S) bc;have hz:M (R w)<M (R w2):=bF B2;apply aQY (Bf J _ _ _ 62 _ (0,0) _ J hb underlying62 J adA) J;refine⟨_,S,J,HSS,?_,F3.t fs λx hx=>.inr YV⟩;exact sD (fs.ownsRow V3 (λx hx e=>by have:=(V3.lt x hx).1;omega)) YV
def an3(H:aG w B xb n h):aH aj 44 #[ak xb] w λr w'=>r=aU (.int .i64<|if h.up then 0 else 5)/\aG w' B xb n (if h.up then h.EU else h)/\Fr (λk=>k=xb) w w':=by have HH:=aQe H;have c5:=H.cU;clear H;cases hu:h.up;{rw[hu]at c5;go_enter func44,ntmps44;go_wp2;go_ret;exact⟨J,HH,Fr.refl _ _⟩};rw[hu]at c5;go_enter func44,ntmps44;go_wp2_with (go_at_call 104;apply(ahs HH).z;rintro e w1 ⟨rfl,aI⟩;have H1:=aQe aI;clear aI);go_ret;exact⟨J,H1⟩
end
end
section
def xX(b:Nat):Array Value:=#[.nilFunc,.func (.func 179) #[] #[ak b],.func (.func 180) #[] #[ak b],.func (.func 181) #[] #[ak b],.func (.func 182) #[] #[ak b]]
def adC:(prog.info? 193).map (·.size)=Y 5:=KG
def adD{fn}{p:Tmp}{H}(h:fn.results=#[.cell p H])(tmps w g t cs fr d) (hp:tmps.getD p F=ak (Y ⟨g,0,U⟩))(hg:w.heap[g]? =Y (.cells cs t fr)) (hu:prog.underlying H=Y d)(hd:d.isRow=A)(hi:(prog.info? H).map (·.size)=cs.size):(results fn tmps).run aj w=.ok (.agg cs) w:=by have:=run_loadVar_mid w g 0 H cs.toList d (λj v hv=>by grind[aJ]) hu hd YV;(have IW:tmps[p]?.getD F=ak g:=Y0);simp[results,h,IW,asAddr,this]
section
variable{w:ae}{B xb n:Nat}{h:HS}
def Xi(H):aH aj 128 #[.pointer H] w λr w'=>r=aU (.agg<|xX w)/\w'.heap[M (R w)]? =aC #[.pointer H] 181 (0,0)/\Fr aB w w':=by (have hb:((w.alloc<|aC #[.pointer H] 181).alloc<|aC #[.nilFunc,.nilFunc,.nilFunc,.nilFunc,.nilFunc] 193).heap[M (R w)+1]? =aC #[.nilFunc,.nilFunc,.nilFunc,.nilFunc,.nilFunc] 193 (0,0):=by have:=heap_alloc_new (w.alloc<|aC #[.pointer H] 181)<|aC #[.nilFunc,.nilFunc,.nilFunc,.nilFunc,.nilFunc] 193;simp_all);have hth:=adx hb (o:=0) (n:=5) Xy;have HB:=aQe hb;have HT:=aQe hth;clear hb hth;go_enter func128,ntmps128;go_wp2_with (apply aRE J 193 _ _ J (w+1) 0 (xX w) J J HT adC (by simp[xX,Value.oneCell']));have hb:=Xg (xX w).toList 0 HB;have fs:Fr aB w _:=Fr.setCells (S:=λ_=>False) (b:=w+1) YV (xX w).toList 0<|((Fr.refl (λ_=>False) w).alloc<|aC #[.pointer H] 181).alloc<|aC #[.nilFunc,.nilFunc,.nilFunc,.nilFunc,.nilFunc] 193;have f1:Fr (λk=>k=w+1) (w.alloc<|aC #[.pointer H] 181) _:=Fr.setCells (S:=λk=>k=w+1) (b:=w+1) (.inl J) (xX w).toList 0<|(Fr.refl (λk=>k=w+1) _).alloc<|aC #[.nilFunc,.nilFunc,.nilFunc,.nilFunc,.nilFunc] 193;apply aQY (adD J _ _ _ 193 (xX w) (0,0) _ J hb underlying193 J adC) J;exact⟨J,(f1.block _ Xy YV).t<|heap_alloc_new _ _,fs⟩
def ayx(w):aH aj 177 #[aP U 0 0] w λr w'=>r=ah/\Fr aB w w':=by go_wp2;go_quiet (fail);go_wp2;go_ret;exact⟨J,eH.drewN _⟩
def ayy(w):aH aj 127 #[aP U 0 0] w λr w'=>r=aP U 0 0/\Fr aB w w':=by go_wp2;go_loopw [0,3] (λa b w'=>a=aP U 0 0/\b=aP U 0 0/\w'=w) (λ_ _ _=>0);(case atStart=>grind);case round=>go_wp2_with (apply(ayx _).z;rintro e w1 ⟨rfl,hf⟩);go_ret;simp_all
def HS.Gm(h:HS):HS:={h with up:=A}
def HS.an4(h:HS):h.cells.toArray.setIfInBounds 5 A=h.Gm.cells.toArray:=by simp[HS.cells,HS.Gm]
theorem HS.an5(h:HS):h.cells.toArray.setIfInBounds 4 h.jv=h.cells.toArray:=by simp[HS.cells]
def ayz(w):(Instr.slice 99 (aP U 0 0) U (Y<|V Z 0) U).run aj w=.ok (aP U 0 0) w:=KG
def ayA(hh:aG w B xb n h)(hj:h.jv=aP U 0 0):aH aj 68 #[ak<|Y (xb,4)] w λr w'=>r=dZ #[]/\aG w' B xb n h.Gm/\Fr (λk=>k=xb) w w':=by have HH:=aQe hh;have HJ:=hj;have c4:=hh.cJ;rw[hj]at c4;have c5:=hh.cU;have aO:=bF hh.blk;have J4:=ayz;clear hh hj;go_enter func68,ntmps68;go_wp2_with (first|(go_at_call 127;apply(ayy w).z;rintro e w1 ⟨rfl,aI⟩;have F1:=aI;have B1:=aQe<|(aI.block xb aO id).t HH.blk;have d4:w1 (xb,4)=aP U 0 0:=aQJ;have d5:w1 (xb,5)=(h.up):=aQJ;have df:=gJ B1;have ed:=gZ aO aI.size;clear aI)|(go_at_call 128;apply(Xi _).z;rintro e H ⟨rfl,kE,bJ⟩;have S2:=aQe bJ;have T2:I ((H.alloc<|aC #[.nilFunc,.nilFunc,.nilFunc,.nilFunc,.nilFunc] 193).there H 0 5):=(by grind[adx,heap_alloc_new]);clear kE bJ)|(apply aRE J 193 _ _ J H 0 (xX w1) J J T2 adC (by simp[xX,Value.oneCell']);have hW:=Fr.setCells (S:=λ_=>False) (b:=H) YV (xX w1).toList 0<|(Fr.refl (λ_=>False) H).alloc<|aC #[.nilFunc,.nilFunc,.nilFunc,.nilFunc,.nilFunc] 193;generalize((H.alloc<|aC #[.nilFunc,.nilFunc,.nilFunc,.nilFunc,.nilFunc] 193).setCells H 0 (xX w1).toList)=w3 at hW⊢;(have S3:=S2.t hW Zv);(have B3:I (w3.heap[xb]? =Y (.cells h.cells.toArray 111 (0,0))):=by grind[Fr.block,Hid,eX,HS.an5]);have m5:=cc B3 5;have mf:=gJ B3;clear hW));go_loopw [26] (λi w'=>i=V Z 0/\w'=w3) (λ_ _=>0);(case atStart=>grind);case round=>obtain⟨rfl,rfl⟩:=hrel;go_wp2;go_end0;have f1:Fr (λk=>k=xb) w (aZ w1 (xb,4)<|aP U 0 0):=(by grind[Fr.setCell,Fr.z,Hid]);have f2:Fr (λk=>k=xb) w (aZ wr (xb,5) A):=(by grind[Fr.setCell,Fr.t,Hid]);refine⟨J,HH.put f2 ?_ J J J J J J J J HH.h6,f2⟩;rw[eX B3,h.an4]
def ayB(hh:aG w B xb n h)(hu:h.up=A):aH aj 29 #[ak xb] w λr w'=>r=V Z 6/\w=w':=by have c5:=hh.cU;go_wp2;go_ret;simp_all
def ayC(w):(convert 99 9<|aP U 0 0).run aj w=.ok (dN ⟨#[]⟩) w:=KG
end
end
section
structure Rc where
 k:Int
 p:Int
 a:Int
 m:Int
structure Du where
 p:Int
 q:Int
 t:Int
 g:Int
structure GL where
 yb:Nat
 u:ai
 L:List dF
def Rc.cs(r:Rc):List Value:=[r.k,r.p,r.a,r.m]
def Du.cs(r:Du):List Value:=[r.p,r.q,r.t,r.g]
structure RS where
 P:Int
 Q:Int
 T:Int
 K:Int
 dn:Bool
 br:Bool
 kp:Int
 tm:Int
 lv:ai
 L:List Rc
 qx:ByteArray
 dv:ai
 D:List Du
 hv:ai
 H:List Int
 gv:ai
 G:List GL
 ov:ai
 aPW:List Bool
 nv:ai
 N:List Ms
def RS.cells(y:RS):Array Value:=#[y.P,y.Q,y.T,y.K,y.dn,y.br,y.kp,y.tm,y.lv,y.qx,y.dv,y.hv,y.gv,y.ov,y.nv]
structure aY(w:ae)(B yb:Nat)(y:RS):Prop where
 blk:w.heap[yb]? =Y (.cells y.cells 138 (0,0))
 tH:bI w B 155 4 y.lv (O y.L) (y.L.flatMap Rc.cs)
 ik:bI w B 204 4 y.dv (O y.D) (y.D.flatMap Du.cs)
 heard:bI w B 3 1 y.hv (O y.H) (dY y.H)
 dO:bI w B 139 1 y.gv (O y.G) (y.G.map λg=>ptr g.yb)
 outs:bI w B 4 1 y.ov (O y.aPW) (y.aPW.map Value.bool)
 kL:bI w B 119 5 y.nv (O y.N) (y.N.flatMap Ms.cs)
 refs:∀g∈y.G,iU w B g.yb g.u g.L
 hy:B<=yb
 hP:y.P=O y.H/\1<=y.P/\y.P<=6
 hQ:y.Q=O y.G/\y.Q=O y.aPW/\1<=y.Q/\y.Q<=4
section
variable{w w' B yb y}
theorem aY.a(h:aY w B yb y)(f:Fr aB w w'):aY w' B yb y:=⟨(by grind[cases Fr,cases aY]),f.ownsRow h.tH Zv,f.ownsRow h.ik Zv,f.ownsRow h.heard Zv,f.ownsRow h.dO Zv,f.ownsRow h.outs Zv,f.ownsRow h.kL Zv,(by grind[Fr.qw,cases aY]),h.hy,h.hP,h.hQ⟩
def aY.c(h:aY w B yb y)(o):w ⟨yb,o,U⟩=y.cells[o]? :=aJ h.blk o
def jS(w m a b):aH aj 72 #[V Z m,V Z a,V Z b] w λe w'=>e=aU (.bool<|decide<|a<=m/\m<=b)/\w=w':=by by_cases h1:a<=m;{by_cases h2:m<=b;{go_wp2;go_ret;simp_all};go_wp2;go_ret;simp_all};go_wp2;go_ret;have:decide (a<=m)=false:=Zv;exact⟨by rw[this]<;>rfl,J⟩
def ayD:(prog.info? 157).map (·.size)=Y 4:=KG
def ayE(h:aY w B yb y){m}(H:¬(0<=m/\m<=y.P-1)):aH aj 93 #[ak yb,m] w λr w'=>r=dZ #[jf #[V Z 0,V Z 0,V Z 0,aP U 0 0,aP U 0 0],V Z 2]/\Fr aB w w':=by have HM:=aQe<|jr H;have c0:w _=(y.P):=h.c 0;have aO:=bF h.blk;have lV:=h.hP.2.1;have jI:=h.hP.2.2;go_enter func93,ntmps93;go_wp2_with (apply(jS _ _ _ _).z;rw[HM];rintro e w1 ⟨rfl,rfl⟩);refine aQY (Bf J _ _ _ 58 _ _ _ J (heap_alloc_new _ _) underlying58 J RX) J ?_;exact⟨J,aQ _⟩
def ayF(h:aY w B yb y){m}(hm:0<=m/\m<=y.P-1)(hd:y.dn=A):aH aj 93 #[ak yb,m] w λr w'=>r=dZ #[jf #[V Z 0,V Z 0,V Z 0,aP U 0 0,aP U 0 0],V Z 5]/\Fr aB w w':=by have HM:=aQe<|iC hm;have c0:w _=(y.P):=h.c 0;have H:w _=(y.dn):=h.c 4;rw[hd]at H;have aO:=bF h.blk;have lV:=h.hP.2.1;have jI:=h.hP.2.2;go_enter func93,ntmps93;go_wp2_with (go_at_call 72;apply(jS _ _ _ _).z;rw[HM];rintro e w1 ⟨rfl,rfl⟩);refine aQY (Bf J _ _ _ 58 _ _ _ J (heap_alloc_new _ _) underlying58 J RX) J ?_;exact⟨J,aQ _⟩
end
def aY.k{w B yb y}(h:aY w B yb y)(o){v}(e:y.cells[o]? =Y v:=by simp only[RS.cells,acI,Rf,Q9];exact J):w ⟨yb,o,U⟩=Y v:=(h.c o).t e
end
section
section
variable{w w':ae}{B yb:Nat}{y:RS}
variable{g n cap k:Nat}{e:GL}{m:Int}{s:aN}
theorem ayG{l}(h:bI w B 139 1 (aP (Y ⟨g,0,U⟩) n cap) (O l) (l.map λg=>ptr g.yb))(hk:l[k]? =Y e):w (g,k)=(ak e.yb):=by have:=h.cells J k (ptr e.yb) Zv;rw[Addr.add_lit]at this;simpa[ptr]using this
theorem ayH{l}(h:bI w B 4 1 (aP (Y ⟨g,0,U⟩) n cap) (O l) (l.map Value.bool)){e}(hk:l[k]? =Y e):w (g,k)=e:=by have:=h.cells J k e Zv;grind[Addr.add_lit]
def aY.Pn(h:aY w B yb y)(hk:y.G[k]? =e):∃g cap,y.gv=aP (Y ⟨g,0,U⟩) y.G cap/\g<w/\y.G<=cap/\w (g,k)=(ak e.yb):=by have aO:=(kY.1 hk).1;rcases h.dO.2 with⟨hv,h0⟩|⟨g,cap,H,hv,hb,hg,h1,h2,_⟩;{omega};grind[cases aY,ayG]
def aY.Po(h:aY w B yb y){e}(hk:y.aPW[k]? =Y e):∃g cap,y.ov=aP (Y ⟨g,0,U⟩) y.aPW cap/\g<w/\y.aPW<=cap/\w (g,k)=e:=by have aO:=(kY.1 hk).1;rcases h.outs.2 with⟨hv,h0⟩|⟨g,cap,H,hv,hb,hg,h1,h2,_⟩;{omega};grind[cases aY,ayH]
def ayI(h:aY w B yb y)(hm:¬(0<=m/\m<=y.Q-1)):aH aj 96 #[ak yb,m] w λr w'=>r=dZ #[jf #[ah,V Z 0,V Z 0,aP U 0 0],V Z 3]/\Fr aB w w':=by have c1:=h.k 1;have aO:=bF h.blk;have lF:=h.hQ.2.2.1;have oU:=h.hQ.2.2.2;go_enter func96,ntmps96;go_wp2_with (apply(jS _ _ _ _).z;rintro e w1 ⟨rfl,rfl⟩);refine aQY (Bf J _ _ _ 62 _ _ _ J (heap_alloc_new _ _) underlying62 J adA) J ?_;exact⟨J,aQ _⟩
def ayJ(h:aY w B yb y)(f1 f2)(H:¬(0<=m/\m<=y.Q-1)):aH aj 97 #[ak yb,m,V Z f1,V Z f2] w λr w'=>r=dZ #[aP U 0 0,V Z 3]/\Fr aB w w':=by have HM:=aQe<|jr H;have c1:=h.k 1;have lF:=h.hQ.2.2.1;have oU:=h.hQ.2.2.2;go_enter func97,ntmps97;go_wp2_with (apply(jS _ _ _ _).z;rw[HM];rintro e w1 ⟨rfl,rfl⟩);go_ret2;exact⟨J,Fr.refl _ _⟩
def ayK(h:aY w B yb y)(hm:¬(0<=m/\m<=y.Q-1)):aH aj 100 #[ak yb,m] w λr w'=>r=dZ #[aP U 0 0,V Z 3]/\Fr aB w w':=by have c1:=h.k 1;have lF:=h.hQ.2.2.1;have oU:=h.hQ.2.2.2;go_enter func100,ntmps100;go_wp2_with (apply(jS _ _ _ _).z;rintro e w1 ⟨rfl,rfl⟩);go_ret2;exact⟨J,Fr.refl _ _⟩
def ayL(h:aY w B yb y)(hk:y.G[k]? =e)(hr:Rel s e.L)(f1 f2)(hb:O e.L*40<=2^47):aH aj 97 #[ak yb,k,V Z f1,V Z f2] w λr w'=>∃H,r=dZ #[H,V Z 0]/\bI w' w 94 3 H (s.vY f1 f2).length (tq<|s.vY f1 f2)/\Fr aB w w':=by have qJ:=(kY.1 hk).1;have oJ:=h.hQ.1;have lF:=h.hQ.2.2.1;have oU:=h.hQ.2.2.2;have HM:I (decide (0<=(k:Int)/\(k:Int)<=y.Q-1)=A):=iC YV;have⟨g,cap,hv,hg,oI,p0⟩:=h.Pn hk;have RZ:=aQe<|h.refs e Zv;have HR:=hr;have HB:=aQe hb;have c1:=h.k 1;have BQ:=h.k 12;rw[hv]at BQ;clear h hk hr hb oJ;go_enter func97,ntmps97;go_wp2_with (first|(go_at_call 72;apply(jS _ _ _ _).z;rw[HM];rintro e w1 ⟨rfl,rfl⟩)|(go_at_call 149;apply(axx RZ HB f1 f2).z;rintro e w1 ⟨H,rfl,bV,aI⟩;(have V1:I (bI w1 w 94 3 H (s.vY f1 f2).length<|tq<|s.vY f1 f2):=by grind[Rel.vY,Hid]);have F1:=aQe aI;clear bV aI));go_ret2;exact⟨_,J,V1,F1⟩
def ayM(h:aY w B yb y)(hk:y.G[k]? =e)(hr:Rel s e.L)(hb:O e.L*40<=2^47):aH aj 100 #[ak yb,k] w λr w'=>∃H,r=dZ #[H,V Z 0]/\bI w' w 55 4 H s.es (jL s.es)/\Fr aB w w':=by have qJ:=(kY.1 hk).1;have oJ:=h.hQ.1;have lF:=h.hQ.2.2.1;have oU:=h.hQ.2.2.2;have HM:I (decide (0<=(k:Int)/\(k:Int)<=y.Q-1)=A):=iC YV;have⟨g,cap,hv,hg,oI,p0⟩:=h.Pn hk;have RZ:=aQe<|h.refs e Zv;have HR:=aQe hr;have HB:=aQe hb;have c1:=h.k 1;have BQ:=h.k 12;rw[hv]at BQ;clear h hk hr hb oJ;go_enter func100,ntmps100;go_wp2_with (first|(go_at_call 72;apply(jS _ _ _ _).z;rw[HM];rintro e w1 ⟨rfl,rfl⟩)|(go_at_call 146;apply(ado RZ HB).z;rintro e w1 ⟨H,rfl,bV,aI⟩;(have V1:I (bI w1 w 55 4 H s.es<|jL s.es):=by rwa[HR.es]);have F1:=aQe aI;clear bV aI));go_ret2;exact⟨_,J,V1,F1⟩
def Zn(h:aY w B yb y):aH aj 37 #[ak yb] w λr w'=>r=(y.N)/\Fr aB w w':=by have kQ:=h.k 14;have⟨a,c,e,_⟩:=jR h.kL;go_wp2;go_ret;exact⟨J,Fr.refl _ _⟩
end
end
