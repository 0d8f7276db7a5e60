import Derived.Test.YtkelpcjiediamaaGreatQb29
import Derived.Test.YtkelpcjiediamaaGreatQb38
set_option maxRecDepth 100000
set_option maxHeartbeats 0
set_option linter.all false
namespace Go.Proofs.YtkelpcjiediamaaGreat
def aCX:=@Go.Conc.enter_at
open Go renaming Frame→aV,Program→dO,TypeId→bW,Value→aj,World→ah,maxLen→dH,stepG→aW,undef→ag
open Option renaming none→af,some→ae
open Go.Proofs.Tryz
section
namespace Twin
open Go Go.Proofs Go.Conc Go.RowKit Go.Maps eX
open Go.ConcR (WgAt KK DC0)
def Wv{w:ah}{B lb bm n:Nat}{v:aj}{s:aA}(hl:dK w B lb bm v n s){b:Nat}{cs:Array aj}{t:bW}{fr:Nat×Nat}(hb:w.heap[b]? =ae (.cells cs t fr))(h1:t≠163)(h2:55≠t):¬kK lb bm v b:=by
 rintro(rfl|rfl|e)
 ·have:=hl.blk;rw[hb]at this;simp only[fJ,Obj.cells.injEq]at this;exact h1 this.2.1
 ·obtain⟨D,⟨es,clock,hm,_⟩,_⟩:=hl.map;rw[hb]at hm;cases hm
 ·exact FK hl.row hb h2 e
structure Om(s:Nat->Prop)(w:ah)(B Bm xb n:Nat)(h:HS)(ma:Option Addr)(mc:Nat)(ms:List Ms):Prop where
 at_:ay w B xb n h
 apart:iC h.pl
 row:w.ownsRow Bm 119 5 (.slice ma ms.length mc) ms.length (ms.flatMap Ms.cs)
 fits:n+ms.length<=dH
 small:ms.length<2147483648
 es:∀p∈h.pl,(p.s.es.length+ms.length)*40<=140737488355328
 wf:∀m∈ms,(Lit.int .i64 m.p).wf=true
 q:∀m∈ms,m.k=1->∃i:Nat,m.q=i/\i<h.pl.length
 ns:∀b,s b->b≠xb/\h.pv.ownBlock≠ae b/\(∀p∈h.pl,¬kK p.lb p.bm p.v b)/\Value.ownBlock (.slice ma ms.length mc)≠ae b
def vU(pl:List PL):aC:=fun b=>∃p∈pl,kK p.lb p.bm p.v b
def o6(fo s:Nat->Prop)(w w2:ah)(B xb n:Nat)(h:HS)(ma:Option Addr)(mc:Nat)(ms:List Ms)(pb pc mb hv mr C sv ov ob Wg m0:Nat):Gs:=
 {R:=fun b=>(b<w.heap.size/\¬s b/\¬vU h.pl b)\/b=hv\/b=sv\/b=ob,gJ:=s,yV:=fo,xb:=xb,hv:=hv,mr:=mr,C:=C,sv:=sv,ov:=ov,ob:=ob,Wg:=Wg,pb:=pb,pc:=pc,B:=B,Ba:=w.heap.size,n:=n,N:=ms.length,m0:=m0,mb:=mb,mc:=mc,ma:=ma,pl:=h.pl,ms:=ms,w0:=w2}
variable{s:Nat->Prop}{w:ah}{B Bm xb n mc:Nat}{h:HS}{ma:Option Addr}{ms:List Ms}
def ahF(hC:Om s w B Bm xb n h ma mc ms):
 ∃pb pc mb,h.pv=.slice (ae ⟨pb,0,af⟩) h.pl.length pc/\pb<w.heap.size/\¬s pb/\¬vU h.pl pb/\xb<w.heap.size/\¬s xb/\¬vU h.pl xb/\(ms≠[]->ma=ae ⟨mb,0,af⟩/\mb<w.heap.size/\¬s mb/\¬vU h.pl mb)/\1<=h.pl.length/\h.pl.length<=4:=by
 have hQ:=hC.at_.hQ;have hx:=(iU.1 hC.at_.blk).1;have hlx:¬vU h.pl xb:=fun⟨p,hp,hb⟩=>Wv (hC.at_.dG p hp) hC.at_.blk (by decide) (by decide) hb;have Ph:¬s xb:=fun z=>(hC.ns xb z).1 rfl;have ase:∃mb,ms≠[]->ma=ae ⟨mb,0,af⟩/\mb<w.heap.size/\¬s mb/\¬vU h.pl mb:=by
  rcases hC.row.2 with⟨e,h0⟩|⟨g,cap,cur,e,_,hg,_⟩
  ·exact⟨0,fun bM=>absurd (Uo.1 h0) bM⟩
  ·simp only[aB7]at e;obtain⟨rfl,_,rfl⟩:=e;exact⟨g,fun _=>⟨rfl,(iU.1 hg).1,fun z=>(hC.ns g z).2.2.2 rfl,fun⟨p,hp,hb⟩=>Wv (hC.at_.dG p hp) hg (by decide) (by decide) hb⟩⟩
 obtain⟨mb,Aw⟩:=ase;rcases hC.at_.jD.2 with⟨_,h0⟩|⟨g,cap,cur,e,_,hg,_⟩
 ·omega
 ·exact⟨g,cap,mb,e,(iU.1 hg).1,fun z=>(hC.ns g z).2.1 (by rw[e];rfl),fun⟨p,hp,hb⟩=>Wv (hC.at_.dG p hp) hg (by decide) (by decide) hb,hx,Ph,hlx,Aw,by omega,by omega⟩
def ahG(h6:h.ps.length=6):h.cells.toArray[68]? =ae h.pv:=by
 have h60:(h.ps.flatMap PS.cs).length=60:=by rw[UM,h6]
 simp only[HS.cells,ald];rw[wG<|by simp,wG (by rw[h60];simp),h60];rfl
def asf{fo:Nat->Prop}{w2:ah}(hC:Om (fun b=>s b\/fo b) w B Bm xb n h ma mc ms){pb pc mb:Nat}(gZ:h.pv=.slice (ae ⟨pb,0,af⟩) h.pl.length pc)(iF:pb<w.heap.size)(fP:¬(s pb\/fo pb))(abn:¬vU h.pl pb)(fZ:xb<w.heap.size)(Ap:¬(s xb\/fo xb))(Ua:¬vU h.pl xb)
 (Aw:ms≠[]->ma=ae ⟨mb,0,af⟩/\mb<w.heap.size/\¬(s mb\/fo mb)/\¬vU h.pl mb)(hn4:h.pl.length<=4){S:aC}{hv mr C sv ov ob Wg m0:Nat}(hL:Laid xb h.pl.length S w2 hv mr C sv ov ob)(DF:w.heap.size<=hv)(hWo:ob<Wg)(bH:WgAt 177 Wg w2 0 0)(hold:aQ (fun b=>b<w.heap.size) ⟨fun _=>False,fun _=>False,fun _ z=>z⟩ w w2)(bD:ai.iZ (fun b=>(s b\/fo b)\/b=Wg) w2)(Jn:∀b,s b\/fo b->b<w.heap.size):
 (o6 fo s w w2 B xb n h ma mc ms pb pc mb hv mr C sv ov ob Wg m0).Ok/\(o6 fo s w w2 B xb n h ma mc ms pb pc mb hv mr C sv ov ob Wg m0).ahA (fun b=>b=mr\/vU h.pl b) w2:=by
 obtain⟨l1,l2,l3,l4,l5⟩:=hL.lt;have KO:=GH bH;have A8:∀b,vU h.pl b->b<w.heap.size:=fun b ⟨p,hp,hb⟩=>(hC.at_.dG p hp).rV hb;have hcell:∀{a:Addr} {x:aj},w.cell? a=ae x->w2.cell? a=ae x:=fun hc=>(aB4<|hold.own _<|mX hc).trans hc;have hP:=hC.at_.jD;rw[gZ]at hP;have hO:(o6 fo s w w2 B xb n h ma mc ms pb pc mb hv mr C sv ov ob Wg m0).Ok:=by
  refine⟨.inr<|.inr<|.inl rfl,.inr<|.inl rfl,.inl ⟨fZ,fun z=>Ap<|.inl z,Ua⟩,.inr<|.inr<|.inr rfl,.inl ⟨iF,fun z=>fP<|.inl z,abn⟩,fun bM=>⟨.inl ⟨(Aw bM).2.1,fun z=>(Aw bM).2.2.1<|.inl z,(Aw bM).2.2.2⟩,(Aw bM).1⟩,fun hx=>?_,fun hx=>?_,fun hx=>?_,?_,?_,bV _,hC.small,hC.fits,hC.es,hC.wf,hC.apart,hC.q⟩
  ·simp only[o6]at hx;omega
  ·simp only[o6]at hx;omega
  ·simp only[o6]at hx;omega
  ·simp only[o6];omega
  ·simp only[Gs.np,o6];omega
 refine⟨hO,⟨⟨⟨hL.bs.cell rfl,hL.bh.cell rfl,?_,hL.bb.cell rfl,fun i p hp=>?_,fun i p hp=>?_,fun i m hm j v hvv=>?_,fun _ _=>rfl,rfl,rfl,rfl⟩,fun i p _ hp=>?_,⟨_,⟨.inl rfl,hL.bm.2⟩,by simp[Gs.np,o6],by simp⟩,fun i p _ hp hx=>?_,fun b hb=>?_,fun b hb hx=>?_,?_,fun b hb=>?_,fun hx=>?_,fun hx=>?_,?_⟩,fun b hb=>?_,fun b hb hx=>?_,?_,⟨fun hx=>?_,fun hx=>?_,fun hx=>?_⟩,⟨?_,?_⟩,⟨0,0,0,hL.bo.2⟩,⟨_,hL.bC.2,by simp[Gs.np,o6]⟩,bH,bD⟩⟩
 ·have h68:w.cell? ⟨xb,68,af⟩=ae (.slice (ae ⟨pb,0,af⟩) h.pl.length pc):=by rw[aG hC.at_.blk,ahG hC.at_.h6,gZ]
  exact hcell h68
 ·exact hcell (Zk hP hp).1
 ·exact hcell (Zk hP hp).2
 ·replace hm:ms[i]? =ae m:=hm;have bM:ms≠[]:=fun e=>by rw[e]at hm;simp at hm
  have hr:=hC.row;rw[(Aw bM).1]at hr;have hj:j<5:=by
   have:=(dD.1 hvv).1;simpa[Ms.cs]using this
  have:=hr.cells (g:=mb) rfl (i*5+j) v<|(ZO ms i m j hm hj).trans hvv;rw[aCo]at this;have h9:w.cell? ⟨mb,i*5+j,af⟩=ae v:=by simpa using this
  exact hcell h9
 ·have qA:p∈h.pl:=fD hp;have hl:=hC.at_.dG p qA;exact⟨aaX (S:=fun b=>b<w.heap.size) hl (hl.rV<|.inl rfl) (hl.rV<|.inr<|.inl rfl) (fun k hk=>hl.rV<|.inr<|.inr hk) hold,.inr ⟨p,qA,.inl rfl⟩,.inr ⟨p,qA,.inr<|.inl rfl⟩,fun k hk=>.inr ⟨p,qA,.inr<|.inr hk⟩⟩
 ·have:=A8 _ ⟨p,fD hp,hx⟩;simp only[o6]at this;omega
 ·rcases hb with rfl|hb
  ·exact(iU.1 hL.bm.2).1
  ·exact dY (A8 b hb) hold.size
 ·simp only[o6]at hb;rcases hx with rfl|hx
  ·omega
  ·have:=A8 b hx;rcases hb with hb|hb
   ·exact hb.2.2 hx
   ·omega
 ·exact hold.size
 ·have hz:=hold.size;simp only[o6]at hb;have:=(iU.1 hL.bb.2).1;rcases hb with hb|hb
  ·omega
  ·omega
 ·rcases hx with hx|hx
  ·simp only[o6]at hx;omega
  ·have:=A8 _ hx;simp only[o6]at this;omega
 ·rcases hx with hx|hx
  ·simp only[o6]at hx;omega
  ·have:=A8 _ hx;simp only[o6]at this;omega
 ·exact(iU.1 hL.bo.2).1
 ·simp only[o6];rcases hb with rfl|hb
  ·exact⟨by omega,by omega,by omega,fun z=>by have:=Jn _ z;omega⟩
  ·have:=A8 b hb;exact⟨by omega,by omega,by omega,fun z=>by obtain⟨p,hp,hb⟩:=hb;exact(hC.ns b z).2.2.1 p hp hb⟩
 ·simp only[o6]at hb hx;have:=Jn b<|.inl hx;rcases hb with hb|hb
  ·exact hb.2.1 hx
  ·omega
 ·exact(iU.1 hL.bC.2).1
 ·have:=Jn _ hx;simp only[o6]at this;omega
 ·have:=Jn _ hx;simp only[o6]at this;omega
 ·have:=Jn _ hx;simp only[o6]at this;omega
 ·simp only[o6];omega
 ·simp only[o6];omega
end Twin
end
section
namespace Twin
open Go Go.Proofs Go.Conc Go.RowKit Go.Maps eX
open Go.ConcR (WgAt KK DC0)
open Go.ConcN (WgLive PayAt Has)
def kF{B:ai.bP}{P:dO}{fr fr':aV}{cs cs' cs2:List aV}{w:ah}{Q:ai.bP->aV->ah->Prop}(h:∀w1,aW P true (G fr cs) w1=.go (G fr' cs') w1 #[])(k:∀d,ai.Reach B P fr' cs' (w.at d) Q cs2):ai.Reach B P fr cs w Q cs2:=
 ai.Reach.ok fun bD=>ai.Reach.step fun d=>⟨fr',cs',w.at d,#[],h _,⟨bD.obj,bD.low,bD.lQ⟩,bV _,by simp,k d⟩
section
variable{B:ai.bP}{P:dO}{b:aV}{a:Act}{l:List Item}{cs cs2:List aV}{w:ah}{Q:ai.bP->aV->ah->Prop}
def lU{x y:Code}(k:∀d,ai.Reach B P (b.at a<|.code x:: .code y::l) cs (w.at d) Q cs2):ai.Reach B P (b.at a<|.code (.seq x y)::l) cs w Q cs2:=kF (fun _=>aB2) k
variable{ops:Array Oper}
def xR{id:Nat}(k:∀d,ai.Reach B P (b.at a<|.inRegion ops (List.range ops.size)::l) cs (w.at d) Q cs2):ai.Reach B P (b.at a<|.code (.region id ops false)::l) cs w Q cs2:=kF (fun _=>stepG_region) k
def xU(k:∀d,ai.Reach B P (b.at a l) cs (w.at d) Q cs2):ai.Reach B P (b.at a<|.inRegion ops []::l) cs w Q cs2:=kF (fun _=>aBZ) k
end
def asg(a b:aj):#[a,b]++Array.replicate (Tryz.f54.ntmps- #[a,b].size) ag=#[a,b,ag,ag,ag,ag,ag,ag,ag,ag,ag,ag,ag,ag,ag,ag,ag,ag,ag,ag,ag,ag,ag,ag,ag,ag,ag,ag,ag,ag,ag,ag,ag,ag,ag,ag,ag,ag,ag,ag,ag,ag,ag,ag,ag,ag,ag,ag,ag,ag,ag,ag,ag,ag,ag,ag,ag,ag,ag,ag,ag,ag,ag,ag,ag,ag,ag,ag,ag,ag,ag,ag]:=by kernel_rfl
def ash(a b:aj):Frame.enter prog 54 #[a,b] .normal=(base 54).at ⟨#[a,b,ag,ag,ag,ag,ag,ag,ag,ag,ag,ag,ag,ag,ag,ag,ag,ag,ag,ag,ag,ag,ag,ag,ag,ag,ag,ag,ag,ag,ag,ag,ag,ag,ag,ag,ag,ag,ag,ag,ag,ag,ag,ag,ag,ag,ag,ag,ag,ag,ag,ag,ag,ag,ag,ag,ag,ag,ag,ag,ag,ag,ag,ag,ag,ag,ag,ag,ag,ag,ag,ag],[]⟩ [.code pW]:=by
 rw[aCX (c:=pW) _ func54 rfl,asg]
def asi(xb:Nat)(mv:aj)(k:List Item)(cs:List aV)(w:ah):aW prog true (G ((base 54).at ⟨#[.pointer<|ae ⟨xb,0,af⟩,mv,ag,ag,ag,ag,ag,ag,ag,ag,ag,ag,ag,ag,ag,ag,ag,ag,ag,ag,ag,ag,ag,ag,ag,ag,ag,ag,ag,ag,ag,ag,ag,ag,ag,ag,ag,ag,ag,ag,ag,ag,ag,ag,ag,ag,ag,ag,ag,ag,ag,ag,ag,ag,ag,ag,ag,ag,ag,ag,ag,ag,ag,ag,ag,ag,ag,ag,ag,ag,ag,ag],[]⟩<|.inRegion IZ [0,1]::k) cs) w=
 .go (G ((base 54).at ⟨#[.pointer<|ae ⟨xb,0,af⟩,mv,.pointer<|ae ⟨w.heap.size,0,af⟩,ag,ag,ag,ag,ag,ag,ag,ag,ag,ag,ag,ag,ag,ag,ag,ag,ag,ag,ag,ag,ag,ag,ag,ag,ag,ag,ag,ag,ag,ag,ag,ag,ag,ag,ag,ag,ag,ag,ag,ag,ag,ag,ag,ag,ag,ag,ag,ag,ag,ag,ag,ag,ag,ag,ag,ag,ag,ag,ag,ag,ag,ag,ag,ag,ag,ag,ag,ag,ag],[]⟩<|.inRegion IZ [1]::k) cs) (w.alloc<|.cells #[.pointer<|ae ⟨xb,0,af⟩] 33) #[]:=by
 simp only[IZ,pW,Tryz.f54,gQ,iD];rw[aCG (v:=.pointer<|ae ⟨w.heap.size,0,af⟩) (w':=w.alloc<|.cells #[.pointer<|ae ⟨xb,0,af⟩] 33) rfl rfl (by decide)<|by go_simp];congr 1
def asj(xb hv mr sv ob np:Nat)(mv:aj)(u:Nat->aj)(k:List Item)(cs:List aV)(w:ah):aW prog true (G ((base 54).at ⟨#[.pointer<|ae ⟨xb,0,af⟩,mv,.pointer<|ae ⟨hv,0,af⟩,u 3,u 4,.slice (ae ⟨mr,0,af⟩) np np,.pointer<|ae ⟨sv,0,af⟩,.pointer<|ae ⟨ob,0,af⟩,u 8,u 9,u 10,u 11,u 12,u 13,u 14,u 15,u 16,u 17,u 18,u 19,u 20,u 21,u 22,u 23,u 24,u 25,u 26,u 27,u 28,u 29,u 30,u 31,u 32,u 33,u 34,u 35,u 36,u 37,u 38,u 39,u 40,u 41,u 42,u 43,u 44,u 45,u 46,u 47,u 48,u 49,u 50,u 51,u 52,u 53,u 54,u 55,u 56,u 57,u 58,u 59,u 60,u 61,u 62,u 63,u 64,u 65,u 66,u 67,u 68,u 69,u 70,u 71],[]⟩<|.inRegion GI [0]::k) cs) w=
 .go (G ((base 54).at ⟨#[.pointer<|ae ⟨xb,0,af⟩,mv,.pointer<|ae ⟨hv,0,af⟩,u 3,u 4,.slice (ae ⟨mr,0,af⟩) np np,.pointer<|ae ⟨sv,0,af⟩,.pointer<|ae ⟨ob,0,af⟩,.pointer<|ae ⟨w.heap.size,0,af⟩,u 9,u 10,u 11,u 12,u 13,u 14,u 15,u 16,u 17,u 18,u 19,u 20,u 21,u 22,u 23,u 24,u 25,u 26,u 27,u 28,u 29,u 30,u 31,u 32,u 33,u 34,u 35,u 36,u 37,u 38,u 39,u 40,u 41,u 42,u 43,u 44,u 45,u 46,u 47,u 48,u 49,u 50,u 51,u 52,u 53,u 54,u 55,u 56,u 57,u 58,u 59,u 60,u 61,u 62,u 63,u 64,u 65,u 66,u 67,u 68,u 69,u 70,u 71],[]⟩<|.inRegion GI []::k) cs) (w.alloc<|.cells #[.int .u64 0,.int .u32 0] 177) #[]:=by
 simp only[GI,pW,Tryz.f54,gQ,iD,fB];rw[aCG (v:=.pointer<|ae ⟨w.heap.size,0,af⟩) (w':=w.alloc<|.cells #[.int .u64 0,.int .u32 0] 177) rfl rfl (by decide)<|by go_simp];congr 1
def asl(B:ai.bP):ai.lN B (.cells #[.int .u64 0,.int .u32 0] 177):=QI rfl
variable{xb np hv mr C sv ov ob:Nat}{S:aC}
def Laid.alloc{w:ah}(h:Laid xb np S w hv mr C sv ov ob)(o:Obj):Laid xb np (grow S w<|w.alloc o) (w.alloc o) hv mr C sv ov ob:=
 ⟨h.bh.alloc o,h.bm.alloc o,h.bC.alloc o,h.bs.alloc o,⟨.inl h.bo.1,by rw[aB3 w o _ (iU.1 h.bo.2).1];exact h.bo.2⟩,h.bb.alloc o,h.lt⟩
def Laid.at{w:ah}(h:Laid xb np S w hv mr C sv ov ob)(d:Nat):Laid xb np S (w.at d) hv mr C sv ov ob:=⟨h.bh,h.bm,h.bC,h.bs,h.bo,h.bb,h.lt⟩
def Gs.Mid.jA{z:Gs}{u:Nat->aj}{a:Act}{w:ah}(h:z.Mid u a S w):z.Aa w:=by
 obtain⟨_,_,_,_,_,_,_,_,_,_,_,_,_,_,_,_,_,_,_,_,_,_,_,_,_,_,_,_,_,_,_,_,_,_,_,hk,_⟩:=h;exact hk
structure KQ(fo s:Nat->Prop)(w:ah)(B xb n:Nat)(h:HS)(ma:Option Addr)(mc:Nat)(ms:List Ms)(z:Gs)(u:Nat->aj)(a:Act)(S1:aC)(ks:List Kd)(Sw:Nat->aC)(G1:aC)(w':ah):Prop where
 ok:z.Ok
 sp:∃w2 pb pc mb hv mr C sv ov ob Wg m0,z=o6 fo s w w2 B xb n h ma mc ms pb pc mb hv mr C sv ov ob Wg m0/\w.heap.size<=hv/\hv<mr/\mr<C/\C<sv/\sv<ov/\ov<ob/\ob<Wg/\aQ (fun b=>b<w.heap.size) ⟨fun _=>False,fun _=>False,fun _ x=>x⟩ w w2
 mid:z.Mid u a S1 w'
 len:ks.length=z.np
 zV:z.Good ks
 mem:∃E1,z.iw.Mem ks E1 S1 G1 Sw w'
 pay:PayAt z.C z.np w'
 res:∀(i:Nat) (k:Kd),ks[i]? =ae k->∃v,z.bT k ((z.marks i).map jS) v (Sw i) w'/\Has z.C i v w'
 okt:ai.iZ (fun b=>(s b\/b=z.Wg)\/fo b) w'
 rd:∀b,z.R b->b<w'.heap.size/\¬s b
def aso{fo s:Nat->Prop}{w:ah}{B Bm xb n:Nat}{h:HS}{ma:Option Addr}{mc:Nat}{ms:List Ms}{cs:List aV}(hC:Om (fun b=>s b\/fo b) w B Bm xb n h ma mc ms):
 ai.Reach (ai.bz fo s) prog (Frame.enter prog 54 #[.pointer<|ae ⟨xb,0,af⟩,.slice ma ms.length mc] .normal) cs w
  (fun B' fr' w'=>∃z u a S1 ks Sw G1,B'=ai.bz fo (fun b=>s b\/b=z.Wg)/\fr'=(base 54).at (a.put (ae 67)<|.tuple #[]) [.inRegion KP [],.code Dk]/\KQ fo s w B xb n h ma mc ms z u a S1 ks Sw G1 w') cs:=by
 refine ai.Reach.ok fun bD=>?_
 obtain⟨pb,pc,mb,gZ,iF,fP,abn,fZ,Ap,Ua,Aw,xh,hn4⟩:=ahF hC
 rw[ash]
 generalize hQ:(fun(B':ai.bP) (fr':aV) (w':ah)=>∃z u a S1 ks Sw G1,B'=ai.bz fo (fun b=>s b\/b=z.Wg)/\fr'=(base 54).at (a.put (ae 67)<|.tuple #[]) [.inRegion KP [],.code Dk]/\KQ fo s w B xb n h ma mc ms z u a S1 ks Sw G1 w')=Q
 have hb:pW=.seq (iD pW) (fB pW):=rfl
 have hr:iD pW=.region 0 IZ false:=rfl
 rw[hb]
 refine lU fun d1=>?_
 rw[hr]
 refine xR fun d2=>?_
 rw[show List.range IZ.size=[0,1]from rfl]
 refine ai.Reach.step fun d3=>⟨_,_,_,_,asi xb _ _ _ _,?_,by simp;exact Nat.le_succ _,by simp,?_⟩
 ·have Ub:w.heap.size<=(w.heap.push<|.cells #[.pointer<|ae ⟨xb,0,af⟩] 33).size:=by simp
  refine ai.oq.of (w:=w.at d3) ⟨bD.obj,bD.low,bD.lQ⟩ Ub<|ai.jG.push (ai.QB (w:=w.at d3) bD.obj Ub) fun v hv=>?_
  simp at hv
  subst hv
  exact .pointer fun x hx zz=>by
   cases hx;rcases zz with zz|zz
   ·exact Ap zz
   ·have zz':(w.heap.push<|.cells #[.pointer<|ae ⟨xb,0,af⟩] 33).size<=xb:=zz;simp at zz';omega
 have fO:((w.at d3).alloc<|.cells #[.pointer<|ae ⟨xb,0,af⟩] 33).heap.size=w.heap.size+1:=by simp;rfl
 have zn:((w.at d3).alloc<|.cells #[.pointer<|ae ⟨xb,0,af⟩] 33).heap[w.heap.size]? =ae (.cells #[.pointer<|ae ⟨xb,0,af⟩] 33 (0,0)):=aB0 _ _
 have ahH:∀b,b<w.heap.size->((w.at d3).alloc<|.cells #[.pointer<|ae ⟨xb,0,af⟩] 33).heap[b]? =w.heap[b]? :=fun b hb=>aB3 (w.at d3) _ b hb
 have adp:((w.at d3).alloc<|.cells #[.pointer<|ae ⟨xb,0,af⟩] 33).tape=w.tape/\((w.at d3).alloc<|.cells #[.pointer<|ae ⟨xb,0,af⟩] 33).os=w.os/\((w.at d3).alloc<|.cells #[.pointer<|ae ⟨xb,0,af⟩] 33).output=w.output:=⟨rfl,rfl,rfl⟩
 change ai.Reach _ _ _ _ ((w.at d3).alloc<|.cells #[.pointer<|ae ⟨xb,0,af⟩] 33) _ _
 change ai.Reach _ _ ((base 54).at ⟨#[.pointer<|ae ⟨xb,0,af⟩,.slice ma ms.length mc,.pointer<|ae ⟨w.heap.size,0,af⟩,ag,ag,ag,ag,ag,ag,ag,ag,ag,ag,ag,ag,ag,ag,ag,ag,ag,ag,ag,ag,ag,ag,ag,ag,ag,ag,ag,ag,ag,ag,ag,ag,ag,ag,ag,ag,ag,ag,ag,ag,ag,ag,ag,ag,ag,ag,ag,ag,ag,ag,ag,ag,ag,ag,ag,ag,ag,ag,ag,ag,ag,ag,ag,ag,ag,ag,ag,ag,ag],[]⟩<|.inRegion IZ [1]::[.code<|fB pW]) _ _ _ _
 generalize(w.at d3).alloc (.cells #[.pointer<|ae ⟨xb,0,af⟩] 33)=wa at*
 have h68:wa.cell? ⟨xb,68,af⟩=ae (.slice (ae ⟨pb,0,af⟩) h.pl.length pc):=by
  refine(aB4<|ahH xb fZ).trans ?_;rw[aG hC.at_.blk,ahG hC.at_.h6,gZ]
 have fU:=(ar6 (xb:=xb) (hv:=w.heap.size) (mv:=.slice ma ms.length mc) (E:=⟨fun b=>b<w.heap.size,fun b=>b<w.heap.size/\¬s b,fun _ hx=>hx.1⟩) (S:=fun b=>b=w.heap.size) (w:=wa) (cs:=cs) (w0:=w.heap.size) xh hn4 ⟨fZ,fun z=>Ap<|.inl z⟩ (by omega) (fun e=>by have:xb=w.heap.size:=e;omega) (fun b hb=>by have:b=w.heap.size:=hb;omega) ⟨rfl,zn⟩ h68).more
 refine ahp fU (fun b hb=>⟨by have:b=w.heap.size:=hb;omega,fun zz=>by have:=(bD.low b zz).2;have:b=w.heap.size:=hb;omega⟩) (fun b hb=>⟨by have:=hb.1;omega,hb.2⟩) ?_
 rintro S' g' wb ⟨⟨u,mr,C,sv,ov,ob,hL,DF,rfl⟩,hB⟩
 refine⟨_,cs,rfl,?_⟩
 refine ai.Reach.ok fun I4=>ai.Reach.step fun d4=>⟨_,_,_,_,asj xb w.heap.size mr sv ob h.pl.length _ u _ _ _,?_,by simp;exact Nat.le_succ _,by simp,?_⟩
 ·have Ub:wb.heap.size<=(wb.heap.push<|.cells #[.int .u64 0,.int .u32 0] 177).size:=by simp
  exact ai.oq.of (w:=wb.at d4) ⟨I4.obj,I4.low,I4.lQ⟩ Ub<|ai.jG.push (ai.QB (w:=wb.at d4) I4.obj Ub)<|asl _
 intro gs sl t q hh
 have dS:=hB.size
 have ahI:ob<wb.heap.size:=(iU.1 hL.bb.2).1
 have hold:aQ (fun b=>b<w.heap.size) ⟨fun _=>False,fun _=>False,fun _ x=>x⟩ w ((wb.at d4).alloc<|.cells #[.int .u64 0,.int .u32 0] 177):=by
  refine⟨hB.tape.trans adp.1,hB.os.trans adp.2.1,hB.output.trans adp.2.2,?_,fun b hb=>?_,fun _ hx=>hx.elim⟩
  ·show w.heap.size<=(wb.heap.push _).size;simp<;>omega
  ·rw[aB3 (wb.at d4) _ b<|show b<wb.heap.size by omega];exact(hB.ro b hb (by omega) (fun e=>by have:b=w.heap.size:=e;omega)).trans<|ahH b hb
 have abo:((wb.at d4).alloc<|.cells #[.int .u64 0,.int .u32 0] 177).heap.size=wb.heap.size+1:=by simp;rfl
 have asr:ai.iZ (fun b=>(s b\/fo b)\/b=wb.heap.size) ((wb.at d4).alloc<|.cells #[.int .u64 0,.int .u32 0] 177):=by
  refine⟨fun b o hb ho=>?_,fun b hb=>?_,by have:=I4.lQ;omega⟩
  ·have aB:=(iU.1 ho).1;rw[abo]at aB;have bM:b≠wb.heap.size:=fun e=>hb<|.inl<|.inr e;have qU:b<wb.heap.size:=by omega
   rw[aB3 (wb.at d4) _ b qU]at ho;refine(I4.obj b o (fun zz=>?_) ho).mono (B:=ai.uh<|ai.beyond (fun b=>(s b\/fo b)\/b=wb.heap.size) _) (B':=(ai.bz fo s).cut wb.heap.size) (fun c zz=>?_) rfl
   ·rcases zz with zz|zz
    ·exact hb<|.inl<|.inl zz
    ·omega
   ·rcases zz with(zz|zz)|zz
    ·exact .inl zz
    ·exact .inr<|AU zz.symm
    ·exact .inr (by rw[abo]at zz;omega)
  ·rw[abo];rcases hb with hb|hb
   ·have:=I4.low b hb;exact⟨this.1,by omega⟩
   ·have:=I4.lQ;exact⟨by omega,by omega⟩
 obtain⟨hO,abp⟩:=asf (m0:=gs.size) hC gZ iF fP abn fZ Ap Ua Aw hn4 ((hL.at d4).alloc<|.cells #[.int .u64 0,.int .u32 0] 177) (bV _) ahI (aB0 _ _) hold asr fun b hb=>(bD.low b hb).2
 obtain⟨a,M,gs1,w1,jV,t1,q1,ks,S1,Sw,G1,r1,r2,r3,r4,r5,r6,r7,r8,r9,Yt,r11⟩:=ar2 (u:=u) (cs:=cs) (sl:=sl) hO abp rfl hh.own hh.NL hh.IB
 subst hQ
 obtain⟨l1,l2,l3,l4,l5⟩:=hL.lt
 refine⟨M,_,gs1,_,w1,jV,t1,q1,r1,⟨r2,r3,r4,Yt.okB⟩,_,_,a,S1,ks,Sw,G1,rfl,rfl,⟨hO,⟨_,pb,pc,mb,_,mr,C,sv,ov,ob,_,_,rfl,bV _,l1,l2,l3,l4,l5,ahI,hold⟩,r5,r6,r7,r8,r9,r11,Yt,fun b hb=>⟨?_,abp.rd b hb⟩⟩⟩
 have gI:=abp.Ol.xQ b hb
 have dA:=r5.jA.fr b hb
 exact(iU.1<|dA.trans<|Fh gI).1
end Twin
end
section
namespace Twin
open Go Go.Proofs Go.Conc Go.RowKit Go.Maps eX
open Go.ConcR (WgAt KK DC0)
open Go.ConcN (WgLive PayAt Has)
def Gs.I5(z:Gs)(i:Nat):List Ms:=match z.pl[i]? with
 |some p=>if p.out then[]else(z.marks i).map Ms.kC
 |none=>[]
def Gs.jT(z:Gs):List Ms:=(List.range z.np).flatMap z.I5
variable{fo s:Nat->Prop}{w w':ah}{B xb n mc:Nat}{h:HS}{ma:Option Addr}{ms:List Ms}{z:Gs}{u:Nat->aj}{a:Act}{S1 G1:aC}{ks:List Kd}
def KQ.one{Sw:Nat->aC}(hW:KQ fo s w B xb n h ma mc ms z u a S1 ks Sw G1 w'){i:Nat}(hi:i<z.np):
 ∃p v,z.pl[i]? =ae p/\Has z.C i v w'/\w'.ownsRow z.Ba 119 5 v (z.I5 i).length ((z.I5 i).flatMap Ms.cs)/\(∀b,v.ownBlock=ae b->Sw i b)/\
  ∃v',gB (Sw i) w' z.B p.lb p.bm (z.n+(z.marks i).length) v' (if p.out then p.s else(z.marks i).foldl (fun s m=>s.closed m.p m.t m.c) p.s)/\∀b,v.ownBlock=ae b->¬kK p.lb p.bm v' b:=by
 have kQ:i<ks.length:=by rw[hW.len];exact hi
 have hk:ks[i]? =ae ks[i]:=dR kQ
 obtain⟨p,nb,cb,c,hp,wu⟩:=hW.zV i _ hk
 obtain⟨v,⟨lm,hl,hA⟩,abu⟩:=hW.res i _ hk
 rw[wu]at hA
 have hlm:lm=z.marks i:=(List.map_inj_right (fun x y yD=>by
  obtain⟨a1,a2,a3,a4,a5⟩:=x;obtain⟨b1,b2,b3,b4,b5⟩:=y;simp[jS]at yD;obtain⟨rfl,rfl,rfl,rfl,rfl⟩:=yD;rfl)).1 hl.symm
 subst hlm
 have ha:(z.wx i p nb cb c).p.oz (z.marks i)=z.I5 i:=by
  simp only[Pl.oz,Gs.wx,Gs.I5,hp];rfl
 have A8:(z.wx i p nb cb c).p.log (z.marks i)=(if p.out then p.s else(z.marks i).foldl (fun s m=>s.closed m.p m.t m.c) p.s):=rfl
 have h1:=hA.oz
 rw[ha]at h1
 obtain⟨v',h2,h3⟩:=hA.log
 rw[A8]at h2
 exact⟨p,v,hp,abu,h1.row,h1.r,v',h2,h3⟩
def KQ.rows{Sw:Nat->aC}(hW:KQ fo s w B xb n h ma mc ms z u a S1 ks Sw G1 w'):
 ∃rows:y9,rows.length=z.np/\w'.heap[z.C]? =ae (.cells (rows.map (·.1)).toArray 107 (0,0))/\(∀x∈rows,∃Bm,w'.ownsRow Bm 119 5 x.1 x.2.length (x.2.flatMap Ms.cs)/\∀b,x.1.ownBlock=ae b->∃i,i<z.np/\Sw i b)/\rows.all=z.jT:=by
 obtain⟨cs,hc,dS⟩:=hW.pay;refine⟨(List.range z.np).map fun i=>(cs.getD i ag,z.I5 i),by simp,?_,?_,?_⟩
 ·rw[hc];have e:cs=(((List.range z.np).map fun i=>(cs.getD i ag,z.I5 i)).map (·.1)).toArray:=by
   apply Array.ext
   ·simp[dS]
   ·intro i h1 h2;simp[Array.getD,h1]
  rw[<-e];rfl
 ·intro x hx;simp only[Ie,Ic]at hx;obtain⟨i,hi,rfl⟩:=hx;obtain⟨p,v,_,abu,bY,ML,_⟩:=hW.one hi;have hv:cs.getD i ag=v:=by
   have h1:w'.cell? ⟨z.C,i,af⟩=ae v:=abu;rw[aG hc]at h1;simp[Array.getD,dS,hi]at h1⊢
   simpa[Fh<|show i<cs.size by omega]using h1
  exact⟨z.Ba,by simpa[hv]using bY,fun b hb=>⟨i,hi,ML b<|by simpa[hv]using hb⟩⟩
 ·simp[y9.all,Gs.jT,List.flatMap_map]
end Twin
end
end Go.Proofs.YtkelpcjiediamaaGreat
