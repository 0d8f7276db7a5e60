import Derived.Test.YtkelpcjiediamaaGreatQb22
set_option maxRecDepth 100000
set_option maxHeartbeats 0
set_option linter.all false
namespace Go.Proofs.YtkelpcjiediamaaGreat
open Go renaming Calls→aK,TypeId→bW,Value→aj,World→ah,maxLen→dH
open Option renaming none→af,some→ae
open Go.Proofs.Tryz
open Go.RowKit Go.Maps
section
def vH(r:Rc):Value:=.agg #[.int .i64 r.k,.int .i64 r.p,.int .i64 r.a,.int .i64 r.m]
def HS.oU(h:HS)(jv:aj)(new:List aj):HS:={h with jv:=jv,jb:=h.jb++new}
def HS.aeR(h:HS)(jv:aj)(new:List aj):h.cells.toArray.setIfInBounds 4 jv=(h.oU jv new).cells.toArray:=by
 simp[HS.cells,HS.oU]
def aeS(x:PS):x.pend (bF x.aT 1 4)={x with a:=lZ x.a,b:=lZ x.b,c:=lZ x.c,d:=lZ x.d}:=by
 obtain⟨e,t,s,a,b,c,d,si,wa,ga⟩:=x;have hr:List.range 4=[0,1,2,3]:=rfl;by_cases ha:1<=a<;>by_cases hb:1<=b<;>by_cases hc:1<=c<;>by_cases hd:1<=d<;>
  simp[bF,hr,PS.aT,PS.pend,PS.tie,lZ,ha,hb,hc,hd,List.filter]
def amV(w:ah)(b:Nat):(Instr.index 193 (.agg<|qF b)<|.int .i64 1).run prog w=.ok (.func (.func 179) #[] #[.pointer<|ae ⟨b,0,af⟩]) w:=by kernel_rfl
def amW(w:ah)(b:Nat):(Instr.index 193 (.agg<|qF b)<|.int .i64 2).run prog w=.ok (.func (.func 180) #[] #[.pointer<|ae ⟨b,0,af⟩]) w:=by kernel_rfl
def amX(w:ah)(b:Nat):(Instr.index 193 (.agg<|qF b)<|.int .i64 3).run prog w=.ok (.func (.func 181) #[] #[.pointer<|ae ⟨b,0,af⟩]) w:=by kernel_rfl
def amY(w:ah)(b:Nat):(Instr.index 193 (.agg<|qF b)<|.int .i64 4).run prog w=.ok (.func (.func 182) #[] #[.pointer<|ae ⟨b,0,af⟩]) w:=by kernel_rfl
def HS.amZ(h:HS):h.oU h.jv []=h:=by simp[HS.oU]
def aeT(l:List UInt8):∀u∈ed l,u.oneCell'=true:=by
 intro u hu;simp only[ed,Ie]at hu;obtain⟨b,_,rfl⟩:=hu;rfl
def Ns{h:HS}{i:Nat}{x:PS}{r:Rc}{jv:aj}{new:List aj}(hx:h.ps[i]? =ae x)(hr:r.p=i):({h.oU jv new with ps:=jE h.ps r}:HS)=(h.oU jv new).dE i (x.bJ r):=by
 have:r.p.toNat=i:=by omega
 simp[jE,HS.dE,HS.oU,this,List.getD,hx]
section
variable{w w':ah}{B xb n:Nat}{h:HS}
def ay.aeU{W w3:ah}{jv:aj}{m:Nat}{new:List aj}(hh:ay w B xb n h)(fW:Fr aH w W)(hg:W.grownBy w3 h.jv.ownBlock)(iy:w3.ownsRow B 5 1 jv (h.jb.length+m) (h.jb++new))(hm:new.length=m)(dM:∀q,jv.ownBlock=ae q->h.jv.ownBlock=ae q\/w.heap.size<=q):
 ay (w3.setCell ⟨xb,4,af⟩ jv) B xb n (h.oU jv new)/\Fr (fun k=>k=xb\/h.jv.ownBlock=ae k) w (w3.setCell ⟨xb,4,af⟩ jv):=by
 have aB:=aS hh.blk;have f3:Fr (fun q=>h.jv.ownBlock=ae q) w w3:=(fW.mono fun _ h=>h.elim).grown hg fun q e=>.inl e;have b3:w3.heap[xb]? =ae (.cells h.cells.toArray 111 (0,0)):=(f3.block xb aB hh.PW).trans hh.blk;have fs:Fr (fun q=>q=xb) w3 (w3.setCell ⟨xb,4,af⟩ jv):=(Fr.refl (fun q=>q=xb) w3).setCell (p:=⟨xb,4,af⟩) (.inl rfl) _;have f4:Fr (fun k=>k=xb\/h.jv.ownBlock=ae k) w (w3.setCell ⟨xb,4,af⟩ jv):=(f3.mono fun q e=>.inl<|.inr e).trans fs fun q e=>.inl<|.inl e;have row:∀{ty:bW} {wd:Nat} {v:aj} {k:Nat} {xs:List aj},w.ownsRow B ty wd v k xs->ty≠5->ty≠111->(w3.setCell ⟨xb,4,af⟩ jv).ownsRow B ty wd v k xs:=fun ho h5 h1=>f4.ownsRow ho (fun q hq e=>by
  have t0:=ig ho hq;rcases e with e|e
  ·subst e;rw[lD hh.blk]at t0;exact h1 t0.symm
  ·rw[ig hh.lL e]at t0;exact h5 t0.symm)
 refine⟨⟨?_,?_,row hh.jD (by decide)<|by decide,row hh.lY (by decide)<|by decide,fun p hp=>(hh.dG p hp).stay f4 fun q hq hf=>?_,hh.hx,hh.hP,hh.hQ,hh.h6⟩,f4⟩
 ·rw[jQ b3,HS.aeR h jv new]
 ·show(w3.setCell ⟨xb,4,af⟩ jv).ownsRow B 5 1 jv (h.jb++new).length (h.jb++new);rw[iQ,hm];refine fs.ownsRow iy fun q hq e=>?_;subst e;rcases dM _ hq with a|a
  ·exact hh.PW a
  ·omega
 ·rcases hq with hq|hq
  ·have h0:=lD hh.blk;subst hq;rcases(hh.dG p hp).tags hf with h1|h1|h1<;>rw[h0]at h1<;>cases h1
  ·have h0:=ig hh.lL hq;rcases(hh.dG p hp).tags hf with h1|h1|h1<;>rw[h0]at h1<;>cases h1
structure aeV(w w':ah)(B xb n:Nat)(h:HS)(r:Rc)(jv:aj):Prop where
 at_:ay w' B xb n {h.oU jv (ed<|dL r)with ps:=jE h.ps r}
 fr:Fr (fun k=>k=xb\/h.jv.ownBlock=ae k) w w'
 Nb:∀k,jv.ownBlock=ae k->h.jv.ownBlock=ae k\/w.heap.size<=k
def am0(hh:ay w B xb n h)(pz:h.br=false){r:Rc}{m:Nat}(hr:r.Small m)(hm:m<1000000000000)(hk:r.k=1\/r.k=2\/(r.k=3/\∃c:Bool,r.a=if c then 1 else 0)\/r.k=4)(hb:h.jb.length+16<=140737488355328):
 aK prog 118 #[.pointer<|ae ⟨xb,4,af⟩,vH r] w fun e w'=>e=.returned (.bool true)/\∃jv,aeV w w' B xb n h r jv:=by
 have HH:Hid (ay w B xb n h):=hh;have HR:Hid (r.Small m):=hr;have rU:Hid (∀W,aK prog 171 #[vH r] W fun e w'=>∃v,e=.returned v/\w'.ownsRow W.heap.size 5 1 v 16 (ed<|dL r)/\Fr aH W w'):=fun W=>Zv W hr hm;have c4:=hh.cJ;obtain⟨ja,jc,hj,_⟩:=oL hh.lL;rw[hj]at c4;have Ip:=hh.cB;rw[pz]at Ip;have HJ:Hid (h.jv=.slice ja h.jb.length jc):=hj;have Zw:Hid (∀W,Fr aH w W->W.ownsRow B 5 1 (.slice ja h.jb.length jc) h.jb.length h.jb):=fun W f=>by rw[<-hj];exact f.ownsRow hh.lL fun _ _=>id
 have UX:Hid (ae xb≠Value.ownBlock (.slice ja h.jb.length jc)):=by show ae xb≠_;rw[<-hj];exact fun e=>hh.PW e.symm
 have fZ:=aS hh.blk;have Qe:Hid (h.jb.length+16<=140737488355328):=hb;obtain⟨i,hi⟩:=vw hr.p0;have jw:i<6:=by have:=hr.p1;omega
 obtain⟨x,hx⟩:∃x,h.ps[i]? =ae x:=⟨_,dR (by rw[hh.h6];exact jw)⟩;have HX:Hid (h.ps[i]? =ae x):=hx;obtain⟨k,p,a,mm⟩:=r;simp only at hk hi;subst hi;have HK:Hid (k=1\/k=2\/(k=3/\∃c:Bool,a=if c then 1 else 0)\/k=4):=hk;clear hk;obtain⟨i0,dF,gG,fO,iH⟩:=aCf Zr;unfold vH;clear hh hj pz hr hb hx;go_enter func118,ntmps118
 go_wp2_with (first
  |(go_at_call 171;refine(show aK prog 171 #[vH ⟨k,i,a,mm⟩] _ _ from rU.out _).mono ?_;rintro e w1 ⟨v1,rfl,jf,bg⟩
    have F1:Hid (Fr aH w w1):=(aZ _).trans bg fun _ h=>h.elim
    obtain⟨g,gc,rfl,_⟩:=Io jf<|by decide
    have V1:Hid (w1.ownsRow (w.alloc<|.cells #[.int .i64 k,.int .i64 i,.int .i64 a,.int .i64 mm] 184).heap.size 5 1 (.slice (ae ⟨g,0,af⟩) 16 gc) 16<|ed<|dL ⟨k,i,a,mm⟩):=jf
    have d4:=(F1.out.cell (p:=⟨xb,4,af⟩) fZ id).trans c4
    have d66:=(F1.out.cell (p:=⟨xb,66,af⟩) fZ id).trans Ip
    have df:∀o,w1.frozen? ⟨xb,o,af⟩=false:=jP<|(F1.out.block xb fZ id).trans HH.out.blk
    have BX:Hid (w1.heap[w.heap.size]? =ae (.cells #[.int .i64 k,.int .i64 i,.int .i64 a,.int .i64 mm] 184 (0,0))):=(bg.block _ (by simp) id).trans<|aB0 _ _
    have UY:Hid (w1.ownsRow B 5 1 (.slice ja h.jb.length jc) h.jb.length h.jb):=Zw.out w1 F1.out
    have HNE:Hid (ae xb≠Value.ownBlock (.slice ja h.jb.length jc)):=UX.out
    have gq:xb<w1.heap.size:=dY fZ F1.out.size
    clear jf bg)
  |(at_builtin;refine aCv _ rfl _ _ 99 rfl B 5 i0 _ 1 1 underlying99 dF gG fO iH rfl (by decide) (.slice ja h.jb.length jc) h.jb.length h.jb rfl UY.out ⟨g,0,af⟩ 16 gc (ed<|dL ⟨k,i,a,mm⟩) rfl (by rw[FT,Ed]) (V1.out.cells (g:=g) rfl) (aeT _) (by decide) (by have:=Qe.out;simp only[dH];omega) (by have:=Qe.out;omega) (by have:=HH.out.hx;omega) w1.heap.size rfl ?_;intro gg cap w2 iy o8 dM nU
    have G2:Hid (w1.grownBy w2<|Value.ownBlock<|.slice ja h.jb.length jc):=o8
    have e4:=(o8.cell_far ⟨xb,4,af⟩ gq HNE.out).trans d4
    have ef:=(o8.frozen_far ⟨xb,4,af⟩ gq HNE.out).trans<|df 4))
 have hD:=HH.out.aeU (jv:=.slice (ae ⟨gg,0,af⟩) (h.jb.length+16) cap) (m:=16) (new:=ed<|dL ⟨k,i,a,mm⟩) F1.out (by rw[HJ.out];exact G2.out) iy (by rw[FT,Ed]) (fun q hq=>by
  simp only[Value.ownBlock,fJ]at hq;subst hq;rcases dM with e|e
  ·exact .inl (by rw[HJ.out];exact e)
  ·exact .inr (by have:=F1.out.size;omega))
 have Iq:Hid (∀k,Value.ownBlock (.slice (ae ⟨gg,0,af⟩) (h.jb.length+16) cap)=ae k->h.jv.ownBlock=ae k\/w.heap.size<=k):=fun q hq=>by
  simp only[Value.ownBlock,fJ]at hq;subst hq;rcases dM with e|e
  ·exact .inl (by rw[HJ.out];exact e)
  ·exact .inr (by have:=F1.out.size;omega)
 have zq:(w2.setCell ⟨xb,4,af⟩<|.slice (ae ⟨gg,0,af⟩) (h.jb.length+16) cap).heap[w.heap.size]? =ae (.cells #[.int .i64 k,.int .i64 i,.int .i64 a,.int .i64 mm] 184 (0,0)):=by
  rw[aB5 _ _ _ _<|show w.heap.size≠xb by omega,G2.out.block w.heap.size (aS BX.out) (fun e=>by
   have h1:=UY.out.lt w.heap.size e.symm;have h2:=(HH.out.lL.lt w.heap.size (by rw[HJ.out];exact e.symm)).2;omega)]
  exact BX.out
 generalize w2.setCell ⟨xb,4,af⟩ (.slice (ae ⟨gg,0,af⟩) (h.jb.length+16) cap)=W at hD zq⊢
 generalize(Value.slice (ae ⟨gg,0,af⟩) (h.jb.length+16) cap)=jv at hD Iq⊢
 have HW:Hid (ay W B xb n<|h.oU jv<|ed<|dL ⟨k,i,a,mm⟩):=hD.1;have FW:Hid (Fr (fun k=>k=xb\/h.jv.ownBlock=ae k) w W):=hD.2;have pM:Hid (W.heap[w.heap.size]? =ae (.cells #[.int .i64 k,.int .i64 i,.int .i64 a,.int .i64 mm] 184 (0,0))):=zq;have UZ:Hid ((h.oU jv<|ed<|dL ⟨k,i,a,mm⟩).ps[i]? =ae x):=HX.out;clear hD zq iy o8 dM nU e4 ef d4 d66 df;rcases HK.out with rfl|rfl|⟨rfl,c,hc⟩|rfl
 ·have hix:=amV;go_region_held3 (fun w'=>w'.cell? ⟨w.heap.size,0,af⟩=ae (.int .i64 1)/\w'.cell? ⟨w.heap.size,1,af⟩=ae (.int .i64 i)/\w'.cell? ⟨w.heap.size,2,af⟩=ae (.int .i64 a)/\w'.cell? ⟨w.heap.size,3,af⟩=ae (.int .i64 mm))
   (first|with_reducible exact C2|with_reducible exact C3|exact⟨aG pM.out 0,aG pM.out 1,aG pM.out 2,aG pM.out 3⟩|go_keep)
   (first
     |(go_at_call 128;refine(Np (w:=W.drew) _).mono ?_;rintro e w3 ⟨rfl,lH,lG⟩
       have F3:Hid (Fr aH W w3):=((Fr.refl _ _).drew:Fr aH W W.drew).trans lG fun _ h=>h.elim
       have B3:Hid (vG w3 W.drew.heap.size xb):=lH
       have x3:=(F3.out.block _ (aS pM.out) id).trans pM.out
       have C2:w3.cell? ⟨w.heap.size,0,af⟩=ae (.int .i64 1)/\w3.cell? ⟨w.heap.size,1,af⟩=ae (.int .i64 i)/\w3.cell? ⟨w.heap.size,2,af⟩=ae (.int .i64 a)/\w3.cell? ⟨w.heap.size,3,af⟩=ae (.int .i64 mm):=⟨aG x3 0,aG x3 1,aG x3 2,aG x3 3⟩
       have X3:Hid (w3.heap[w.heap.size]? =ae (.cells #[.int .i64 1,.int .i64 i,.int .i64 a,.int .i64 mm] 184 (0,0))):=x3
       clear lH lG x3)
     |(go_at_call 179;refine(aeD (HW.out.after F3.out) B3.out jw UZ.out 1 a mm).mono ?_;rintro e w4 ⟨rfl,h4,qX⟩
       have H4:Hid (ay w4 B xb n<|(h.oU jv<|ed<|dL ⟨1,i,a,mm⟩).dE i {x with e:=mm}):=h4
       have F4:Hid (Fr (fun k=>k=xb) w3 w4):=qX
       have x4:=(qX.block _ (aS X3.out)<|show¬w.heap.size=xb by omega).trans X3.out
       have C3:w4.cell? ⟨w.heap.size,0,af⟩=ae (.int .i64 1)/\w4.cell? ⟨w.heap.size,1,af⟩=ae (.int .i64 i)/\w4.cell? ⟨w.heap.size,2,af⟩=ae (.int .i64 a)/\w4.cell? ⟨w.heap.size,3,af⟩=ae (.int .i64 mm):=⟨aG x4 0,aG x4 1,aG x4 2,aG x4 3⟩
       clear h4 qX x4))
  go_wp2_with fail
  go_ret;refine⟨rfl,jv,?_,(FW.out.trans F3.out fun _ h=>h.elim).trans F4.out fun _ e=>.inl<|.inl e,Iq.out⟩;rw[Ns (r:=⟨1,i,a,mm⟩) (jv:=jv) (new:=ed<|dL ⟨1,i,a,mm⟩) HX.out rfl];exact H4.out
 ·obtain⟨q,hq⟩:=vw HR.out.a0;simp only at hq;subst hq;have l9:q<4:=by have:=HR.out.a1;simp only at this;omega
  have hix:=amW;go_region_held3 (fun w'=>w'.cell? ⟨w.heap.size,0,af⟩=ae (.int .i64 2)/\w'.cell? ⟨w.heap.size,1,af⟩=ae (.int .i64 i)/\w'.cell? ⟨w.heap.size,2,af⟩=ae (.int .i64 q)/\w'.cell? ⟨w.heap.size,3,af⟩=ae (.int .i64 mm))
   (first|with_reducible exact C2|with_reducible exact C3|exact⟨aG pM.out 0,aG pM.out 1,aG pM.out 2,aG pM.out 3⟩|go_keep)
   (first
     |(go_at_call 128;refine(Np (w:=W.drew) _).mono ?_;rintro e w3 ⟨rfl,lH,lG⟩
       have F3:Hid (Fr aH W w3):=((Fr.refl _ _).drew:Fr aH W W.drew).trans lG fun _ h=>h.elim
       have B3:Hid (vG w3 W.drew.heap.size xb):=lH
       have x3:=(F3.out.block _ (aS pM.out) id).trans pM.out
       have C2:w3.cell? ⟨w.heap.size,0,af⟩=ae (.int .i64 2)/\w3.cell? ⟨w.heap.size,1,af⟩=ae (.int .i64 i)/\w3.cell? ⟨w.heap.size,2,af⟩=ae (.int .i64 q)/\w3.cell? ⟨w.heap.size,3,af⟩=ae (.int .i64 mm):=⟨aG x3 0,aG x3 1,aG x3 2,aG x3 3⟩
       have X3:Hid (w3.heap[w.heap.size]? =ae (.cells #[.int .i64 2,.int .i64 i,.int .i64 q,.int .i64 mm] 184 (0,0))):=x3
       clear lH lG x3)
     |(go_at_call 180;refine(aeE (HW.out.after F3.out) B3.out jw l9 UZ.out 2 mm).mono ?_;rintro e w4 ⟨rfl,h4,qX⟩
       have H4:Hid (ay w4 B xb n<|(h.oU jv<|ed<|dL ⟨2,i,q,mm⟩).dE i<|({x with s:=1,t:=mm}:PS).tie q 1):=h4
       have F4:Hid (Fr (fun k=>k=xb) w3 w4):=qX
       have x4:=(qX.block _ (aS X3.out)<|show¬w.heap.size=xb by omega).trans X3.out
       have C3:w4.cell? ⟨w.heap.size,0,af⟩=ae (.int .i64 2)/\w4.cell? ⟨w.heap.size,1,af⟩=ae (.int .i64 i)/\w4.cell? ⟨w.heap.size,2,af⟩=ae (.int .i64 q)/\w4.cell? ⟨w.heap.size,3,af⟩=ae (.int .i64 mm):=⟨aG x4 0,aG x4 1,aG x4 2,aG x4 3⟩
       clear h4 qX x4))
  go_wp2_with fail
  go_ret;refine⟨rfl,jv,?_,(FW.out.trans F3.out fun _ h=>h.elim).trans F4.out fun _ e=>.inl<|.inl e,Iq.out⟩;rw[Ns (r:=⟨2,i,q,mm⟩) (jv:=jv) (new:=ed<|dL ⟨2,i,q,mm⟩) HX.out rfl];exact H4.out
 ·have HC:Hid (a=if c then 1 else 0):=hc;clear hc;have hix:=amX;go_region_held3 (fun w'=>w'.cell? ⟨w.heap.size,0,af⟩=ae (.int .i64 3)/\w'.cell? ⟨w.heap.size,1,af⟩=ae (.int .i64 i)/\w'.cell? ⟨w.heap.size,2,af⟩=ae (.int .i64 a)/\w'.cell? ⟨w.heap.size,3,af⟩=ae (.int .i64 mm))
   (first|with_reducible exact C2|with_reducible exact C3|exact⟨aG pM.out 0,aG pM.out 1,aG pM.out 2,aG pM.out 3⟩|go_keep)
   (first
     |(go_at_call 128;refine(Np (w:=W.drew) _).mono ?_;rintro e w3 ⟨rfl,lH,lG⟩
       have F3:Hid (Fr aH W w3):=((Fr.refl _ _).drew:Fr aH W W.drew).trans lG fun _ h=>h.elim
       have B3:Hid (vG w3 W.drew.heap.size xb):=lH
       have x3:=(F3.out.block _ (aS pM.out) id).trans pM.out
       have C2:w3.cell? ⟨w.heap.size,0,af⟩=ae (.int .i64 3)/\w3.cell? ⟨w.heap.size,1,af⟩=ae (.int .i64 i)/\w3.cell? ⟨w.heap.size,2,af⟩=ae (.int .i64 a)/\w3.cell? ⟨w.heap.size,3,af⟩=ae (.int .i64 mm):=⟨aG x3 0,aG x3 1,aG x3 2,aG x3 3⟩
       have X3:Hid (w3.heap[w.heap.size]? =ae (.cells #[.int .i64 3,.int .i64 i,.int .i64 a,.int .i64 mm] 184 (0,0))):=x3
       clear lH lG x3)
     |(go_at_call 181;refine(Zo (HW.out.after F3.out) B3.out jw UZ.out 3 mm (c:=c) (s':=if c then 2 else 3) HC.out rfl).mono ?_;rintro e w4 ⟨rfl,h4,qX⟩
       have H4:Hid (ay w4 B xb n<|(h.oU jv<|ed<|dL ⟨3,i,a,mm⟩).dE i ({({x with s:=if c then 2 else 3}:PS).pend (bF x.aT 1 4)with wa:=1,ga:=1}:PS)):=h4
       have F4:Hid (Fr (fun k=>k=xb) w3 w4):=qX
       have x4:=(qX.block _ (aS X3.out)<|show¬w.heap.size=xb by omega).trans X3.out
       have C3:w4.cell? ⟨w.heap.size,0,af⟩=ae (.int .i64 3)/\w4.cell? ⟨w.heap.size,1,af⟩=ae (.int .i64 i)/\w4.cell? ⟨w.heap.size,2,af⟩=ae (.int .i64 a)/\w4.cell? ⟨w.heap.size,3,af⟩=ae (.int .i64 mm):=⟨aG x4 0,aG x4 1,aG x4 2,aG x4 3⟩
       clear h4 qX x4))
  go_wp2_with fail
  go_ret;refine⟨rfl,jv,?_,(FW.out.trans F3.out fun _ h=>h.elim).trans F4.out fun _ e=>.inl<|.inl e,Iq.out⟩;have he:({({x with s:=if c then 2 else 3}:PS).pend (bF x.aT 1 4)with wa:=1,ga:=1}:PS)=x.bJ ⟨3,i,a,mm⟩:=by
   have:=aeS ({x with s:=if c then 2 else 3}:PS);rw[show({x with s:=if c then 2 else 3}:PS).aT=x.aT from rfl]at this;rw[this,HC.out];cases c<;>rfl
  rw[Ns (r:=⟨3,i,a,mm⟩) (jv:=jv) (new:=ed<|dL ⟨3,i,a,mm⟩) HX.out rfl,<-he];exact H4.out
 ·have hix:=amY;go_region_held3 (fun w'=>w'.cell? ⟨w.heap.size,0,af⟩=ae (.int .i64 4)/\w'.cell? ⟨w.heap.size,1,af⟩=ae (.int .i64 i)/\w'.cell? ⟨w.heap.size,2,af⟩=ae (.int .i64 a)/\w'.cell? ⟨w.heap.size,3,af⟩=ae (.int .i64 mm))
   (first|with_reducible exact C2|with_reducible exact C3|exact⟨aG pM.out 0,aG pM.out 1,aG pM.out 2,aG pM.out 3⟩|go_keep)
   (first
     |(go_at_call 128;refine(Np (w:=W.drew) _).mono ?_;rintro e w3 ⟨rfl,lH,lG⟩
       have F3:Hid (Fr aH W w3):=((Fr.refl _ _).drew:Fr aH W W.drew).trans lG fun _ h=>h.elim
       have B3:Hid (vG w3 W.drew.heap.size xb):=lH
       have x3:=(F3.out.block _ (aS pM.out) id).trans pM.out
       have C2:w3.cell? ⟨w.heap.size,0,af⟩=ae (.int .i64 4)/\w3.cell? ⟨w.heap.size,1,af⟩=ae (.int .i64 i)/\w3.cell? ⟨w.heap.size,2,af⟩=ae (.int .i64 a)/\w3.cell? ⟨w.heap.size,3,af⟩=ae (.int .i64 mm):=⟨aG x3 0,aG x3 1,aG x3 2,aG x3 3⟩
       have X3:Hid (w3.heap[w.heap.size]? =ae (.cells #[.int .i64 4,.int .i64 i,.int .i64 a,.int .i64 mm] 184 (0,0))):=x3
       clear lH lG x3)
     |(go_at_call 182;refine(aeH (HW.out.after F3.out) B3.out jw UZ.out 4 a mm).mono ?_;rintro e w4 ⟨rfl,h4,qX⟩
       have H4:Hid (ay w4 B xb n<|(h.oU jv<|ed<|dL ⟨4,i,a,mm⟩).dE i ⟨x.e,x.t,0,0,0,0,0,0,0,0⟩):=h4
       have F4:Hid (Fr (fun k=>k=xb) w3 w4):=qX
       have x4:=(qX.block _ (aS X3.out)<|show¬w.heap.size=xb by omega).trans X3.out
       have C3:w4.cell? ⟨w.heap.size,0,af⟩=ae (.int .i64 4)/\w4.cell? ⟨w.heap.size,1,af⟩=ae (.int .i64 i)/\w4.cell? ⟨w.heap.size,2,af⟩=ae (.int .i64 a)/\w4.cell? ⟨w.heap.size,3,af⟩=ae (.int .i64 mm):=⟨aG x4 0,aG x4 1,aG x4 2,aG x4 3⟩
       clear h4 qX x4))
  go_wp2_with fail
  go_ret;refine⟨rfl,jv,?_,(FW.out.trans F3.out fun _ h=>h.elim).trans F4.out fun _ e=>.inl<|.inl e,Iq.out⟩;rw[Ns (r:=⟨4,i,a,mm⟩) (jv:=jv) (new:=ed<|dL ⟨4,i,a,mm⟩) HX.out rfl];exact H4.out
structure Zx(w w':ah)(B xb n:Nat)(h:HS)(r:Rc)(kk:Nat)(jv:aj):Prop where
 at_:ay w' B xb n (h.oU jv<|ed<|(dL r).take kk).zS
 fr:Fr (fun k=>k=xb\/h.jv.ownBlock=ae k) w w'
 Nb:∀k,jv.ownBlock=ae k->h.jv.ownBlock=ae k\/w.heap.size<=k
variable{r:Rc}{m:Nat}
def am1(hh:ay w B xb n h)(pz:h.br=true){kk:Nat}(LP:h.kp=kk)(azq:kk<=16)(sV:0<kk)(hr:r.Small m)(hm:m<1000000000000)(hb:h.jb.length+16<=140737488355328):
 aK prog 118 #[.pointer<|ae ⟨xb,4,af⟩,vH r] w fun e w'=>e=.returned (.bool false)/\∃jv,Zx w w' B xb n h r kk jv:=by
 have HH:Hid (ay w B xb n h):=hh;have rU:Hid (∀W,aK prog 171 #[vH r] W fun e w'=>∃v,e=.returned v/\w'.ownsRow W.heap.size 5 1 v 16 (ed<|dL r)/\Fr aH W w'):=fun W=>Zv W hr hm;have c4:=hh.cJ;obtain⟨ja,jc,hj,_⟩:=oL hh.lL;rw[hj]at c4;have Ip:=hh.cB;rw[pz]at Ip;have Qg:=hh.cK;rw[LP]at Qg;have HJ:Hid (h.jv=.slice ja h.jb.length jc):=hj;have Zw:Hid (∀W,Fr aH w W->W.ownsRow B 5 1 (.slice ja h.jb.length jc) h.jb.length h.jb):=fun W f=>by rw[<-hj];exact f.ownsRow hh.lL fun _ _=>id
 have UX:Hid (ae xb≠Value.ownBlock (.slice ja h.jb.length jc)):=by show ae xb≠_;rw[<-hj];exact fun e=>hh.PW e.symm
 have fZ:=aS hh.blk;have Qe:Hid (h.jb.length+16<=140737488355328):=hb;have hBw:B<=w.heap.size:=YO<|YF hh.hx fZ;have JS:Hid (((dL r).take kk).length=kk):=by show((dL r).take kk).length=kk;rw[JK,Ed];omega
 have Ee:Hid (∀j u,(ed<|(dL r).take kk)[j]? =ae u->(ed<|dL r)[j]? =ae u):=fun j u hu=>by
  simp only[ed,List.map_take]at hu⊢
  rw[List.getElem?_take]at hu;split at hu
  ·exact hu
  ·cases hu
 obtain⟨k,p,a,mm⟩:=r;obtain⟨i0,dF,gG,fO,iH⟩:=aCf Zr;unfold vH;have azr:(0:Int)<=(kk:Int):=by omega
 have azs:(kk:Int)<=16:=by omega
 clear hh hj pz hr hb LP;go_enter func118,ntmps118
 go_wp2_with (first
  |(go_at_call 171;refine(show aK prog 171 #[vH ⟨k,p,a,mm⟩] _ _ from rU.out _).mono ?_;rintro e w1 ⟨v1,rfl,jf,bg⟩
    have F1:Hid (Fr aH w w1):=(aZ _).trans bg fun _ h=>h.elim
    obtain⟨g,gc,rfl,hgc⟩:=Io jf<|by decide
    have V1:Hid (w1.ownsRow (w.alloc<|.cells #[.int .i64 k,.int .i64 p,.int .i64 a,.int .i64 mm] 184).heap.size 5 1 (.slice (ae ⟨g,0,af⟩) 16 gc) 16<|ed<|dL ⟨k,p,a,mm⟩):=jf
    have d4:=(F1.out.cell (p:=⟨xb,4,af⟩) fZ id).trans c4
    have d66:=(F1.out.cell (p:=⟨xb,66,af⟩) fZ id).trans Ip
    have d67:=(F1.out.cell (p:=⟨xb,67,af⟩) fZ id).trans Qg
    have df:∀o,w1.frozen? ⟨xb,o,af⟩=false:=jP<|(F1.out.block xb fZ id).trans HH.out.blk
    have UY:Hid (w1.drew.ownsRow B 5 1 (.slice ja h.jb.length jc) h.jb.length h.jb):=Zw.out w1.drew F1.out.drew
    have gq:xb<w1.heap.size:=dY fZ F1.out.size
    have azt:w.heap.size<=w1.heap.size:=F1.out.size
    have azu:(kk:Int)<=(gc:Int):=by omega
    clear jf bg))
 go_region_law
  ((refine aCu _ (by rfl) _ _ _ (by rfl) B 5 i0 _ 1 1 underlying99 dF gG fO iH rfl (by omega) (.slice ja h.jb.length jc) h.jb.length h.jb (by rfl) UY.out ⟨g,0,af⟩ kk gc (ed<|(dL ⟨k,p,a,mm⟩).take kk) (by rfl) (by rw[FT,JS.out,Nat.mul_one]) (fun j u hu=>V1.out.cells (g:=g) rfl j u<|Ee.out j u hu) (aeT _) (by omega) (by have:=Qe.out;simp only[dH];omega) (by have:=Qe.out;omega) (by simp<;>omega) w1.heap.size (by rfl) ?_;intro gg cap w2 iy o8 dM nU
    have e4:=(o8.cell_far ⟨xb,4,af⟩ gq UX.out).trans d4
    have ef:=(o8.frozen_far ⟨xb,4,af⟩ gq UX.out).trans<|df 4))
 all_goals
  have hD:=HH.out.aeU (jv:=.slice (ae ⟨gg,0,af⟩) (h.jb.length+kk) cap) (m:=kk) (new:=ed<|(dL ⟨k,p,a,mm⟩).take kk) F1.out.drew (by rw[HJ.out];exact o8) iy (by rw[FT,JS.out]) (fun q hq=>by
   simp only[Value.ownBlock,fJ]at hq;subst hq;rcases dM with e|e
   ·exact .inl (by rw[HJ.out];exact e)
   ·exact .inr<|by omega)
  have Iq:Hid (∀k,Value.ownBlock (.slice (ae ⟨gg,0,af⟩) (h.jb.length+kk) cap)=ae k->h.jv.ownBlock=ae k\/w.heap.size<=k):=fun q hq=>by
   simp only[Value.ownBlock,fJ]at hq;subst hq;rcases dM with e|e
   ·exact .inl (by rw[HJ.out];exact e)
   ·exact .inr<|by omega
  generalize w2.setCell ⟨xb,4,af⟩ (.slice (ae ⟨gg,0,af⟩) (h.jb.length+kk) cap)=W at hD⊢
  generalize(Value.slice (ae ⟨gg,0,af⟩) (h.jb.length+kk) cap)=jv at hD Iq⊢
  have HW:Hid (ay W B xb n<|h.oU jv<|ed<|(dL ⟨k,p,a,mm⟩).take kk):=hD.1
  have FW:Hid (Fr (fun k=>k=xb\/h.jv.ownBlock=ae k) w W):=hD.2
  clear hD iy o8 dM nU e4 ef d4 d66 d67 df
  go_wp2_with (go_at_call 104;refine(Zh HW.out).mono ?_;rintro e w3 ⟨rfl,h3,lG⟩;have H3:Hid (ay w3 B xb n (h.oU jv<|ed<|(dL ⟨k,p,a,mm⟩).take kk).zS):=h3;have F3:Hid (Fr (fun k=>k=xb) W w3):=lG;clear h3 lG)
  go_ret
  exact⟨rfl,jv,H3.out,FW.out.trans F3.out fun _ e=>.inl<|.inl e,Iq.out⟩
def am2(hh:ay w B xb n h)(pz:h.br=true)(LP:h.kp=0)(hr:r.Small m)(hm:m<1000000000000):
 aK prog 118 #[.pointer<|ae ⟨xb,4,af⟩,vH r] w fun e w'=>e=.returned (.bool false)/\∃jv,Zx w w' B xb n h r 0 jv:=by
 have HH:Hid (ay w B xb n h):=hh;have rU:Hid (∀W,aK prog 171 #[vH r] W fun e w'=>∃v,e=.returned v/\w'.ownsRow W.heap.size 5 1 v 16 (ed<|dL r)/\Fr aH W w'):=fun W=>Zv W hr hm;have c4:=hh.cJ;obtain⟨ja,jc,hj,_⟩:=oL hh.lL;have XO:h.jb.length<=jc:=by
  rcases hh.lL.2 with⟨hv,h0⟩|⟨g,cap,cur,hv,_,_,h1,_⟩
  ·omega
  ·rw[hj]at hv;simp only[aB7]at hv;omega
 rw[hj]at c4;have Ip:=hh.cB;rw[pz]at Ip;have Qg:=hh.cK;rw[LP]at Qg;have HJ:Hid (h.jv=.slice ja h.jb.length jc):=hj;have fZ:=aS hh.blk;obtain⟨k,p,a,mm⟩:=r;unfold vH;clear hh hj pz hr LP;cases ja;all_goals
  go_enter func118,ntmps118
  go_wp2_with (first
   |(go_at_call 171;refine(show aK prog 171 #[vH ⟨k,p,a,mm⟩] _ _ from rU.out _).mono ?_;rintro e w1 ⟨v1,rfl,jf,bg⟩
     have F1:Hid (Fr aH w w1):=(aZ _).trans bg fun _ h=>h.elim
     obtain⟨g,gc,rfl,hgc⟩:=Io jf<|by decide
     have d4:=(F1.out.cell (p:=⟨xb,4,af⟩) fZ id).trans c4
     have d66:=(F1.out.cell (p:=⟨xb,66,af⟩) fZ id).trans Ip
     have d67:=(F1.out.cell (p:=⟨xb,67,af⟩) fZ id).trans Qg
     have df:∀o,w1.frozen? ⟨xb,o,af⟩=false:=jP<|(F1.out.block xb fZ id).trans HH.out.blk
     have azv:¬gc=0:=by omega
     clear jf bg))
  go_region
  go_wp2_with fail
  rw[<-HJ.out]
  have hA:=HH.out.after F1.out
  have fs:Fr (fun k=>k=xb) w1 (w1.setCell ⟨xb,4,af⟩ h.jv).drew:=((Fr.refl (fun k=>k=xb) w1).setCell (p:=⟨xb,4,af⟩) (.inl rfl) _).drew
  have hW:ay (w1.setCell ⟨xb,4,af⟩ h.jv).drew B xb n h:=hA.put fs (by
   show(w1.setCell ⟨xb,4,af⟩ h.jv).heap[xb]? =_;rw[jQ hA.blk,HS.aex]) rfl rfl rfl rfl rfl rfl rfl rfl hA.h6
  have HW:Hid (ay (w1.setCell ⟨xb,4,af⟩ h.jv).drew B xb n h):=hW
  have FW:Hid (Fr (fun k=>k=xb) w1 (w1.setCell ⟨xb,4,af⟩ h.jv).drew):=fs
  generalize(w1.setCell ⟨xb,4,af⟩ h.jv).drew=W at HW FW⊢
  clear hW fs hA
  refine(Zh HW.out).mono ?_
  rintro e w3 ⟨rfl,h3,lG⟩
  have H3:Hid (ay w3 B xb n h.zS):=h3
  have F3:Hid (Fr (fun k=>k=xb) W w3):=lG
  clear h3 lG
  go_wp2_with fail
  go_ret
  refine⟨rfl,h.jv,?_,((F1.out.mono (fun _ h=>h.elim):Fr (fun k=>k=xb\/h.jv.ownBlock=ae k) w w1).trans FW.out fun _ e=>.inl<|.inl e).trans F3.out fun _ e=>.inl<|.inl e,fun _ e=>.inl e⟩
  show ay w3 B xb n (h.oU h.jv []).zS
  rw[HS.amZ]
  exact H3.out
end
end
def J3{c:Int}(h1: -9223372036854775808<=c)(h2:c<=9223372036854775807):dQ c:=by
 simpa[dQ,Lit.wf,IntKind.min,IntKind.max,IntKind.signed,IntKind.bits]using And.intro h1 h2
section
def anr:(prog.info? 184).map (fun i=>(i.zero,i.size,i.bytes))=ae (ae<|.agg #[.int .i64 0,.int .i64 0,.int .i64 0,.int .i64 0],4,32):=by kernel_rfl
variable{w:ah}{o n:Nat}{v:aj}{r:Rc}
def Qn{b:Nat}(h:w.cell? ⟨b,o,af⟩=ae v):b<w.heap.size:=by
 rcases Eb b w.heap.size with h1|h1
 ·exact h1
 ·simp[World.cell?,adH h1]at h
def ZK{W w3:ah}{ob:Obj}{row:Option Nat}(h:(W.drew.alloc ob).grownBy w3 row){g:Nat}(hg:g<W.heap.size)(bM:ae g≠row):w3.cell? ⟨g,o,af⟩=W.cell? ⟨g,o,af⟩:=by
 have h1:w3.heap[g]? =(W.drew.alloc ob).heap[g]? :=h.block g (by simp<;>omega) bM;have h2:(W.drew.alloc ob).heap[g]? =W.heap[g]? :=aB3 W.drew ob g hg;exact aB4<|h1.trans h2
def ant(h:r.Small n):∃t,dL r=UInt8.ofNat r.k.toNat::UInt8.ofNat r.p.toNat::UInt8.ofNat r.a.toNat::t:=by
 obtain⟨k0,k1,p0,p1,a0,a1,m0,m1⟩:=h;refine⟨jJ 0 1++jJ r.m.toNat 8++jJ ((pK<|jK r).2*65536+(pK<|jK r).1).toNat 4,?_⟩;unfold dL;conv=>lhs;arg 1;unfold jK
 rw[FU (by omega)<|by omega,FU (by omega)<|by omega,FU (by omega)<|by omega];simp only[Cj,mV,wI]
def anu(h:r.Small n)(hn:n<1000000000000)(rest:List UInt8):numOf (((dL r++rest).drop 4).take 8)=r.m.toNat:=by
 have e:((dL r++rest).drop 4).take 8=jJ r.m.toNat 8:=by
  unfold dL jK;obtain⟨k0,k1,p0,p1,a0,a1,m0,m1⟩:=h;rw[FU (by omega)<|by omega,FU (by omega)<|by omega,FU (by omega)<|by omega];simp only[mV,wI,ali,List.drop_zero,jJ];rw[show∀(a b c d e f g h:UInt8) (t:List UInt8),List.take 8 (a::b::c::d::e::f::g::h::t)=[a,b,c,d,e,f,g,h]from fun _ _ _ _ _ _ _ _ _=>rfl]
 rw[e];have:=h.m1;have:=h.m0;exact aeK<|by omega
def anv(r:Rc)(rest:List UInt8):Qd (dL r++rest)=true:=by
 have h1:(dL r++rest).take 12=jK r:=by
  unfold dL;rw[Cj,List.take_left'<|Nq r]
 have h2:((dL r++rest).drop 12).take 4=jJ (mW<|jK r).toNat 4:=by
  unfold dL;rw[Cj,List.drop_left'<|Nq r,List.take_left'<|PZ _ _];rfl
 unfold Qd;rw[h1,h2];have eF:=P7<|jK r;have S9:0<=mW (jK r):=by unfold mW;omega
 have Zq:mW (jK r)<4294967296:=by unfold mW;omega
 rw[aeK<|by omega];simp only[UA];omega
def CP(L:List Rc):(L.flatMap dL).length=16*L.length:=by
 induction L with
 |nil=>rfl
 |cons r L ih=>simp only[nZ,iQ,ih,Ed,ny];omega
def anw{B:Nat}{L:List Rc}{tl:List UInt8}(h:w.ownsRow B 5 1 v (L.flatMap dL++tl).length (ed<|L.flatMap dL++tl))(ht:tl.length<16)(hs:∀r∈L,r.Small n)(hn:n<1000000000000)(hL:L.length<100000000000):
 aK prog 127 #[v] w fun e w'=>∃v',e=.returned v'/\w'.ownsRow w.heap.size 184 4 v' L.length (L.flatMap Rc.cs)/\Fr aH w w':=by
 obtain⟨i0,dF,gG,fO,iH⟩:=aCf anr;obtain⟨va,vc,hv,_⟩:=oL h;have hlen:(L.flatMap dL++tl).length=16*L.length+tl.length:=by rw[iQ,CP]
 obtain⟨wZ,axj⟩:∃wZ,16*L.length+tl.length=wZ:=⟨_,rfl⟩;have HS:Hid (∀r∈L,r.Small n):=hs;have oI:0<wZ->∃g,va=ae ⟨g,0,af⟩/\wZ<=vc/\rZ w g 0 (L.flatMap dL++tl):=fun h0=>by
  obtain⟨g,cap,hg,uU⟩:=Io h (by omega);rw[hv]at hg;simp only[aB7]at hg;obtain⟨rfl,_,rfl⟩:=hg;rw[hv]at h;exact⟨g,rfl,by omega,rZ.aeO h⟩
 have HM:Hid (0<wZ->∃g,va=ae ⟨g,0,af⟩/\wZ<=vc/\rZ w g 0 (L.flatMap dL++tl)):=oI;rw[hlen,axj]at hv;subst hv;clear h oI hlen hs;go_enter func127,ntmps127
 go_wp2_with fail
 go_loopw [0,3] (fun b rv w'=>∃(j:Nat) (a:Option Addr) (c:Nat),j<=L.length/\b=.slice a (wZ-16*j) c/\(0<wZ-16*j->∃g,a=ae ⟨g,16*j,af⟩/\g<w.heap.size/\wZ-16*j<=c/\rZ w' g (16*j) ((L.drop j).flatMap dL++tl))/\w'.ownsRow w.heap.size 184 4 rv j ((L.take j).flatMap Rc.cs)/\Fr aH w w') (fun b _ _=>aeg b)
 case atStart=>
  refine⟨0,va,vc,by omega,rfl,fun h0=>?_,aCb _ _ _ _,Fr.refl _ _⟩
  obtain⟨g,h1,h2,h3⟩:=HM.out h0
  obtain⟨x,hx⟩:∃x,(L.flatMap dL++tl)[0]? =ae x:=⟨_,dR (by rw[iQ,CP];omega)⟩
  exact⟨g,h1,Qn<|h3 0 x hx,by omega,by simpa using h3⟩
 case round=>
  obtain⟨j,a,c,hj,rfl,hB,bY,dA⟩:=hrel
  have HF:Hid (Fr aH w wr):=dA
  obtain⟨ra,rc,rfl,_⟩:=oL bY
  have HR:Hid (wr.ownsRow w.heap.size 184 4 (.slice ra j rc) j<|(L.take j).flatMap Rc.cs):=bY
  by_cases aB:j<L.length
  ·obtain⟨r,hr⟩:∃r,L[j]? =ae r:=⟨_,dR aB⟩
   have qB:=HS.out r<|fD hr
   have hd:L.drop j=r::L.drop (j+1):=by
    rw[List.drop_eq_getElem_cons aB];congr 1;rw[dR aB]at hr;exact qE hr
   obtain⟨g,rfl,hgw,hc,G9⟩:=hB<|by omega
   rw[hd,nZ,Cj]at G9
   obtain⟨rest,BP⟩:∃rest,(L.drop<|j+1).flatMap dL++tl=rest:=⟨_,rfl⟩
   rw[BP]at G9
   have HBT:Hid (rZ wr g (16*j)<|dL r++rest):=G9
   have BQ:(dL r++rest).length=wZ-16*j:=by
    rw[iQ,Ed,<-BP,iQ,CP,List.length_drop];omega
   have Td:rest.length+16=wZ-16*j:=by rw[<-BQ,iQ,Ed];omega
   have Vb:Hid (Qd (dL r++rest)=true):=anv r rest
   have rU:Hid (aK prog 177 #[.slice (ae ⟨g,16*j,af⟩) (wZ-16*j) c] wr fun e w'=>e=.returned (.bool true)/\Fr aH wr w'):=by
    have:=amP G9 (by rw[BQ];omega) (by rw[BQ];exact hc);rw[Vb.out,BQ]at this;exact this
   obtain⟨t,ajS⟩:=ant qB
   rw[ajS]at G9
   have b0:=G9 0 _ rfl
   rw[JM]at b0
   have b1:=G9 1 _ rfl
   have b2:=G9 2 _ rfl
   rw[toNat_one (by have:=qB.k0;omega) (by have:=qB.k1;omega)]at b0
   rw[toNat_one (by have:=qB.p0;omega) (by have:=qB.p1;omega)]at b1
   rw[toNat_one (by have:=qB.a0;omega) (by have:=qB.a1;omega)]at b2
   have HRN:Hid (r.m=(r.m.toNat:Int)):=by show r.m=(r.m.toNat:Int);have:=qB.m0;omega
   have ZL:Hid (rZ wr g (16*j+4)<|((dL r++rest).drop 4).take 8):=HBT.out.sub 4 8
   have ZM:Hid ((((dL r++rest).drop 4).take 8).length=8):=by show(((dL r++rest).drop 4).take 8).length=8;simp[Ed]<;>omega
   have HNV:Hid (numOf (((dL r++rest).drop 4).take 8)=r.m.toNat):=anu qB hn rest
   have qk:IntKind.i64.wrap r.k=r.k:=wrap_i64 (by have:=qB.k0;omega) (by have:=qB.k1;omega)
   have qp:IntKind.i64.wrap r.p=r.p:=wrap_i64 (by have:=qB.p0;omega) (by have:=qB.p1;omega)
   have qa:IntKind.i64.wrap r.a=r.a:=wrap_i64 (by have:=qB.a0;omega) (by have:=qB.a1;omega)
   have qm:IntKind.i64.wrap r.m=r.m:=wrap_i64 (by have:=qB.m0;omega) (by have:=qB.m1;omega)
   have rJ:Hid (∀W,Fr aH wr W->∀cc,aK prog 178 #[.slice (ae ⟨g,16*j+4,af⟩) 8 cc] W fun e w'=>e=.returned (.int .u64 r.m)/\W=w'):=fun W f cc=>by
    have:=aeM (w:=W) (cap:=cc) (fun q x hq=>(f.cell (p:=⟨g,16*j+4+q,af⟩) ?_ id).trans<|ZL.out q x hq) (by rw[ZM.out];decide)
    ·rw[ZM.out,HNV.out,<-HRN.out]at this;exact this
    ·exact Qn<|ZL.out q x hq
   have Ee:Hid ((L.take<|j+1).flatMap Rc.cs=(L.take j).flatMap Rc.cs++[.int .i64 r.k,.int .i64 r.p,.int .i64 r.a,.int .i64 r.m]):=by
    show(L.take<|j+1).flatMap Rc.cs=_;rw[zK,hr,Ea,Fq];simp[Rc.cs]
   have uU:(16:Int)<=(c:Int):=by omega
   have aAs:(12:Int)<=(c:Int):=by omega
   have azw:¬c=4:=by omega
   obtain⟨nn,O4⟩:∃nn,wZ-16*j=nn:=⟨_,rfl⟩
   have fF:Hid (wZ-16*j=nn):=O4
   rw[O4]at rU hc Td⊢
   have hn0:0<nn:=by omega
   have azx:(0:Int)<nn:=by omega
   have xh:(1:Int)<nn:=by omega
   have rG:(2:Int)<nn:=by omega
   have aAt:(16:Int)<=nn:=by omega
   clear G9 hB dA bY hd ajS BQ ZL ZM HNV Vb O4
   go_wp2_with (go_at_call 177;(with_reducible refine rU.out.mono ?_);rintro e w1 ⟨rfl,bg⟩;have F1:Hid (Fr aH wr w1):=bg;have uS:g<w1.heap.size:=dY (Qn b0) bg.size;have Vd:∀o,ae (Addr.block ⟨g,o,af⟩)≠Value.ownBlock (.slice ra j rc):=fun o e=>by{have:=(HR.out.lt g e.symm).1;omega};have hgr:g<wr.heap.size:=Qn b0;have hz:w.heap.size<=w1.heap.size:=dP HF.out.size bg.size;have d0:=(bg.cell (p:=⟨g,16*j,af⟩) hgr id).trans b0;have d1:=(bg.cell (p:=⟨g,16*j+1,af⟩) hgr id).trans b1;have d2:=(bg.cell (p:=⟨g,16*j+2,af⟩) hgr id).trans b2;clear bg b0 b1 b2)
   have HQ:Hid (∀w3,(w1.drew.alloc<|.cells #[.int .i64 r.k,.int .i64 r.p,.int .i64 r.a,.int .i64 r.m] 184).grownBy w3 (Value.ownBlock<|.slice ra j rc)->w3.cell? ⟨g,16*j,af⟩=ae (.int .u8 r.k)/\w3.cell? ⟨g,16*j+1,af⟩=ae (.int .u8 r.p)/\w3.cell? ⟨g,16*j+2,af⟩=ae (.int .u8 r.a)):=fun w3 hg=>
    ⟨(ZK hg uS<|Vd 0).trans d0,(ZK hg uS<|Vd 0).trans d1,(ZK hg uS<|Vd 0).trans d2⟩
   go_region_held3 (fun w'=>w'.cell? ⟨g,16*j,af⟩=ae (.int .u8 r.k)/\w'.cell? ⟨g,16*j+1,af⟩=ae (.int .u8 r.p)/\w'.cell? ⟨g,16*j+2,af⟩=ae (.int .u8 r.a))
    (first|with_reducible exact⟨d0,d1,d2⟩|with_reducible exact Q|go_keep)
    (first
      |(go_at_call 178;refine(rJ.out w1.drew F1.out.drew _).mono ?_;rintro e w2 ⟨rfl,rfl⟩)
      |(refine aCu _ (by rfl) _ _ _ (by rfl) w.heap.size 184 i0 _ 4 32 underlying190 dF gG fO iH rfl (by omega) (.slice ra j rc) j ((L.take j).flatMap Rc.cs) (by rfl) ((F1.out.drew.alloc _).ownsRow HR.out fun _ _=>id) ⟨w1.heap.size,0,af⟩ 1 1 [.int .i64 r.k,.int .i64 r.p,.int .i64 r.a,.int .i64 r.m] (by rfl) (by rfl) (aB9 (cs:=#[.int .i64 r.k,.int .i64 r.p,.int .i64 r.a,.int .i64 r.m]) (t:=184) (fr:=(0,0))<|aB0 _ _) (by simp[Value.oneCell']) (by omega) (by simp only[dH];omega) (by omega) (by simp<;>omega) (w1.heap.size+1) (by simp) ?_;intro gg cap w3 iy o8 dM uT;have Q:=HQ.out w3 o8))
   go_wp2_with fail
   go_roundw
   case rel=>
    have O4:=fF.out
    have lG:Fr (fun x=>Value.ownBlock (.slice ra j rc)=ae x) wr w3:=((F1.out.drew.alloc _).mono (fun _ h=>h.elim):Fr (fun x=>Value.ownBlock (.slice ra j rc)=ae x) wr _).grown o8 fun x ex=>.inl ex
    refine⟨j+1,_,_,by omega,by rw[show wZ-16*(j+1)=nn-16 by omega],fun h0=>⟨g,?_,hgw,by omega,fun q x hq=>?_⟩,?_,HF.out.trans lG fun x hx=>.inr (HR.out.lt x hx).1⟩
    ·rw[if_neg<|by omega]
     rfl
    ·rw[BP]at hq
     have h1:=HBT.out (16+q) x (by rw[wG (by rw[Ed];omega),Ed,Nat.add_sub_cancel_left];exact hq)
     rw[show 16*(j+1)+q=16*j+(16+q)by omega]
     exact(aB4<|lG.block g (Qn h1) fun e=>Vd 0 e.symm).trans h1
    ·rw[Ee.out]
     exact iy
   case measure=>simp[aeg]<;>omega
  ·have HJ:Hid (j=L.length):=by show j=L.length;omega
   obtain⟨nn,XQ⟩:∃nn,wZ-16*j=nn:=⟨_,rfl⟩
   have O4:nn<16:=by omega
   rw[XQ]
   have HT:Hid (L.take j=L):=D8<|by omega
   have rU:Hid (aK prog 177 #[.slice a nn c] wr fun e w'=>e=.returned (.bool false)/\Fr aH wr w'):=amO wr a O4
   clear hB dA bY XQ aB
   go_wp2_with (go_at_call 177;(with_reducible refine rU.out.mono ?_);rintro e w1 ⟨rfl,bg⟩;have F1:Hid (Fr aH wr w1):=bg;clear bg)
   go_ret
   refine⟨_,rfl,?_,HF.out.trans F1.out fun _ h=>h.elim⟩
   have:=F1.out.ownsRow HR.out fun _ _=>id
   rw[HT.out]at this
   rw[<-HJ.out]
   exact this
end
end Go.Proofs.YtkelpcjiediamaaGreat
