import Derived.Test.YtkelpcjiediamaaGreatQf17
import Derived.Conc.CompanyDraw
set_option maxRecDepth 100000
set_option maxHeartbeats 0
set_option linter.all false
namespace Go.Proofs.YtkelpcjiediamaaGreat
def aF5:=@Go.ready_mono
def aGh:=@Go.Act.put_comm
def aGo:=@Go.mem_ready
def aGE:=@Go.wanted_put
def aGF:=@Go.Region.noSelect_spec
open Go renaming Frame→bH,FuncId→ji,Goroutine→bM,Program→fJ,Value→aA,World→ay,execOp→dY,undef→ai
open Go.Item renaming inRegion→bW
open Option renaming some→ae
open _root_.Array renaming replicate→gz
namespace Twin
open Go Go.Proofs Go.Conc Go.RowKit
section
variable{P:fJ}{main:Bool}{E:dL}{fn:ji}{ops:Array Oper}{md:Region.Mode}{I:aO->ay->Prop}{Q:Act->aO->ay->Prop}{X:Nat->Act->aO->ay->Prop}
def qx(P:fJ)(main:Bool)(E:dL)(fn:ji)(ops:Array Oper)(i:Nat)(K:Act->aO->ay->Prop)(a:Act)(S:aO)(w:ay):Prop:=
 match ops[i]? with
 |none=>False
 |some o=>if Region.wanted o (yielded ops a.tmps)then
   (∀w1,bu S E w w1->uponK o a (fun a' w'=>jC S E w1 w' (listed P fn a o w1)/\K a' (grow S w1 w') w') ((dY a.eval o).run P w1))\/
   (∃f args l7 mP c,o.op=.call {callee:=.value<|.func f,args,argTypes:=l7}/\P.funcs[f]? =ae mP/\(mP.name== "runtime.NumGoroutine")=false/\mP.body=ae c/\sN P main E f (args.map a.eval) S w fun v S' w'=>K (a.put o.dst v) S' w')
  else K (a.put o.dst ai) S w
variable{i j fuel:Nat}{a:Act}{S:aO}{w:ay}{K:Act->aO->ay->Prop}{b:bH}{k:List Item}{cs:List bH}{Stop:aO->bM->ay->Prop}{o oi:Oper}{v:aA}
def Yf{K':Act->aO->ay->Prop}(h:∀a S w,K a S w->K' a S w)(hh:qx P main E fn ops i K a S w):qx P main E fn ops i K' a S w:=by
 unfold qx at*
 split
 ·simp_all
 ·rename_i o ho;simp only[ho]at hh;split
  ·rename_i hw;simp only[hw,if_true]at hh;rcases hh with hh|⟨f,args,l7,mP,c,h1,h2,h3,h4,h5⟩
   ·exact .inl fun w₁ h₁=>uponK_mono (fun a' w' x=>⟨x.1,h _ _ _ x.2⟩)<|hh w₁ h₁
   ·exact .inr ⟨f,args,l7,mP,c,h1,h2,h3,h4,fun b₀ a₀ ops i rest k cs Stop fn c hf hb hn=>h5 b₀ a₀ ops i rest k cs Stop fn c hf hb fun v S' w' hp=>hn v S' w'<|h _ _ _ hp⟩
  ·rename_i hw;simp only[hw]at hh;exact h _ _ _ hh
def ai3{rest:List Nat}(hb:b.fn=fn)(hk:b.kind≠.early)
 (h:qx P main E fn ops i (fun a' S' w'=>aC P main E Stop S' (G (b.at a'<|bW ops rest::k) cs) w') a S w):aC P main E Stop S (G (b.at a<|bW ops (i::rest)::k) cs) w:=by
 unfold qx at h;split at h
 ·exact h.e
 ·rename_i o ho;split at h
  ·rename_i hw;rcases h with h|⟨f,args,l7,mP,c,h1,h2,h3,h4,h5⟩
   ·refine .goes rfl fun w1 aT=>goes_oper ho hw hk ?_;have:=h w1 aT;revert this;cases (dY a.eval o).run P w1 with
    |ok x w'=>cases x<;>first|exact fun⟨d,g⟩=>⟨hb▸d,g⟩|exact id
    |halt _ _=>exact id
   ·refine .call ho hw hk h1 h2 h3 h4<|h5 b a ops i rest k cs Stop mP c h2 h4 fun v S' w' hp=>?_;rw[ho];exact hp
  ·rename_i hw;exact .ctl rfl (fun _=>stepG_unwanted ho<|by simpa using hw) h
def MX(md:Region.Mode)(ops:Array Oper)(j i:Nat):Bool:=match ops[j]? with
 |none=>false
 |some o=>o.after.any fun e=>Region.binds md e&&e.on==i
def PY(md:Region.Mode)(ops:Array Oper):Nat->Nat->Nat->Bool
 |0,j,i=>MX md ops j i
 |n+1,j,i=>MX md ops j i||(List.range ops.size).any fun x=>MX md ops j x&&PY md ops n x i
def JZ(md:Region.Mode)(ops:Array Oper)(j:Nat):Bool:=(List.range ops.size).all fun i=>i==j||PY md ops 3 j i
def Closed(md:Region.Mode)(ops:Array Oper)(listed:Array Bool):Prop:=∀x y,listed.getD x false=true->MX md ops x y=true->listed.getD y false=true
def Yg{md:Region.Mode}{ops:Array Oper}{listed:Array Bool}{x:Nat}(hj:j∈Region.ready md ops listed)(h:MX md ops j x=true):listed.getD x false=true:=by
 obtain⟨_,o,ho,jR⟩:=aGo.1 hj;unfold MX at h;simp only[ho,Array.any_eq_true',mX,beq_iff_eq]at h;obtain⟨e,he,hb,rfl⟩:=h;exact jR e he hb
def Closed.set{md:Region.Mode}{ops:Array Oper}{listed:Array Bool}(h:Closed md ops listed)(hj:j∈Region.ready md ops listed):Closed md ops (listed.setIfInBounds j true):=by
 intro x y hx zU;by_cases e:j=x
 ·subst e;exact getD_set_true<|Yg hj zU
 ·rw[getD_set_ne false e]at hx;exact getD_set_true<|h x y hx zU
def Closed.dX{md:Region.Mode}{ops:Array Oper}{listed:Array Bool}(h:Closed md ops listed):∀(n x y:Nat),listed.getD x false=true->PY md ops n x y=true->listed.getD y false=true
 |0,x,y,hx,zU=>h x y hx zU
 |n+1,x,y,hx,zU=>by
  simp only[PY,Bool.or_eq_true,List.any_eq_true,mX]at zU;rcases zU with h1|⟨c,_,h1,h2⟩
  ·exact h x y hx h1
  ·exact h.dX n c y (h x c hx h1) h2
def Closed.ready{md:Region.Mode}{ops:Array Oper}{listed:Array Bool}(h:Closed md ops listed)(hj:j∈Region.ready md ops listed):∀(n y:Nat),PY md ops n j y=true->listed.getD y false=true
 |0,y,hy=>Yg hj hy
 |n+1,y,hy=>by
  simp only[PY,Bool.or_eq_true,List.any_eq_true,mX]at hy;rcases hy with h1|⟨c,_,h1,h2⟩
  ·exact Yg hj h1
  ·exact h.dX n c y (Yg hj h1) h2
def ai4{md:Region.Mode}{ops:Array Oper}{listed:Array Bool}(oz:Closed md ops listed)(hi:i∈Region.ready md ops listed)(hj:j∈Region.ready md ops listed)(dD:j≠i):JZ md ops j=false:=by
 apply Js;intro h;rw[Bool.not_eq_false]at h;obtain⟨G5,oi,hoi,_⟩:=aGo.1 hi;have aK:=(jF.1 hoi).1;have:=aaJ.1 h i<|Jw.2 aK;simp only[Bool.or_eq_true,beq_iff_eq]at this;have hf:listed.getD i false=true:=by
  rcases this with e|h1
  ·exact absurd e.s dD
  ·exact oz.ready hj 3 i h1
 rcases FB i listed.size with h'|h'
 ·simp[h']at G5 hf;rw[G5]at hf;cases hf
 ·simp[afM h']at hf
def acX(md:Region.Mode)(ops:Array Oper)(listed:Array Bool):Bool:=(List.range ops.size).all fun x=>!(listed.getD x false)||(match ops[x]? with
 |none=>true
 |some o=>o.after.all fun e=>!(Region.binds md e)||listed.getD e.on false)
def ai5{md:Region.Mode}{ops:Array Oper}{listed:Array Bool}(h:acX md ops listed=true):Closed md ops listed:=by
 intro x y hx zU;unfold MX at zU;cases ho:ops[x]? with
 |none=>simp[ho]at zU
 |some o=>
  simp only[ho,Array.any_eq_true',mX,beq_iff_eq]at zU;obtain⟨e,he,hb,rfl⟩:=zU;have:=aaJ.1 h x<|Jw.2 (jF.1 ho).1;simp only[hx,ho,OT,Bool.false_or]at this;have:=anA.1 this e he;simpa[hb]using this
def rE(P:fJ)(main:Bool)(E:dL)(fn:ji)(md:Region.Mode)(ops:Array Oper)(Q:Act->aO->ay->Prop)(I:aO->ay->Prop)(X:Nat->Act->aO->ay->Prop):Nat->Array Bool->Act->aO->ay->Prop
 |0,listed,a,S,w=>Region.ready md ops listed=[]/\Q a S w
 |fuel+1,listed,a,S,w=>(fuel=0/\∃z,Region.ready md ops listed=[z]/\JZ md ops z=true/\X z a S w)\/((Region.ready md ops listed=[]->Q a S w)/\∀i∈Region.ready md ops listed,qx P main E fn ops i (fun a' S' w'=>(JZ md ops i=false->I S' w')/\rE P main E fn md ops Q I X fuel (listed.setIfInBounds i true) a' S' w') a S w)
def ai6(hb:b.fn=fn)(hk:b.kind≠.early)(hQ:∀a S w,Q a S w->aC P main E Stop S (G (b.at a k) cs) w)(hX:∀z a S w,X z a S w->aC P main E Stop S (G (b.at a<|bW ops [z]::k) cs) w):
 ∀(fuel t:Nat) (listed:Array Bool) (a:Act) (S:aO) (w:ay),rE P main E fn md ops Q I X fuel listed a S w->aC P main E Stop S (G (b.at a<|bW ops (Region.linearise.go md ops fuel t listed [])::k) cs) w:=by
 intro fuel;induction fuel with
 |zero=>intro t listed a S w h;simpa[Region.linearise.go]using aC.ctl rfl (fun _=>aFa) (hQ _ _ _ h.2)
 |succ fuel ih=>
  intro t listed a S w h;rcases h with⟨rfl,z,hz,_,hx⟩|⟨h₀,h₁⟩
  ·have e:Region.linearise.go md ops (0+1) t listed []=[z]:=by
    simp only[Region.linearise.go];change (match(Region.ready md ops listed)[t%(Region.ready md ops listed).length]? with
     |some i=>Region.linearise.go md ops 0 (t/(Region.ready md ops listed).length) (listed.setIfInBounds i true) [i]
     |none=>[].reverse)=[z]
    rw[hz];simp[Nat.mod_one,Region.linearise.go]
   rw[e];exact hX z a S w hx
  simp only[Region.linearise.go];change aC P main E Stop S (G (b.at a<|bW ops (match(Region.ready md ops listed)[t%(Region.ready md ops listed).length]? with
   |some i=>Region.linearise.go md ops fuel (t/(Region.ready md ops listed).length) (listed.setIfInBounds i true) [i]
   |none=>[].reverse)::k) cs) w
  cases hi:(Region.ready md ops listed)[t%(Region.ready md ops listed).length]? with
  |none=>
   have alZ:Region.ready md ops listed=[]:=by
    cases hr:Region.ready md ops listed with
    |nil=>rfl
    |cons x xs=>
     rw[hr]at hi;have aK:t%(x::xs).length<(x::xs).length:=Nat.mod_lt _ (by simp);simp at hi;simp at aK;omega
   exact aC.ctl rfl (fun _=>aFa)<|hQ _ _ _<|h₀ alZ
  |some i=>
   simp only[];rw[linearise_go_acc,List.reverse_singleton,anE];exact ai3 hb hk<|Yf (fun a' S' w' x=>ih _ _ a' S' w' x.2)<|h₁ i<|gZ hi
def zl(P:fJ)(E:dL)(fn:ji)(ops:Array Oper)(I:aO->ay->Prop)(o:Oper)(v:aA)(a:Act):Prop:=
 Region.wanted o (yielded ops a.tmps)=true/\∀S w,I S w->(dY a.eval o).run P w=.ok (.value v) w/\∀e∈listed P fn a o w,nD S E e
def zl.of_same{a':Act}(hy:zl P E fn ops I o v a)(he:dY a'.eval o=dY a.eval o)(hw:Region.wanted o (yielded ops a'.tmps)=Region.wanted o (yielded ops a.tmps)):zl P E fn ops I o v a':=by
 unfold zl listed at*
 rw[he,hw];exact hy
def zl.opR(hI:∀S x y,I S x->bu S E x y->I S y)(hi:ops[i]? =ae o)(hy:zl P E fn ops I o v a)(hK:∀a S x y,K a S x->bu S E x y->K a S y)(hS:I S w)(h:K (a.put o.dst v) S w):qx P main E fn ops i K a S w:=by
 unfold qx;simp only[hi,hy.1,if_true];refine .inl fun w₁ h₁=>?_;rw[(hy.2 S w₁<|hI _ _ _ hS h₁).1];refine⟨⟨rfl,rfl,rfl,dI _,fun _ _ _=>rfl,fun e he=>?_,fun _ _ _ h=>h⟩,?_⟩
 ·rw[tY<|dI _];exact(hy.2 S w₁<|hI _ _ _ hS h₁).2 e he
 ·rw[tY<|dI _];exact hK _ _ _ _ h h₁
def sN.rely{f:ji}{args:Array aA}{w1:ay}{nX:aA->aO->ay->Prop}(h:sN P main E f args S w nX)(hk:bu S E w w1):sN P main E f args S w1 nX:=
 fun b₀ a₀ ops i rest k cs Stop fn c hf hb hn=>(h b₀ a₀ ops i rest k cs Stop fn c hf hb hn).rely hk
def rE.rely(hI:∀S x y,I S x->bu S E x y->I S y)(hQ:∀a S x y,Q a S x->bu S E x y->Q a S y)(hX:∀z a S x y,X z a S x->bu S E x y->X z a S y):∀(fuel:Nat) (listed:Array Bool) (a:Act) (S:aO) (w w₁:ay),rE P main E fn md ops Q I X fuel listed a S w->bu S E w w₁->rE P main E fn md ops Q I X fuel listed a S w₁
 |0,_,_,_,_,_,h,r=>⟨h.1,hQ _ _ _ _ h.2 r⟩
 |_+1,listed,a,S,w,w₁,.inl ⟨h1,z,h2,h3,h4⟩,r=>.inl ⟨h1,z,h2,h3,hX _ _ _ _ _ h4 r⟩
 |fuel+1,listed,a,S,w,w₁,.inr h,r=>.inr ⟨fun e=>hQ _ _ _ _ (h.1 e) r,fun i hi=>by
   have:=h.2 i hi;unfold qx at*
   split
   ·simp_all
   ·rename_i o ho;simp only[ho]at this;split
    ·rename_i hw;simp only[hw,if_true]at this;rcases this with this|⟨f,args,l7,mP,c,h1,h2,h3,h4,h5⟩
     ·exact .inl fun w₂ h₂=>this w₂<|r.t h₂
     ·exact .inr ⟨f,args,l7,mP,c,h1,h2,h3,h4,sN.rely h5 r⟩
    ·rename_i hw;simp only[hw]at this;exact⟨fun e=>hI _ _ _ (this.1 e) r,rE.rely hI hQ hX fuel _ _ _ _ _ this.2 r⟩⟩
def ai7{oj:Oper}(hj:ops[j]? =ae oj)(DK:oi.apart ops oj=true)(ZO:∀cs b,oi.op≠.select cs b)(hsj:∀cs b,oj.op≠.select cs b)
 (hy:zl P E fn ops I oi v a)(h:qx P main E fn ops j K (a.put oi.dst v) S w):qx P main E fn ops j (fun a' S' w'=>zl P E fn ops I oi v a'/\K (a'.put oi.dst v) S' w') a S w:=by
 obtain⟨h1,h2,h3⟩:=Oper.apart_spec DK;have bg:∀(a:Act),zl P E fn ops I oi v a->∀u,zl P E fn ops I oi v (a.put oj.dst u):=fun a hy u=>hy.of_same (execOp_put oi ZO a oj.dst u h3)<|aGE oi a oj.dst u h3;unfold qx at*
 simp only[hj]at*
 rw[aGE oj a oi.dst v h1]at h;split
 ·rename_i hw;simp only[hw,if_true]at h;rcases h with h|⟨f,args,l7,mP,c,e1,e2,e3,e4,e5⟩
  ·left;intro w₁ h₁
   have h:=h w₁ h₁
   unfold listed at*
   rw[execOp_put oj hsj a oi.dst v h1]at h;generalize(dY a.eval oj).run P w₁=r at*
   cases r with
   |ok n w'=>
    cases n<;>simp only[uponK]at h⊢
    case value u=>exact⟨h.1,bg a hy u,by rw[<-aGh a v u h2];exact h.2⟩
    case skip=>exact⟨h.1,bg a hy _,by rw[<-aGh a v ai h2];exact h.2⟩
   |halt x w'=>simp only[uponK]at h
  ·right;refine⟨f,args,l7,mP,c,e1,e2,e3,e4,?_⟩;have ea:args.map (a.put oi.dst v).eval=args.map a.eval:=anJ fun x hx=>Act.eval_put fun d hd hxd=>h1 d hd (by
    subst hxd;exact CJ _<|List.mem_filterMap.2 ⟨.tmp d,by rw[e1];simp[Op.operands,Call.operands,hx],rfl⟩)
   rw[ea]at e5;exact fun b₀ a₀ ops i rest k cs Stop fn c hf hb hn=>e5 b₀ a₀ ops i rest k cs Stop fn c hf hb fun u S' w' hp=>hn u S' w' ⟨bg a hy u,by rw[<-aGh a v u h2];exact hp⟩
 ·rename_i hw;simp only[hw]at h;exact⟨bg a hy _,by rw[<-aGh a v ai h2];exact h⟩
def ai8(hI:∀S x y,I S x->bu S E x y->I S y)(hQ:∀a S x y,Q a S x->bu S E x y->Q a S y)(hX:∀z a S x y,X z a S x->bu S E x y->X z a S y)(hi:ops[i]? =ae oi)(Ov:∀(j:Nat) (o:Oper) cs b,ops[j]? =ae o->o.op≠.select cs b):
 ∀(fuel:Nat) (listed:Array Bool) (a:Act) (S:aO) (w:ay),Closed md ops listed->(∀j oj,ops[j]? =ae oj->j≠i->listed.getD j true=false->(∀e∈oj.after,Region.binds md e=true->e.on≠i)->oi.apart ops oj=true)->
  i∈Region.ready md ops listed->zl P E fn ops I oi v a->I S w->rE P main E fn md ops Q I X fuel (listed.setIfInBounds i true) (a.put oi.dst v) S w->rE P main E fn md ops Q I X (fuel+1) listed a S w:=by
 have hK:∀fuel listed,∀a S x y,((JZ md ops i=false->I S x)/\rE P main E fn md ops Q I X fuel listed a S x)->bu S E x y->((JZ md ops i=false->I S y)/\rE P main E fn md ops Q I X fuel listed a S y):=
  fun fuel listed a S x y h r=>⟨fun e=>hI _ _ _ (h.1 e) r,rE.rely hI hQ hX fuel listed a S x y h.2 r⟩
 intro fuel
 induction fuel with
 |zero=>
  intro listed a S w _ _ hr hy hS H
  refine .inr ⟨fun h=>(by rw[h]at hr;cases hr),fun j hj=>?_⟩
  by_cases mM:j=i
  ·subst mM;exact hy.opR hI hi (hK _ _) hS ⟨fun _=>hS,H⟩
  ·have:=aF5 hj mM
   rw[H.1]at this
   cases this
 |succ fuel ih=>
  intro listed a S w oz Cj hr hy hS H
  refine .inr ⟨fun h=>(by rw[h]at hr;cases hr),fun j hj=>?_⟩
  by_cases mM:j=i
  ·subst mM;exact hy.opR hI hi (hK _ _) hS ⟨fun _=>hS,H⟩
  ·rcases H with⟨_,z,hz,hzw,_⟩|H
   ·have QZ:=aF5 hj mM
    rw[hz]at QZ
    simp at QZ
    subst QZ
    rw[ai4 oz hr hj mM]at hzw
    cases hzw
   have h1:=H.2 j<|aF5 hj mM
   obtain⟨VX,oj,Jm,jR⟩:=aGo.1 hj
   have afi:∀e∈oj.after,Region.binds md e=true->e.on≠i:=fun e he hb heq=>by
    have h1:=jR e he hb;have h0:=(aGo.1 hr).1;rw[heq]at h1;rcases FB i listed.size with h'|h'
    ·simp[h']at h0 h1;rw[h0]at h1;cases h1
    ·simp[afM h']at h1
   have h2:=ai7 Jm (Cj j oj Jm mM VX afi) (fun cs b=>Ov i oi cs b hi) (fun cs b=>Ov j oj cs b Jm) hy h1
   have aam:∀k ok,ops[k]? =ae ok->k≠i->(listed.setIfInBounds j true).getD k true=false->(∀e∈ok.after,Region.binds md e=true->e.on≠i)->oi.apart ops ok=true:=fun k ok hk zH G5 oL=>by
    refine Cj k ok hk zH ?_ oL;by_cases NY:j=k
    ·subst NY;exact VX
    ·rw[getD_set_ne true NY]at G5;exact G5
   refine Yf (fun a' S' w' h3=>⟨h3.2.1,ih (listed.setIfInBounds j true) a' S' w' (oz.set hj) aam (aF5 hr<|Ne.s mM) h3.1 (h3.2.1<|ai4 oz hr hj mM) ?_⟩) h2
   rw[afJ _ _ mM]
   exact h3.2.2
def qy(hI:∀S x y,I S x->bu S E x y->I S y)(hQ:∀a S x y,Q a S x->bu S E x y->Q a S y)(hX:∀z a S x y,X z a S x->bu S E x y->X z a S y){listed:Array Bool}(hi:ops[i]? =ae oi)
 (hs:Region.noSelect ops=true)(oz:acX md ops listed=true)(hf:Region.free md ops listed i=true)(hr:(Region.ready md ops listed).contains i=true)(hy:zl P E fn ops I oi v a)(hS:I S w)(h:rE P main E fn md ops Q I X fuel (listed.setIfInBounds i true) (a.put oi.dst v) S w):rE P main E fn md ops Q I X (fuel+1) listed a S w:=
 ai8 hI hQ hX hi (aGF hs) fuel listed a S w (ai5 oz) (Region.free_spec hi hf) (by simpa using hr) hy hS h
def Yh{rs:List Nat}{listed:Array Bool}(hr:Region.ready md ops listed=rs)(dD:rs≠[])(h:∀i∈rs,qx P main E fn ops i (fun a' S' w'=>(JZ md ops i=false->I S' w')/\rE P main E fn md ops Q I X fuel (listed.setIfInBounds i true) a' S' w') a S w):rE P main E fn md ops Q I X (fuel+1) listed a S w:=
 .inr ⟨fun h0=>absurd (hr▸h0) dD,hr▸h⟩
def ai9{listed:Array Bool}(hr:Region.ready md ops listed=[])(h:Q a S w):∀fuel,rE P main E fn md ops Q I X fuel listed a S w
 |0=>⟨hr,h⟩
 |_+1=>.inr ⟨fun _=>h,fun i hi=>by rw[hr]at hi;cases hi⟩
def aja{z:Nat}{listed:Array Bool}(hr:Region.ready md ops listed=[z])(hz:JZ md ops z=true)(h:X z a S w):rE P main E fn md ops Q I X 1 listed a S w:=.inl ⟨rfl,z,hr,hz,h⟩
def Yi:Nat->Act->aO->ay->Prop:=fun _ _ _ _=>False
def wJ:∀(z:Nat) (a:Act) (S:aO) (x y:ay),Yi z a S x->bu S E x y->Yi z a S y:=fun _ _ _ _ _ h _=>h
def aC.drawn{id:Nat}(hb:b.fn=fn)(hk:b.kind≠.early)(hm:P.follows .mixedOrders=true)(hQ:∀a S w,Q a S w->aC P main E Stop S (G (b.at a k) cs) w)(hX:∀z a S w,X z a S w->aC P main E Stop S (G (b.at a<|bW ops [z]::k) cs) w)
 (h:∀w₁,bu S E w w₁->rE P main E fn .any ops Q I X ops.size (gz ops.size false) a S {w₁ with drawn:=w₁.drawn+1}):aC P main E Stop S (G (b.at a<|.code (.region id ops true)::k) cs) w:=by
 refine .step1 rfl fun w₁ h₁=>⟨_,_,_,stepG_region_draw,⟨rfl,rfl,rfl,dI _,fun _ _ _=>rfl,by simp,fun _ _ _ h=>h⟩,?_⟩;rw[tY (w:=w₁) (w':={w₁ with drawn:=w₁.drawn+1})<|dI _];simp only[Region.schedule,hm,Bool.true_or,if_true];exact ai6 hb hk hQ hX ops.size _ _ a S _<|h w₁ h₁
end
end Twin
