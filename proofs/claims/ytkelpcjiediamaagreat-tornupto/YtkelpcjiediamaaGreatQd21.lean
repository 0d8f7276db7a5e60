import Derived.Test.YtkelpcjiediamaaGreatQd20
import Derived.Conc.CompanyDraw
set_option maxRecDepth 100000
set_option maxHeartbeats 0
set_option linter.all false
namespace Go.Proofs.YtkelpcjiediamaaGreat
def aEQ:=@Go.ready_mono
def aE4:=@Go.Act.put_comm
def aFb:=@Go.mem_ready
def aFq:=@Go.wanted_put
def aFr:=@Go.Region.noSelect_spec
open Go renaming Frame→bu,Goroutine→bF,Program→eF,Value→az,World→aj,execOp→dP,undef→ai
open Go.Item renaming inRegion→bQ
open Option renaming some→ae
namespace Twin
open Go Go.Proofs Go.Conc Go.RowKit
section
variable{P:eF}{main:Bool}{E:dD}{fn:FuncId}{ops:Array Oper}{md:Region.Mode}{I:aN->aj->Prop}{Q:Act->aN->aj->Prop}{X:Nat->Act->aN->aj->Prop}
def pO(P:eF)(main:Bool)(E:dD)(fn:FuncId)(ops:Array Oper)(i:Nat)(K:Act->aN->aj->Prop)(a:Act)(S:aN)(w:aj):Prop:=
 match ops[i]? with
 |none=>False
 |some o=>if Region.wanted o (yielded ops a.tmps)then
   (∀w1,bg S E w w1->uponK o a (fun a' w'=>je S E w1 w' (listed P fn a o w1)/\K a' (grow S w1 w') w') ((dP a.eval o).run P w1))\/
   (∃f args lK lX c,o.op=.call {callee:=.value<|.func f,args,argTypes:=lK}/\P.funcs[f]? =ae lX/\(lX.name== "runtime.NumGoroutine")=false/\lX.body=ae c/\rJ P main E f (args.map a.eval) S w fun v S' w'=>K (a.put o.dst v) S' w')
  else K (a.put o.dst ai) S w
variable{i j fuel:Nat}{a:Act}{S:aN}{w:aj}{K:Act->aN->aj->Prop}{b:bu}{k:List Item}{cs:List bu}{Stop:aN->bF->aj->Prop}{o oi:Oper}{v:az}
def Xz{K':Act->aN->aj->Prop}(h:∀a S w,K a S w->K' a S w)(hh:pO P main E fn ops i K a S w):pO P main E fn ops i K' a S w:=by
 unfold pO at*
 split
 ·simp_all
 ·rename_i o ho;simp only[ho]at hh;split
  ·rename_i hw;simp only[hw,if_true]at hh;rcases hh with hh|⟨f,args,lK,lX,c,h1,h2,h3,h4,h5⟩
   ·exact .inl fun w₁ h₁=>uponK_mono (fun a' w' x=>⟨x.1,h _ _ _ x.2⟩)<|hh w₁ h₁
   ·exact .inr ⟨f,args,lK,lX,c,h1,h2,h3,h4,fun b₀ a₀ ops i rest k cs Stop fn c hf hb hn=>h5 b₀ a₀ ops i rest k cs Stop fn c hf hb fun v S' w' hp=>hn v S' w'<|h _ _ _ hp⟩
  ·rename_i hw;simp only[hw]at hh;exact h _ _ _ hh
def aiu{rest:List Nat}(hb:b.fn=fn)(hk:b.kind≠.early)
 (h:pO P main E fn ops i (fun a' S' w'=>aA P main E Stop S' (G (b.at a'<|bQ ops rest::k) cs) w') a S w):aA P main E Stop S (G (b.at a<|bQ ops (i::rest)::k) cs) w:=by
 unfold pO at h;split at h
 ·exact h.elim
 ·rename_i o ho;split at h
  ·rename_i hw;rcases h with h|⟨f,args,lK,lX,c,h1,h2,h3,h4,h5⟩
   ·refine .goes rfl fun w1 aQ=>goes_oper ho hw hk ?_;have:=h w1 aQ;revert this;cases (dP a.eval o).run P w1 with
    |ok x w'=>cases x<;>first|exact fun⟨d,g⟩=>⟨hb▸d,g⟩|exact id
    |halt _ _=>exact id
   ·refine .call ho hw hk h1 h2 h3 h4<|h5 b a ops i rest k cs Stop lX c h2 h4 fun v S' w' hp=>?_;rw[ho];exact hp
  ·rename_i hw;exact .ctl rfl (fun _=>stepG_unwanted ho<|by simpa using hw) h
def L9(md:Region.Mode)(ops:Array Oper)(j i:Nat):Bool:=match ops[j]? with
 |none=>false
 |some o=>o.after.any fun e=>Region.binds md e&&e.on==i
def O7(md:Region.Mode)(ops:Array Oper):Nat->Nat->Nat->Bool
 |0,j,i=>L9 md ops j i
 |n+1,j,i=>L9 md ops j i||(List.range ops.size).any fun x=>L9 md ops j x&&O7 md ops n x i
def JE(md:Region.Mode)(ops:Array Oper)(j:Nat):Bool:=(List.range ops.size).all fun i=>i==j||O7 md ops 3 j i
def Closed(md:Region.Mode)(ops:Array Oper)(listed:Array Bool):Prop:=∀x y,listed.getD x false=true->L9 md ops x y=true->listed.getD y false=true
def XA{md:Region.Mode}{ops:Array Oper}{listed:Array Bool}{x:Nat}(hj:j∈Region.ready md ops listed)(h:L9 md ops j x=true):listed.getD x false=true:=by
 obtain⟨_,o,ho,jF⟩:=aFb.1 hj;unfold L9 at h;simp only[ho,Array.any_eq_true',mg,beq_iff_eq]at h;obtain⟨e,he,hb,rfl⟩:=h;exact jF e he hb
def Closed.set{md:Region.Mode}{ops:Array Oper}{listed:Array Bool}(h:Closed md ops listed)(hj:j∈Region.ready md ops listed):Closed md ops (listed.setIfInBounds j true):=by
 intro x y hx zx;by_cases e:j=x
 ·subst e;exact getD_set_true<|XA hj zx
 ·rw[getD_set_ne false e]at hx;exact getD_set_true<|h x y hx zx
def Closed.dL{md:Region.Mode}{ops:Array Oper}{listed:Array Bool}(h:Closed md ops listed):∀(n x y:Nat),listed.getD x false=true->O7 md ops n x y=true->listed.getD y false=true
 |0,x,y,hx,zx=>h x y hx zx
 |n+1,x,y,hx,zx=>by
  simp only[O7,Bool.or_eq_true,List.any_eq_true,mg]at zx;rcases zx with h1|⟨c,_,h1,h2⟩
  ·exact h x y hx h1
  ·exact h.dL n c y (h x c hx h1) h2
def Closed.ready{md:Region.Mode}{ops:Array Oper}{listed:Array Bool}(h:Closed md ops listed)(hj:j∈Region.ready md ops listed):∀(n y:Nat),O7 md ops n j y=true->listed.getD y false=true
 |0,y,hy=>XA hj hy
 |n+1,y,hy=>by
  simp only[O7,Bool.or_eq_true,List.any_eq_true,mg]at hy;rcases hy with h1|⟨c,_,h1,h2⟩
  ·exact XA hj h1
  ·exact h.dL n c y (XA hj h1) h2
def aiv{md:Region.Mode}{ops:Array Oper}{listed:Array Bool}(nK:Closed md ops listed)(hi:i∈Region.ready md ops listed)(hj:j∈Region.ready md ops listed)(dh:j≠i):JE md ops j=false:=by
 apply Jb;intro h;rw[Bool.not_eq_false]at h;obtain⟨Gq,oi,hoi,_⟩:=aFb.1 hi;have aI:=(jk.1 hoi).1;have:=aam.1 h i<|GN.2 aI;simp only[Bool.or_eq_true,beq_iff_eq]at this;have hf:listed.getD i false=true:=by
  rcases this with e|h1
  ·exact absurd e.symm dh
  ·exact nK.ready hj 3 i h1
 rcases E5 i listed.size with h'|h'
 ·simp[h']at Gq hf;rw[Gq]at hf;cases hf
 ·simp[afb h']at hf
def acx(md:Region.Mode)(ops:Array Oper)(listed:Array Bool):Bool:=(List.range ops.size).all fun x=>!(listed.getD x false)||(match ops[x]? with
 |none=>true
 |some o=>o.after.all fun e=>!(Region.binds md e)||listed.getD e.on false)
def aiw{md:Region.Mode}{ops:Array Oper}{listed:Array Bool}(h:acx md ops listed=true):Closed md ops listed:=by
 intro x y hx zx;unfold L9 at zx;cases ho:ops[x]? with
 |none=>simp[ho]at zx
 |some o=>
  simp only[ho,Array.any_eq_true',mg,beq_iff_eq]at zx;obtain⟨e,he,hb,rfl⟩:=zx;have:=aam.1 h x<|GN.2 (jk.1 ho).1;simp only[hx,ho,Oh,Bool.false_or]at this;have:=amR.1 this e he;simpa[hb]using this
def qQ(P:eF)(main:Bool)(E:dD)(fn:FuncId)(md:Region.Mode)(ops:Array Oper)(Q:Act->aN->aj->Prop)(I:aN->aj->Prop)(X:Nat->Act->aN->aj->Prop):Nat->Array Bool->Act->aN->aj->Prop
 |0,listed,a,S,w=>Region.ready md ops listed=[]/\Q a S w
 |fuel+1,listed,a,S,w=>(fuel=0/\∃z,Region.ready md ops listed=[z]/\JE md ops z=true/\X z a S w)\/((Region.ready md ops listed=[]->Q a S w)/\∀i∈Region.ready md ops listed,pO P main E fn ops i (fun a' S' w'=>(JE md ops i=false->I S' w')/\qQ P main E fn md ops Q I X fuel (listed.setIfInBounds i true) a' S' w') a S w)
def aix(hb:b.fn=fn)(hk:b.kind≠.early)(hQ:∀a S w,Q a S w->aA P main E Stop S (G (b.at a k) cs) w)(hX:∀z a S w,X z a S w->aA P main E Stop S (G (b.at a<|bQ ops [z]::k) cs) w):
 ∀(fuel t:Nat) (listed:Array Bool) (a:Act) (S:aN) (w:aj),qQ P main E fn md ops Q I X fuel listed a S w->aA P main E Stop S (G (b.at a<|bQ ops (Region.linearise.go md ops fuel t listed [])::k) cs) w:=by
 intro fuel;induction fuel with
 |zero=>intro t listed a S w h;simpa[Region.linearise.go]using aA.ctl rfl (fun _=>aDX) (hQ _ _ _ h.2)
 |succ fuel ih=>
  intro t listed a S w h;rcases h with⟨rfl,z,hz,_,hx⟩|⟨h₀,h₁⟩
  ·have e:Region.linearise.go md ops (0+1) t listed []=[z]:=by
    simp only[Region.linearise.go];change (match(Region.ready md ops listed)[t%(Region.ready md ops listed).length]? with
     |some i=>Region.linearise.go md ops 0 (t/(Region.ready md ops listed).length) (listed.setIfInBounds i true) [i]
     |none=>[].reverse)=[z]
    rw[hz];simp[Nat.mod_one,Region.linearise.go]
   rw[e];exact hX z a S w hx
  simp only[Region.linearise.go];change aA P main E Stop S (G (b.at a<|bQ ops (match(Region.ready md ops listed)[t%(Region.ready md ops listed).length]? with
   |some i=>Region.linearise.go md ops fuel (t/(Region.ready md ops listed).length) (listed.setIfInBounds i true) [i]
   |none=>[].reverse)::k) cs) w
  cases hi:(Region.ready md ops listed)[t%(Region.ready md ops listed).length]? with
  |none=>
   have ale:Region.ready md ops listed=[]:=by
    cases hr:Region.ready md ops listed with
    |nil=>rfl
    |cons x xs=>
     rw[hr]at hi;have aI:t%(x::xs).length<(x::xs).length:=Nat.mod_lt _ (by simp);simp at hi;simp at aI;omega
   exact aA.ctl rfl (fun _=>aDX)<|hQ _ _ _<|h₀ ale
  |some i=>
   simp only[];rw[linearise_go_acc,List.reverse_singleton,amW];exact aiu hb hk<|Xz (fun a' S' w' x=>ih _ _ a' S' w' x.2)<|h₁ i<|gz hi
def yR(P:eF)(E:dD)(fn:FuncId)(ops:Array Oper)(I:aN->aj->Prop)(o:Oper)(v:az)(a:Act):Prop:=
 Region.wanted o (yielded ops a.tmps)=true/\∀S w,I S w->(dP a.eval o).run P w=.ok (.value v) w/\∀e∈listed P fn a o w,mM S E e
def yR.of_same{a':Act}(hy:yR P E fn ops I o v a)(he:dP a'.eval o=dP a.eval o)(hw:Region.wanted o (yielded ops a'.tmps)=Region.wanted o (yielded ops a.tmps)):yR P E fn ops I o v a':=by
 unfold yR listed at*
 rw[he,hw];exact hy
def yR.opR(hI:∀S x y,I S x->bg S E x y->I S y)(hi:ops[i]? =ae o)(hy:yR P E fn ops I o v a)(hK:∀a S x y,K a S x->bg S E x y->K a S y)(hS:I S w)(h:K (a.put o.dst v) S w):pO P main E fn ops i K a S w:=by
 unfold pO;simp only[hi,hy.1,if_true];refine .inl fun w₁ h₁=>?_;rw[(hy.2 S w₁<|hI _ _ _ hS h₁).1];refine⟨⟨rfl,rfl,rfl,dm _,fun _ _ _=>rfl,fun e he=>?_,fun _ _ _ h=>h⟩,?_⟩
 ·rw[sK<|dm _];exact(hy.2 S w₁<|hI _ _ _ hS h₁).2 e he
 ·rw[sK<|dm _];exact hK _ _ _ _ h h₁
def rJ.rely{f:FuncId}{args:Array az}{w1:aj}{ny:az->aN->aj->Prop}(h:rJ P main E f args S w ny)(hk:bg S E w w1):rJ P main E f args S w1 ny:=
 fun b₀ a₀ ops i rest k cs Stop fn c hf hb hn=>(h b₀ a₀ ops i rest k cs Stop fn c hf hb hn).rely hk
def qQ.rely(hI:∀S x y,I S x->bg S E x y->I S y)(hQ:∀a S x y,Q a S x->bg S E x y->Q a S y)(hX:∀z a S x y,X z a S x->bg S E x y->X z a S y):∀(fuel:Nat) (listed:Array Bool) (a:Act) (S:aN) (w w₁:aj),qQ P main E fn md ops Q I X fuel listed a S w->bg S E w w₁->qQ P main E fn md ops Q I X fuel listed a S w₁
 |0,_,_,_,_,_,h,r=>⟨h.1,hQ _ _ _ _ h.2 r⟩
 |_+1,listed,a,S,w,w₁,.inl ⟨h1,z,h2,h3,h4⟩,r=>.inl ⟨h1,z,h2,h3,hX _ _ _ _ _ h4 r⟩
 |fuel+1,listed,a,S,w,w₁,.inr h,r=>.inr ⟨fun e=>hQ _ _ _ _ (h.1 e) r,fun i hi=>by
   have:=h.2 i hi;unfold pO at*
   split
   ·simp_all
   ·rename_i o ho;simp only[ho]at this;split
    ·rename_i hw;simp only[hw,if_true]at this;rcases this with this|⟨f,args,lK,lX,c,h1,h2,h3,h4,h5⟩
     ·exact .inl fun w₂ h₂=>this w₂<|r.trans h₂
     ·exact .inr ⟨f,args,lK,lX,c,h1,h2,h3,h4,rJ.rely h5 r⟩
    ·rename_i hw;simp only[hw]at this;exact⟨fun e=>hI _ _ _ (this.1 e) r,qQ.rely hI hQ hX fuel _ _ _ _ _ this.2 r⟩⟩
def aiy{oj:Oper}(hj:ops[j]? =ae oj)(Dn:oi.apart ops oj=true)(Zi:∀cs b,oi.op≠.select cs b)(hsj:∀cs b,oj.op≠.select cs b)
 (hy:yR P E fn ops I oi v a)(h:pO P main E fn ops j K (a.put oi.dst v) S w):pO P main E fn ops j (fun a' S' w'=>yR P E fn ops I oi v a'/\K (a'.put oi.dst v) S' w') a S w:=by
 obtain⟨h1,h2,h3⟩:=Oper.apart_spec Dn;have aY:∀(a:Act),yR P E fn ops I oi v a->∀u,yR P E fn ops I oi v (a.put oj.dst u):=fun a hy u=>hy.of_same (execOp_put oi Zi a oj.dst u h3)<|aFq oi a oj.dst u h3;unfold pO at*
 simp only[hj]at*
 rw[aFq oj a oi.dst v h1]at h;split
 ·rename_i hw;simp only[hw,if_true]at h;rcases h with h|⟨f,args,lK,lX,c,e1,e2,e3,e4,e5⟩
  ·left;intro w₁ h₁
   have h:=h w₁ h₁
   unfold listed at*
   rw[execOp_put oj hsj a oi.dst v h1]at h;generalize(dP a.eval oj).run P w₁=r at*
   cases r with
   |ok n w'=>
    cases n<;>simp only[uponK]at h⊢
    case value u=>exact⟨h.1,aY a hy u,by rw[<-aE4 a v u h2];exact h.2⟩
    case skip=>exact⟨h.1,aY a hy _,by rw[<-aE4 a v ai h2];exact h.2⟩
   |halt x w'=>simp only[uponK]at h
  ·right;refine⟨f,args,lK,lX,c,e1,e2,e3,e4,?_⟩;have ea:args.map (a.put oi.dst v).eval=args.map a.eval:=amZ fun x hx=>Act.eval_put fun d hd hxd=>h1 d hd (by
    subst hxd;exact KT _<|List.mem_filterMap.2 ⟨.tmp d,by rw[e1];simp[Op.operands,Call.operands,hx],rfl⟩)
   rw[ea]at e5;exact fun b₀ a₀ ops i rest k cs Stop fn c hf hb hn=>e5 b₀ a₀ ops i rest k cs Stop fn c hf hb fun u S' w' hp=>hn u S' w' ⟨aY a hy u,by rw[<-aE4 a v u h2];exact hp⟩
 ·rename_i hw;simp only[hw]at h;exact⟨aY a hy _,by rw[<-aE4 a v ai h2];exact h⟩
def aiz(hI:∀S x y,I S x->bg S E x y->I S y)(hQ:∀a S x y,Q a S x->bg S E x y->Q a S y)(hX:∀z a S x y,X z a S x->bg S E x y->X z a S y)(hi:ops[i]? =ae oi)(NP:∀(j:Nat) (o:Oper) cs b,ops[j]? =ae o->o.op≠.select cs b):
 ∀(fuel:Nat) (listed:Array Bool) (a:Act) (S:aN) (w:aj),Closed md ops listed->(∀j oj,ops[j]? =ae oj->j≠i->listed.getD j true=false->(∀e∈oj.after,Region.binds md e=true->e.on≠i)->oi.apart ops oj=true)->
  i∈Region.ready md ops listed->yR P E fn ops I oi v a->I S w->qQ P main E fn md ops Q I X fuel (listed.setIfInBounds i true) (a.put oi.dst v) S w->qQ P main E fn md ops Q I X (fuel+1) listed a S w:=by
 have hK:∀fuel listed,∀a S x y,((JE md ops i=false->I S x)/\qQ P main E fn md ops Q I X fuel listed a S x)->bg S E x y->((JE md ops i=false->I S y)/\qQ P main E fn md ops Q I X fuel listed a S y):=
  fun fuel listed a S x y h r=>⟨fun e=>hI _ _ _ (h.1 e) r,qQ.rely hI hQ hX fuel listed a S x y h.2 r⟩
 intro fuel
 induction fuel with
 |zero=>
  intro listed a S w _ _ hr hy hS H
  refine .inr ⟨fun h=>(by rw[h]at hr;cases hr),fun j hj=>?_⟩
  by_cases lW:j=i
  ·subst lW;exact hy.opR hI hi (hK _ _) hS ⟨fun _=>hS,H⟩
  ·have:=aEQ hj lW
   rw[H.1]at this
   cases this
 |succ fuel ih=>
  intro listed a S w nK BJ hr hy hS H
  refine .inr ⟨fun h=>(by rw[h]at hr;cases hr),fun j hj=>?_⟩
  by_cases lW:j=i
  ·subst lW;exact hy.opR hI hi (hK _ _) hS ⟨fun _=>hS,H⟩
  ·rcases H with⟨_,z,hz,hzw,_⟩|H
   ·have Qw:=aEQ hj lW
    rw[hz]at Qw
    simp at Qw
    subst Qw
    rw[aiv nK hr hj lW]at hzw
    cases hzw
   have h1:=H.2 j<|aEQ hj lW
   obtain⟨Vo,oj,I4,jF⟩:=aFb.1 hj
   have aeF:∀e∈oj.after,Region.binds md e=true->e.on≠i:=fun e he hb heq=>by
    have h1:=jF e he hb;have h0:=(aFb.1 hr).1;rw[heq]at h1;rcases E5 i listed.size with h'|h'
    ·simp[h']at h0 h1;rw[h0]at h1;cases h1
    ·simp[afb h']at h1
   have h2:=aiy I4 (BJ j oj I4 lW Vo aeF) (fun cs b=>NP i oi cs b hi) (fun cs b=>NP j oj cs b I4) hy h1
   have ZN:∀k ok,ops[k]? =ae ok->k≠i->(listed.setIfInBounds j true).getD k true=false->(∀e∈ok.after,Region.binds md e=true->e.on≠i)->oi.apart ops ok=true:=fun k ok hk zh Gq qI=>by
    refine BJ k ok hk zh ?_ qI;by_cases Nr:j=k
    ·subst Nr;exact Vo
    ·rw[getD_set_ne true Nr]at Gq;exact Gq
   refine Xz (fun a' S' w' h3=>⟨h3.2.1,ih (listed.setIfInBounds j true) a' S' w' (nK.set hj) ZN (aEQ hr<|iW lW) h3.1 (h3.2.1<|aiv nK hr hj lW) ?_⟩) h2
   rw[ae8 _ _ lW]
   exact h3.2.2
def pR(hI:∀S x y,I S x->bg S E x y->I S y)(hQ:∀a S x y,Q a S x->bg S E x y->Q a S y)(hX:∀z a S x y,X z a S x->bg S E x y->X z a S y){listed:Array Bool}(hi:ops[i]? =ae oi)
 (hs:Region.noSelect ops=true)(nK:acx md ops listed=true)(hf:Region.free md ops listed i=true)(hr:(Region.ready md ops listed).contains i=true)(hy:yR P E fn ops I oi v a)(hS:I S w)(h:qQ P main E fn md ops Q I X fuel (listed.setIfInBounds i true) (a.put oi.dst v) S w):qQ P main E fn md ops Q I X (fuel+1) listed a S w:=
 aiz hI hQ hX hi (aFr hs) fuel listed a S w (aiw nK) (Region.free_spec hi hf) (by simpa using hr) hy hS h
def XB{rs:List Nat}{listed:Array Bool}(hr:Region.ready md ops listed=rs)(dh:rs≠[])(h:∀i∈rs,pO P main E fn ops i (fun a' S' w'=>(JE md ops i=false->I S' w')/\qQ P main E fn md ops Q I X fuel (listed.setIfInBounds i true) a' S' w') a S w):qQ P main E fn md ops Q I X (fuel+1) listed a S w:=
 .inr ⟨fun h0=>absurd (hr▸h0) dh,hr▸h⟩
def aiA{listed:Array Bool}(hr:Region.ready md ops listed=[])(h:Q a S w):∀fuel,qQ P main E fn md ops Q I X fuel listed a S w
 |0=>⟨hr,h⟩
 |_+1=>.inr ⟨fun _=>h,fun i hi=>by rw[hr]at hi;cases hi⟩
def aiB{z:Nat}{listed:Array Bool}(hr:Region.ready md ops listed=[z])(hz:JE md ops z=true)(h:X z a S w):qQ P main E fn md ops Q I X 1 listed a S w:=.inl ⟨rfl,z,hr,hz,h⟩
def XC:Nat->Act->aN->aj->Prop:=fun _ _ _ _=>False
def vJ:∀(z:Nat) (a:Act) (S:aN) (x y:aj),XC z a S x->bg S E x y->XC z a S y:=fun _ _ _ _ _ h _=>h
def aA.drawn{id:Nat}(hb:b.fn=fn)(hk:b.kind≠.early)(hm:P.follows .mixedOrders=true)(hQ:∀a S w,Q a S w->aA P main E Stop S (G (b.at a k) cs) w)(hX:∀z a S w,X z a S w->aA P main E Stop S (G (b.at a<|bQ ops [z]::k) cs) w)
 (h:∀w₁,bg S E w w₁->qQ P main E fn .any ops Q I X ops.size (Array.replicate ops.size false) a S {w₁ with drawn:=w₁.drawn+1}):aA P main E Stop S (G (b.at a<|.code (.region id ops true)::k) cs) w:=by
 refine .step1 rfl fun w₁ h₁=>⟨_,_,_,stepG_region_draw,⟨rfl,rfl,rfl,dm _,fun _ _ _=>rfl,by simp,fun _ _ _ h=>h⟩,?_⟩;rw[sK (w:=w₁) (w':={w₁ with drawn:=w₁.drawn+1})<|dm _];simp only[Region.schedule,hm,Bool.true_or,if_true];exact aix hb hk hQ hX ops.size _ _ a S _<|h w₁ h₁
end
end Twin
end Go.Proofs.YtkelpcjiediamaaGreat
