import Derived.Test.YtkelpcjiediamaaGreatQb31
import Derived.Conc.CompanyDraw
set_option maxRecDepth 100000
set_option maxHeartbeats 0
set_option linter.all false
namespace Go.Proofs.YtkelpcjiediamaaGreat
def aCQ:=@Go.ready_mono
def aC5:=@Go.Act.put_comm
def aDc:=@Go.mem_ready
def aDq:=@Go.wanted_put
def aDr:=@Go.Region.noSelect_spec
open Go renaming Frame→aV,Goroutine→aX,Program→dO,Value→aj,World→ah,execOp→dJ,undef→ag
open Option renaming some→ae
namespace Twin
open Go Go.Proofs Go.Conc Go.RowKit
section
variable{P:dO}{main:Bool}{E:cO}{fn:FuncId}{ops:Array Oper}{md:Region.Mode}{I:aC->ah->Prop}{Q:Act->aC->ah->Prop}{X:Nat->Act->aC->ah->Prop}
def oW(P:dO)(main:Bool)(E:cO)(fn:FuncId)(ops:Array Oper)(i:Nat)(K:Act->aC->ah->Prop)(a:Act)(S:aC)(w:ah):Prop:=
 match ops[i]? with
 |none=>False
 |some o=>if Region.wanted o (yielded ops a.tmps)then
   (∀w1,aQ S E w w1->uponK o a (fun a' w'=>iO S E w1 w' (listed P fn a o w1)/\K a' (grow S w1 w') w') ((dJ a.eval o).run P w1))\/
   (∃f args kP lF c,o.op=.call {callee:=.value<|.func f,args,argTypes:=kP}/\P.funcs[f]? =ae lF/\(lF.name== "runtime.NumGoroutine")=false/\lF.body=ae c/\qN P main E f (args.map a.eval) S w fun v S' w'=>K (a.put o.dst v) S' w')
  else K (a.put o.dst ag) S w
variable{i j fuel:Nat}{a:Act}{S:aC}{w:ah}{K:Act->aC->ah->Prop}{b:aV}{k:List Item}{cs:List aV}{Stop:aC->aX->ah->Prop}{o oi:Oper}{v:aj}
def V6{K':Act->aC->ah->Prop}(h:∀a S w,K a S w->K' a S w)(hh:oW P main E fn ops i K a S w):oW P main E fn ops i K' a S w:=by
 unfold oW at*
 split
 ·simp_all
 ·rename_i o ho;simp only[ho]at hh;split
  ·rename_i hw;simp only[hw,if_true]at hh;rcases hh with hh|⟨f,args,kP,lF,c,h1,h2,h3,h4,h5⟩
   ·exact .inl fun w₁ h₁=>uponK_mono (fun a' w' x=>⟨x.1,h _ _ _ x.2⟩)<|hh w₁ h₁
   ·exact .inr ⟨f,args,kP,lF,c,h1,h2,h3,h4,fun b₀ a₀ ops i rest k cs Stop fn c hf hb hn=>h5 b₀ a₀ ops i rest k cs Stop fn c hf hb fun v S' w' hp=>hn v S' w'<|h _ _ _ hp⟩
  ·rename_i hw;simp only[hw]at hh;exact h _ _ _ hh
def agX{rest:List Nat}(hb:b.fn=fn)(hk:b.kind≠.early)
 (h:oW P main E fn ops i (fun a' S' w'=>au P main E Stop S' (G (b.at a'<|.inRegion ops rest::k) cs) w') a S w):au P main E Stop S (G (b.at a<|.inRegion ops (i::rest)::k) cs) w:=by
 unfold oW at h;split at h
 ·exact h.elim
 ·rename_i o ho;split at h
  ·rename_i hw;rcases h with h|⟨f,args,kP,lF,c,h1,h2,h3,h4,h5⟩
   ·refine .goes rfl fun w1 aI=>goes_oper ho hw hk ?_;have:=h w1 aI;revert this;cases (dJ a.eval o).run P w1 with
    |ok x w'=>cases x<;>first|exact fun⟨d,g⟩=>⟨hb▸d,g⟩|exact id
    |halt _ _=>exact id
   ·refine .call ho hw hk h1 h2 h3 h4<|h5 b a ops i rest k cs Stop lF c h2 h4 fun v S' w' hp=>?_;rw[ho];exact hp
  ·rename_i hw;exact .ctl rfl (fun _=>stepG_unwanted ho<|by simpa using hw) h
def KI(md:Region.Mode)(ops:Array Oper)(j i:Nat):Bool:=match ops[j]? with
 |none=>false
 |some o=>o.after.any fun e=>Region.binds md e&&e.on==i
def NY(md:Region.Mode)(ops:Array Oper):Nat->Nat->Nat->Bool
 |0,j,i=>KI md ops j i
 |n+1,j,i=>KI md ops j i||(List.range ops.size).any fun x=>KI md ops j x&&NY md ops n x i
def IU(md:Region.Mode)(ops:Array Oper)(j:Nat):Bool:=(List.range ops.size).all fun i=>i==j||NY md ops 3 j i
def Closed(md:Region.Mode)(ops:Array Oper)(listed:Array Bool):Prop:=∀x y,listed.getD x false=true->KI md ops x y=true->listed.getD y false=true
def V7{md:Region.Mode}{ops:Array Oper}{listed:Array Bool}{x:Nat}(hj:j∈Region.ready md ops listed)(h:KI md ops j x=true):listed.getD x false=true:=by
 obtain⟨_,o,ho,ji⟩:=aDc.1 hj;unfold KI at h;simp only[ho,Array.any_eq_true',lX,beq_iff_eq]at h;obtain⟨e,he,hb,rfl⟩:=h;exact ji e he hb
def Closed.set{md:Region.Mode}{ops:Array Oper}{listed:Array Bool}(h:Closed md ops listed)(hj:j∈Region.ready md ops listed):Closed md ops (listed.setIfInBounds j true):=by
 intro x y hx yD;by_cases e:j=x
 ·subst e;exact getD_set_true<|V7 hj yD
 ·rw[getD_set_ne false e]at hx;exact getD_set_true<|h x y hx yD
def Closed.dV{md:Region.Mode}{ops:Array Oper}{listed:Array Bool}(h:Closed md ops listed):∀(n x y:Nat),listed.getD x false=true->NY md ops n x y=true->listed.getD y false=true
 |0,x,y,hx,yD=>h x y hx yD
 |n+1,x,y,hx,yD=>by
  simp only[NY,Bool.or_eq_true,List.any_eq_true,lX]at yD;rcases yD with h1|⟨c,_,h1,h2⟩
  ·exact h x y hx h1
  ·exact h.dV n c y (h x c hx h1) h2
def Closed.ready{md:Region.Mode}{ops:Array Oper}{listed:Array Bool}(h:Closed md ops listed)(hj:j∈Region.ready md ops listed):∀(n y:Nat),NY md ops n j y=true->listed.getD y false=true
 |0,y,hy=>V7 hj hy
 |n+1,y,hy=>by
  simp only[NY,Bool.or_eq_true,List.any_eq_true,lX]at hy;rcases hy with h1|⟨c,_,h1,h2⟩
  ·exact V7 hj h1
  ·exact h.dV n c y (V7 hj h1) h2
def agY{md:Region.Mode}{ops:Array Oper}{listed:Array Bool}(mP:Closed md ops listed)(hi:i∈Region.ready md ops listed)(hj:j∈Region.ready md ops listed)(bM:j≠i):IU md ops j=false:=by
 apply Fg;intro h;rw[Bool.not_eq_false]at h;obtain⟨E6,oi,hoi,_⟩:=aDc.1 hi;have aB:=(iU.1 hoi).1;have:=YK.1 h i<|Ic.2 aB;simp only[Bool.or_eq_true,beq_iff_eq]at this;have hf:listed.getD i false=true:=by
  rcases this with e|h1
  ·exact absurd e.symm bM
  ·exact mP.ready hj 3 i h1
 rcases Eb i listed.size with h'|h'
 ·simp[h']at E6 hf;rw[E6]at hf;cases hf
 ·simp[adH h']at hf
def aa0(md:Region.Mode)(ops:Array Oper)(listed:Array Bool):Bool:=(List.range ops.size).all fun x=>!(listed.getD x false)||(match ops[x]? with
 |none=>true
 |some o=>o.after.all fun e=>!(Region.binds md e)||listed.getD e.on false)
def agZ{md:Region.Mode}{ops:Array Oper}{listed:Array Bool}(h:aa0 md ops listed=true):Closed md ops listed:=by
 intro x y hx yD;unfold KI at yD;cases ho:ops[x]? with
 |none=>simp[ho]at yD
 |some o=>
  simp only[ho,Array.any_eq_true',lX,beq_iff_eq]at yD;obtain⟨e,he,hb,rfl⟩:=yD;have:=YK.1 h x<|Ic.2 (iU.1 ho).1;simp only[hx,ho,MW,Bool.false_or]at this;have:=ak8.1 this e he;simpa[hb]using this
def qx(P:dO)(main:Bool)(E:cO)(fn:FuncId)(md:Region.Mode)(ops:Array Oper)(Q:Act->aC->ah->Prop)(I:aC->ah->Prop)(X:Nat->Act->aC->ah->Prop):Nat->Array Bool->Act->aC->ah->Prop
 |0,listed,a,S,w=>Region.ready md ops listed=[]/\Q a S w
 |fuel+1,listed,a,S,w=>(fuel=0/\∃z,Region.ready md ops listed=[z]/\IU md ops z=true/\X z a S w)\/((Region.ready md ops listed=[]->Q a S w)/\∀i∈Region.ready md ops listed,oW P main E fn ops i (fun a' S' w'=>(IU md ops i=false->I S' w')/\qx P main E fn md ops Q I X fuel (listed.setIfInBounds i true) a' S' w') a S w)
def ag0(hb:b.fn=fn)(hk:b.kind≠.early)(hQ:∀a S w,Q a S w->au P main E Stop S (G (b.at a k) cs) w)(hX:∀z a S w,X z a S w->au P main E Stop S (G (b.at a<|.inRegion ops [z]::k) cs) w):
 ∀(fuel t:Nat) (listed:Array Bool) (a:Act) (S:aC) (w:ah),qx P main E fn md ops Q I X fuel listed a S w->au P main E Stop S (G (b.at a<|.inRegion ops (Region.linearise.go md ops fuel t listed [])::k) cs) w:=by
 intro fuel;induction fuel with
 |zero=>intro t listed a S w h;simpa[Region.linearise.go]using au.ctl rfl (fun _=>aBZ) (hQ _ _ _ h.2)
 |succ fuel ih=>
  intro t listed a S w h;rcases h with⟨rfl,z,hz,_,hx⟩|⟨h₀,h₁⟩
  ·have e:Region.linearise.go md ops (0+1) t listed []=[z]:=by
    simp only[Region.linearise.go];change (match(Region.ready md ops listed)[t%(Region.ready md ops listed).length]? with
     |some i=>Region.linearise.go md ops 0 (t/(Region.ready md ops listed).length) (listed.setIfInBounds i true) [i]
     |none=>[].reverse)=[z]
    rw[hz];simp[Nat.mod_one,Region.linearise.go]
   rw[e];exact hX z a S w hx
  simp only[Region.linearise.go];change au P main E Stop S (G (b.at a<|.inRegion ops (match(Region.ready md ops listed)[t%(Region.ready md ops listed).length]? with
   |some i=>Region.linearise.go md ops fuel (t/(Region.ready md ops listed).length) (listed.setIfInBounds i true) [i]
   |none=>[].reverse)::k) cs) w
  cases hi:(Region.ready md ops listed)[t%(Region.ready md ops listed).length]? with
  |none=>
   have ajB:Region.ready md ops listed=[]:=by
    cases hr:Region.ready md ops listed with
    |nil=>rfl
    |cons x xs=>
     rw[hr]at hi;have aB:t%(x::xs).length<(x::xs).length:=Nat.mod_lt _ (by simp);simp at hi;simp at aB;omega
   exact au.ctl rfl (fun _=>aBZ)<|hQ _ _ _<|h₀ ajB
  |some i=>
   simp only[];rw[linearise_go_acc,List.reverse_singleton,alc];exact agX hb hk<|V6 (fun a' S' w' x=>ih _ _ a' S' w' x.2)<|h₁ i<|fD hi
def xN(P:dO)(E:cO)(fn:FuncId)(ops:Array Oper)(I:aC->ah->Prop)(o:Oper)(v:aj)(a:Act):Prop:=
 Region.wanted o (yielded ops a.tmps)=true/\∀S w,I S w->(dJ a.eval o).run P w=.ok (.value v) w/\∀e∈listed P fn a o w,lT S E e
def xN.of_same{a':Act}(hy:xN P E fn ops I o v a)(he:dJ a'.eval o=dJ a.eval o)(hw:Region.wanted o (yielded ops a'.tmps)=Region.wanted o (yielded ops a.tmps)):xN P E fn ops I o v a':=by
 unfold xN listed at*
 rw[he,hw];exact hy
def xN.opR(hI:∀S x y,I S x->aQ S E x y->I S y)(hi:ops[i]? =ae o)(hy:xN P E fn ops I o v a)(hK:∀a S x y,K a S x->aQ S E x y->K a S y)(hS:I S w)(h:K (a.put o.dst v) S w):oW P main E fn ops i K a S w:=by
 unfold oW;simp only[hi,hy.1,if_true];refine .inl fun w₁ h₁=>?_;rw[(hy.2 S w₁<|hI _ _ _ hS h₁).1];refine⟨⟨rfl,rfl,rfl,bV _,fun _ _ _=>rfl,fun e he=>?_,fun _ _ _ h=>h⟩,?_⟩
 ·rw[rD<|bV _];exact(hy.2 S w₁<|hI _ _ _ hS h₁).2 e he
 ·rw[rD<|bV _];exact hK _ _ _ _ h h₁
def qN.rely{f:FuncId}{args:Array aj}{w1:ah}{mi:aj->aC->ah->Prop}(h:qN P main E f args S w mi)(hk:aQ S E w w1):qN P main E f args S w1 mi:=
 fun b₀ a₀ ops i rest k cs Stop fn c hf hb hn=>(h b₀ a₀ ops i rest k cs Stop fn c hf hb hn).rely hk
def qx.rely(hI:∀S x y,I S x->aQ S E x y->I S y)(hQ:∀a S x y,Q a S x->aQ S E x y->Q a S y)(hX:∀z a S x y,X z a S x->aQ S E x y->X z a S y):∀(fuel:Nat) (listed:Array Bool) (a:Act) (S:aC) (w w₁:ah),qx P main E fn md ops Q I X fuel listed a S w->aQ S E w w₁->qx P main E fn md ops Q I X fuel listed a S w₁
 |0,_,_,_,_,_,h,r=>⟨h.1,hQ _ _ _ _ h.2 r⟩
 |_+1,listed,a,S,w,w₁,.inl ⟨h1,z,h2,h3,h4⟩,r=>.inl ⟨h1,z,h2,h3,hX _ _ _ _ _ h4 r⟩
 |fuel+1,listed,a,S,w,w₁,.inr h,r=>.inr ⟨fun e=>hQ _ _ _ _ (h.1 e) r,fun i hi=>by
   have:=h.2 i hi;unfold oW at*
   split
   ·simp_all
   ·rename_i o ho;simp only[ho]at this;split
    ·rename_i hw;simp only[hw,if_true]at this;rcases this with this|⟨f,args,kP,lF,c,h1,h2,h3,h4,h5⟩
     ·exact .inl fun w₂ h₂=>this w₂<|r.trans h₂
     ·exact .inr ⟨f,args,kP,lF,c,h1,h2,h3,h4,qN.rely h5 r⟩
    ·rename_i hw;simp only[hw]at this;exact⟨fun e=>hI _ _ _ (this.1 e) r,qx.rely hI hQ hX fuel _ _ _ _ _ this.2 r⟩⟩
def ag1{oj:Oper}(hj:ops[j]? =ae oj)(BO:oi.apart ops oj=true)(XN:∀cs b,oi.op≠.select cs b)(hsj:∀cs b,oj.op≠.select cs b)
 (hy:xN P E fn ops I oi v a)(h:oW P main E fn ops j K (a.put oi.dst v) S w):oW P main E fn ops j (fun a' S' w'=>xN P E fn ops I oi v a'/\K (a'.put oi.dst v) S' w') a S w:=by
 obtain⟨h1,h2,h3⟩:=Oper.apart_spec BO;have aP:∀(a:Act),xN P E fn ops I oi v a->∀u,xN P E fn ops I oi v (a.put oj.dst u):=fun a hy u=>hy.of_same (execOp_put oi XN a oj.dst u h3)<|aDq oi a oj.dst u h3;unfold oW at*
 simp only[hj]at*
 rw[aDq oj a oi.dst v h1]at h;split
 ·rename_i hw;simp only[hw,if_true]at h;rcases h with h|⟨f,args,kP,lF,c,e1,e2,e3,e4,e5⟩
  ·left;intro w₁ h₁
   have h:=h w₁ h₁
   unfold listed at*
   rw[execOp_put oj hsj a oi.dst v h1]at h;generalize(dJ a.eval oj).run P w₁=r at*
   cases r with
   |ok n w'=>
    cases n<;>simp only[uponK]at h⊢
    case value u=>exact⟨h.1,aP a hy u,by rw[<-aC5 a v u h2];exact h.2⟩
    case skip=>exact⟨h.1,aP a hy _,by rw[<-aC5 a v ag h2];exact h.2⟩
   |halt x w'=>simp only[uponK]at h
  ·right;refine⟨f,args,kP,lF,c,e1,e2,e3,e4,?_⟩;have ea:args.map (a.put oi.dst v).eval=args.map a.eval:=alg fun x hx=>Act.eval_put fun d hd hxd=>h1 d hd (by
    subst hxd;exact H7 _<|List.mem_filterMap.2 ⟨.tmp d,by rw[e1];simp[Op.operands,Call.operands,hx],rfl⟩)
   rw[ea]at e5;exact fun b₀ a₀ ops i rest k cs Stop fn c hf hb hn=>e5 b₀ a₀ ops i rest k cs Stop fn c hf hb fun u S' w' hp=>hn u S' w' ⟨aP a hy u,by rw[<-aC5 a v u h2];exact hp⟩
 ·rename_i hw;simp only[hw]at h;exact⟨aP a hy _,by rw[<-aC5 a v ag h2];exact h⟩
def ag2(hI:∀S x y,I S x->aQ S E x y->I S y)(hQ:∀a S x y,Q a S x->aQ S E x y->Q a S y)(hX:∀z a S x y,X z a S x->aQ S E x y->X z a S y)(hi:ops[i]? =ae oi)(MF:∀(j:Nat) (o:Oper) cs b,ops[j]? =ae o->o.op≠.select cs b):
 ∀(fuel:Nat) (listed:Array Bool) (a:Act) (S:aC) (w:ah),Closed md ops listed->(∀j oj,ops[j]? =ae oj->j≠i->listed.getD j true=false->(∀e∈oj.after,Region.binds md e=true->e.on≠i)->oi.apart ops oj=true)->
  i∈Region.ready md ops listed->xN P E fn ops I oi v a->I S w->qx P main E fn md ops Q I X fuel (listed.setIfInBounds i true) (a.put oi.dst v) S w->qx P main E fn md ops Q I X (fuel+1) listed a S w:=by
 have hK:∀fuel listed,∀a S x y,((IU md ops i=false->I S x)/\qx P main E fn md ops Q I X fuel listed a S x)->aQ S E x y->((IU md ops i=false->I S y)/\qx P main E fn md ops Q I X fuel listed a S y):=
  fun fuel listed a S x y h r=>⟨fun e=>hI _ _ _ (h.1 e) r,qx.rely hI hQ hX fuel listed a S x y h.2 r⟩
 intro fuel
 induction fuel with
 |zero=>
  intro listed a S w _ _ hr hy hS H
  refine .inr ⟨fun h=>(by rw[h]at hr;cases hr),fun j hj=>?_⟩
  by_cases lh:j=i
  ·subst lh;exact hy.opR hI hi (hK _ _) hS ⟨fun _=>hS,H⟩
  ·have:=aCQ hj lh
   rw[H.1]at this
   cases this
 |succ fuel ih=>
  intro listed a S w mP AA hr hy hS H
  refine .inr ⟨fun h=>(by rw[h]at hr;cases hr),fun j hj=>?_⟩
  by_cases lh:j=i
  ·subst lh;exact hy.opR hI hi (hK _ _) hS ⟨fun _=>hS,H⟩
  ·rcases H with⟨_,z,hz,hzw,_⟩|H
   ·have O7:=aCQ hj lh
    rw[hz]at O7
    simp at O7
    subst O7
    rw[agY mP hr hj lh]at hzw
    cases hzw
   have h1:=H.2 j<|aCQ hj lh
   obtain⟨TP,oj,Hu,ji⟩:=aDc.1 hj
   have ac8:∀e∈oj.after,Region.binds md e=true->e.on≠i:=fun e he hb heq=>by
    have h1:=ji e he hb;have h0:=(aDc.1 hr).1;rw[heq]at h1;rcases Eb i listed.size with h'|h'
    ·simp[h']at h0 h1;rw[h0]at h1;cases h1
    ·simp[adH h']at h1
   have h2:=ag1 Hu (AA j oj Hu lh TP ac8) (fun cs b=>MF i oi cs b hi) (fun cs b=>MF j oj cs b Hu) hy h1
   have Yk:∀k ok,ops[k]? =ae ok->k≠i->(listed.setIfInBounds j true).getD k true=false->(∀e∈ok.after,Region.binds md e=true->e.on≠i)->oi.apart ops ok=true:=fun k ok hk yh E6 qc=>by
    refine AA k ok hk yh ?_ qc;by_cases LM:j=k
    ·subst LM;exact TP
    ·rw[getD_set_ne true LM]at E6;exact E6
   refine V6 (fun a' S' w' h3=>⟨h3.2.1,ih (listed.setIfInBounds j true) a' S' w' (mP.set hj) Yk (aCQ hr<|iI lh) h3.1 (h3.2.1<|agY mP hr hj lh) ?_⟩) h2
   rw[adE _ _ lh]
   exact h3.2.2
def oZ(hI:∀S x y,I S x->aQ S E x y->I S y)(hQ:∀a S x y,Q a S x->aQ S E x y->Q a S y)(hX:∀z a S x y,X z a S x->aQ S E x y->X z a S y){listed:Array Bool}(hi:ops[i]? =ae oi)
 (hs:Region.noSelect ops=true)(mP:aa0 md ops listed=true)(hf:Region.free md ops listed i=true)(hr:(Region.ready md ops listed).contains i=true)(hy:xN P E fn ops I oi v a)(hS:I S w)(h:qx P main E fn md ops Q I X fuel (listed.setIfInBounds i true) (a.put oi.dst v) S w):qx P main E fn md ops Q I X (fuel+1) listed a S w:=
 ag2 hI hQ hX hi (aDr hs) fuel listed a S w (agZ mP) (Region.free_spec hi hf) (by simpa using hr) hy hS h
def V8{rs:List Nat}{listed:Array Bool}(hr:Region.ready md ops listed=rs)(bM:rs≠[])(h:∀i∈rs,oW P main E fn ops i (fun a' S' w'=>(IU md ops i=false->I S' w')/\qx P main E fn md ops Q I X fuel (listed.setIfInBounds i true) a' S' w') a S w):qx P main E fn md ops Q I X (fuel+1) listed a S w:=
 .inr ⟨fun h0=>absurd (hr▸h0) bM,hr▸h⟩
def ag3{listed:Array Bool}(hr:Region.ready md ops listed=[])(h:Q a S w):∀fuel,qx P main E fn md ops Q I X fuel listed a S w
 |0=>⟨hr,h⟩
 |_+1=>.inr ⟨fun _=>h,fun i hi=>by rw[hr]at hi;cases hi⟩
def ag4{z:Nat}{listed:Array Bool}(hr:Region.ready md ops listed=[z])(hz:IU md ops z=true)(h:X z a S w):qx P main E fn md ops Q I X 1 listed a S w:=.inl ⟨rfl,z,hr,hz,h⟩
def V9:Nat->Act->aC->ah->Prop:=fun _ _ _ _=>False
def uN:∀(z:Nat) (a:Act) (S:aC) (x y:ah),V9 z a S x->aQ S E x y->V9 z a S y:=fun _ _ _ _ _ h _=>h
def au.drawn{id:Nat}(hb:b.fn=fn)(hk:b.kind≠.early)(hm:P.follows .mixedOrders=true)(hQ:∀a S w,Q a S w->au P main E Stop S (G (b.at a k) cs) w)(hX:∀z a S w,X z a S w->au P main E Stop S (G (b.at a<|.inRegion ops [z]::k) cs) w)
 (h:∀w₁,aQ S E w w₁->qx P main E fn .any ops Q I X ops.size (Array.replicate ops.size false) a S {w₁ with drawn:=w₁.drawn+1}):au P main E Stop S (G (b.at a<|.code (.region id ops true)::k) cs) w:=by
 refine .step1 rfl fun w₁ h₁=>⟨_,_,_,stepG_region_draw,⟨rfl,rfl,rfl,bV _,fun _ _ _=>rfl,by simp,fun _ _ _ h=>h⟩,?_⟩;rw[rD (w:=w₁) (w':={w₁ with drawn:=w₁.drawn+1})<|bV _];simp only[Region.schedule,hm,Bool.true_or,if_true];exact ag0 hb hk hQ hX ops.size _ _ a S _<|h w₁ h₁
end
end Twin
end Go.Proofs.YtkelpcjiediamaaGreat
