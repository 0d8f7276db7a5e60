import Derived.Test.YtkelpcjiediamaaGreatQb34
set_option maxRecDepth 100000
set_option maxHeartbeats 0
set_option linter.all false
namespace Go.Proofs.YtkelpcjiediamaaGreat
open Go renaming Frame→aV,Goroutine→aX,Program→dO,Value→aj,World→ah,maxLen→dH,stepG→aW,undef→ag
open Option renaming none→af,some→ae
open Go.Proofs.Tryz
section
namespace Twin
open Go Go.Proofs Go.Conc Go.RowKit
section
variable{L:Type}{P:dO}{main:Bool}{E:cO}{fn:FuncId}{ops:Array Oper}{md:Region.Mode}{I:aC->ah->Prop}{Q:L->Act->aC->ah->Prop}{Stop:aC->aX->ah->Prop}{Fin:L->aC->aX->ah->Prop}{c0:Nat}{X:L->Nat->Act->aC->ah->Prop}
def zZ(P:dO)(main:Bool)(E:cO)(Stop:aC->aX->ah->Prop)(Fin:L->aC->aX->ah->Prop)(f:FuncId)(args:Array aj)(S:aC)(w:ah)(mi:L->aj->aC->ah->Prop):Prop:=
 ∀(b₀:aV) (a₀:Act) (ops:Array Oper) (i:Nat) (rest:List Nat) (k:List Item) (cs:List aV) (fn:Func) (c:Code),P.funcs[f]? =ae fn->fn.body=ae c->
  (∀l v S' w',mi l v S' w'->au P main E (Fin l) S' (G (b₀.at (a₀.put ((ops[i]?).bind (·.dst)) v)<|.inRegion ops rest::k) cs) w')->
  au P main E Stop S (G ((base f).at {tmps:=args++Array.replicate (fn.ntmps-args.size) ag,defers:=[]} [.code c])<|b₀.at a₀ (.inRegion ops (i::rest)::k)::cs) w
variable{f:FuncId}{args:Array aj}{S:aC}{w:ah}{mi:L->aj->aC->ah->Prop}{b:aV}{k:List Item}{cs:List aV}{i fuel:Nat}{oi:Oper}{v:aj}{a:Act}
def zZ.rely{w1:ah}(h:zZ P main E Stop Fin f args S w mi)(hk:aQ S E w w1):zZ P main E Stop Fin f args S w1 mi:=
 fun b₀ a₀ ops i rest k cs fn c hf hb hn=>(h b₀ a₀ ops i rest k cs fn c hf hb hn).rely hk
def zZ.mono{TR:L->aj->aC->ah->Prop}(h:zZ P main E Stop Fin f args S w mi)(h':∀l v S w,mi l v S w->TR l v S w):zZ P main E Stop Fin f args S w TR:=
 fun b₀ a₀ ops i rest k cs fn c hf hb hn=>h b₀ a₀ ops i rest k cs fn c hf hb fun l v S' w' hp=>hn l v S' w'<|h' l v S' w' hp
def OpB(P:dO)(main:Bool)(E:cO)(Stop:aC->aX->ah->Prop)(Fin:L->aC->aX->ah->Prop)(ops:Array Oper)(i:Nat)(K:L->Act->aC->ah->Prop)(a:Act)(S:aC)(w:ah):Prop:=
 ∃o f args kP lF c,ops[i]? =ae o/\Region.wanted o (yielded ops a.tmps)=true/\o.op=.call {callee:=.value<|.func f,args,argTypes:=kP}/\P.funcs[f]? =ae lF/\(lF.name== "runtime.NumGoroutine")=false/\lF.body=ae c/\zZ P main E Stop Fin f (args.map a.eval) S w fun l v S' w'=>K l (a.put o.dst v) S' w'
def wU(P:dO)(main:Bool)(E:cO)(Stop:aC->aX->ah->Prop)(Fin:L->aC->aX->ah->Prop)(fn:FuncId)(md:Region.Mode)(ops:Array Oper)(c0:Nat)(Q:L->Act->aC->ah->Prop)(I:aC->ah->Prop)(X:L->Nat->Act->aC->ah->Prop):Nat->Array Bool->Act->aC->ah->Prop
 |0,_,_,_,_=>False
 |fuel+1,listed,a,S,w=>Region.ready md ops listed≠[]/\∀i∈Region.ready md ops listed,if i=c0 then OpB P main E Stop Fin ops i (fun l a' S' w'=>I S' w'/\qx P main E fn md ops (Q l) I (X l) fuel (listed.setIfInBounds i true) a' S' w') a S w
   else oW P main E fn ops i (fun a' S' w'=>I S' w'/\wU P main E Stop Fin fn md ops c0 Q I X fuel (listed.setIfInBounds i true) a' S' w') a S w
def aqZ(hb:b.fn=fn)(hk:b.kind≠.early)(hQ:∀l a S w,Q l a S w->au P main E (Fin l) S (G (b.at a k) cs) w)(hX:∀l z a S w,X l z a S w->au P main E (Fin l) S (G (b.at a<|.inRegion ops [z]::k) cs) w):
 ∀(fuel t:Nat) (listed:Array Bool) (a:Act) (S:aC) (w:ah),wU P main E Stop Fin fn md ops c0 Q I X fuel listed a S w->au P main E Stop S (G (b.at a<|.inRegion ops (Region.linearise.go md ops fuel t listed [])::k) cs) w:=by
 intro fuel;induction fuel with
 |zero=>intro t listed a S w h;exact h.elim
 |succ fuel ih=>
  intro t listed a S w h;obtain⟨h₀,h₁⟩:=h;simp only[Region.linearise.go];change au P main E Stop S (G (b.at a<|.inRegion ops (match(Region.ready md ops listed)[t%(Region.ready md ops listed).length]? with
   |some i=>Region.linearise.go md ops fuel (t/(Region.ready md ops listed).length) (listed.setIfInBounds i true) [i]
   |none=>[].reverse)::k) cs) w
  cases hi:(Region.ready md ops listed)[t%(Region.ready md ops listed).length]? with
  |none=>
   exfalso;cases hr:Region.ready md ops listed with
   |nil=>exact h₀ hr
   |cons x xs=>
    rw[hr]at hi;have aB:t%(x::xs).length<(x::xs).length:=Nat.mod_lt _ (by simp);simp at hi;simp at aB;omega
  |some i=>
   simp only[];rw[linearise_go_acc,List.reverse_singleton,alc];have h2:=h₁ i<|fD hi;split at h2
   ·obtain⟨o,f,args,kP,lF,c,e1,e2,e3,e4,e5,e6,e7⟩:=h2;refine .call e1 e2 hk e3 e4 e5 e6<|e7 b a ops i _ k cs lF c e4 e6 fun l v S' w' hp=>?_;rw[e1];exact ag0 hb hk (hQ l) (hX l) fuel _ _ _ S' w' hp.2
   ·exact agX hb hk<|V6 (fun a' S' w' x=>ih _ _ a' S' w' x.2) h2
def wU.rely(hI:∀S x y,I S x->aQ S E x y->I S y):∀(fuel:Nat) (listed:Array Bool) (a:Act) (S:aC) (w w₁:ah),wU P main E Stop Fin fn md ops c0 Q I X fuel listed a S w->aQ S E w w₁->wU P main E Stop Fin fn md ops c0 Q I X fuel listed a S w₁
 |0,_,_,_,_,_,h,_=>h.elim
 |fuel+1,listed,a,S,w,w₁,h,r=>⟨h.1,fun i hi=>by
   have:=h.2 i hi;split
   ·rename_i hc;rw[if_pos hc]at this;obtain⟨o,f,args,kP,lF,c,e1,e2,e3,e4,e5,e6,e7⟩:=this;exact⟨o,f,args,kP,lF,c,e1,e2,e3,e4,e5,e6,e7.rely r⟩
   ·rename_i hc;rw[if_neg hc]at this;unfold oW at*
    split
    ·simp_all
    ·rename_i o ho;simp only[ho]at this;split
     ·rename_i hw;simp only[hw,if_true]at this;rcases this with this|⟨f,args,kP,lF,c,h1,h2,h3,h4,h5⟩
      ·exact .inl fun w₂ h₂=>this w₂<|r.trans h₂
      ·exact .inr ⟨f,args,kP,lF,c,h1,h2,h3,h4,qN.rely h5 r⟩
     ·rename_i hw;simp only[hw]at this;exact⟨hI _ _ _ this.1 r,wU.rely hI fuel _ _ _ _ _ this.2 r⟩⟩
def aq0(hI:∀S x y,I S x->aQ S E x y->I S y)(hQ:∀l a S x y,Q l a S x->aQ S E x y->Q l a S y)(hX:∀l z a S x y,X l z a S x->aQ S E x y->X l z a S y)(hi:ops[i]? =ae oi)(XW:i≠c0)(MF:∀(j:Nat) (o:Oper) cs b,ops[j]? =ae o->o.op≠.select cs b):
 ∀(fuel:Nat) (listed:Array Bool) (a:Act) (S:aC) (w:ah),Closed md ops listed->(∀j oj,ops[j]? =ae oj->j≠i->listed.getD j true=false->(∀e∈oj.after,Region.binds md e=true->e.on≠i)->oi.apart ops oj=true)->
  i∈Region.ready md ops listed->xN P E fn ops I oi v a->I S w->wU P main E Stop Fin fn md ops c0 Q I X fuel (listed.setIfInBounds i true) (a.put oi.dst v) S w->wU P main E Stop Fin fn md ops c0 Q I X (fuel+1) listed a S w:=by
 have hK:∀fuel listed,∀a S x y,(I S x/\wU P main E Stop Fin fn md ops c0 Q I X fuel listed a S x)->aQ S E x y->(I S y/\wU P main E Stop Fin fn md ops c0 Q I X fuel listed a S y):=
  fun fuel listed a S x y h r=>⟨hI _ _ _ h.1 r,wU.rely hI fuel listed a S x y h.2 r⟩
 intro fuel
 induction fuel with
 |zero=>intro listed a S w _ _ hr hy hS H;exact H.elim
 |succ fuel ih=>
  intro listed a S w mP AA hr hy hS H
  refine⟨fun h=>(by rw[h]at hr;cases hr),fun j hj=>?_⟩
  by_cases lh:j=i
  ·subst lh
   rw[if_neg XW]
   exact hy.opR hI hi (hK _ _) hS ⟨hS,H⟩
  ·have h1:=H.2 j (aCQ hj lh)
   obtain⟨TP,oj,Hu,ji⟩:=aDc.1 hj
   have ac8:∀e∈oj.after,Region.binds md e=true->e.on≠i:=fun e he hb heq=>by
    have h1:=ji e he hb;have h0:=(aDc.1 hr).1;rw[heq]at h1;rcases Eb i listed.size with h'|h'
    ·simp[h']at h0 h1;rw[h0]at h1;cases h1
    ·simp[adH h']at h1
   have BO:=AA j oj Hu lh TP ac8
   have Yk:∀k ok,ops[k]? =ae ok->k≠i->(listed.setIfInBounds j true).getD k true=false->(∀e∈ok.after,Region.binds md e=true->e.on≠i)->oi.apart ops ok=true:=fun k ok hk yh E6 qc=>by
    refine AA k ok hk yh ?_ qc;by_cases LM:j=k
    ·subst LM;exact TP
    ·rw[getD_set_ne true LM]at E6;exact E6
   by_cases XO:j=c0
   ·rw[if_pos XO]at h1⊢
    obtain⟨o,f,args,kP,lF,c,e1,e2,e3,e4,e5,e6,e7⟩:=h1
    obtain rfl:oj=o:=by rw[Hu]at e1;exact qE e1
    obtain⟨g1,g2,g3⟩:=Oper.apart_spec BO
    have aP:∀u,xN P E fn ops I oi v (a.put oj.dst u):=fun u=>hy.of_same (execOp_put oi (fun cs b=>MF i oi cs b hi) a oj.dst u g3)<|aDq oi a oj.dst u g3
    have ea:args.map (a.put oi.dst v).eval=args.map a.eval:=alg fun x hx=>Act.eval_put fun d hd hxd=>g1 d hd (by
     subst hxd;exact H7 _<|List.mem_filterMap.2 ⟨.tmp d,by rw[e3];simp[Op.operands,Call.operands,hx],rfl⟩)
    rw[ea]at e7
    rw[aDq oj a oi.dst v g1]at e2
    refine⟨oj,f,args,kP,lF,c,Hu,e2,e3,e4,e5,e6,e7.mono fun l u S' w' hp=>⟨hp.1,?_⟩⟩
    have xu:=hp.2
    rw[aC5 a v u g2,adE _ _<|iI lh]at xu
    exact ag2 hI (hQ l) (hX l) hi MF fuel _ _ _ _ (mP.set hj) Yk (aCQ hr<|iI lh) (aP u) hp.1 xu
   ·rw[if_neg XO]at h1⊢
    have h2:=ag1 Hu BO (fun cs b=>MF i oi cs b hi) (fun cs b=>MF j oj cs b Hu) hy h1
    refine V6 (fun a' S' w' h3=>⟨h3.2.1,ih (listed.setIfInBounds j true) a' S' w' (mP.set hj) Yk (aCQ hr<|iI lh) h3.1 h3.2.1 ?_⟩) h2
    rw[adE _ _ lh]
    exact h3.2.2
def Eu(hI:∀S x y,I S x->aQ S E x y->I S y)(hQ:∀l a S x y,Q l a S x->aQ S E x y->Q l a S y)(hX:∀l z a S x y,X l z a S x->aQ S E x y->X l z a S y){listed:Array Bool}(hi:ops[i]? =ae oi)(XW:i≠c0)
 (hs:Region.noSelect ops=true)(mP:aa0 md ops listed=true)(hf:Region.free md ops listed i=true)(hr:(Region.ready md ops listed).contains i=true)(hy:xN P E fn ops I oi v a)(hS:I S w)(h:wU P main E Stop Fin fn md ops c0 Q I X fuel (listed.setIfInBounds i true) (a.put oi.dst v) S w):wU P main E Stop Fin fn md ops c0 Q I X (fuel+1) listed a S w:=
 aq0 hI hQ hX hi XW (aDr hs) fuel listed a S w (agZ mP) (Region.free_spec hi hf) (by simpa using hr) hy hS h
def aq1{listed:Array Bool}(hr:Region.ready md ops listed=[c0])(h:OpB P main E Stop Fin ops c0 (fun l a' S' w'=>I S' w'/\qx P main E fn md ops (Q l) I (X l) fuel (listed.setIfInBounds c0 true) a' S' w') a S w):wU P main E Stop Fin fn md ops c0 Q I X (fuel+1) listed a S w:=
 ⟨by rw[hr];simp,fun i hi=>by
  rw[hr]at hi;simp at hi;subst hi;rw[if_pos rfl];exact h⟩
def au.aq2{id:Nat}(hb:b.fn=fn)(hk:b.kind≠.early)(hm:P.follows .mixedOrders=true)(hQ:∀l a S w,Q l a S w->au P main E (Fin l) S (G (b.at a k) cs) w)(hX:∀l z a S w,X l z a S w->au P main E (Fin l) S (G (b.at a<|.inRegion ops [z]::k) cs) w)
 (h:∀w₁,aQ S E w w₁->wU P main E Stop Fin fn .any ops c0 Q I X ops.size (Array.replicate ops.size false) a S {w₁ with drawn:=w₁.drawn+1}):au P main E Stop S (G (b.at a<|.code (.region id ops true)::k) cs) w:=by
 refine .step1 rfl fun w₁ h₁=>⟨_,_,_,stepG_region_draw,⟨rfl,rfl,rfl,bV _,fun _ _ _=>rfl,by simp,fun _ _ _ h=>h⟩,?_⟩;rw[rD (w:=w₁) (w':={w₁ with drawn:=w₁.drawn+1})<|bV _];simp only[Region.schedule,hm,Bool.true_or,if_true];exact aqZ hb hk hQ hX ops.size _ _ a S _<|h w₁ h₁
end
end Twin
end
section
namespace Twin
open Go Go.Proofs Go.Conc Go.RowKit Go.Maps eX
def Ew(P:dO)(E:cO)(c ov:Nat)(Fin:List aj->aC->aX->ah->Prop):List aj->List aj->aC->aX->ah->Prop
 |[],l=>fun S g w=>∃z0 z1 sh,g.status=.running/\(∀w1,aQ S E w w1->aW P false g w1=.comm g #[rcase c z0,rcase ov z1] true sh w1 #[])/\au P false E (Fin l) S (g.finishComm P #[rcase c z0,rcase ov z1] sh 1 z1 false) w
 |v::r,l=>fun S g w=>∃z0 z1 sh,g.status=.running/\(∀w1,aQ S E w w1->aW P false g w1=.comm g #[rcase c z0,rcase ov z1] true sh w1 #[])/\au P false E (Ew P E c ov Fin r<|l++[v]) S (g.finishComm P #[rcase c z0,rcase ov z1] sh 0 v true) w/\
   au P false E (Fin l) S (g.finishComm P #[rcase c z0,rcase ov z1] sh 1 z1 false) w
variable{S:aC}{w:ah}{E:cO}{B lb bm n pb po:Nat}{v:aj}{s:aA}
def aq3{K:Type}{X:bn K}{k:K}{Fin:List aj->aC->aX->ah->Prop}(hS:∀l S g w,X.Gl k l S g w↔∃r,l++r=X.wQ k/\Ew X.P (X.side k) (X.ch k) X.ov Fin r l S g w)(hF:X.Fin k=Fin){l:List aj}{g:aX}(h:X.Gl k l S g w):∃z0 z1 sh,X.rC k l S g z0 z1 sh w:=by
 obtain⟨r,hr,h⟩:=(hS _ _ _ _).1 h;subst hF;cases r with
 |nil=>
  obtain⟨z0,z1,sh,h1,h2,h3⟩:=h;refine⟨z0,z1,sh,h1,h2,fun v r' hv=>?_,h3⟩;rw[<-hr]at hv;simp at hv
 |cons u r=>
  obtain⟨z0,z1,sh,h1,h2,h3,h4⟩:=h;refine⟨z0,z1,sh,h1,h2,fun v r' hv=>?_,h4⟩;rw[<-hr]at hv;simp at hv;obtain⟨rfl,rfl⟩:=hv;exact h3.mono fun S' g' w' hs=>(hS _ _ _ _).2 ⟨r',by simpa using hr,hs⟩
def jS(m:Ms):Value:=.agg #[.int .i64 m.k,.int .i64 m.q,.int .i64 m.p,.int .i64 m.t,.bool m.c]
def aq4(h:gB S w B lb bm n v s)(hS:∀b,S b->b<w.heap.size)(rH:E.rd pb)(c1:w.cell? ⟨pb,po+1,af⟩=ae (.bool true))(m:Ms):
 qN prog false E 141 #[.pointer<|ae ⟨pb,po,af⟩,jS m] S w fun y S' w'=>y=.slice af 0 0/\gB S' w' B lb bm n v s/\jL S E w S' w'/\∀b,S b->¬kK lb bm v b->w'.heap[b]? =w.heap[b]? :=by
 refine((aqT h.own h.lt rH c1 m).frame ?_ h.sub hS).mono ?_
 ·rintro y S' x1 y1 ⟨rfl,h1,h2⟩ hk;exact⟨rfl,h1.aP hk,h2.aP hk⟩
 ·rintro y S' w' ⟨S0,⟨rfl,h1,h2⟩,h3,h4,h5⟩;exact⟨rfl,h1.mono h3,h2.wide h.sub h3 h4 fun b x y=>(h5 b x y).1,fun b x y=>(h5 b x y).2⟩
def aq5(h:gB S w B lb bm n v s)(hS:∀b,S b->b<w.heap.size)(rH:E.rd pb)(hpS:¬S pb)(c0:w.cell? ⟨pb,po,af⟩=ae (ptr lb))(c1:w.cell? ⟨pb,po+1,af⟩=ae (.bool false))(m:Ms)
 (hp:(Lit.int .i64 m.p).wf=true)(hn:n<dH)(hb:(s.es.length+1)*40<=140737488355328):
 qN prog false E 141 #[.pointer<|ae ⟨pb,po,af⟩,jS m] S w fun y S' w'=>∃b v',y=.slice (ae ⟨b,0,af⟩) 1 1/\dN S' w' b m.kC.cs.toArray 119/\w.heap.size<=b/\gB S' w' B lb bm (n+1) v' (s.closed m.p m.t m.c)/\jL S E w S' w'/\(∀b,S b->¬kK lb bm v b->w'.heap[b]? =w.heap[b]?)/\∀b,kK lb bm v' b->kK lb bm v b\/w.heap.size<=b:=by
 refine((aqU h.own h.lt rH (fun x=>hpS<|h.sub _ x) c0 c1 m hp hn hb).frame ?_ h.sub hS).mono ?_
 ·rintro y S' x1 y1 ⟨b,v',rfl,h0,hb,h1,h2⟩ hk;exact⟨b,v',rfl,h0.aP hk,hb,h1.aP hk,h2.aP hk⟩
 ·rintro y S' w' ⟨S0,⟨b,v',rfl,h0,hb,h1,h2⟩,h3,h4,h5⟩;exact⟨b,v',rfl,⟨h3 _ h0.1,h0.2⟩,hb,h1.mono h3,h2.wide h.sub h3 h4 fun b x y=>(h5 b x y).1,fun b x y=>(h5 b x y).2,fun b hb=>(h2.new b<|h1.sub b hb).imp id And.left⟩
end Twin
end
section
namespace Twin
open Go Go.Proofs Go.Conc Go.RowKit Go.Maps eX
def fB:Code->Code
 | .seq _ b=>b
 |c=>c
def vP:Code->Code
 | .block _ c=>c
 | .loop c=>c
 |c=>c
noncomputable def KL:Code:=vP<|vP<|fB<|fB<|Tryz.f114.body.getD .skip
structure Pl where
 B:Nat
 Ba:Nat
 c:Nat
 ov:Nat
 pb:Nat
 po:Nat
 lb:Nat
 bm:Nat
 n:Nat
 s:aA
 down:Bool
def Pl.log(p:Pl)(l:List Ms):aA:=if p.down then p.s else l.foldl (fun s m=>s.closed m.p m.t m.c) p.s
def Pl.oz(p:Pl)(l:List Ms):List Ms:=if p.down then[]else l.map Ms.kC
structure Pl.At(p:Pl)(E:cO)(l:List Ms)(av:aj)(S:aC)(w:ah):Prop where
 log:∃v,gB S w p.B p.lb p.bm (p.n+l.length) v (p.log l)/\∀b,av.ownBlock=ae b->¬kK p.lb p.bm v b
 oz:Own S w p.Ba 119 5 av (p.oz l).length ((p.oz l).flatMap Ms.cs)
 nil:p.down=true->av=.slice af 0 0
 c0:w.cell? ⟨p.pb,p.po,af⟩=ae (ptr p.lb)
 c1:w.cell? ⟨p.pb,p.po+1,af⟩=ae (.bool p.down)
 rd:E.rd p.pb
 ahb:¬S p.pb
 low:∀b,S b->b<w.heap.size
 base:p.Ba<=w.heap.size
 ro:∀b,E.ro b->b<w.heap.size
variable{E:cO}{S:aC}{w w':ah}
def Pl.At.aP{p:Pl}{l:List Ms}{av:aj}{w1:ah}(h:p.At E l av S w)(hk:aQ S E w w1):p.At E l av S w1:=
 ⟨let ⟨v,h1,h2⟩:=h.log;⟨v,h1.aP hk,h2⟩,h.oz.aP hk,h.nil,mJ h.c0 h.rd hk,mJ h.c1 h.rd hk,h.rd,h.ahb,wS h.low hk,dP h.base hk.size,fun b hb=>dY (h.ro b hb) hk.size⟩
def aq6(hS:∀b,S b->b<w.heap.size)(hE:∀b,E.ro b->b<w.heap.size)(o:Obj):aQ S E w (w.alloc o):=⟨rfl,rfl,rfl,by simp,fun b hb=>aB3 w o b<|hS b hb,fun b hb=>aB3 w o b<|hE b hb⟩
def nN.aP{T:aC}(h:nN T w w')(hS:∀b,S b->¬T b)(hE:∀b,E.ro b->¬T b):aQ S E w w':=⟨h.tape,h.os,h.output,AU h.size.symm,fun b hb=>h.still b<|hS b hb,fun b hb=>h.still b<|hE b hb⟩
def aQ.sub{S':aC}(h:aQ S E w w')(hS:∀b,S' b->S b):aQ S' E w w':=h.mono (fun b hb=>.inl<|hS b hb) fun _ hb=>.inr hb
structure Pl.Fits(p:Pl)(N:Nat):Prop where
 n:p.n+N<=dH
 es:(p.s.es.length+N)*40<=140737488355328
def Zd(s:aA)(p t:Int)(c:Bool):(s.closed p t c).es.length<=s.es.length+1:=by
 unfold aA.closed;split
 ·simp[aA.put,aA.set]
 ·omega
def ahc:∀(l:List Ms) (s:aA),(l.foldl (fun s m=>s.closed m.p m.t m.c) s).es.length<=s.es.length+l.length
 |[],s=>by simp
 |m::l,s=>by
  have h1:=ahc l<|s.closed m.p m.t m.c;have h2:=Zd s m.p m.t m.c;simp only[List.foldl_cons,ny];omega
variable{ops:Array Oper}{i:Nat}{rest:List Nat}{k:List Item}{cs:List aV}
def Wj{P:dO}{b:aV}{a:Act}{cases:Array CommCase}{sh:CommShape}{kk:Int}{v:aj}{ok:Bool}:
 (G (b.at a<|.inRegion ops (i::rest)::k) cs).finishComm P cases sh kk v ok=G (b.at (a.put ((ops[i]?).bind (·.dst))<|commResult cases sh kk v ok)<|.inRegion ops rest::k) cs:=by
 unfold Goroutine.finishComm G;simp only[Frame.finish_at]
def ahd(c ov:Nat)(z0 z1:aj):commResult #[rcase c z0,rcase ov z1] .select 1 z1 false=.tuple #[.int .i64 1,.bool false,z0,z1]:=by
 simp[commResult,rcase,goInt,Array.zipIdx]
def aq7(c ov:Nat)(z0 z1 v:aj):commResult #[rcase c z0,rcase ov z1] .select 0 v true=.tuple #[.int .i64 0,.bool true,v,z1]:=by
 simp[commResult,rcase,goInt,Array.zipIdx]
def aq8{p:Pl}{N:Nat}{Fin:List aj->aC->aX->ah->Prop}{b₀:aV}{a₀:Act}{S0:aC}{w0:ah}(hN:p.Fits N)(hn:∀(l:List Ms) (v:aj) (S':aC) (w':ah),p.At E l v S' w'->jL S0 E w0 S' w'->au prog false E (Fin<|l.map jS) S' (G (b₀.at (a₀.put ((ops[i]?).bind (·.dst)) v)<|.inRegion ops rest::k) cs) w'):
 ∀(r l:List Ms) (t8 t9 t10 t11 t12 t13 t14 t15 t16 t17 t18 t19 t20 t21 av:aj) (S:aC) (w:ah),l.length+r.length<=N->(∀m∈r,(Lit.int .i64 m.p).wf=true)->p.At E l av S w->jL S0 E w0 S w->
  au prog false E (Ew prog E p.c p.ov Fin (r.map jS)<|l.map jS) S (G ((base 114).at ⟨#[.pointer<|ae ⟨p.pb,p.po,af⟩,.chan<|ae p.c,.chan<|ae p.ov,ag,ag,ag,.slice af 0 0,av,t8,t9,t10,t11,t12,t13,t14,t15,t16,t17,t18,t19,t20,t21],[]⟩ [.code KL,.inLoop KL,.inBlock 0])<|b₀.at a₀ (.inRegion ops (i::rest)::k)::cs) w:=by
 intro r
 induction r with
 |nil=>
  intro l t8 t9 t10 t11 t12 t13 t14 t15 t16 t17 t18 t19 t20 t21 av S w hl sU h hB
  generalize Bv:Item.inLoop KL=IL
  simp only[KL,Tryz.f114,gQ,fB,vP]
  refine au.ctl rfl (fun _=>aCm) ?_
  refine au.sq ?_
  refine au.sq ?_
  refine au.reg [0] rfl ?_
  refine au.mu rfl rfl ?_
  walk_nrm
  refine au.fA ?_
  refine au.reg [0] rfl ?_
  refine au.mu rfl rfl ?_
  walk_nrm
  refine au.fA ?_
  refine au.sq ?_
  refine au.reg [0,1,2,3] rfl ?_
  generalize E7:G _ _=gg
  have Kr:au prog false E (Fin<|l.map jS) S (gg.finishComm prog #[rcase p.c<|.agg #[.int .i64 0,.int .i64 0,.int .i64 0,.int .i64 0,.bool false],rcase p.ov<|.agg #[]] .select 1 (.agg #[]) false) w:=by
   rw[<-E7,Wj,ahd];walk_nrm;refine au.mu rfl rfl ?_;walk_nrm;refine au.mu rfl rfl ?_;walk_nrm;refine au.mu rfl rfl ?_;walk_nrm;refine au.fA ?_;refine au.ctl rfl (fun _=>aCm) ?_;refine au.ctl rfl (fun _=>aCe (t:=false)<|by rfl) ?_;refine au.ctl rfl (fun _=>aCe (t:=true)<|by rfl) ?_;refine au.sq ?_;refine au.reg [0,1] rfl ?_;refine au.mu rfl rfl ?_;walk_nrm;refine au.mu rfl rfl ?_;walk_nrm;refine au.fA ?_;refine au.ctl rfl (fun _=>aCi) ?_;refine au.leave1 rfl rfl func114 rfl ?_;walk_nrm;exact hn l av S w h hB
  have jk:∀w1,aW prog false gg w1=.comm gg #[rcase p.c<|.agg #[.int .i64 0,.int .i64 0,.int .i64 0,.int .i64 0,.bool false],rcase p.ov<|.agg #[]] true .select w1 #[]:=fun w1=>by
   rw[<-E7];rw[stepG_comm (cases:=#[rcase p.c<|.agg #[.int .i64 0,.int .i64 0,.int .i64 0,.int .i64 0,.bool false],rcase p.ov<|.agg #[]]) (blocking:=true) (shape:=.select) (w':=w1) rfl rfl (by decide) (by go_simp;exact⟨rfl,rfl⟩)];congr 1;simp[listed,go_sem];rfl
  have fU:gg.status=.running:=by rw[<-E7];rfl
  exact au.stop fun w1 hk=>⟨_,_,_,fU,fun w2 _=>jk w2,Kr.rely hk⟩
 |cons m r ih=>
  intro l t8 t9 t10 t11 t12 t13 t14 t15 t16 t17 t18 t19 t20 t21 av S w hl sU h hB
  generalize Bv:Item.inLoop KL=IL
  simp only[KL,Tryz.f114,gQ,fB,vP]
  refine au.ctl rfl (fun _=>aCm) ?_
  refine au.sq ?_
  refine au.sq ?_
  refine au.reg [0] rfl ?_
  refine au.mu rfl rfl ?_
  walk_nrm
  refine au.fA ?_
  refine au.reg [0] rfl ?_
  refine au.mu rfl rfl ?_
  walk_nrm
  refine au.fA ?_
  refine au.sq ?_
  refine au.reg [0,1,2,3] rfl ?_
  generalize E7:G _ _=gg
  have Kr:au prog false E (Fin<|l.map jS) S (gg.finishComm prog #[rcase p.c<|.agg #[.int .i64 0,.int .i64 0,.int .i64 0,.int .i64 0,.bool false],rcase p.ov<|.agg #[]] .select 1 (.agg #[]) false) w:=by
   rw[<-E7,Wj,ahd];walk_nrm;refine au.mu rfl rfl ?_;walk_nrm;refine au.mu rfl rfl ?_;walk_nrm;refine au.mu rfl rfl ?_;walk_nrm;refine au.fA ?_;refine au.ctl rfl (fun _=>aCm) ?_;refine au.ctl rfl (fun _=>aCe (t:=false)<|by rfl) ?_;refine au.ctl rfl (fun _=>aCe (t:=true)<|by rfl) ?_;refine au.sq ?_;refine au.reg [0,1] rfl ?_;refine au.mu rfl rfl ?_;walk_nrm;refine au.mu rfl rfl ?_;walk_nrm;refine au.fA ?_;refine au.ctl rfl (fun _=>aCi) ?_;refine au.leave1 rfl rfl func114 rfl ?_;walk_nrm;exact hn l av S w h hB
  have jk:∀w1,aW prog false gg w1=.comm gg #[rcase p.c<|.agg #[.int .i64 0,.int .i64 0,.int .i64 0,.int .i64 0,.bool false],rcase p.ov<|.agg #[]] true .select w1 #[]:=fun w1=>by
   rw[<-E7];rw[stepG_comm (cases:=#[rcase p.c<|.agg #[.int .i64 0,.int .i64 0,.int .i64 0,.int .i64 0,.bool false],rcase p.ov<|.agg #[]]) (blocking:=true) (shape:=.select) (w':=w1) rfl rfl (by decide) (by go_simp;exact⟨rfl,rfl⟩)];congr 1;simp[listed,go_sem];rfl
  have fU:gg.status=.running:=by rw[<-E7];rfl
  have ax4:au prog false E (Ew prog E p.c p.ov Fin (r.map jS)<|(l++[m]).map jS) S (gg.finishComm prog #[rcase p.c<|.agg #[.int .i64 0,.int .i64 0,.int .i64 0,.int .i64 0,.bool false],rcase p.ov<|.agg #[]] .select 0 (jS m) true) w:=by
   rw[<-E7,Wj,aq7,show jS m=.agg #[.int .i64 m.k,.int .i64 m.q,.int .i64 m.p,.int .i64 m.t,.bool m.c]from rfl];walk_nrm;refine au.mu rfl rfl ?_;walk_nrm;refine au.mu rfl rfl ?_;walk_nrm;refine au.mu rfl rfl ?_;walk_nrm;refine au.fA ?_;refine au.ctl rfl (fun _=>aCm) ?_;refine au.ctl rfl (fun _=>aCe (t:=true)<|by rfl) ?_;refine au.sq ?_;refine au.reg [0,1,2] rfl ?_;refine au.mu rfl rfl ?_;walk_nrm;refine au.jM rfl rfl (by decide) fun w1 aI=>?_;refine⟨.pointer<|ae ⟨w1.heap.size,0,af⟩,w1.alloc<|.cells #[.int .i64 0,.int .i64 0,.int .i64 0,.int .i64 0,.bool false] 119,.inl<|by go_simp,vN (by simp[go_sem])<|uj _,?_⟩;have h1:=h.aP aI;have h2:=h1.aP<|aq6 h1.low h1.ro<|.cells #[.int .i64 0,.int .i64 0,.int .i64 0,.int .i64 0,.bool false] 119;have AB:=(hB.aP aI).mG<|uj (E:=E)<|.cells #[.int .i64 0,.int .i64 0,.int .i64 0,.int .i64 0,.bool false] 119;have hY2:=dN.new S w1 #[.int .i64 0,.int .i64 0,.int .i64 0,.int .i64 0,.bool false] 119;have iH:=Gy h1.low<|.cells #[.int .i64 0,.int .i64 0,.int .i64 0,.int .i64 0,.bool false] 119;have BZ:∀b,S b->(grow S w1<|w1.alloc<|.cells #[.int .i64 0,.int .i64 0,.int .i64 0,.int .i64 0,.bool false] 119) b:=fun b hb=>.inl hb;have rG:¬(grow S w1<|w1.alloc<|.cells #[.int .i64 0,.int .i64 0,.int .i64 0,.int .i64 0,.bool false] 119) p.pb:=fun hx=>hx.elim h1.ahb fun y=>by have:=mX h1.c0;simp only at this;omega
   have aq9:∀b,S b->¬b=w1.heap.size:=fun b hb=>YM<|h1.low b hb;have ara:∀b,E.ro b->¬b=w1.heap.size:=fun b hb=>YM<|h1.ro b hb;generalize grow S w1 (w1.alloc<|.cells #[.int .i64 0,.int .i64 0,.int .i64 0,.int .i64 0,.bool false] 119)=S2 at*
   generalize w1.alloc (.cells #[.int .i64 0,.int .i64 0,.int .i64 0,.int .i64 0,.bool false] 119)=w2 at*
   generalize w1.heap.size=ab at*
   walk_nrm;refine au.jM rfl rfl (by decide) fun w3 jW=>?_;have h3:=h2.aP<|jW.sub BZ;have hB3:=AB.aP jW;have vS:=hY2.aP jW;have q0:=vS.cell (o:=0) rfl;have q1:=vS.cell (o:=1) rfl;have q2:=vS.cell (o:=2) rfl;have q3:=vS.cell (o:=3) rfl;have q4:=vS.cell (o:=4) rfl;have r0:=vS.free 0;have r1:=vS.free 1;have r2:=vS.free 2;have r3:=vS.free 3;have r4:=vS.free 4;have Yo:nN S2 w3 (((((w3.setCell ⟨ab,0,af⟩<|.int .i64 m.k).setCell ⟨ab,1,af⟩<|.int .i64 m.q).setCell ⟨ab,2,af⟩<|.int .i64 m.p).setCell ⟨ab,3,af⟩<|.int .i64 m.t).setCell ⟨ab,4,af⟩<|.bool m.c):=(((((nN.refl S2 w3).set vS.1 0 _).set vS.1 1 _).set vS.1 2 _).set vS.1 3 _).set vS.1 4 _;have hA4:nN (fun x=>x=ab) w3 (((((w3.setCell ⟨ab,0,af⟩<|.int .i64 m.k).setCell ⟨ab,1,af⟩<|.int .i64 m.q).setCell ⟨ab,2,af⟩<|.int .i64 m.p).setCell ⟨ab,3,af⟩<|.int .i64 m.t).setCell ⟨ab,4,af⟩<|.bool m.c):=(((((nN.refl (fun x=>x=ab) w3).set rfl 0 _).set rfl 1 _).set rfl 2 _).set rfl 3 _).set rfl 4 _;have JE:∀es:Array Event,(∀e∈es,lT S2 E e)->iO S2 E w3 (((((w3.setCell ⟨ab,0,af⟩<|.int .i64 m.k).setCell ⟨ab,1,af⟩<|.int .i64 m.q).setCell ⟨ab,2,af⟩<|.int .i64 m.p).setCell ⟨ab,3,af⟩<|.int .i64 m.t).setCell ⟨ab,4,af⟩<|.bool m.c) es:=fun _=>Yo.mG;have h4:p.At E l av S (((((w3.setCell ⟨ab,0,af⟩<|.int .i64 m.k).setCell ⟨ab,1,af⟩<|.int .i64 m.q).setCell ⟨ab,2,af⟩<|.int .i64 m.p).setCell ⟨ab,3,af⟩<|.int .i64 m.t).setCell ⟨ab,4,af⟩<|.bool m.c):=h3.aP<|hA4.aP aq9 ara;have Df:∀b,S2 b->b<(((((w3.setCell ⟨ab,0,af⟩<|.int .i64 m.k).setCell ⟨ab,1,af⟩<|.int .i64 m.q).setCell ⟨ab,2,af⟩<|.int .i64 m.p).setCell ⟨ab,3,af⟩<|.int .i64 m.t).setCell ⟨ab,4,af⟩<|.bool m.c).heap.size:=fun b hb=>by rw[Yo.size];exact wS iH jW b hb
   have Ri:=((((vS.set 0<|.int .i64 m.k).set 1<|.int .i64 m.q).set 2<|.int .i64 m.p).set 3<|.int .i64 m.t).set 4<|.bool m.c;have zF:=hB3.mG (JE #[]<|by simp);rw[Yo.grow]at zF;refine⟨ag,((((w3.setCell ⟨ab,0,af⟩<|.int .i64 m.k).setCell ⟨ab,1,af⟩<|.int .i64 m.q).setCell ⟨ab,2,af⟩<|.int .i64 m.p).setCell ⟨ab,3,af⟩<|.int .i64 m.t).setCell ⟨ab,4,af⟩<|.bool m.c,.inr ⟨rfl,by go_simp⟩,JE _ fun e he=>?_,?_⟩
   ·simp[go_sem,aa8,storedEv,q0,q1,q2,q3,q4,r0,r1,r2,r3,r4]at he;rcases he with rfl|rfl|rfl|rfl|rfl<;>exact .inl vS.1
   rw[Yo.grow];change dN S2 (((((w3.setCell ⟨ab,0,af⟩<|.int .i64 m.k).setCell ⟨ab,1,af⟩<|.int .i64 m.q).setCell ⟨ab,2,af⟩<|.int .i64 m.p).setCell ⟨ab,3,af⟩<|.int .i64 m.t).setCell ⟨ab,4,af⟩<|.bool m.c) ab #[.int .i64 m.k,.int .i64 m.q,.int .i64 m.p,.int .i64 m.t,.bool m.c] 119 at Ri;generalize((((w3.setCell ⟨ab,0,af⟩<|.int .i64 m.k).setCell ⟨ab,1,af⟩<|.int .i64 m.q).setCell ⟨ab,2,af⟩<|.int .i64 m.p).setCell ⟨ab,3,af⟩<|.int .i64 m.t).setCell ⟨ab,4,af⟩ (.bool m.c)=w4 at*
   walk_nrm;refine au.fA ?_;refine au.reg [0,1,2,3,4,5] rfl ?_;refine au.mu rfl rfl ?_;walk_nrm;refine au.mu rfl rfl ?_;walk_nrm;refine au.val (.agg #[.int .i64 m.k,.int .i64 m.q,.int .i64 m.p,.int .i64 m.t,.bool m.c]) rfl rfl (by decide) (fun w5 MG=>?_) (fun w5 MG e he=>?_) ?_
   ·have jR:=Ri.aP MG;have g0:=jR.cell (o:=0) rfl;have g1:=jR.cell (o:=1) rfl;have g2:=jR.cell (o:=2) rfl;have g3:=jR.cell (o:=3) rfl;have g4:=jR.cell (o:=4) rfl;go_simp
   ·have jR:=Ri.aP MG;have g0:=jR.cell (o:=0) rfl;have g1:=jR.cell (o:=1) rfl;have g2:=jR.cell (o:=2) rfl;have g3:=jR.cell (o:=3) rfl;have g4:=jR.cell (o:=4) rfl;simp[go_sem,g0,g1,g2,g3,g4]at he;rcases he with rfl|rfl|rfl|rfl|rfl<;>exact .inl jR.1
   walk_nrm;obtain⟨v,hM,Hw⟩:=h4.log;have wC:=hM.mono BZ;have hlen:l.length+(r.length+1)<=N:=by simpa using hl
   have JF:=h4.c0;have Cc:=h4.c1;have uw:∀(Ey:aj) (ahe ahf ahg ahh ahi ahj:aj) (S':aC) (w':ah),p.At E (l++[m]) Ey S' w'->jL S0 E w0 S' w'->au prog false E (Ew prog E p.c p.ov Fin (r.map jS)<|(l++[m]).map jS) S' (G ((base 114).at ⟨#[.pointer<|ae ⟨p.pb,p.po,af⟩,.chan<|ae p.c,.chan<|ae p.ov,ag,ag,ag,.slice af 0 0,Ey,.pointer<|ae ⟨ab,0,af⟩,.chan<|ae p.c,.chan<|ae p.ov,.tuple #[.int .i64 0,.bool true,.agg #[.int .i64 m.k,.int .i64 m.q,.int .i64 m.p,.int .i64 m.t,.bool m.c],.agg #[]],.int .i64 0,.bool true,.bool false,ahe,ahf,ahg,ahh,ahi,ahj,t21],[]⟩ [.inBlock 2,.inBlock 1,IL,.inBlock 0])<|b₀.at a₀ (.inRegion ops (i::rest)::k)::cs) w':=by
    intro Ey ahe ahf ahg ahh ahi ahj S' w' hA hB';refine au.ctl rfl (fun _=>aCE) ?_;refine au.ctl rfl (fun _=>aCE) ?_;rw[<-Bv];refine au.ctl rfl (fun _=>aCN) ?_;exact ih (l++[m]) _ _ _ _ _ _ _ _ _ _ _ _ _ _ Ey S' w' (by simp<;>omega) (fun x hx=>sU x<|Uw _ hx) hA hB'
   cases hd:p.down
   ·
    rw[hd]at Cc;have Ce:p.oz l=l.map Ms.kC:=by simp[Pl.oz,hd]
    have A8:p.log l=l.foldl (fun s m=>s.closed m.p m.t m.c) p.s:=by simp[Pl.log,hd]
    have qg:=ahc l p.s;have hNn:=hN.n;have hNe:=hN.es;refine au.Rh rfl rfl (by decide) rfl func141 rfl rfl (by walk_nrm;rfl) (aq5 wC Df h4.rd rG JF Cc m (sU m<|by simp) (by omega) (by rw[A8];omega)) ?_;rintro y S5 w5 ⟨cc,v',rfl,rE,pI,Bq,pU,Wi,hL5⟩;have hO:=h4.oz;rw[Ce]at hO;have hO5:Own S5 w5 p.Ba 119 5 av (l.map Ms.kC).length ((l.map Ms.kC).flatMap Ms.cs):=hO.of (fun b hb=>pU.own b<|BZ b hb) fun b hb=>Wi b (BZ b<|hO.r b hb)<|Hw b hb;have ahk:∀b,av.ownBlock=ae b->¬kK p.lb p.bm v' b:=fun b hb hx=>by
     have h1:b<w4.heap.size:=Df b<|BZ b<|hO.r b hb;exact(hL5 b hx).elim (Hw b hb) fun y=>by omega
    have hz5:=pU.below Df;have ard:=zF.trans pU;have hn5:¬S5 p.pb:=fun hx=>(pU.new _ hx).elim rG fun y=>by have:=mX JF;simp only at this;omega
    have abf:=Dh JF h4.rd rG pU;have ahl:=Dh Cc h4.rd rG pU;walk_nrm;refine au.jM rfl rfl (by decide) fun w6 qR=>?_;have pV:=hO5.aP qR;have vO:=rE.aP qR;have nM:=Bq.aP qR;have N7:=wS hz5 qR;have hw6:=qR.size;have hw5:=pU.size;have Hm:p.Ba<=w6.heap.size:=dP (dP h4.base hw5) hw6;obtain⟨i0,dF,kG,MI,TU⟩:=aCf Iu;have TV:((l.map Ms.kC).length+1)*40<=140737488355328:=by simp only[Ib];omega
    obtain⟨g,cap,w7,IV,Q5,zY,Gv,KJ⟩:=aDl (P:=prog) w6 107 107 p.Ba 119 i0 _ 5 40 underlying107 dF kG MI TU rfl (by omega) av (l.map Ms.kC).length ((l.map Ms.kC).flatMap Ms.cs) pV.row ⟨cc,0,af⟩ 1 1 m.kC.cs rfl (aB9 vO.2) (by simp[Ms.cs,Value.oneCell']) (by omega) (by simp only[dH];omega) TV Hm _ rfl;have TQ:=aC6 (P:=prog) w6 p.Ba 107 107 119 i0 _ 5 40 underlying107 dF kG MI TU av (l.map Ms.kC).length ((l.map Ms.kC).flatMap Ms.cs) pV.row ⟨cc,0,af⟩ 1 1 m.kC.cs rfl (aB9 vO.2) (by simp[Ms.cs,Value.oneCell']) (by simp only[dH];omega) TV;have IW:iO S5 E w6 w7 ((Builtin.append_ #[107,107] 107 #[av,.slice (ae ⟨cc,0,af⟩) 1 1]).events prog w6 #[]):=aa2 zY pV.r (fun s h5 hs hw=>((ai.NJ (ai.VU h5).toFit<|ok_two (Q3 pV.row fun k hk z=>(hs k z).1<|pV.r k hk) (.slice fun y hy z=>by cases hy;exact(hs _ z).1 vO.1)).CV hw IV fun b hb=>(hs b hb).2).2) fun e he=>by
     rcases TQ e he with⟨ad,h1,h2|h2⟩|⟨m,rfl,h2⟩
     ·exact(show lT _ _ _ by unfold lT;rw[h1];exact .inl<|.inl<|h2.2▸vO.1)
     ·exact(show lT _ _ _ by unfold lT;rw[h1];exact .inl<|.inl<|pV.r _ h2.symm)
     ·exact h2
    refine⟨.slice (ae ⟨g,0,af⟩) ((l.map Ms.kC).length+1) cap,w7,.inl ?_,?_,?_⟩
    ·exact We (.tmp 16) (.tmp 19) 107 rfl rfl rfl IV
    ·rw[aCW (.tmp 16) (.tmp 19) 107 rfl rfl rfl];exact IW
    have Q7:(grow S5 w6 w7) g:=by
     rcases Gv with h1|h1
     ·exact .inl<|pV.r g h1
     ·exact .inr ⟨by omega,KJ⟩
    have arf:∀b,(grow S5 w6 w7) b->b<w7.heap.size:=fun b hb=>by
     have:=zY.size;rcases hb with hb|hb
     ·have:=N7 b hb;omega
     ·exact hb.2
    have N8:gB (grow S5 w6 w7) w7 p.B p.lb p.bm (p.n+l.length+1) v' ((p.log l).closed m.p m.t m.c):=nM.mG (fun b hb=>zY.block b (nM.lt b hb) fun e=>ahk b e.symm hb) IW;have hg7:∀b,(Value.slice (ae ⟨g,0,af⟩) ((l.map Ms.kC).length+1) cap).ownBlock=ae b->¬kK p.lb p.bm v' b:=fun b hb hx=>by
     simp only[Value.ownBlock,fJ]at hb;subst hb;rcases Gv with h1|h1
     ·exact ahk g h1 hx
     ·have:=nM.lt g hx;omega
    have Q8:=(ard.aP qR).mG IW;have hn7:¬(grow S5 w6 w7) p.pb:=fun hx=>hx.elim hn5 fun y=>by have:=mX abf;simp only at this;omega
    have arj:w7.cell? ⟨p.pb,p.po,af⟩=ae (ptr p.lb):=(aB4<|zY.block _ (mX<|mJ abf h4.rd qR) fun e=>hn5<|pV.r _ e.symm).trans<|mJ abf h4.rd qR;have ark:w7.cell? ⟨p.pb,p.po+1,af⟩=ae (.bool false):=(aB4<|zY.block _ (mX<|mJ ahl h4.rd qR) fun e=>hn5<|pV.r _ e.symm).trans<|mJ ahl h4.rd qR;have hw7:=zY.size;generalize grow S5 w6 w7=S7 at*
    walk_nrm;refine au.mu rfl rfl ?_;walk_nrm;refine au.fA ?_;refine uw _ _ _ _ _ _ _ S7 w7 ⟨⟨v',?_,hg7⟩,⟨?_,fun b hb=>by simp only[Value.ownBlock,fJ]at hb;exact hb▸Q7⟩,fun hx=>(by rw[hd]at hx;cases hx),arj,by rw[hd];exact ark,h4.rd,hn7,arf,by omega,fun b hb=>by have:=h4.ro b hb;omega⟩ Q8
    ·have e:p.log (l++[m])=(p.log l).closed m.p m.t m.c:=by simp[Pl.log,hd]
     rw[e];exact⟨N8.log.mono (by simp<;>omega),N8.l,N8.m,N8.r⟩
    ·have e:p.oz (l++[m])=l.map Ms.kC++[m.kC]:=by simp[Pl.oz,hd]
     rw[e];simpa using Q5
   ·
    rw[hd]at Cc;refine au.Rh rfl rfl (by decide) rfl func141 rfl rfl (by walk_nrm;rfl) (aq4 wC Df h4.rd Cc m) ?_;rintro y S5 w5 ⟨rfl,Bq,pU,Wi⟩;have Ce:p.oz l=[]:=by simp[Pl.oz,hd]
    have arl:=h4.nil hd;subst arl;walk_nrm;refine au.mute (.slice af 0 0) rfl rfl (by decide) (fun _=>by go_simp<;>rfl) (fun _=>by simp[go_sem]) ?_;walk_nrm;refine au.mu rfl rfl ?_;walk_nrm;refine au.fA ?_;refine uw _ _ _ _ _ _ _ S5 w5 ⟨⟨v,?_,by simp[Value.ownBlock]⟩,?_,fun _=>rfl,Dh JF h4.rd rG pU,by rw[hd];exact Dh Cc h4.rd rG pU,h4.rd,fun hx=>(pU.new _ hx).elim rG fun y=>by have:=mX JF;simp only at this;omega,pU.below Df,dP h4.base pU.size,fun b hb=>dY (h4.ro b hb) pU.size⟩<|zF.trans pU
    ·have e:p.log (l++[m])=p.log l:=by simp[Pl.log,hd]
     rw[e];exact⟨Bq.log.mono<|by simp,Bq.l,Bq.m,Bq.r⟩
    ·have e:p.oz (l++[m])=[]:=by simp[Pl.oz,hd]
     rw[e];have:=h4.oz;rw[Ce]at this;exact this.of (fun b hb=>pU.own b<|BZ b hb) fun k hk=>by simp[Value.ownBlock]at hk
  exact au.stop fun w1 hk=>⟨_,_,_,fU,fun w2 _=>jk w2,by simpa using ax4.rely hk,Kr.rely hk⟩
end Twin
end
end Go.Proofs.YtkelpcjiediamaaGreat
