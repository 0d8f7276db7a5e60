import Derived.Test.YtkelpcjiediamaaGreatQb4
set_option maxRecDepth 100000
set_option maxHeartbeats 0
set_option linter.all false
namespace Go.Proofs.YtkelpcjiediamaaGreat
def aCs:=@Go.wp_mono
def aC7:=@Go.Frame.mk.injEq
open Go renaming Frame→aV,Program→dO,Value→aj,World→ah,execOp→dJ,stepG→aW,undef→ag
open Option renaming none→af,some→ae
section
namespace ai
open Go Go.Conc
variable{B:bP}{P:dO}
def CW:Code->Bool
 | .ret=>false
 | .seq a b=>CW a&&CW b
 | .cond _ a b=>CW a&&CW b
 | .block _ a=>CW a
 | .loop a=>CW a
 | .scope _=>false
 | .goto _=>false
 |_=>true
def Bh(z:Bool)(c:Code):Prop:=z=true->CW c=true
inductive qo(z:Bool)(S:Code):Code->Code->Prop
 |cut {s:String} (c:Code):qo z S (.refuse s) c
 |stop:qo z S .ret S
 |same (c:Code) (h:Bh z c):qo z S c c
 |seq {a b a' b':Code}:qo z S a a'->qo z S b b'->qo z S (.seq a b) (.seq a' b')
 |cond {x:Operand} {a b a' b':Code}:qo z S a a'->qo z S b b'->qo z S (.cond x a b) (.cond x a' b')
 |block {id:Nat} {a a':Code}:qo z S a a'->qo z S (.block id a) (.block id a')
 |loop {a a':Code}:qo z S a a'->qo z S (.loop a) (.loop a')
def VN(z:Bool):Item->Prop
 | .code c=>Bh z c
 | .inLoop c=>Bh z c
 | .inScope _=>z=false
 |_=>True
variable{z:Bool}
theorem Bh.off(h:z=false)(c:Code):Bh z c:=fun e=>by rw[h]at e;cases e
theorem VN.off(h:z=false)(it:Item):VN z it:=by
 cases it<;>first|exact Bh.off h _|exact h|trivial
theorem Bh.two{a b c:Code}(h:Bh z c)(e:CW c=(CW a&&CW b)):Bh z a/\Bh z b:=by
 refine⟨fun hz=>?_,fun hz=>?_⟩<;>(have:=h hz;rw[e,lX]at this)
 ·exact this.1
 ·exact this.2
theorem Bh.bad{z:Bool}{c:Code}(h:Bh z c)(e:CW c=false):z=false:=by
 cases z with
 |false=>rfl
 |true=>rw[h rfl]at e;cases e
inductive NM(z:Bool)(S:Code):Item->Item->Prop
 |code {a b:Code}:qo z S a b->NM z S (.code a) (.code b)
 |loop {a b:Code}:qo z S a b->NM z S (.inLoop a) (.inLoop b)
 |same (it:Item) (h:∀c,it≠.code c) (hr:VN z it):NM z S it it
theorem NM.refl{z:Bool}{S:Code}(it:Item)(hr:VN z it):NM z S it it:=by
 by_cases h:∃c,it=.code c
 ·obtain⟨c,rfl⟩:=h;exact .code<|.same c hr
 ·exact .same it (fun c e=>h ⟨c,e⟩) hr
inductive qJ(z:Bool)(S:Code):List Item->List Item->Prop
 |nil:qJ z S [] []
 |cons {a b:Item} {l m:List Item}:NM z S a b->qJ z S l m->qJ z S (a::l) (b::m)
theorem aay{id:Nat}:∀{m x:List Item},exitTo id m=ae x->∀y∈x,y∈m
 |[],x,h=>by simp[exitTo]at h
 |a::m,x,h=>by
  cases a with
  |inBlock XZ=>
   simp only[exitTo]at h;split at h
   ·cases h;exact fun y hy=>Uw _ hy
   ·exact fun y hy=>Uw _<|aay h y hy
  |_=>
   simp only[exitTo]at h;exact fun y hy=>Uw _<|aay h y hy
variable{S a b c c':Code}{t:Array aj}{i d n:Nat}{D q r:List Nat}{x:Operand}{fn:FuncId}{ops:Array Oper}{fr uf f Gh:aV}{l m m' k:List Item}{yT fs NP cs cs2:List aV}{w w1:ah}{zx:Array Event}{Q:bP->aV->ah->Prop}
theorem QE{id:Nat}:∀{l m l':List Item},qJ z S l m->exitTo id l=ae l'->∃m',exitTo id m=ae m'/\qJ z S l' m'
 |[],_,_,.nil,h=>by simp[exitTo]at h
 |x::l,_::m,l',.cons hx ht,h=>by
  cases hx with
  |code=>
   simp only[exitTo]at h⊢
   exact QE ht h
  |loop=>
   simp only[exitTo]at h⊢
   exact QE ht h
  |same it _ hr=>
   cases x with
   |inBlock XZ=>
    simp only[exitTo]at h⊢
    split at h
    ·cases h;exact⟨m,by rw[if_pos ‹_›],ht⟩
    ·rw[if_neg ‹_›];exact QE ht h
   |_=>
    simp only[exitTo]at h⊢
    exact QE ht h
theorem QF{id:Nat}:∀{l m l':List Item},qJ z S l m->gotoIn id l=ae l'->∃m',gotoIn id m=ae m'/\qJ z S l' m'
 |[],_,_,.nil,h=>by simp[gotoIn]at h
 |x::l,_::m,l',.cons hx ht,h=>by
  cases hx with
  |code=>
   simp only[gotoIn]at h⊢
   exact QF ht h
  |loop=>
   simp only[gotoIn]at h⊢
   exact QF ht h
  |same it _ hr=>
   cases x with
   |inScope c=>
    simp only[gotoIn]at h⊢
    split at h
    ·rename_i c' yu;cases h;exact⟨_,rfl,.cons (.refl _<|.off hr _)<|.cons (.refl _<|.off hr _) ht⟩
    ·exact QF ht h
   |_=>
    simp only[gotoIn]at h⊢
    exact QF ht h
def jr:List (Nat×aj)->Array aj->Array aj
 |[],t=>t
 |x::r,t=>(jr r t).setIfInBounds x.1 x.2
def yU(D:List Nat):Operand->Bool
 | .tmp n=>!D.contains n
 |_=>true
def QG(D:List Nat):Op->Bool
 | .move x| .assign x| .load _ x| .box _ x| .nilCheck x| .unOp _ _ x| .fieldAddr _ x _| .extract x _=>yU D x
 | .binOp _ _ x y _| .indexAddr _ x y=>yU D x&&yU D y
 | .pick x y z=>yU D x&&yU D y&&yU D z
 | .call c=>(match c.callee with| .value f=>yU D f| .builtin _=>true|_=>false)&&c.args.all (yU D)
 |_=>false
def IE(D:List Nat)(o:Oper):Bool:=QG D o.op&&(match o.dst with|some d=>!D.contains d|none=>true)
def qK(D:List Nat):Code->Bool
 | .seq a b=>qK D a&&qK D b
 | .cond x a b=>yU D x&&qK D a&&qK D b
 | .block _ a=>qK D a
 | .loop a=>qK D a
 | .region _ ops _=>ops.all<|IE D
 | .skip| .ret| .exit _| .refuse _| .label _=>true
 |_=>false
def wP(D:List Nat):Item->Bool
 | .code c=>qK D c
 | .inLoop c=>qK D c
 | .inRegion ops _=>ops.all<|IE D
 | .inBlock _=>true
 |_=>false
def lS(D:List Nat)(it:Item):Prop:=D=[]\/wP D it=true
def jy(ov:List (Nat×aj)):List Nat:=ov.map Prod.fst
theorem aaz:∀{ov:List (Nat×aj)},(jy ov).contains i=false->(jr ov t)[i]? =t[i]?
 |[],_=>rfl
 |x::r,h=>by
  simp only[jy,yM,List.contains_cons,Bool.or_eq_false_iff,beq_eq_false_iff_ne]at h;simp only[jr];rw[gu<|iI h.1];exact aaz h.2
theorem agf{v:aj}:∀{ov:List (Nat×aj)},(jy ov).contains d=false->jr ov (t.setIfInBounds d v)=(jr ov t).setIfInBounds d v
 |[],_=>rfl
 |x::r,h=>by
  simp only[jy,yM,List.contains_cons,Bool.or_eq_false_iff,beq_eq_false_iff_ne]at h;simp only[jr];rw[agf h.2,adE _ _ h.1]
theorem lS.two{a b c:Item}(h:lS D c)(e:wP D c=true->wP D a=true/\wP D b=true):lS D a/\lS D b:=by
 rcases h with h|h
 ·exact⟨.inl h,.inl h⟩
 ·exact⟨.inr (e h).1,.inr (e h).2⟩
theorem lS.one{a c:Item}(h:lS D c)(e:wP D c=true->wP D a=true):lS D a:=h.imp id e
theorem VO:wP D (.code<|.seq a b)=true->wP D (.code a)=true/\wP D (.code b)=true:=fun h=>by
 simpa[wP,qK]using h
theorem VP:wP D (.code<|.cond x a b)=true->wP D (.code a)=true/\wP D (.code b)=true:=fun h=>by
 simp only[wP,qK,lX]at h;exact⟨h.1.2,h.2⟩
theorem agh{ov:List (Nat×aj)}{a b:List Item}(h:yU (jy ov) x=true):Frame.eval ⟨fn,jr ov t,a,[],.run,.normal,af⟩ x=Frame.eval ⟨fn,t,b,[],.run,.normal,af⟩ x:=by
 cases x with
 |tmp n=>
  have:(jr ov t)[n]? =t[n]? :=aaz (by simpa[yU]using h);simp[Frame.eval,this]
 |_=>rfl
variable{ov:List (Nat×aj)}
theorem aaA(h:jy ov=[]):ov=[]:=by
 cases ov with
 |nil=>rfl
 |cons x r=>simp[jy]at h
theorem agi{a b:List Item}(h:jy ov=[]\/yU (jy ov) x=true):Frame.eval ⟨fn,jr ov t,a,[],.run,.normal,af⟩ x=Frame.eval ⟨fn,t,b,[],.run,.normal,af⟩ x:=by
 rcases h with h|h
 ·rw[aaA h];cases x<;>rfl
 ·exact agh h
theorem agj(h:lS (jy ov) (.code<|.cond x a b)):jy ov=[]\/yU (jy ov) x=true:=h.imp id fun h=>by
 simp only[wP,qK,lX]at h;exact h.1.1
theorem agk(h:lS (jy ov) (.inRegion ops q)):yielded ops (jr ov t)=yielded ops t:=by
 rcases h with h|h
 ·rw[aaA h];rfl
 ·funext j;unfold yielded;cases ho:ops[j]? with
  |none=>rfl
  |some o=>
   obtain⟨hi,rfl⟩:=iU.1 ho;have:=(Fz.1<|show ops.all (IE<|jy ov)=true from h) j hi;simp only[IE,lX]at this;cases hd:ops[j].dst with
   |none=>simp[hd]
   |some d=>
    rw[hd]at this;have hg:(jr ov t)[d]? =t[d]? :=aaz (by simpa using this.2);simp[hd,hg]
theorem apI{ρ ρ':Operand->aj}{o:Oper}(h:QG D o.op=true)(he:∀x,yU D x=true->ρ' x=ρ x):dJ ρ' o=dJ ρ o:=by
 unfold dJ;cases ho:o.op with
 |move x|assign x|load t x|box t x|nilCheck x|unOp u t x|fieldAddr t x f|extract x i=>
  rw[ho]at h;simp only[he x h]
 |binOp p t x y t'|indexAddr t x y=>
  rw[ho]at h;simp only[QG,lX]at h;simp only[he x h.1,he y h.2]
 |pick x y u=>
  rw[ho]at h;simp only[QG,lX]at h;simp only[he x h.1.1,he y h.1.2,he u h.2]
 |call c=>
  rw[ho]at h;simp only[QG,lX]at h;have ha:c.args.map ρ'=c.args.map ρ:=alg fun x hx=>he x<|ak8.1 h.2 x hx;obtain⟨callee,args,kP⟩:=c;cases callee with
  |value f=>simp only[resolve,he f h.1,show args.map ρ'=args.map ρ from ha]
  |builtin b=>simp only[resolve,show args.map ρ'=args.map ρ from ha]
  |invoke r n=>cases h.1
 |_=>rw[ho]at h;first|cases h|done
def put(ov:List (Nat×aj))(fr:aV)(l:List Item):Frame:={fr with todo:=l,tmps:=jr ov fr.tmps}
def VQ(ov:List (Nat×aj))(z:Bool)(S:Code)(P:dO)(fr:aV)(l:List Item)(w:ah)(n:Nat)(uf:aV)(yT:List aV)(w1:ah)(zx:Array Event):Prop:=
 (∃kJ l2,yT=[]/\uf=more k0 kJ/\qJ z S kJ.todo l2/\(z=true->kJ.mode=.run)/\(∀it∈kJ.todo,lS (jy ov) it)/\∀k cs t d,aar n w t d->aW P true {frame:=more k<|put ov fr l,callers:=cs,status:=.running,dying:=af} (re w t d)=.go {frame:=more k<|put ov kJ l2,callers:=cs,status:=.running,dying:=af} (re w1 t<|d+n) zx)\/
 (yT=[more k0 fr]/\rC fr/\∀k cs t d,aar n w t d->aW P true {frame:=more k<|put ov fr l,callers:=cs,status:=.running,dying:=af} (re w t d)=.go {frame:=uf,callers:=more k (put ov fr l)::cs,status:=.running,dying:=af} (re w1 t<|d+n) zx)
theorem agl{kJ:aV}{l2:List Item}(hS:xI B P (more k0 fr) [] w n (.next uf yT w1 zx))(hc:qJ z S kJ.todo l2)(hz:z=true->kJ.mode=.run)(DK:∀it∈kJ.todo,lS (jy ov) it)
 (h0:∀w cs,aW P true {frame:=more k0 fr,callers:=cs,status:=.running,dying:=af} w=.go {frame:=more k0 kJ,callers:=cs,status:=.running,dying:=af} w #[])
 (he:∀k w cs,aW P true {frame:=more k<|put ov fr l,callers:=cs,status:=.running,dying:=af} w=.go {frame:=more k<|put ov kJ l2,callers:=cs,status:=.running,dying:=af} w #[]):VQ ov z S P fr l w n uf yT w1 zx:=by
 have h:=hS.eq w.tape w.drawn (fun i _=>rfl) [];simp only[h0,TS.mF,qh,GStep.go.injEq,aCd]at h;obtain⟨⟨h1,h2,_⟩,h3,h4⟩:=h;have hn:n=0:=by
  have:=eP World.drawn h3;simp only[re]at this;omega
 subst hn;refine .inl ⟨kJ,l2,h2.symm,h1.symm,hc,hz,DK,fun k cs t d _=>?_⟩;rw[he,<-h4,VM h3 t d];rfl
theorem apJ(h:lS (jy ov) (.inRegion ops q))(hd:(ops[i]?).bind (·.dst)=ae d):(jy ov).contains d=false:=by
 rcases h with h|h
 ·rw[h];rfl
 ·cases ho:ops[i]? with
  |none=>rw[ho]at hd;cases hd
  |some o=>
   rw[ho]at hd;obtain⟨hi,rfl⟩:=iU.1 ho;have:=(Fz.1<|show ops.all (IE<|jy ov)=true from h) i hi;have Hf:ops[i].dst=ae d:=hd;simp only[IE,Hf,lX,Bool.not_eq_true']at this;exact this.2
theorem apK(ht:fr.todo=.inRegion ops (i::r)::m)(hM:lS (jy ov) (.inRegion ops<|i::r))(v:aj):(put ov fr<|.inRegion ops (i::r)::m').finish v=put ov (fr.finish v) (.inRegion ops r::m'):=by
 obtain⟨fn,tmps,todo,defers,mode,kind,round⟩:=fr;obtain rfl:todo=_:=ht;simp only[put,Frame.finish];cases hd:(ops[i]?).bind (·.dst)with
 |none=>simp
 |some d=>simp[agf<|apJ hM hd]
theorem aaB(ht:fr.todo=.inRegion ops (i::r)::m)(hm:qJ z S m m')(hM:lS (jy ov) (.inRegion ops<|i::r))(v:aj):(put ov fr<|.inRegion ops (i::r)::m').finish v=put ov (fr.finish v) (.inRegion ops r::m')/\qJ z S (fr.finish v).todo (.inRegion ops r::m'):=by
 refine⟨apK ht hM v,?_⟩;obtain⟨fn,tmps,todo,defers,mode,kind,round⟩:=fr;obtain rfl:todo=_:=ht;simp only[Frame.finish];exact .cons (.refl _ trivial) hm
theorem VR(ht:fr.todo=.inRegion ops (i::r)::m)(hM:∀it∈fr.todo,lS D it)(v:aj):∀it∈(fr.finish v).todo,lS D it:=by
 obtain⟨fn,tmps,todo,defers,mode,kind,round⟩:=fr;obtain rfl:todo=_:=ht;intro it iY;simp only[Frame.finish,jC]at iY;rcases iY with rfl|iY
 ·exact(hM (.inRegion ops<|i::r)<|by simp).one id
 ·exact hM it<|by simp[iY]
theorem apL{s:Sem Next}(hS:xI B P (more k0 fr) [] w n (.next uf yT w1 zx))(ht:fr.todo=.inRegion ops (i::r)::m)(hl:l=.inRegion ops (i::r)::m')(hm:qJ z S m m')(h:eU B P fr)(uI:∀it∈fr.todo,lS (jy ov) it)(hz:∀v,z=true->(fr.finish v).mode=.run)(hw:OkW B w)(hc:Clean B P (En B) s)
 (eq0:∀w cs,aW P true {frame:=more k0 fr,callers:=cs,status:=.running,dying:=af} w=stepG.apply P true (more k0 fr) cs af s w)
 (eq:∀k w cs,aW P true {frame:=more k<|put ov fr l,callers:=cs,status:=.running,dying:=af} w=stepG.apply P true (more k<|put ov fr l) cs af s w):VQ ov z S P fr l w n uf yT w1 zx:=by
 have uY:rC fr:=⟨_,_,_,_,ht⟩;have X7:rC (put ov fr l):=⟨ops,i,r,m',hl⟩;obtain⟨n',rr,gs,h1,h2⟩:=hc.Iz hw;have NQ:((more k0 fr).kind== .early)=false:=by
  show(fr.kind== .early)=false;rw[h.kind];rfl
 have wu:∀k,((more k<|put ov fr l).kind== .early)=false:=fun k=>by
  show(fr.kind== .early)=false;rw[h.kind];rfl
 have X8:lS (jy ov) (.inRegion ops<|i::r):=uI _ (by rw[ht];simp);have yB:∀v,(put ov fr l).finish v=put ov (fr.finish v) (.inRegion ops r::m')/\qJ z S (fr.finish v).todo (.inRegion ops r::m'):=fun v=>by
  rw[hl];exact aaB ht hm X8 v
 have oK:=hS.eq w.tape w.drawn (fun i _=>rfl) [];rw[wI,eq0]at oK;cases rr with
 |ok nx w'=>
  cases nx with
  |value v=>
   unfold stepG.apply at oK;simp only[if_true,h1 w.tape w.drawn (fun i _=>rfl) #[],Result.re,NQ,lq,lu,GStep.after,TS.mF,tN,tK,qh,GStep.go.injEq,aCd]at oK;obtain⟨⟨k1,k2,_⟩,k3,k4⟩:=oK;have hn:n'=n:=by
    have:=eP World.drawn k3;simp only[re]at this;omega
   subst hn;refine .inl ⟨fr.finish v,_,k2.symm,by rw[<-IC uY];exact k1.symm,(yB v).2,hz v,VR ht uI v,fun k cs t d ha=>?_⟩;rw[eq];unfold stepG.apply;simp only[if_true,h1 t d ha #[],Result.re,wu,lq,lu,GStep.after,tN,tK];rw[IC X7,(yB v).1,VM k3 t<|d+n',<-k4];rfl
  |skip=>
   unfold stepG.apply at oK;simp only[if_true,h1 w.tape w.drawn (fun i _=>rfl) #[],Result.re,NQ,lq,lu,GStep.after,TS.mF,tN,tK,qh,GStep.go.injEq,aCd]at oK;obtain⟨⟨k1,k2,_⟩,k3,k4⟩:=oK;have hn:n'=n:=by
    have:=eP World.drawn k3;simp only[re]at this;omega
   subst hn;refine .inl ⟨fr.finish ag,_,k2.symm,by rw[<-IC uY];exact k1.symm,(yB ag).2,hz ag,VR ht uI ag,fun k cs t d ha=>?_⟩;rw[eq];unfold stepG.apply;simp only[if_true,h1 t d ha #[],Result.re,wu,lq,lu,GStep.after,tN,tK];rw[IC X7,(yB ag).1,VM k3 t<|d+n',<-k4];rfl
  |enter f args=>
   unfold stepG.apply at oK;simp only[if_true,h1 w.tape w.drawn (fun i _=>rfl) #[],Result.re,NQ,lq,lu,GStep.after,TS.mF,tN,tK,qh,GStep.go.injEq,aCd]at oK;obtain⟨⟨k1,k2,_⟩,k3,k4⟩:=oK;have hn:n'=n:=by
    have:=eP World.drawn k3;simp only[re]at this;omega
   subst hn;refine .inr ⟨k2.symm,uY,fun k cs t d ha=>?_⟩;rw[eq];unfold stepG.apply;simp only[if_true,h1 t d ha #[],Result.re,wu,lq,lu,GStep.after,tN,tK];have uV:(more k<|put ov fr l).todo=.inRegion ops (i::r)::(m'++k):=by simp[more,put,hl]
   have DN:(more k0 fr).todo=.inRegion ops (i::r)::(m++k0):=by simp[more,ht]
   rw[VM k3 t<|d+n',<-k4,<-k1];simp only[uV,DN];rfl
  |_=>exact h2.1.elim
 |halt x w'=>
  have X9:=hS.zV.1.mode;unfold stepG.apply at oK;cases x with
  |panic z=>
   simp only[if_true,h1 w.tape w.drawn (fun i _=>rfl) #[],Result.re,NQ,lq,lu,GStep.after,TS.mF,tN,tK,qh,GStep.go.injEq,aCd]at oK;obtain⟨⟨k1,_⟩,_⟩:=oK;rw[<-k1]at X9;have hm:(more k0 fr).mode=fr.mode:=rfl;rcases h.mode with BU|BU<;>simp[Frame.raise,hm,BU]at X9
  |stuck z=>
   simp only[if_true,h1 w.tape w.drawn (fun i _=>rfl) #[],Result.re,NQ,lq,lu,GStep.after,TS.mF]at oK;cases oK
  |unsupported u=>
   cases u<;>first
    |exact h2.elim
    |(simp only[if_true,h1 w.tape w.drawn (fun i _=>rfl) #[],Result.re,NQ,lq,lu,GStep.after,TS.mF]at oK
      cases oK)
  |_=>exact h2.elim
theorem apN(L:nI B P)(hS:xI B P (more k0 fr) [] w n (.next uf yT w1 zx))(hcut:qJ z S fr.todo l)(hns:∀m m',fr.todo=.code .ret::m->l=.code S::m'->S=.ret)(Hg:z=true->S≠.ret)(uI:∀it∈fr.todo,lS (jy ov) it)(h:eU B P fr)(fU:fr.mode=.run)(hw:OkW B w):VQ ov z S P fr l w n uf yT w1 zx:=by
 have dA:=h;obtain⟨fn,tmps,todo,defers,mode,kind,round⟩:=fr;obtain rfl:round=none:=h.round;obtain rfl:defers=[]:=h.defers;obtain rfl:kind=.normal:=h.kind;obtain rfl:mode=.run:=fU;have axy:qJ z S todo l:=hcut;clear hcut;replace uI:∀it∈todo,lS (jy ov) it:=uI;cases axy with
 |nil=>exact Kw hS ⟨_,_,by simp[more,k0,aW,stepG.exec];exact⟨rfl,rfl⟩⟩
 | @cons it it' m m' hI hm=>
   have iY:=h.todo it (by simp);have ni:lS (jy ov) it:=uI it (by simp);have IG:∀x∈m,lS (jy ov) x:=fun x hx=>uI x (by simp[hx]);have plain:∀(x x':List Item) (md:FrameMode),(z=true->md=.run)->(∀y∈x,lS (jy ov) y)->qJ z S x x'->(∀k w cs,aW P true {frame:=⟨fn,tmps,it::(m++k),[],.run,.normal,af⟩,callers:=cs,status:=.running,dying:=af} w=.go {frame:=⟨fn,tmps,x++k,[],md,.normal,af⟩,callers:=cs,status:=.running,dying:=af} w #[])->(∀k w cs,aW P true {frame:=⟨fn,jr ov tmps,it'::(m'++k),[],.run,.normal,af⟩,callers:=cs,status:=.running,dying:=af} w=.go {frame:=⟨fn,jr ov tmps,x'++k,[],md,.normal,af⟩,callers:=cs,status:=.running,dying:=af} w #[])->VQ ov z S P ⟨fn,tmps,it::m,[],.run,.normal,af⟩ (it'::m') w n uf yT w1 zx:=fun x x' md Tv pG hx e0 ek=>
    agl (kJ:=⟨fn,tmps,x,[],md,.normal,af⟩) (l2:=x') hS hx Tv pG (e0 k0) ek
   have two:∀{a b:Item},lS (jy ov) a->lS (jy ov) b->∀y∈a::b::m,lS (jy ov) y:=fun ha hb y hy=>by
    rcases jC.1 hy with rfl|hy
    ·exact ha
    rcases jC.1 hy with rfl|hy
    ·exact hb
    ·exact IG y hy
   have one:∀{a:Item},lS (jy ov) a->∀y∈a::m,lS (jy ov) y:=fun ha y hy=>by
    rcases jC.1 hy with rfl|hy
    ·exact ha
    ·exact IG y hy
   cases hI with
   | @loop a a' hc=>exact plain (.code a:: .inLoop a::m) (.code a':: .inLoop a'::m') .run (fun _=>rfl) (two (a:=.code a) (b:=.inLoop a) (ni.one fun e=>e) ni) (.cons (.code hc)<|.cons (.loop hc) hm) (fun k w cs=>by simp[aW,stepG.exec]) fun k w cs=>by simp[aW,stepG.exec]
   |code hc=>
    cases hc with
    |cut c=>exact Kw hS ⟨_,_,by simp[more,aW,stepG.exec];exact⟨rfl,rfl⟩⟩
    |stop=>
     obtain rfl:S=.ret:=hns m m' rfl rfl;exact plain (.code .ret::m) (.code .ret::m') .returning (fun hz=>absurd rfl<|Hg hz) (one<|.inr rfl) (.cons (.code .stop) hm) (fun k w cs=>by simp[aW,stepG.exec]) fun k w cs=>by simp[aW,stepG.exec]
    |seq ha hb=>exact plain (.code _:: .code _::m) (.code _:: .code _::m') .run (fun _=>rfl) (two (ni.two VO).1 (ni.two VO).2) (.cons (.code ha)<|.cons (.code hb) hm) (fun k w cs=>by simp[aW,stepG.exec]) fun k w cs=>by simp[aW,stepG.exec]
    | @block id a a' ha=>exact plain (.code a:: .inBlock id::m) (.code a':: .inBlock id::m') .run (fun _=>rfl) (two (ni.one fun e=>e)<|.inr rfl) (.cons (.code ha)<|.cons (.refl _ trivial) hm) (fun k w cs=>by simp[aW,stepG.exec]) fun k w cs=>by simp[aW,stepG.exec]
    | @loop a a' ha=>exact plain (.code a:: .inLoop a::m) (.code a':: .inLoop a'::m') .run (fun _=>rfl) (two (a:=.code a) (b:=.inLoop a) (ni.one fun e=>e)<|ni.one fun e=>e) (.cons (.code ha)<|.cons (.loop ha) hm) (fun k w cs=>by simp[aW,stepG.exec]) fun k w cs=>by simp[aW,stepG.exec]
    | @cond x a b a' b' ha hb=>
      have dI:∀y,Frame.eval ⟨fn,tmps,y,[],.run,.normal,af⟩ x=Frame.eval ⟨fn,tmps,[],[],.run,.normal,af⟩ x:=fun y=>by cases x<;>rfl
      have aaC:∀y,Frame.eval ⟨fn,jr ov tmps,y,[],.run,.normal,af⟩ x=Frame.eval ⟨fn,tmps,[],[],.run,.normal,af⟩ x:=fun y=>agi<|agj ni;by_cases hc:∃t,Frame.eval ⟨fn,tmps,[],[],.run,.normal,af⟩ x=.bool t
      ·obtain⟨t,ht⟩:=hc;refine plain (.code (if t then a else b)::m) (.code (if t then a' else b')::m') .run (fun _=>rfl) (one (by cases t;exact(ni.two VP).2;exact(ni.two VP).1)) (.cons (.code (by cases t;exact hb;exact ha)) hm) (fun k w cs=>by simp[aW,stepG.exec,dI,ht]) fun k w cs=>by simp[aW,stepG.exec,aaC,ht]
      ·refine Kw hS ⟨.stuck "cond: bool expected"<|Frame.pos P<|more k0 ⟨fn,tmps,.code (.cond x a b)::m,[],.run,.normal,af⟩,re w w.tape w.drawn,?_⟩;simp only[more,aW,stepG.exec,mV];split
       ·rename_i ht;exact absurd ⟨_,(dI _).symm.trans ht⟩ hc
       ·rfl
    |same=>
     rename_i c hR;cases c with
     |skip=>exact plain m m' .run (fun _=>rfl) IG hm (fun k w cs=>by simp[aW,stepG.exec]) fun k w cs=>by simp[aW,stepG.exec]
     |label l1=>exact plain m m' .run (fun _=>rfl) IG hm (fun k w cs=>by simp[aW,stepG.exec]) fun k w cs=>by simp[aW,stepG.exec]
     |seq a b=>exact plain (.code a:: .code b::m) (.code a:: .code b::m') .run (fun _=>rfl) (two (ni.two VO).1 (ni.two VO).2) (.cons (.refl _ (hR.two rfl).1)<|.cons (.refl _ (hR.two rfl).2) hm) (fun k w cs=>by simp[aW,stepG.exec]) fun k w cs=>by simp[aW,stepG.exec]
     |block id b=>exact plain (.code b:: .inBlock id::m) (.code b:: .inBlock id::m') .run (fun _=>rfl) (two (a:=.code b) (b:=.inBlock id) (ni.one fun e=>e)<|.inr rfl) (.cons (.refl _ hR)<|.cons (.refl _ trivial) hm) (fun k w cs=>by simp[aW,stepG.exec]) fun k w cs=>by simp[aW,stepG.exec]
     |loop b=>exact plain (.code b:: .inLoop b::m) (.code b:: .inLoop b::m') .run (fun _=>rfl) (two (a:=.code b) (b:=.inLoop b) (ni.one fun e=>e)<|ni.one fun e=>e) (.cons (.refl _ hR)<|.cons (.refl _ hR) hm) (fun k w cs=>by simp[aW,stepG.exec]) fun k w cs=>by simp[aW,stepG.exec]
     |scope b=>exact plain (.code b:: .inScope b::m) (.code b:: .inScope b::m') .run (fun _=>rfl) (two (ni.one fun e=>by cases e)<|ni.one fun e=>by cases e) (.cons (.refl _<|.off (hR.bad rfl) _)<|.cons (.refl _<|.off (hR.bad rfl) _) hm) (fun k w cs=>by simp[aW,stepG.exec]) fun k w cs=>by simp[aW,stepG.exec]
     |cond c a b=>
      have dI:∀x,Frame.eval ⟨fn,tmps,x,[],.run,.normal,af⟩ c=Frame.eval ⟨fn,tmps,[],[],.run,.normal,af⟩ c:=fun x=>by cases c<;>rfl
      have aaC:∀x,Frame.eval ⟨fn,jr ov tmps,x,[],.run,.normal,af⟩ c=Frame.eval ⟨fn,tmps,[],[],.run,.normal,af⟩ c:=fun x=>agi<|agj ni;by_cases hc:∃t,Frame.eval ⟨fn,tmps,[],[],.run,.normal,af⟩ c=.bool t
      ·obtain⟨t,ht⟩:=hc;exact plain (.code (if t then a else b)::m) (.code (if t then a else b)::m') .run (fun _=>rfl) (one (by cases t;exact(ni.two VP).2;exact(ni.two VP).1)) (.cons (.refl _ (by cases t;exact(hR.two rfl).2;exact(hR.two rfl).1)) hm) (fun k w cs=>by simp[aW,stepG.exec,dI,ht]) fun k w cs=>by simp[aW,stepG.exec,aaC,ht]
      ·refine Kw hS ⟨.stuck "cond: bool expected"<|Frame.pos P<|more k0 ⟨fn,tmps,.code (.cond c a b)::m,[],.run,.normal,af⟩,re w w.tape w.drawn,?_⟩;simp only[more,aW,stepG.exec,mV];split
       ·rename_i ht;exact absurd ⟨_,(dI _).symm.trans ht⟩ hc
       ·rfl
     |exit id=>
      cases he:exitTo id m with
      |some x=>
       obtain⟨x',gq,pG⟩:=QE hm he;exact plain x x' .run (fun _=>rfl) (fun y hy=>IG y<|aay he y hy) pG (fun k w cs=>by simp[aW,stepG.exec,VK he]) fun k w cs=>by simp[aW,stepG.exec,VK gq]
      |none=>exact Kw hS ⟨_,_,by simp[more,aW,stepG.exec,aaw he];exact⟨rfl,rfl⟩⟩
     |goto l1=>
      cases he:gotoIn l1 m with
      |some x=>
       obtain⟨x',gq,pG⟩:=QF hm he;exact plain x x' .run (fun _=>rfl) (fun y hy=>.inl<|ni.resolve_right<|by simp[wP,qK]) pG (fun k w cs=>by simp[aW,stepG.exec,VL he]) fun k w cs=>by simp[aW,stepG.exec,VL gq]
      |none=>exact Kw hS ⟨_,_,by simp[more,aW,stepG.exec,aax he];exact⟨rfl,rfl⟩⟩
     |rangeFunc _ _ _ _=>simp[ql,codeOk]at iY
     |ret=>exact plain (.code .ret::m) (.code .ret::m') .returning (fun hz=>by have:=hR.bad rfl;rw[hz]at this;cases this) (one<|.inr rfl) (.cons (.refl _ hR) hm) (fun k w cs=>by simp[aW,stepG.exec]) fun k w cs=>by simp[aW,stepG.exec]
     |refuse s=>exact Kw hS ⟨_,_,by simp[more,aW,stepG.exec];exact⟨rfl,rfl⟩⟩
     |region id ops draw=>
      cases draw with
      |false=>exact plain (.inRegion ops (List.range ops.size)::m) (.inRegion ops (List.range ops.size)::m') .run (fun _=>rfl) (one (a:=.inRegion ops<|List.range ops.size)<|ni.one fun e=>e) (.cons (.refl _ trivial) hm) (fun k w cs=>by simp[aW,stepG.exec]) fun k w cs=>by simp[aW,stepG.exec]
      |true=>
       have oK:=hS.eq w.tape w.drawn (fun i _=>rfl) [];simp only[more,aW,stepG.exec,MW,lq,lu,choose,Sem.run,Question.forced,TS.mF,qh,mV,GStep.go.injEq,aCd]at oK;simp only[re]at oK;obtain⟨⟨k1,k2,_⟩,k3,k4⟩:=oK;have hn:n=1:=by
        have:=eP World.drawn k3;simp only at this;omega
       subst hn;refine .inl ⟨⟨fn,tmps,.inRegion ops (Region.schedule (P.follows .mixedOrders) ops<|Question.cut (.order fn id)<|w.tape w.drawn<|.order fn id)::m,[],.run,.normal,af⟩,.inRegion ops (Region.schedule (P.follows .mixedOrders) ops<|Question.cut (.order fn id)<|w.tape w.drawn<|.order fn id)::m',k2.symm,k1.symm,.cons (.refl _ trivial) hm,fun _=>rfl,one<|ni.one fun e=>e,fun k cs t d ha=>?_⟩;have h0:=ha 0 (by omega);simp only[JM]at h0;simp only[more,put,aW,stepG.exec,MW,lq,lu,choose,Sem.run,Question.forced,mV];simp only[re,h0];have e1:=eP World.heap k3;have e2:=eP World.os k3;have e3:=eP World.output k3;simp only at e1 e2 e3;rw[<-k4,e1,e2,e3]
   |same _ hnc hr=>
    cases it with
    |inBlock id=>exact plain m m' .run (fun _=>rfl) IG hm (fun k w cs=>by simp[aW,stepG.exec]) fun k w cs=>by simp[aW,stepG.exec]
    |inScope c=>exact plain m m' .run (fun _=>rfl) IG hm (fun k w cs=>by simp[aW,stepG.exec]) fun k w cs=>by simp[aW,stepG.exec]
    |inLoop c=>exact plain (.code c:: .inLoop c::m) (.code c:: .inLoop c::m') .run (fun _=>rfl) (two (a:=.code c) (b:=.inLoop c) (ni.one fun e=>e) ni) (.cons (.refl _ hr)<|.cons (.refl _ hr) hm) (fun k w cs=>by simp[aW,stepG.exec]) fun k w cs=>by simp[aW,stepG.exec]
    |inRegion ops todo=>
     cases todo with
     |nil=>exact plain m m' .run (fun _=>rfl) IG hm (fun k w cs=>by simp[aW,stepG.exec]) fun k w cs=>by simp[aW,stepG.exec]
     |cons i r=>
      by_cases EU:((ops[i]?).map (Region.wanted · (yielded ops tmps))).getD false=true
      ·cases ho:ops[i]? with
       |none=>rw[ho]at EU;simp at EU
       |some o=>
        have bD:ry P B.let_ o.op=true:=by
         simp only[ql]at iY;obtain⟨hi,rfl⟩:=iU.1 ho;exact(Fz.1 iY) i hi
        have uy:Region.wanted o (yielded ops tmps)=true:=by simpa[ho]using EU
        refine apL (s:=dJ (Frame.eval ⟨fn,tmps,.inRegion ops (i::r)::m,[],.run,.normal,af⟩) o) hS rfl rfl hm dA uI (fun _ _=>rfl) hw (aal L.toFit L.aan (dA.env L.toFit) bD) (fun w cs=>?_) fun k w cs=>?_
        ·simp[more,aW,stepG.exec,stepG.oper,Frame.oper?,ho,uy];rfl
        ·have hwO:Region.wanted o (yielded ops<|jr ov tmps)=true:=by rw[agk ni];exact uy
         have hxO:∀y y',dJ (Frame.eval ⟨fn,jr ov tmps,y,[],.run,.normal,af⟩) o=dJ (Frame.eval ⟨fn,tmps,y',[],.run,.normal,af⟩) o:=fun y y'=>by
          rcases ni with hD|hD
          ·rw[aaA hD];exact eP (fun ρ=>dJ ρ o)<|funext fun x=>by cases x<;>rfl
          ·obtain⟨hi,rfl⟩:=iU.1 ho;have hA:=(Fz.1<|show ops.all (IE<|jy ov)=true from hD) i hi;simp only[IE,lX]at hA;exact apI hA.1 fun x hx=>agh hx
         simp[more,put,aW,stepG.exec,stepG.oper,Frame.oper?,ho,hwO];rw[hxO]
      ·obtain⟨f1,f2⟩:=aaB (ov:=ov) (fr:=⟨fn,tmps,.inRegion ops (i::r)::m,[],.run,.normal,af⟩) rfl hm ni ag;refine agl (kJ:=Frame.finish ⟨fn,tmps,.inRegion ops (i::r)::m,[],.run,.normal,af⟩ ag) (l2:=.inRegion ops r::m') hS f2 (fun _=>rfl) (VR (fr:=⟨fn,tmps,.inRegion ops (i::r)::m,[],.run,.normal,af⟩) rfl uI ag) (fun w cs=>?_) (fun k w cs=>?_)
       ·rw[<-IC ⟨_,_,_,_,rfl⟩];simp only[more,aW,stepG.exec,mV];exact if_neg EU
       ·rw[<-f1,<-IC ⟨ops,i,r,m',rfl⟩];simp only[more,put,aW,stepG.exec,mV];exact if_neg (by rw[agk ni];exact EU)
    |code c=>exact absurd rfl<|hnc c
    |_=>simp[ql]at iY
def SwC(ov:List (Nat×aj))(z:Bool)(S:Code)(k:List Item)(fr:aV)(fs:List aV)(fr':aV)(kN:List aV):Prop:=
 (∃f l,fs=[]/\kN=[]/\fr=more k0 f/\qJ z S f.todo l/\(z=true->f.mode=.run)/\(∀it∈f.todo,lS (jy ov) it)/\fr'=more k (put ov f l))\/∃f l gs,fr'=fr/\fs=gs++[more k0 f]/\qJ z S f.todo l/\(z=true->f.mode=.run)/\(∀it∈f.todo,lS (jy ov) it)/\kN=gs++[more k<|put ov f l]/\rC f
theorem apQ(uY:rC f)(hc:qJ z S f.todo l)(hM:∀it∈f.todo,lS (jy ov) it)(k:List Item)(v:aj):∃l2,qJ z S (f.finish v).todo l2/\(more k<|put ov f l).finish v=more k (put ov (f.finish v) l2):=by
 obtain⟨ops,i,r,m,ht⟩:=uY;rw[ht]at hc;cases hc with
 |cons hI hm=>
  cases hI with
  |same=>
   obtain⟨f1,f2⟩:=aaB ht hm (hM _ (by rw[ht];simp)) v;exact⟨_,f2,by rw[IC ⟨ops,i,r,_,rfl⟩,f1]⟩
theorem apR(uY:rC f)(v:aj):(f.finish v).mode=f.mode:=by
 obtain⟨fn,tmps,todo,defers,mode,kind,round⟩:=f;obtain⟨ops,i,r,m,ht⟩:=uY;obtain rfl:todo=_:=ht;rfl
theorem apS(L:nI B P)(hS:xI B P fr fs w n (.next uf yT w1 zx))(LY:SwC ov z S k fr fs Gh NP)(hns:∀f l,fs=[]->fr=more k0 f->Gh=more k (put ov f l)->∀m m',f.todo=.code .ret::m->l=.code S::m'->S=.ret)(Hg:z=true->S≠.ret)(h:eU B P fr)(hw:OkW B w)(hb:Gg fr fs)(cs:List aV):
 ∃VS VT,SwC ov z S k uf yT VS VT/\aW P true {frame:=Gh,callers:=NP++cs,status:=.running,dying:=af} w=.go {frame:=VS,callers:=VT++cs,status:=.running,dying:=af} (re w1 w.tape<|w.drawn+n) zx:=by
 have oK:=fun cs=>hS.eq w.tape w.drawn (fun i _=>rfl) cs;have Tz:re w w.tape w.drawn=w:=afu w;rw[Tz]at oK;rcases LY with⟨f,l,rfl,rfl,rfl,mP,hz,uI,rfl⟩|⟨f,l,gs,rfl,rfl,mP,hz,uI,rfl,uY⟩
 ·have hm:f.mode=.run:=by
   rcases hb with hb|hb
   ·exact hb
   ·exact absurd rfl hb
  rcases apN L hS mP (hns f l rfl rfl rfl) Hg uI h.less hm hw with⟨kJ,l2,rfl,rfl,kM,iH,wC,bU⟩|⟨rfl,uY,bU⟩
  ·exact⟨_,[],.inl ⟨kJ,l2,rfl,rfl,rfl,kM,iH,wC,rfl⟩,by have:=bU k cs w.tape w.drawn fun i _=>rfl;rw[Tz]at this;exact this⟩
  ·exact⟨uf,[more k<|put ov f l],.inr ⟨f,l,[],rfl,rfl,mP,hz,uI,rfl,uY⟩,by have:=bU k cs w.tape w.drawn fun i _=>rfl;rw[Tz]at this;exact this⟩
 ·rcases h.mode with hm|hm
  ·obtain⟨n2,T2,h2⟩:=stp L (fs:=[]) h (by simp) hw<|.inl hm;have BV:=fun cs=>h2.eq w.tape w.drawn (fun i _=>rfl) cs;rw[Tz]at BV;have hc:=BV<|(gs++[more k0 f])++[];rw[wI,oK []]at hc;cases T2 with
   |ended o w' es=>simp[TS.mF]at hc
   |panic a ch b w' es=>
    simp only[TS.mF,GStep.go.injEq,aCd]at hc;have hg:=hS.zV.1.mode;rw[hc.1.1]at hg;rw[h2.zV.1.raise]at hg;simp at hg
   |next a b c e=>
    simp only[TS.mF,GStep.go.injEq,aCd,qh]at hc;obtain⟨⟨k1,k2,_⟩,k3,k4⟩:=hc;have hn:n=n2:=by
     have:=eP World.drawn k3;simp only[re]at this;omega
    subst hn;refine⟨a,b++(gs++[more k<|put ov f l]),.inr ⟨f,l,b++gs,k1.symm,by rw[k2,Cj],mP,hz,uI,by rw[Cj],uY⟩,?_⟩;have:=BV<|(gs++[more k<|put ov f l])++cs;rw[wI]at this;rw[this,TS.mF,k3,k4,Cj b]
  ·obtain⟨fn',h1⟩:=h.fn;obtain⟨n2,r,es2,h5,h6⟩:=(IA L.toFit (fn:=fn') h.tmps).Iz hw;have xm:=h5 w.tape w.drawn (fun i _=>rfl) #[];rw[Tz]at xm;cases r with
   |halt x w'=>
    exfalso;have hc:=oK [];obtain⟨c,cs',hcs⟩:∃c cs',gs++[more k0 f]++[]=c::cs':=by cases gs<;>simp
    rw[hcs]at hc;cases x<;>
    ·simp only[aW,unwind,hm,h.defers,h1,xm,Result.re,GStep.after,TS.mF]at hc;cases hc
   |ok v w'=>
    have bU:∀c cs',aW P true {frame:=Gh,callers:=c::cs',status:=.running,dying:=af} w=.go {frame:=c.finish v,callers:=cs',status:=.running,dying:=af} (re w' w.tape<|w.drawn+n2) (seen P Gh.fn es2):=by
     intro c cs';simp only[aW,unwind,hm,h.defers,h1,xm,Result.re,doReturn,h.kind,GStep.after,tN,tK]
    cases gs with
    |nil=>
     have hc:=oK [];rw[wI,qh,bU]at hc;simp only[TS.mF,GStep.go.injEq,aCd,qh]at hc;obtain⟨⟨k1,k2,_⟩,k3,k4⟩:=hc;obtain⟨l2,kM,e2⟩:=apQ uY mP uI k v;refine⟨more k<|put ov (f.finish v) l2,[],.inl ⟨f.finish v,l2,k2.symm,rfl,by rw[<-IC uY];exact k1.symm,kM,fun e=>(apR uY v).trans<|hz e,(by obtain⟨_,_,_,_,ht⟩:=uY;exact VR ht uI v),rfl⟩,?_⟩;rw[wI,alc,bU,e2,k3,k4];rfl
    |cons c gs=>
     have hc:=oK [];rw[qh,mV,bU]at hc;simp only[TS.mF,GStep.go.injEq,aCd,qh]at hc;obtain⟨⟨k1,k2,_⟩,k3,k4⟩:=hc;refine⟨c.finish v,gs++[more k<|put ov f l],.inr ⟨f,l,gs,k1,k2.symm,mP,hz,uI,rfl,uY⟩,?_⟩;rw[mV,mV,bU,k3,k4]
theorem apT{Q:aV->ah->Prop}(aaE:∀fr w t d,Q fr (re w t d)->Q fr w)(h:Ends B P Q (more k0 f) [] w)(ht:f.todo=.code .ret::m)(hf:eU B P (more k0 f))(hm:f.mode=.run)(XQ:¬Q (more k0 f) w):Q {more k0 f with mode:=.returning} w:=by
 cases h with
 |stop hq=>exact absurd hq XQ
 |step hb n fr' kN w' es hs h=>
  have h0:=(hs 0).eq w.tape 0 (fun i _=>rfl) [];have e0:∀w,aW P true {frame:=more k0 f,callers:=[]++[],status:=.running,dying:=af} w=.go {frame:={more k0 f with mode:=.returning},callers:=[],status:=.running,dying:=af} w #[]:=fun w=>by
   obtain⟨fn,tmps,todo,defers,mode,kind,round⟩:=f;obtain rfl:todo=_:=ht;obtain rfl:round=none:=hf.round;obtain rfl:mode=.run:=hm;simp[more,aW,stepG.exec]
  rw[e0]at h0;simp only[TS.mF,GStep.go.injEq,aCd,qh]at h0;obtain⟨⟨k1,k2,_⟩,k3,_⟩:=h0;have h1:=h 0;rw[<-k1,<-k2]at h1;have k3':re (w' 0) w.tape (0+n 0)=re w w.tape 0:=by rw[<-k3];rfl
  rw[k3']at h1;cases h1 with
  |stop hq=>exact aaE _ _ _ _ hq
  |step qU=>
   rcases qU with qU|qU
   ·cases qU
   ·exact absurd rfl qU
theorem apV(L:nI B P)(C:Bg B P){Q:aV->ah->Prop}(aaE:∀fr w t d,Q fr (re w t d)->Q fr w)(hQt:∀f w,Q (more k0 f) w->f.mode=.run->f.todo=[]){w0:ah}(h:Ends B P Q fr fs w){Q2:bP->aV->ah->Prop}
 (Hg:z=true->S≠.ret)(hQ:∀f l w',(z=true->f.mode=.run)->On w0 w'->eU (B.cut w'.heap.size) P f->qJ z S f.todo l->Q (more k0 f) w'->Reach B P (more k<|put ov f l) cs w' Q2 cs2)
 (LZ:∀f l w',On w0 w'->eU (B.cut w'.heap.size) P f->f.mode=.run->S≠.ret->Q {more k0 f with mode:=.returning} w'->Reach B P (more k<|put ov f<|.code S::l) cs w' Q2 cs2)
 (nX:On w0 w)(LY:SwC ov z S k fr fs Gh NP)(hf:eU (B.cut w.heap.size) P fr)(Tm:∀f∈fs,eU (B.cut w.heap.size) P f):Reach B P Gh (NP++cs) w Q2 cs2:=by
 induction h generalizing Gh NP with
 |stop hq=>
  rcases LY with⟨f,l,_,rfl,rfl,mP,hz,_,rfl⟩|⟨f,l,gs,_,h,_⟩
  ·exact hQ f l _ hz nX hf.less mP hq
  ·simp at h
 |step hb n fr' kN w' es hs h ih=>
  rename_i fr fs w;by_cases bU:∃f l m m',fs=[]/\fr=more k0 f/\Gh=more k (put ov f l)/\NP=[]/\f.todo=.code .ret::m/\l=.code S::m'/\S≠.ret
  ·obtain⟨f,l,m,m',rfl,rfl,rfl,rfl,ht,rfl,bM⟩:=bU;have hm:f.mode=.run:=by
    rcases hb with hb|hb
    ·exact hb
    ·exact absurd rfl hb
   have hfB:eU B P (more k0 f):=hf.mono (B:=B) (B':=B.cut w.heap.size) (fun _ z=>Or.inl z) rfl;refine LZ f m' w nX hf.less hm bM<|apT aaE (.step hb n fr' kN w' es hs h) ht hfB hm fun hq=>?_;have:=hQt f w hq hm;rw[ht]at this;cases this
  refine Reach.ok fun bD=>Reach.step fun d=>?_;have hfB:eU B P fr:=hf.mono (B:=B) (B':=B.cut w.heap.size) (fun _ z=>Or.inl z) rfl;obtain⟨VS,VT,apX,LV⟩:=apS L (hs d) LY (fun f l e1 e2 e3 m m' e4 e5=>Fg fun bM=>bU ⟨f,l,m,m',e1,e2,e3,by
   rcases LY with⟨_,_,_,q,_⟩|⟨_,_,gs,_,q,_⟩
   ·exact q
   ·rw[e1]at q;simp at q,e4,e5,bM⟩) Hg hfB (bD.okW.re w.tape d) hb cs
  obtain⟨g1,g2,g3,g4,g5,g6,g7⟩:=(hs d).zV;have DW:w.heap.size<=(w' d).heap.size:=g4;have xm:5<=(w' d).heap.size:=dP bD.lQ DW;obtain⟨m1,m2,m3⟩:=(hs d).tight (B.cut (w' d).heap.size) (C _ xm) rfl (hf.mono (NK DW) rfl) (fun f hx=>(Tm f hx).mono (NK DW) rfl) (QB (w:=w) bD.obj DW) fun b hb=>Or.imp (fun z=>(bD.low b z).2) id hb;refine⟨VS,VT++cs,re (w' d) w.tape<|d+n d,es d,LV,(oq.of (w:=w) ⟨bD.obj,bD.low,bD.lQ⟩ DW m3).re _ _,g4,fun e he=>Kv<|g7 e he,?_⟩;exact ih d (nX.trans ⟨rfl,g4,g5,g6⟩) apX m1 m2
theorem aaF(L:nI B P)(C:Bg B P){a:Act}{b:aV}{K:(Nat->Question->Nat)->Nat->Exit->Act->ah->Prop}
 (hM:∀it∈[Item.code c],lS (jy ov) it)(hcut:qo z S c c')(hc:codeOk P B.let_ c=true)(ha:bG (B.cut w.heap.size) a.tmps)(hd:a.defers=[])(pO:∃fn,P.funcs[b.fn]? =ae fn)(hk:b.kind=.normal)
 (Aq:∀t d,c.wp P (fun e a' w'=>(e=.normal\/e=.ret)/\K t d e a' w') a<|re w t d)
 (hN:∀a' w',On w w'->bG (B.cut w'.heap.size) a'.tmps->a'.defers=[]->(∃t d t' j,K t d .normal a'<|re w' t' j)->Reach B P (b.at ⟨jr ov a'.tmps,a'.defers⟩ k) cs w' Q cs2)
 (Hg:z=true->S≠.ret)
 (hR:z=false->∀a' w' todo,On w w'->bG (B.cut w'.heap.size) a'.tmps->a'.defers=[]->(∃t d t' j,K t d .ret a'<|re w' t' j)->Reach B P {b.at ⟨jr ov a'.tmps,a'.defers⟩ todo with mode:=.returning} cs w' Q cs2)
 (LZ:S≠.ret->∀a' w' l,On w w'->bG (B.cut w'.heap.size) a'.tmps->a'.defers=[]->(∃t d t' j,K t d .ret a'<|re w' t' j)->Reach B P (b.at ⟨jr ov a'.tmps,a'.defers⟩<|.code S::l) cs w' Q cs2):
 Reach B P (b.at ⟨jr ov a.tmps,a.defers⟩<|.code c'::k) cs w Q cs2:=by
 refine Reach.ok fun hw=>?_;have dA:eU (B.cut w.heap.size) P (more k0<|b.at a [.code c]):=⟨pO,ha,fun it hi=>by
  simp only[more,k0,Frame.at,mV,wI,jC,oN,oO]at hi;rcases hi with rfl|rfl
  ·exact hc
  ·rfl,hd,.inl rfl,hk,rfl⟩
 have axz:eU B P (more k0<|b.at a [.code c]):=dA.mono (B:=B) (B':=B.cut w.heap.size) (fun _ z=>Or.inl z) rfl;have hE:=agb (B:=B) (P:=P) L (Q:=fun fr w'=>∃a':Act,((fr=b.at a' k0/\∃t d t' j,K t d .normal a'<|re w' t' j)\/∃todo,fr={b.at a' todo with mode:=.returning}/\∃t d t' j,K t d .ret a'<|re w' t' j))
  (fun fr w' t d h=>h) (fs:=[]) (w:=w) axz (by simp) hw.okW (by
    intro t d;obtain⟨e,a',w',⟨he,hK⟩,har⟩:=Aq t d b k0 [wall P];rcases he with rfl|rfl
    ·obtain⟨j,hj⟩:=har;exact⟨j,b.at a' k0,w',hj,by simp[Frame.at],a',.inl ⟨rfl,t,d,w'.tape,w'.drawn,hK⟩⟩
    ·obtain⟨todo,j,hj⟩:=har;exact⟨j,_,w',hj,by simp,a',.inr ⟨todo,rfl,t,d,w'.tape,w'.drawn,hK⟩⟩)
 have:=apV (ov:=ov) (S:=S) L C (fun fr w t d h=>h) (fun f w hq hm=>?_) (w0:=w) (k:=k) (cs:=cs) (cs2:=cs2) (Q2:=Q) hE Hg ?_ ?_ (On.refl w) (.inl ⟨b.at a [.code c],[.code c'],rfl,rfl,rfl,.cons (.code hcut) .nil,fun _=>rfl,hM,rfl⟩) dA<|by simp
 ·exact this
 ·obtain⟨a',⟨he,_⟩|⟨todo,he,_⟩⟩:=hq
  ·have:=eP Frame.todo he;have e3:f.todo++k0=k0:=this;have:=eP List.length e3;simp only[iQ]at this;exact Uo.1<|by omega
  ·have:=eP Frame.mode he;have e3:f.mode=.returning:=this;rw[hm]at e3;cases e3
 rotate_left
 ·intro f l w' nX xn hm bM hq;obtain⟨a',⟨he,_⟩|⟨todo,he,hK⟩⟩:=hq
  ·have e3:FrameMode.returning=.run:=eP Frame.mode he;cases e3
  ·have h1:more k (put ov f<|.code S::l)=b.at ⟨jr ov a'.tmps,a'.defers⟩ (.code S::(l++k)):=by
    obtain⟨fn,tmps,td,defers,mode,kind,round⟩:=f;obtain rfl:mode=.run:=hm;simp only[more,Frame.at,aC7]at he;obtain⟨e1,e2,e3,e4,e5,e6,e7⟩:=he;simp only[more,put,Frame.at,aC7,mV];exact⟨e1,by rw[e2],trivial,e4,trivial,e6,e7⟩
   have h2:f.tmps=a'.tmps/\f.defers=a'.defers:=⟨eP Frame.tmps he,eP Frame.defers he⟩;rw[h1];exact LZ bM a' w' _ nX (h2.1▸xn.tmps) (h2.2▸xn.defers) hK
 intro f l w' hz nX xn mP hq;obtain⟨a',⟨he,hK⟩|⟨todo,he,hK⟩⟩:=hq
 ·have h1:f=b.at a' []:=by
   obtain⟨fn,tmps,td,defers,mode,kind,round⟩:=f;simp only[more,Frame.at,aC7]at he⊢
   obtain⟨e1,e2,e3,e4,e5,e6,e7⟩:=he;refine⟨e1,e2,?_,e4,e5,e6,e7⟩;have:=eP List.length e3;simp only[iQ]at this;exact Uo.1<|by omega
  subst h1;have hl:l=[]:=by
   have axA:qJ z S [] l:=mP;cases axA;rfl
  subst hl;exact hN a' w' nX xn.tmps xn.defers hK
 ·have h1:more k (put ov f l)={b.at ⟨jr ov a'.tmps,a'.defers⟩ (l++k)with mode:=.returning}:=by
   obtain⟨fn,tmps,td,defers,mode,kind,round⟩:=f;simp only[more,put,Frame.at,aC7]at he⊢
   obtain⟨e1,e2,e3,e4,e5,e6,e7⟩:=he;exact⟨e1,by rw[e2],trivial,e4,e5,e6,e7⟩
  have h2:f.tmps=a'.tmps/\f.defers=a'.defers:=⟨eP Frame.tmps he,eP Frame.defers he⟩;rw[h1];have hzf:z=false:=by
   cases z with
   |false=>rfl
   |true=>
    have e1:=hz rfl;have e2:f.mode=.returning:=eP Frame.mode he;rw[e1]at e2;cases e2
  exact hR hzf a' w' _ nX (h2.1▸xn.tmps) (h2.2▸xn.defers) hK
theorem aaG(L:nI B P)(C:Bg B P){a:Act}{b:aV}{K:(Nat->Question->Nat)->Nat->Exit->Act->ah->Prop}
 (hcut:qo z S c c')(hc:codeOk P B.let_ c=true)(ha:bG (B.cut w.heap.size) a.tmps)(hd:a.defers=[])(pO:∃fn,P.funcs[b.fn]? =ae fn)(hk:b.kind=.normal)
 (Aq:∀t d,c.wp P (fun e a' w'=>(e=.normal\/e=.ret)/\K t d e a' w') a<|re w t d)
 (hN:∀a' w',On w w'->bG (B.cut w'.heap.size) a'.tmps->a'.defers=[]->(∃t d t' j,K t d .normal a'<|re w' t' j)->Reach B P (b.at a' k) cs w' Q cs2)
 (Hg:z=true->S≠.ret)
 (hR:z=false->∀a' w' todo,On w w'->bG (B.cut w'.heap.size) a'.tmps->a'.defers=[]->(∃t d t' j,K t d .ret a'<|re w' t' j)->Reach B P {b.at a' todo with mode:=.returning} cs w' Q cs2)
 (LZ:S≠.ret->∀a' w' l,On w w'->bG (B.cut w'.heap.size) a'.tmps->a'.defers=[]->(∃t d t' j,K t d .ret a'<|re w' t' j)->Reach B P (b.at a'<|.code S::l) cs w' Q cs2):
 Reach B P (b.at a<|.code c'::k) cs w Q cs2:=
 aaF (ov:=[]) L C (fun _ _=>.inl rfl) hcut hc ha hd pO hk Aq hN Hg hR LZ
theorem Gi(L:nI B P)(C:Bg B P){a:Act}{b:aV}{K:(Nat->Question->Nat)->Nat->Exit->Act->ah->Prop}
 (hc:codeOk P B.let_ c=true)(ha:bG (B.cut w.heap.size) a.tmps)(hd:a.defers=[])(pO:∃fn,P.funcs[b.fn]? =ae fn)(hk:b.kind=.normal)
 (Aq:∀t d,c.wp P (fun e a' w'=>(e=.normal\/e=.ret)/\K t d e a' w') a<|re w t d)
 (hN:∀a' w',On w w'->bG (B.cut w'.heap.size) a'.tmps->a'.defers=[]->(∃t d t' j,K t d .normal a'<|re w' t' j)->Reach B P (b.at a' k) cs w' Q cs2)
 (hR:∀a' w' todo,On w w'->bG (B.cut w'.heap.size) a'.tmps->a'.defers=[]->(∃t d t' j,K t d .ret a'<|re w' t' j)->Reach B P {b.at a' todo with mode:=.returning} cs w' Q cs2):
 Reach B P (b.at a<|.code c::k) cs w Q cs2:=
 aaG (z:=false) (S:=.ret) L C (.same c<|.off rfl c) hc ha hd pO hk Aq hN (fun h=>by cases h) (fun _=>hR) fun h=>absurd rfl h
end ai
end
section
namespace ai
open Go Go.Conc
variable{B:bP}{P:dO}
variable{w:ah}{fn:Func}
def RI(L:nI B P)(C:Bg B P){fr c:aV}{cs:List aV}{v:aj}{t:Nat->Question->Nat}{k:Nat}{Q:bP->aV->ah->Prop}(hm:fr.mode=.returning)(hd:fr.defers=[])(hk:fr.kind=.normal)(pO:P.funcs[fr.fn]? =ae fn)(bD:bG (B.cut w.heap.size) fr.tmps)(yA:(results fn fr.tmps).run P (re w t k)=.ok v (re w t k))
 (hQ:∀d,az (B.cut w.heap.size) v->Q B (c.finish v) (w.at d)):Reach B P fr (c::cs) w Q cs:=by
 refine Reach.ok fun uz=>Reach.step fun d=>?_;have dw:=((IA (C _ uz.lQ).toFit (fn:=fn) bD).CV (w:=re w t k) uz.obj yA fun b _=>Eb b _).1;have ayE:bG B fr.tmps:=fun x hx=>(bD x hx).mono (B:=B) (B':=B.cut w.heap.size) (fun _ z=>Or.inl z) rfl;obtain⟨n,r,gs,h1,h2⟩:=(IA (B:=B) (P:=P) L.toFit (fn:=fn) ayE).Iz<|uz.okW.re t k;have nV:=agc h1 t k fun i _=>rfl;rw[Vq]at nV;rw[yA]at nV;cases r with
 |halt x w1=>simp[Result.re]at nV
 |ok v1 w1=>
  simp only[Result.re,aCL]at nV;obtain⟨rfl,vK⟩:=nV;have hn:n=0:=by
   have:=eP World.drawn vK;simp only[re]at this;omega
  subst hn;have aav:re w1 w.tape d=w.at d:=by
   have e1:=eP World.heap vK;have e2:=eP World.os vK;have e3:=eP World.output vK;simp only[re]at e1 e2 e3;unfold re;show _=({w with drawn:=d}:ah);rw[<-e1,<-e2,<-e3]
  have bU:=h1 w.tape d (fun i hi=>absurd hi<|by omega) #[];rw[Vq]at bU;simp only[Result.re,JM,aav]at bU;obtain⟨hv,_,_,_,_,dI⟩:=h2;have dS:w1.heap.size=w.heap.size:=by
   have e1:=eP World.heap vK;simp only[re]at e1;rw[e1]
  refine⟨c.finish v,cs,w.at d,seen P fr.fn gs,?_,⟨uz.obj,uz.low,uz.lQ⟩,bV _,?_,Reach.here fun _=>hQ d dw⟩
  ·have EW:(results fn fr.tmps).runT P (w.at d) #[]=(.ok v<|w.at d,#[]++gs):=bU;simp only[aW,unwind,hm,hd,pO,EW,doReturn,hk,GStep.after,tN,tK]
  ·intro e he;have:=dI e<|aCJ he;rw[dS]at this;exact Kv this
def cutAt(r:Code):List Bool->Code->Code
 |[],_=>r
 |b::p,.seq x y=>if b then .seq x (cutAt r p y)else .seq (cutAt r p x) y
 |b::p,.cond o x y=>if b then .cond o x (cutAt r p y)else .cond o (cutAt r p x) y
 |b::p,.block id x=>.block id<|cutAt r (b::p) x
 |b::p,.loop x=>.loop<|cutAt r (b::p) x
 |_::_,c=>c
def gK:List Bool->Code->Code
 |[],c=>c
 |b::p,.seq x y=>if b then gK p y else gK p x
 |b::p,.cond _ x y=>if b then gK p y else gK p x
 |b::p,.block _ x=>gK (b::p) x
 |b::p,.loop x=>gK (b::p) x
 |_::_,c=>c
def KY{S r:Code}:∀(p:List Bool) (c:Code),qo false S r (gK p c)->qo false S (cutAt r p c) c
 |[],c,h=>by simp only[cutAt];simp only[gK]at h;exact h
 |b::p,.seq x y,h=>by
  simp only[cutAt];simp only[gK]at h;split
  ·rw[if_pos ‹_›]at h;exact .seq (.same x<|.off rfl _)<|KY p y h
  ·rw[if_neg ‹_›]at h;exact .seq (KY p x h)<|.same y<|.off rfl _
 |b::p,.cond o x y,h=>by
  simp only[cutAt];simp only[gK]at h;split
  ·rw[if_pos ‹_›]at h;exact .cond (.same x<|.off rfl _)<|KY p y h
  ·rw[if_neg ‹_›]at h;exact .cond (KY p x h)<|.same y<|.off rfl _
 |b::p,.block id x,h=>by simp only[cutAt];simp only[gK]at h;exact .block<|KY (b::p) x h
 |b::p,.loop x,h=>by simp only[cutAt];simp only[gK]at h;exact .loop<|KY (b::p) x h
 |_::_,.skip,_|_::_,.label _,_|_::_,.scope _,_|_::_,.goto _,_|_::_,.exit _,_|_::_,.rangeFunc ..,_|_::_,.ret,_|_::_,.refuse _,_|_::_,.region ..,_=>by
  simp only[cutAt];exact .same _<|.off rfl _
def aiy(p:List Bool)(c:Code):qo false .ret (cutAt (.refuse "") p c) c:=KY p c<|.cut _
def aiz(L:nI B P)(C:Bg B P){f:FuncId}{c c':Code}{args:Array aj}{R:(Nat->Question->Nat)->Nat->Ending->ah->Prop}(hf:P.funcs[f]? =ae fn)(hb:fn.body=ae c)(hcut:qo false .ret c' c)(bD:codeOk P B.let_ c'=true)(ha:bG (B.cut w.heap.size) args)
 (hc:∀t d,c'.wp P (bodyPost P fn<|R t d) {tmps:=args++Array.replicate (fn.ntmps-args.size) ag,defers:=[]}<|re w t d)(ho:∀t d e w',R t d e w'->∃v,e=.returned v):
 ug B P f args w (fun B' v w'=>B'=B/\az (B.cut w'.heap.size) v/\On w w'/\∃t d t' k,R t d (.returned v)<|re w' t' k):=by
 intro c0 cs;let b:Frame:={(default:aV)with fn:=f,kind:=.normal}
 have ayF:Frame.enter P f args .normal=b.at {tmps:=args++Array.replicate (fn.ntmps-args.size) ag,defers:=[]} [.code c]:=by
  simp[Frame.enter,Frame.at,hf,hb,b]
 rw[ayF];have Jy:bG (B.cut w.heap.size) (args++Array.replicate (fn.ntmps-args.size) ag):=bG.append ha fun v hv=>by
  obtain⟨_,rfl⟩:=MQ.1 hv;exact ru
 refine aaG (K:=fun t d e a' w'=>a'.defers=[]/\∃v,(results fn a'.tmps).run P w'=.ok v w'/\R t d (.returned v) w') L C hcut bD Jy rfl ⟨fn,hf⟩ rfl (fun t d=>aCs (hc t d) fun e a' w' hq=>?_) ?_ (fun hz=>by cases hz) (fun _=>?_) fun bM=>absurd rfl bM
 ·cases e with
  |normal=>exact⟨.inl rfl,hq⟩
  |ret=>exact⟨.inr rfl,hq⟩
  |panic chain=>obtain⟨v,hv⟩:=ho _ _ _ _ hq.2;cases hv
  |outgrown=>obtain⟨v,hv⟩:=ho _ _ _ _ hq;cases hv
  |exit id=>exact hq.elim
  |goto id=>exact hq.elim
 ·rintro a' w' nX abP Hf ⟨t,d,t',j,_,v,yA,hR⟩;refine Reach.ok fun MO=>Reach.step fun d2=>⟨{b.at a' []with mode:=.returning},c0::cs,w'.at d2,#[],by simp[aW,stepG.exec,Frame.at,b],⟨MO.obj,MO.low,MO.lQ⟩,bV _,by simp,?_⟩;exact RI L C (fr:={b.at a' []with mode:=.returning}) (w:=w'.at d2) (v:=v) (t:=t') (k:=j) rfl Hf rfl hf abP yA fun d3 hv=>⟨v,rfl,rfl,hv,⟨nX.tape,nX.size,nX.os,nX.output⟩,t,d,t',j,hR⟩
 ·rintro a' w' todo nX abP Hf ⟨t,d,t',j,_,v,yA,hR⟩;exact RI L C (fr:={b.at a' todo with mode:=.returning}) (w:=w') (v:=v) (t:=t') (k:=j) rfl Hf rfl hf abP yA fun d3 hv=>⟨v,rfl,rfl,hv,⟨nX.tape,nX.size,nX.os,nX.output⟩,t,d,t',j,hR⟩
end ai
end
section
namespace ai
open Go Go.Conc
variable{B:bP}{P:dO}
def Dv:Code->Code
 | .seq a b=>.seq (Dv a)<|Dv b
 | .cond o a b=>.cond o (Dv a)<|Dv b
 | .block id a=>.block id<|Dv a
 | .loop a=>.loop<|Dv a
 | .skip=>.skip
 | .exit id=>.exit id
 | .region i o d=>.region i o d
 |_=>.refuse ""
variable{S:Code}
def KZ:∀c:Code,qo true S (Dv c) c
 | .seq a b=>.seq (KZ a)<|KZ b
 | .cond _ a b=>.cond (KZ a)<|KZ b
 | .block _ a=>.block<|KZ a
 | .loop a=>.loop<|KZ a
 | .skip=>.same _ fun _=>rfl
 | .exit _=>.same _ fun _=>rfl
 | .region .. =>.same _ fun _=>rfl
 | .ret=>.cut _
 | .label _=>.cut _
 | .scope _=>.cut _
 | .goto _=>.cut _
 | .rangeFunc .. =>.cut _
 | .refuse _=>.cut _
def pY:List Bool->Code->Code
 |[],_=>.ret
 |b::p,.seq x y=>if b then .seq (Dv x) (pY p y)else .seq (pY p x) (.refuse "")
 |b::p,.cond o x y=>if b then .cond o (.refuse "") (pY p y)else .cond o (pY p x) (.refuse "")
 |b::p,.block id x=>.block id<|pY (b::p) x
 |b::p,.loop x=>.loop<|pY (b::p) x
 |_::_,_=>.refuse ""
def La:∀(p:List Bool) (c:Code),S=gK p c->qo true S (pY p c) c
 |[],c,h=>by simp only[gK]at h;subst h;simp only[pY];exact .stop
 |b::p,.seq x y,h=>by
  simp only[gK]at h;simp only[pY];split
  ·rw[if_pos ‹_›]at h;exact .seq (KZ x)<|La p y h
  ·rw[if_neg ‹_›]at h;exact .seq (La p x h)<|.cut _
 |b::p,.cond o x y,h=>by
  simp only[gK]at h;simp only[pY];split
  ·rw[if_pos ‹_›]at h;exact .cond (.cut _)<|La p y h
  ·rw[if_neg ‹_›]at h;exact .cond (La p x h)<|.cut _
 |b::p,.block id x,h=>by simp only[gK]at h;simp only[pY];exact .block<|La (b::p) x h
 |b::p,.loop x,h=>by simp only[gK]at h;simp only[pY];exact .loop<|La (b::p) x h
 |_::_,.skip,_|_::_,.label _,_|_::_,.scope _,_|_::_,.goto _,_|_::_,.exit _,_|_::_,.rangeFunc ..,_|_::_,.ret,_|_::_,.refuse _,_|_::_,.region ..,_=>by
  simp only[pY];exact .cut _
def abQ(L:nI B P)(C:Bg B P){p:List Bool}{c:Code}{a:Act}{b:aV}{k:List Item}{cs cs2:List aV}{w:ah}{Q:bP->aV->ah->Prop}{K:(Nat->Question->Nat)->Nat->Act->ah->Prop}
 (hS:S=gK p c)(bM:S≠.ret)(hc:codeOk P B.let_ (pY p c)=true)(ha:bG (B.cut w.heap.size) a.tmps)(hd:a.defers=[])(pO:∃fn,P.funcs[b.fn]? =ae fn)(hk:b.kind=.normal)
 (Aq:∀t d,(pY p c).wp P (fun e a' w'=>e=.ret/\K t d a' w') a<|re w t d)
 (LZ:∀a' w' l,On w w'->bG (B.cut w'.heap.size) a'.tmps->a'.defers=[]->(∃t d t' j,K t d a'<|re w' t' j)->Reach B P (b.at a'<|.code S::l) cs w' Q cs2):
 Reach B P (b.at a<|.code c::k) cs w Q cs2:=
 aaG (z:=true) (K:=fun t d e a' w'=>e=.ret/\K t d a' w') L C (La p c hS) hc ha hd pO hk (fun t d=>aCs (Aq t d) fun e a' w' hq=>⟨.inr hq.1,hq⟩)
  (fun _ _ _ _ _ ⟨_,_,_,_,e,_⟩=>by cases e) (fun _=>bM) (fun h=>by cases h)
  (fun _ a' w' l h1 h2 h3 ⟨t,d,t',j,_,hK⟩=>LZ a' w' l h1 h2 h3 ⟨t,d,t',j,hK⟩)
end ai
end
end Go.Proofs.YtkelpcjiediamaaGreat
