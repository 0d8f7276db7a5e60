import Derived.Test.YtkelpcjiediamaaGreatQd9
import Derived.Test.YtkelpcjiediamaaGreatQd19
set_option maxRecDepth 100000
set_option maxHeartbeats 0
set_option linter.all false
namespace Go.Proofs.YtkelpcjiediamaaGreat
def aEF:=@Go.Conc.stepG_value
open Go renaming Frame→bu,Goroutine→bF,Program→eF,TypeId→dw,Value→az,World→aj,execOp→dP,stepG→bD,undef→ai
open Go.Item renaming inRegion→bQ
open Go.Value renaming agg→gY,pointer→ay,tuple→dK
open Option renaming none→af,some→ae
open Go.Proofs.Tryz
section
namespace Twin
open Go Go.Proofs Go.Conc Go.RowKit
section
variable{P:eF}{main:Bool}{E:dD}{Stop:aN->bF->aj->Prop}{S:aN}{w:aj}
def aA.goes{g:bF}(hr:g.status=.running)(h:∀w1,bg S E w w1->(bD P main g w1).goes fun g' w2 es=>je S E w1 w2 es/\aA P main E Stop (grow S w1 w2) g' w2):aA P main E Stop S g w:=
 .step1 hr fun w1 k=>let ⟨g',w2,es,e,h1,h2⟩:=aFk<|h w1 k;⟨g',w2,es,e,h1,h2⟩
variable{b:bu}{a:Act}{k:List Item}{cs:List bu}{ops:Array Oper}{i:Nat}{rest:List Nat}{o:Oper}
def aA.val(v:az)(ho:ops[i]? =ae o)(hw:Region.wanted o (yielded ops a.tmps)=true)(hk:b.kind≠.early)(gU:∀w1,bg S E w w1->(dP a.eval o).run P w1=.ok (.value v) w1)(dS:∀w1,bg S E w w1->∀e∈(dP a.eval o).events P w1 #[],mM S E e)
 (next:aA P main E Stop S (G (b.at (a.put o.dst v)<|bQ ops rest::k) cs) w):aA P main E Stop S (G (b.at a<|bQ ops (i::rest)::k) cs) w:=by
 refine .step1 rfl fun w1 aQ=>⟨_,w1,_,aEF ho hw hk<|gU w1 aQ,⟨rfl,rfl,rfl,dm _,fun _ _ _=>rfl,fun e he=>?_,fun _ _ _ h=>h⟩,?_⟩
 ·rw[sK<|dm _];exact dS w1 aQ e<|aEJ he
 ·rw[sK<|dm _];exact next.rely aQ
def aA.mute(v:az)(ho:ops[i]? =ae o)(hw:Region.wanted o (yielded ops a.tmps)=true)(hk:b.kind≠.early)(gU:∀w1,(dP a.eval o).run P w1=.ok (.value v) w1)(dS:∀w1,(dP a.eval o).events P w1 #[]=#[])
 (next:aA P main E Stop S (G (b.at (a.put o.dst v)<|bQ ops rest::k) cs) w):aA P main E Stop S (G (b.at a<|bQ ops (i::rest)::k) cs) w:=
 .val v ho hw hk (fun w1 _=>gU w1) (fun w1 _ e he=>by rw[dS]at he;simp at he) next
def aA.mu{v:az}(ho:ops[i]? =ae o)(hw:Region.wanted o (yielded ops a.tmps)=true)(next:aA P main E Stop S (G (b.at (a.put o.dst v)<|bQ ops rest::k) cs) w)(hk:b.kind≠.early:=by decide)(gU:∀w1,(dP a.eval o).run P w1=.ok (.value v) w1:=by intro _;go_simp<;>rfl)(dS:∀w1,(dP a.eval o).events P w1 #[]=#[]:=by intro _;simp[go_sem]):aA P main E Stop S (G (b.at a<|bQ ops (i::rest)::k) cs) w:=.mute v ho hw hk gU dS next
def aA.sq{x y:Code}(h:aA P main E Stop S (G (b.at a<|.code x:: .code y::k) cs) w):aA P main E Stop S (G (b.at a<|.code (.seq x y)::k) cs) w:=.ctl rfl (fun _=>aD0) h
def aA.fQ(h:aA P main E Stop S (G (b.at a k) cs) w):aA P main E Stop S (G (b.at a<|bQ ops []::k) cs) w:=.ctl rfl (fun _=>aDX) h
def aA.kC(ho:ops[i]? =ae o)(hw:Region.wanted o (yielded ops a.tmps)=true)(hk:b.kind≠.early)
 (h:∀w1,bg S E w w1->∃v w2,((dP a.eval o).run P w1=.ok (.value v) w2\/(v=ai/\(dP a.eval o).run P w1=.ok .skip w2))/\je S E w1 w2 ((dP a.eval o).events P w1 #[])/\aA P main E Stop (grow S w1 w2) (G (b.at (a.put o.dst v)<|bQ ops rest::k) cs) w2):
 aA P main E Stop S (G (b.at a<|bQ ops (i::rest)::k) cs) w:=by
 refine .step1 rfl fun w1 aQ=>?_;obtain⟨v,w2,hr,hG,hn⟩:=h w1 aQ;have Vm:je S E w1 w2 (listed P b.fn a o w1):=⟨hG.tape,hG.os,hG.output,hG.size,hG.still,fun e he=>hG.evs e<|aEJ he,hG.ok⟩;rcases hr with hr|⟨rfl,hr⟩
 ·exact⟨_,w2,_,aEF ho hw hk hr,Vm,hn⟩
 ·exact⟨_,w2,_,stepG_none ho hw hk hr,Vm,hn⟩
variable{fn:Func}{todo:List Item}
def aA.call{f:FuncId}{c:Code}{args:Array Operand}{lK:Array dw}(ho:ops[i]? =ae o)(hw:Region.wanted o (yielded ops a.tmps)=true)(hk:b.kind≠.early)(aO:o.op=.call {callee:=.value<|.func f,args,argTypes:=lK})
 (hf:P.funcs[f]? =ae fn)(IZ:(fn.name== "runtime.NumGoroutine")=false)(hb:fn.body=ae c)
 (h:aA P main E Stop S (G ((base f).at {tmps:=args.map a.eval++Array.replicate (fn.ntmps-(args.map a.eval).size) ai,defers:=[]} [.code c])<|b.at a (bQ ops (i::rest)::k)::cs) w):aA P main E Stop S (G (b.at a<|bQ ops (i::rest)::k) cs) w:=
 .goes rfl fun _ aQ=>goes_call ho hw hk aO hf IZ hb ⟨je.refl,by rw[sK<|dm _];exact h.rely aQ⟩
def aA.leave1{b₀:bu}{a₀:Act}{t:Tmp}(hn:b.kind=.normal)(hd:a.defers=[])(hf:P.funcs[b.fn]? =ae fn)(hr:fn.results=#[.tmp t])
 (h:aA P main E Stop S (G (b₀.at (a₀.put ((ops[i]?).bind (·.dst))<|a.tmps.getD t ai)<|bQ ops rest::k) cs) w):aA P main E Stop S (G {b.at a todo with mode:=.returning}<|b₀.at a₀ (bQ ops (i::rest)::k)::cs) w:=
 .goes rfl fun _ aQ=>goes_leave1 hn hd hf hr ⟨je.refl,by rw[sK<|dm _];exact h.rely aQ⟩
def aA.leave0{b₀:bu}{a₀:Act}(hn:b.kind=.normal)(hd:a.defers=[])(hf:P.funcs[b.fn]? =ae fn)(hr:fn.results=#[])
 (h:aA P main E Stop S (G (b₀.at (a₀.put ((ops[i]?).bind (·.dst))<|dK #[])<|bQ ops rest::k) cs) w):aA P main E Stop S (G {b.at a todo with mode:=.returning}<|b₀.at a₀ (bQ ops (i::rest)::k)::cs) w:=
 .goes rfl fun _ aQ=>goes_leave0 hn hd hf hr ⟨je.refl,by rw[sK<|dm _];exact h.rely aQ⟩
end
def rJ(P:eF)(main:Bool)(E:dD)(f:FuncId)(args:Array az)(S:aN)(w:aj)(ny:az->aN->aj->Prop):Prop:=
 ∀(b₀:bu) (a₀:Act) (ops:Array Oper) (i:Nat) (rest:List Nat) (k:List Item) (cs:List bu) (Stop:aN->bF->aj->Prop) (fn:Func) (c:Code),P.funcs[f]? =ae fn->fn.body=ae c->
  (∀v S' w',ny v S' w'->aA P main E Stop S' (G (b₀.at (a₀.put ((ops[i]?).bind (·.dst)) v)<|bQ ops rest::k) cs) w')->
  aA P main E Stop S (G ((base f).at {tmps:=args++Array.replicate (fn.ntmps-args.size) ai,defers:=[]} [.code c])<|b₀.at a₀ (bQ ops (i::rest)::k)::cs) w
end Twin
end
section
namespace Twin
open Go Go.Proofs Go.Conc Go.RowKit Go.Maps
variable{E:dD}{S:aN}{w:aj}{B lb bm n clock:Nat}{v:az}{s:aH}{es:Array MapEntry}
def aA.reg{P:eF}{main:Bool}{Stop:aN->bF->aj->Prop}{b:bu}{a:Act}{k:List Item}{cs:List bu}{id:Nat}{ops:Array Oper}(l:List Nat)(hl:List.range ops.size=l)(h:aA P main E Stop S (G (b.at a<|bQ ops l::k) cs) w):aA P main E Stop S (G (b.at a<|.code (.region id ops false)::k) cs) w:=
 .ctl rfl (fun _=>stepG_region) (by rw[hl];exact h)
def acu{w1:aj}(h:dY w B lb bm v n s)(hl:S lb)(hm:S bm)(hr:∀k,v.ownBlock=ae k->S k)(hk:bg S E w w1):dY w1 B lb bm v n s:=by
 refine⟨by rw[hk.own lb hl];exact h.blk,?_,?_,h.hl,h.hm⟩
 ·obtain⟨h1,h2⟩:=h.row;refine⟨h1,?_⟩;rcases h2 with h2|⟨g,cap,cur,rfl,hb,hg,r⟩
  ·exact .inl h2
  ·exact .inr ⟨g,cap,cur,rfl,hb,by rw[hk.own g<|hr g rfl];exact hg,r⟩
 ·obtain⟨D,⟨es,clock,hb,r⟩,h2⟩:=h.map;exact⟨D,⟨es,clock,by rw[hk.own bm hm];exact hb,r⟩,h2⟩
def acv{p:Int}:∀(es:List MapEntry) (i:Nat),(∀e∈es,∃q:Int,e.key=.int .i64 q)->∃r,Instr.findNow (.int .i64) (.int .i64 p) es i=ae r
 |[],_,_=>⟨_,rfl⟩
 |e::es,i,h=>by
  obtain⟨q,hq⟩:=h e (by simp);obtain⟨r,hr⟩:=acv es (i+1) fun x hx=>h x (by simp[hx]);unfold Instr.findNow;rw[hq];simp only[Instr.sameNow,if_true];cases hpq:(p==q)with
  |true=>exact⟨_,rfl⟩
  |false=>exact⟨r,hr⟩
def air{nw:Int->Option (Int×Bool)}(h:jo w prog 3 bm n (jw nw)):∃es clock,w.heap[bm]? =ae (.map es clock)/\∀e∈es.toList,∃q:Int,e.key=.int .i64 q:=by
 obtain⟨D,⟨es,clock,h1,h2,h3,h4⟩,h5⟩:=h;have iR:=asx h2 h4 h5;exact⟨es,clock,h1,fun e he=>by obtain⟨q,x,q1,_⟩:=iR e he;exact⟨q,q1⟩⟩
def ais(hb:w.heap[bm]? =ae (.map es clock)):(getObj bm).run prog w=.ok (.map es clock) w/\(getObj bm).events prog w #[]=#[⟨.obj bm,false,false⟩]:=by
 constructor
 ·simp[getObj,Sem.run,hb]
 ·unfold Sem.events getObj Sem.runT;rw[hb];rfl
def acw{k:Nat}{fs:Array MapEntry}(hb:w.heap[bm]? =ae (.map es clock))(f:Array Event):(setObj bm<|.map fs k).events prog w f=f.push ⟨.obj bm,true,false⟩:=by
 unfold Sem.events setObj Sem.runT;rw[hb];rfl
def asy{nw:Int->Option (Int×Bool)}(h:jo w prog 3 bm n (jw nw))(p:Int):∀e∈(Instr.lookup 161 (.map<|ae bm) (.int .i64 p) false).events prog w #[],e.loc=.obj bm/\e.sync=false:=by
 obtain⟨es,clock,hb,hk⟩:=air h;obtain⟨r,hr⟩:=acv (p:=p) es.toList 0 hk;obtain⟨g1,g2⟩:=ais hb;unfold Instr.lookup Instr.findKey Instr.checkKey;cases r with
 |none=>
  cases hi:prog.info? 189 with
  |none=>simp[go_sem,g1,g2,hr,zeroValue,typeInfo,hi]
  |some i=>cases hz:i.zero<;>simp[go_sem,g1,g2,hr,zeroValue,typeInfo,hi,hz]
 |some x=>simp[go_sem,g1,g2,hr]
def asz{nw:Int->Option (Int×Bool)}(h:jo w prog 3 bm n (jw nw))(p:Int)(v:az):∀e∈(Instr.mapUpdate 161 (.map<|ae bm) (.int .i64 p) v).events prog w #[],e.loc=.obj bm/\e.sync=false:=by
 obtain⟨es,clock,hb,hk⟩:=air h;obtain⟨r,hr⟩:=acv (p:=p) es.toList 0 hk;obtain⟨g1,g2⟩:=ais hb;unfold Instr.mapUpdate Instr.findKey Instr.checkKey;cases r with
 |none=>simp[go_sem,g1,g2,hr,acw hb]
 |some x=>
  simp[go_sem,g1,g2,hr,Instr.keyThatStays];split<;>simp[acw hb,acw (w:=w.drew) hb]
def asA{y0 t:Int}{y1:Bool}:(do eqGuard .eql 189 (.tmp 12) (.tmp 14) (gY #[.int .i64 y0,.bool y1]) (gY #[.int .i64 t,.bool true]);binOp .eql 189 (gY #[.int .i64 y0,.bool y1]) (gY #[.int .i64 t,.bool true]):Sem az).events prog w #[]=#[]:=by
 have hg:prog.eqGuardType prog.depth 189=false:=by kernel_rfl
 have e1:∀f,(eqGuard .eql 189 (.tmp 12) (.tmp 14) (gY #[.int .i64 y0,.bool y1])<|gY #[.int .i64 t,.bool true]).events prog w f=f:=fun f=>by
  unfold eqGuard;simp[go_sem,hg]
 go_simp
 have r3:∀(d:Nat) (a b:Int),(Op.equalIn (d+1) 3 (.int .i64 a)<|.int .i64 b).run prog w=.ok (a==b) w/\∀f,(Op.equalIn (d+1) 3 (.int .i64 a)<|.int .i64 b).events prog w f=f:=fun d a b=>by
  unfold Op.equalIn;constructor
  ·simp[go_sem]
  ·simp[go_sem]
 have r4:∀(d:Nat) (a b:Bool),(Op.equalIn (d+1) 4 (.bool a)<|.bool b).run prog w=.ok (a==b) w/\∀f,(Op.equalIn (d+1) 4 (.bool a)<|.bool b).events prog w f=f:=fun d a b=>by
  unfold Op.equalIn;constructor
  ·simp[go_sem]
  ·simp[go_sem]
 have r5:∀d f,(Op.equalIn (d+2) 189 (gY #[.int .i64 y0,.bool y1])<|gY #[.int .i64 t,.bool true]).events prog w f=f:=fun d f=>by
  rw[Op.equalIn];simp[go_sem,r3,r4]
 show Sem.events prog (Op.equal 189 (gY #[.int .i64 y0,.bool y1]) (gY #[.int .i64 t,.bool true])>>=fun b=>pure<|Value.bool b) w #[]=#[];have r6:(Op.equal 189 (gY #[.int .i64 y0,.bool y1])<|gY #[.int .i64 t,.bool true]).events prog w #[]=#[]:=r5 _ _;rw[Sem.events_bind,r6];cases (Op.equal 189 (gY #[.int .i64 y0,.bool y1])<|gY #[.int .i64 t,.bool true]).run prog w<;>simp[go_sem,Result.evThen]
def evg{e:Event}(hm:S bm)(h:e.loc=.obj bm/\e.sync=false):mM S E e:=by
 unfold mM;rw[h.1];exact⟨h.2,.inl hm⟩
def asB(h:dY w B lb bm v n s)(hl:S lb)(hm:S bm)(hr:∀k,v.ownBlock=ae k->S k)(p t:Int)(hp:(Lit.int .i64 p).wf=true):
 rJ prog false E 122 #[ay<|ae ⟨lb,0,af⟩,.int .i64 p,.int .i64 t] S w fun x S' w'=>S'=S/\bg S E w w'/\x=.bool (s.isOpen p t):=by
 intro b₀ a₀ ops i rest k cs Stop fn c hf hc ES;obtain rfl:fn=Tryz.f122:=by rw[func122]at hf;exact(qX hf).symm
 obtain rfl:c=(Tryz.f122.body.getD .skip):=by rw[hc];rfl
 simp only[Tryz.f122,ik];walk_nrm;refine aA.sq ?_;refine aA.reg [0] rfl ?_;refine aA.mu rfl rfl ?_;walk_nrm;refine aA.fQ ?_;refine aA.sq ?_;refine aA.reg [0,1,2,3,4,5,6,7,8,9] rfl ?_;refine aA.mu rfl rfl ?_;walk_nrm;refine aA.mu rfl rfl ?_;walk_nrm;refine aA.mu rfl rfl ?_;walk_nrm;have hL:∀w1,bg S E w w1->dY w1 B lb bm v n s:=fun w1 hk=>acu h hl hm hr hk;have hcell:∀w1,bg S E w w1->w1.cell? ⟨lb,2,af⟩=ae (.map<|ae bm):=fun w1 hk=>by rw[aK (hL w1 hk).blk];rfl
 refine aA.val (.map<|ae bm) rfl rfl (by decide) (fun w1 aQ=>by have hc:=hcell w1 aQ;go_simp) (fun w1 aQ e he=>?_) ?_
 ·have hc:=hcell w1 aQ;simp[go_sem,hc]at he;subst he;exact .inl hl
 walk_nrm;refine aA.mu rfl rfl ?_;walk_nrm;have lT:keyOf prog 3 (.int .i64 p)=ae (.int .i64 p):=aEN underlying3 hp;have azT:∀w1,bg S E w w1->(Instr.lookup 161 (.map<|ae bm) (.int .i64 p) false).run prog w1=.ok ((jw s.nw<|.int .i64 p).getD<|gY #[.int .i64 0,.bool false]) w1:=fun w1 hk=>(hL w1 hk).map.look AV underlying161 (aar w1) lT;refine aA.val ((jw s.nw<|.int .i64 p).getD<|gY #[.int .i64 0,.bool false]) rfl rfl (by decide) (fun w1 aQ=>by have hc:=azT w1 aQ;go_simp) (fun w1 aQ e he=>?_) ?_
 ·exact evg hm<|asy (hL w1 aQ).map p e<|by simpa[dP,Act.eval]using he
 walk_nrm;refine aA.mu rfl rfl ?_;walk_nrm;refine aA.mu rfl rfl ?_;walk_nrm;have IE:jw s.nw (.int .i64 p)=(s.nw p).map fun x=>gY #[.int .i64 x.1,.bool x.2]:=rfl;obtain⟨y0,y1,hy,aO⟩:∃(y0:Int) (y1:Bool),(jw s.nw<|.int .i64 p).getD (gY #[.int .i64 0,.bool false])=gY #[.int .i64 y0,.bool y1]/\s.isOpen p t=(y0==t&&y1==true):=by
  rw[IE];unfold aH.isOpen;cases s.nw p with
  |none=>exact⟨0,false,rfl,by simp⟩
  |some x=>
   obtain⟨x0,x1⟩:=x;exact⟨x0,x1,rfl,by cases x1<;>first|(simp;done)|(simp;rfl)⟩
 rw[hy];refine aA.val (.bool<|y0==t&&y1==true) rfl rfl (by decide) (fun w1 _=>by go_simp;by_cases e:y0=t<;>cases y1<;>simp[e]) (fun w1 _ e he=>?_) ?_
 ·have h0:e∈(do eqGuard .eql 189 (.tmp 12) (.tmp 14) (gY #[.int .i64 y0,.bool y1]) (gY #[.int .i64 t,.bool true]);binOp .eql 189 (gY #[.int .i64 y0,.bool y1]) (gY #[.int .i64 t,.bool true]):Sem az).events prog w1 #[]:=by simpa[dP,Act.eval]using he
  rw[asA]at h0;simp at h0
 walk_nrm;refine aA.mu rfl rfl ?_;walk_nrm;refine aA.fQ ?_;refine aA.ctl rfl (fun _=>aEh) ?_;refine aA.leave1 rfl rfl func122 rfl ?_;walk_nrm;exact ES _ _ _ ⟨rfl,bg.refl _ _ _,by rw[aO];simp⟩
end Twin
end
end Go.Proofs.YtkelpcjiediamaaGreat
