import Derived.Test.YtkelpcjiediamaaGreatQb13
import Derived.Test.YtkelpcjiediamaaGreatQb30
set_option maxRecDepth 100000
set_option maxHeartbeats 0
set_option linter.all false
namespace Go.Proofs.YtkelpcjiediamaaGreat
def aCG:=@Go.Conc.stepG_value
open Go renaming Frame→aV,Goroutine→aX,Program→dO,TypeId→bW,Value→aj,World→ah,execOp→dJ,stepG→aW,undef→ag
open Option renaming none→af,some→ae
open Go.Proofs.Tryz
section
namespace Twin
open Go Go.Proofs Go.Conc Go.RowKit
section
variable{P:dO}{main:Bool}{E:cO}{Stop:aC->aX->ah->Prop}{S:aC}{w:ah}
def au.goes{g:aX}(hr:g.status=.running)(h:∀w1,aQ S E w w1->(aW P main g w1).goes fun g' w2 es=>iO S E w1 w2 es/\au P main E Stop (grow S w1 w2) g' w2):au P main E Stop S g w:=
 .step1 hr fun w1 k=>let ⟨g',w2,es,e,h1,h2⟩:=aDk<|h w1 k;⟨g',w2,es,e,h1,h2⟩
variable{b:aV}{a:Act}{k:List Item}{cs:List aV}{ops:Array Oper}{i:Nat}{rest:List Nat}{o:Oper}
def au.val(v:aj)(ho:ops[i]? =ae o)(hw:Region.wanted o (yielded ops a.tmps)=true)(hk:b.kind≠.early)(fU:∀w1,aQ S E w w1->(dJ a.eval o).run P w1=.ok (.value v) w1)(dI:∀w1,aQ S E w w1->∀e∈(dJ a.eval o).events P w1 #[],lT S E e)
 (next:au P main E Stop S (G (b.at (a.put o.dst v)<|.inRegion ops rest::k) cs) w):au P main E Stop S (G (b.at a<|.inRegion ops (i::rest)::k) cs) w:=by
 refine .step1 rfl fun w1 aI=>⟨_,w1,_,aCG ho hw hk<|fU w1 aI,⟨rfl,rfl,rfl,bV _,fun _ _ _=>rfl,fun e he=>?_,fun _ _ _ h=>h⟩,?_⟩
 ·rw[rD<|bV _];exact dI w1 aI e<|aCJ he
 ·rw[rD<|bV _];exact next.rely aI
def au.mute(v:aj)(ho:ops[i]? =ae o)(hw:Region.wanted o (yielded ops a.tmps)=true)(hk:b.kind≠.early)(fU:∀w1,(dJ a.eval o).run P w1=.ok (.value v) w1)(dI:∀w1,(dJ a.eval o).events P w1 #[]=#[])
 (next:au P main E Stop S (G (b.at (a.put o.dst v)<|.inRegion ops rest::k) cs) w):au P main E Stop S (G (b.at a<|.inRegion ops (i::rest)::k) cs) w:=
 .val v ho hw hk (fun w1 _=>fU w1) (fun w1 _ e he=>by rw[dI]at he;simp at he) next
def au.mu{v:aj}(ho:ops[i]? =ae o)(hw:Region.wanted o (yielded ops a.tmps)=true)(next:au P main E Stop S (G (b.at (a.put o.dst v)<|.inRegion ops rest::k) cs) w)(hk:b.kind≠.early:=by decide)(fU:∀w1,(dJ a.eval o).run P w1=.ok (.value v) w1:=by intro _;go_simp<;>rfl)(dI:∀w1,(dJ a.eval o).events P w1 #[]=#[]:=by intro _;simp[go_sem]):au P main E Stop S (G (b.at a<|.inRegion ops (i::rest)::k) cs) w:=.mute v ho hw hk fU dI next
def au.sq{x y:Code}(h:au P main E Stop S (G (b.at a<|.code x:: .code y::k) cs) w):au P main E Stop S (G (b.at a<|.code (.seq x y)::k) cs) w:=.ctl rfl (fun _=>aB2) h
def au.fA(h:au P main E Stop S (G (b.at a k) cs) w):au P main E Stop S (G (b.at a<|.inRegion ops []::k) cs) w:=.ctl rfl (fun _=>aBZ) h
def au.jM(ho:ops[i]? =ae o)(hw:Region.wanted o (yielded ops a.tmps)=true)(hk:b.kind≠.early)
 (h:∀w1,aQ S E w w1->∃v w2,((dJ a.eval o).run P w1=.ok (.value v) w2\/(v=ag/\(dJ a.eval o).run P w1=.ok .skip w2))/\iO S E w1 w2 ((dJ a.eval o).events P w1 #[])/\au P main E Stop (grow S w1 w2) (G (b.at (a.put o.dst v)<|.inRegion ops rest::k) cs) w2):
 au P main E Stop S (G (b.at a<|.inRegion ops (i::rest)::k) cs) w:=by
 refine .step1 rfl fun w1 aI=>?_;obtain⟨v,w2,hr,hG,hn⟩:=h w1 aI;have TN:iO S E w1 w2 (listed P b.fn a o w1):=⟨hG.tape,hG.os,hG.output,hG.size,hG.still,fun e he=>hG.evs e<|aCJ he,hG.ok⟩;rcases hr with hr|⟨rfl,hr⟩
 ·exact⟨_,w2,_,aCG ho hw hk hr,TN,hn⟩
 ·exact⟨_,w2,_,stepG_none ho hw hk hr,TN,hn⟩
variable{fn:Func}{todo:List Item}
def au.call{f:FuncId}{c:Code}{args:Array Operand}{kP:Array bW}(ho:ops[i]? =ae o)(hw:Region.wanted o (yielded ops a.tmps)=true)(hk:b.kind≠.early)(aF:o.op=.call {callee:=.value<|.func f,args,argTypes:=kP})
 (hf:P.funcs[f]? =ae fn)(Ht:(fn.name== "runtime.NumGoroutine")=false)(hb:fn.body=ae c)
 (h:au P main E Stop S (G ((base f).at {tmps:=args.map a.eval++Array.replicate (fn.ntmps-(args.map a.eval).size) ag,defers:=[]} [.code c])<|b.at a (.inRegion ops (i::rest)::k)::cs) w):au P main E Stop S (G (b.at a<|.inRegion ops (i::rest)::k) cs) w:=
 .goes rfl fun _ aI=>goes_call ho hw hk aF hf Ht hb ⟨iO.refl,by rw[rD<|bV _];exact h.rely aI⟩
def au.leave1{b₀:aV}{a₀:Act}{t:Tmp}(hn:b.kind=.normal)(hd:a.defers=[])(hf:P.funcs[b.fn]? =ae fn)(hr:fn.results=#[.tmp t])
 (h:au P main E Stop S (G (b₀.at (a₀.put ((ops[i]?).bind (·.dst))<|a.tmps.getD t ag)<|.inRegion ops rest::k) cs) w):au P main E Stop S (G {b.at a todo with mode:=.returning}<|b₀.at a₀ (.inRegion ops (i::rest)::k)::cs) w:=
 .goes rfl fun _ aI=>goes_leave1 hn hd hf hr ⟨iO.refl,by rw[rD<|bV _];exact h.rely aI⟩
def au.leave0{b₀:aV}{a₀:Act}(hn:b.kind=.normal)(hd:a.defers=[])(hf:P.funcs[b.fn]? =ae fn)(hr:fn.results=#[])
 (h:au P main E Stop S (G (b₀.at (a₀.put ((ops[i]?).bind (·.dst))<|.tuple #[])<|.inRegion ops rest::k) cs) w):au P main E Stop S (G {b.at a todo with mode:=.returning}<|b₀.at a₀ (.inRegion ops (i::rest)::k)::cs) w:=
 .goes rfl fun _ aI=>goes_leave0 hn hd hf hr ⟨iO.refl,by rw[rD<|bV _];exact h.rely aI⟩
end
def qN(P:dO)(main:Bool)(E:cO)(f:FuncId)(args:Array aj)(S:aC)(w:ah)(mi:aj->aC->ah->Prop):Prop:=
 ∀(b₀:aV) (a₀:Act) (ops:Array Oper) (i:Nat) (rest:List Nat) (k:List Item) (cs:List aV) (Stop:aC->aX->ah->Prop) (fn:Func) (c:Code),P.funcs[f]? =ae fn->fn.body=ae c->
  (∀v S' w',mi v S' w'->au P main E Stop S' (G (b₀.at (a₀.put ((ops[i]?).bind (·.dst)) v)<|.inRegion ops rest::k) cs) w')->
  au P main E Stop S (G ((base f).at {tmps:=args++Array.replicate (fn.ntmps-args.size) ag,defers:=[]} [.code c])<|b₀.at a₀ (.inRegion ops (i::rest)::k)::cs) w
end Twin
end
section
namespace Twin
open Go Go.Proofs Go.Conc Go.RowKit Go.Maps
variable{E:cO}{S:aC}{w:ah}{B lb bm n clock:Nat}{v:aj}{s:aA}{es:Array MapEntry}
def au.reg{P:dO}{main:Bool}{Stop:aC->aX->ah->Prop}{b:aV}{a:Act}{k:List Item}{cs:List aV}{id:Nat}{ops:Array Oper}(l:List Nat)(hl:List.range ops.size=l)(h:au P main E Stop S (G (b.at a<|.inRegion ops l::k) cs) w):au P main E Stop S (G (b.at a<|.code (.region id ops false)::k) cs) w:=
 .ctl rfl (fun _=>stepG_region) (by rw[hl];exact h)
def aaX{w1:ah}(h:dK w B lb bm v n s)(hl:S lb)(hm:S bm)(hr:∀k,v.ownBlock=ae k->S k)(hk:aQ S E w w1):dK w1 B lb bm v n s:=by
 refine⟨by rw[hk.own lb hl];exact h.blk,?_,?_,h.hl,h.hm⟩
 ·obtain⟨h1,h2⟩:=h.row;refine⟨h1,?_⟩;rcases h2 with h2|⟨g,cap,cur,rfl,hb,hg,r⟩
  ·exact .inl h2
  ·exact .inr ⟨g,cap,cur,rfl,hb,by rw[hk.own g<|hr g rfl];exact hg,r⟩
 ·obtain⟨D,⟨es,clock,hb,r⟩,h2⟩:=h.map;exact⟨D,⟨es,clock,by rw[hk.own bm hm];exact hb,r⟩,h2⟩
def aaY{p:Int}:∀(es:List MapEntry) (i:Nat),(∀e∈es,∃q:Int,e.key=.int .i64 q)->∃r,Instr.findNow (.int .i64) (.int .i64 p) es i=ae r
 |[],_,_=>⟨_,rfl⟩
 |e::es,i,h=>by
  obtain⟨q,hq⟩:=h e (by simp);obtain⟨r,hr⟩:=aaY es (i+1) fun x hx=>h x (by simp[hx]);unfold Instr.findNow;rw[hq];simp only[Instr.sameNow,if_true];cases hpq:(p==q)with
  |true=>exact⟨_,rfl⟩
  |false=>exact⟨r,hr⟩
def agU{nw:Int->Option (Int×Bool)}(h:iV w prog 3 bm n (iW nw)):∃es clock,w.heap[bm]? =ae (.map es clock)/\∀e∈es.toList,∃q:Int,e.key=.int .i64 q:=by
 obtain⟨D,⟨es,clock,h1,h2,h3,h4⟩,h5⟩:=h;have iF:=aqJ h2 h4 h5;exact⟨es,clock,h1,fun e he=>by obtain⟨q,x,q1,_⟩:=iF e he;exact⟨q,q1⟩⟩
def agV(hb:w.heap[bm]? =ae (.map es clock)):(getObj bm).run prog w=.ok (.map es clock) w/\(getObj bm).events prog w #[]=#[⟨.obj bm,false,false⟩]:=by
 constructor
 ·simp[getObj,Sem.run,hb]
 ·unfold Sem.events getObj Sem.runT;rw[hb];rfl
def aaZ{k:Nat}{fs:Array MapEntry}(hb:w.heap[bm]? =ae (.map es clock))(f:Array Event):(setObj bm<|.map fs k).events prog w f=f.push ⟨.obj bm,true,false⟩:=by
 unfold Sem.events setObj Sem.runT;rw[hb];rfl
def aqK{nw:Int->Option (Int×Bool)}(h:iV w prog 3 bm n (iW nw))(p:Int):∀e∈(Instr.lookup 161 (.map<|ae bm) (.int .i64 p) false).events prog w #[],e.loc=.obj bm/\e.sync=false:=by
 obtain⟨es,clock,hb,hk⟩:=agU h;obtain⟨r,hr⟩:=aaY (p:=p) es.toList 0 hk;obtain⟨g1,g2⟩:=agV hb;unfold Instr.lookup Instr.findKey Instr.checkKey;cases r with
 |none=>
  cases hi:prog.info? 189 with
  |none=>simp[go_sem,g1,g2,hr,zeroValue,typeInfo,hi]
  |some i=>cases hz:i.zero<;>simp[go_sem,g1,g2,hr,zeroValue,typeInfo,hi,hz]
 |some x=>simp[go_sem,g1,g2,hr]
def aqL{nw:Int->Option (Int×Bool)}(h:iV w prog 3 bm n (iW nw))(p:Int)(v:aj):∀e∈(Instr.mapUpdate 161 (.map<|ae bm) (.int .i64 p) v).events prog w #[],e.loc=.obj bm/\e.sync=false:=by
 obtain⟨es,clock,hb,hk⟩:=agU h;obtain⟨r,hr⟩:=aaY (p:=p) es.toList 0 hk;obtain⟨g1,g2⟩:=agV hb;unfold Instr.mapUpdate Instr.findKey Instr.checkKey;cases r with
 |none=>simp[go_sem,g1,g2,hr,aaZ hb]
 |some x=>
  simp[go_sem,g1,g2,hr,Instr.keyThatStays];split<;>simp[aaZ hb,aaZ (w:=w.drew) hb]
def aqM{y0 t:Int}{y1:Bool}:(do eqGuard .eql 189 (.tmp 12) (.tmp 14) (.agg #[.int .i64 y0,.bool y1]) (.agg #[.int .i64 t,.bool true]);binOp .eql 189 (.agg #[.int .i64 y0,.bool y1]) (.agg #[.int .i64 t,.bool true]):Sem aj).events prog w #[]=#[]:=by
 have hg:prog.eqGuardType prog.depth 189=false:=by kernel_rfl
 have e1:∀f,(eqGuard .eql 189 (.tmp 12) (.tmp 14) (.agg #[.int .i64 y0,.bool y1])<|.agg #[.int .i64 t,.bool true]).events prog w f=f:=fun f=>by
  unfold eqGuard;simp[go_sem,hg]
 go_simp
 have r3:∀(d:Nat) (a b:Int),(Op.equalIn (d+1) 3 (.int .i64 a)<|.int .i64 b).run prog w=.ok (a==b) w/\∀f,(Op.equalIn (d+1) 3 (.int .i64 a)<|.int .i64 b).events prog w f=f:=fun d a b=>by
  unfold Op.equalIn;constructor
  ·simp[go_sem]
  ·simp[go_sem]
 have r4:∀(d:Nat) (a b:Bool),(Op.equalIn (d+1) 4 (.bool a)<|.bool b).run prog w=.ok (a==b) w/\∀f,(Op.equalIn (d+1) 4 (.bool a)<|.bool b).events prog w f=f:=fun d a b=>by
  unfold Op.equalIn;constructor
  ·simp[go_sem]
  ·simp[go_sem]
 have r5:∀d f,(Op.equalIn (d+2) 189 (.agg #[.int .i64 y0,.bool y1])<|.agg #[.int .i64 t,.bool true]).events prog w f=f:=fun d f=>by
  rw[Op.equalIn];simp[go_sem,r3,r4]
 show Sem.events prog (Op.equal 189 (.agg #[.int .i64 y0,.bool y1]) (.agg #[.int .i64 t,.bool true])>>=fun b=>pure<|Value.bool b) w #[]=#[];have r6:(Op.equal 189 (.agg #[.int .i64 y0,.bool y1])<|.agg #[.int .i64 t,.bool true]).events prog w #[]=#[]:=r5 _ _;rw[Sem.events_bind,r6];cases (Op.equal 189 (.agg #[.int .i64 y0,.bool y1])<|.agg #[.int .i64 t,.bool true]).run prog w<;>simp[go_sem,Result.evThen]
def evg{e:Event}(hm:S bm)(h:e.loc=.obj bm/\e.sync=false):lT S E e:=by
 unfold lT;rw[h.1];exact⟨h.2,.inl hm⟩
def aqN(h:dK w B lb bm v n s)(hl:S lb)(hm:S bm)(hr:∀k,v.ownBlock=ae k->S k)(p t:Int)(hp:(Lit.int .i64 p).wf=true):
 qN prog false E 122 #[.pointer<|ae ⟨lb,0,af⟩,.int .i64 p,.int .i64 t] S w fun x S' w'=>S'=S/\aQ S E w w'/\x=.bool (s.isOpen p t):=by
 intro b₀ a₀ ops i rest k cs Stop fn c hf hc D7;obtain rfl:fn=Tryz.f122:=by rw[func122]at hf;exact(qE hf).symm
 obtain rfl:c=(Tryz.f122.body.getD .skip):=by rw[hc];rfl
 simp only[Tryz.f122,gQ];walk_nrm;refine au.sq ?_;refine au.reg [0] rfl ?_;refine au.mu rfl rfl ?_;walk_nrm;refine au.fA ?_;refine au.sq ?_;refine au.reg [0,1,2,3,4,5,6,7,8,9] rfl ?_;refine au.mu rfl rfl ?_;walk_nrm;refine au.mu rfl rfl ?_;walk_nrm;refine au.mu rfl rfl ?_;walk_nrm;have hL:∀w1,aQ S E w w1->dK w1 B lb bm v n s:=fun w1 hk=>aaX h hl hm hr hk;have hcell:∀w1,aQ S E w w1->w1.cell? ⟨lb,2,af⟩=ae (.map<|ae bm):=fun w1 hk=>by rw[aG (hL w1 hk).blk];rfl
 refine au.val (.map<|ae bm) rfl rfl (by decide) (fun w1 aI=>by have hc:=hcell w1 aI;go_simp) (fun w1 aI e he=>?_) ?_
 ·have hc:=hcell w1 aI;simp[go_sem,hc]at he;subst he;exact .inl hl
 walk_nrm;refine au.mu rfl rfl ?_;walk_nrm;have kY:keyOf prog 3 (.int .i64 p)=ae (.int .i64 p):=aCO underlying3 hp;have ax0:∀w1,aQ S E w w1->(Instr.lookup 161 (.map<|ae bm) (.int .i64 p) false).run prog w1=.ok ((iW s.nw<|.int .i64 p).getD<|.agg #[.int .i64 0,.bool false]) w1:=fun w1 hk=>(hL w1 hk).map.look zN underlying161 (YP w1) kY;refine au.val ((iW s.nw<|.int .i64 p).getD<|.agg #[.int .i64 0,.bool false]) rfl rfl (by decide) (fun w1 aI=>by have hc:=ax0 w1 aI;go_simp) (fun w1 aI e he=>?_) ?_
 ·exact evg hm<|aqK (hL w1 aI).map p e<|by simpa[dJ,Act.eval]using he
 walk_nrm;refine au.mu rfl rfl ?_;walk_nrm;refine au.mu rfl rfl ?_;walk_nrm;have G7:iW s.nw (.int .i64 p)=(s.nw p).map fun x=>.agg #[.int .i64 x.1,.bool x.2]:=rfl;obtain⟨y0,y1,hy,aF⟩:∃(y0:Int) (y1:Bool),(iW s.nw<|.int .i64 p).getD (.agg #[.int .i64 0,.bool false])=.agg #[.int .i64 y0,.bool y1]/\s.isOpen p t=(y0==t&&y1==true):=by
  rw[G7];unfold aA.isOpen;cases s.nw p with
  |none=>exact⟨0,false,rfl,by simp⟩
  |some x=>
   obtain⟨x0,x1⟩:=x;exact⟨x0,x1,rfl,by cases x1<;>first|(simp;done)|(simp;rfl)⟩
 rw[hy];refine au.val (.bool<|y0==t&&y1==true) rfl rfl (by decide) (fun w1 _=>by go_simp;by_cases e:y0=t<;>cases y1<;>simp[e]) (fun w1 _ e he=>?_) ?_
 ·have h0:e∈(do eqGuard .eql 189 (.tmp 12) (.tmp 14) (.agg #[.int .i64 y0,.bool y1]) (.agg #[.int .i64 t,.bool true]);binOp .eql 189 (.agg #[.int .i64 y0,.bool y1]) (.agg #[.int .i64 t,.bool true]):Sem aj).events prog w1 #[]:=by simpa[dJ,Act.eval]using he
  rw[aqM]at h0;simp at h0
 walk_nrm;refine au.mu rfl rfl ?_;walk_nrm;refine au.fA ?_;refine au.ctl rfl (fun _=>aCi) ?_;refine au.leave1 rfl rfl func122 rfl ?_;walk_nrm;exact D7 _ _ _ ⟨rfl,aQ.refl _ _ _,by rw[aF];simp⟩
end Twin
end
end Go.Proofs.YtkelpcjiediamaaGreat
