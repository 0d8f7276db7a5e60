import Derived.Test.YtkelpcjiediamaaGreatQf8
import Derived.Test.YtkelpcjiediamaaGreatQf16
set_option maxRecDepth 100000
set_option maxHeartbeats 0
set_option linter.all false
namespace Go.Proofs.YtkelpcjiediamaaGreat
def aFS:=@Go.Conc.stepG_value
open Go renaming Frame→bH,FuncId→ji,Goroutine→bM,Program→fJ,TypeId→dJ,Value→aA,World→ay,execOp→dY,stepG→bK,undef→ai
open Go.IntKind renaming i64→ah
open Go.Item renaming inRegion→bW
open Go.Value renaming agg→iF,int→ag,ownBlock→bY,pointer→az,tuple→dU
open Go.World renaming cell?→aB
open Option renaming none→af,some→ae
open _root_.Array renaming replicate→gz
open Go.Proofs.Tryz
section
namespace Twin
open Go Go.Proofs Go.Conc Go.RowKit
section
variable{P:fJ}{main:Bool}{E:dL}{Stop:aO->bM->ay->Prop}{S:aO}{w:ay}
def aC.goes{g:bM}(hr:g.status=.running)(h:∀w1,bu S E w w1->(bK P main g w1).goes fun g' w2 es=>jC S E w1 w2 es/\aC P main E Stop (grow S w1 w2) g' w2):aC P main E Stop S g w:=
 .step1 hr fun w1 k=>let ⟨g',w2,es,e,h1,h2⟩:=aGx<|h w1 k;⟨g',w2,es,e,h1,h2⟩
variable{b:bH}{a:Act}{k:List Item}{cs:List bH}{ops:Array Oper}{i:Nat}{rest:List Nat}{o:Oper}
def aC.val(v:aA)(ho:ops[i]? =ae o)(hw:Region.wanted o (yielded ops a.tmps)=true)(hk:b.kind≠.early)(iy:∀w1,bu S E w w1->(dY a.eval o).run P w1=.ok (.value v) w1)(eX:∀w1,bu S E w w1->∀e∈(dY a.eval o).events P w1 #[],nD S E e)
 (next:aC P main E Stop S (G (b.at (a.put o.dst v)<|bW ops rest::k) cs) w):aC P main E Stop S (G (b.at a<|bW ops (i::rest)::k) cs) w:=by
 refine .step1 rfl fun w1 aT=>⟨_,w1,_,aFS ho hw hk<|iy w1 aT,⟨rfl,rfl,rfl,dI _,fun _ _ _=>rfl,fun e he=>?_,fun _ _ _ h=>h⟩,?_⟩
 ·rw[tY<|dI _];exact eX w1 aT e<|aFW he
 ·rw[tY<|dI _];exact next.rely aT
def aC.mute(v:aA)(ho:ops[i]? =ae o)(hw:Region.wanted o (yielded ops a.tmps)=true)(hk:b.kind≠.early)(iy:∀w1,(dY a.eval o).run P w1=.ok (.value v) w1)(eX:∀w1,(dY a.eval o).events P w1 #[]=#[])
 (next:aC P main E Stop S (G (b.at (a.put o.dst v)<|bW ops rest::k) cs) w):aC P main E Stop S (G (b.at a<|bW ops (i::rest)::k) cs) w:=
 .val v ho hw hk (fun w1 _=>iy w1) (fun w1 _ e he=>by rw[eX]at he;simp at he) next
def aC.mu{v:aA}(ho:ops[i]? =ae o)(hw:Region.wanted o (yielded ops a.tmps)=true)(next:aC P main E Stop S (G (b.at (a.put o.dst v)<|bW ops rest::k) cs) w)(hk:b.kind≠.early:=by decide)(iy:∀w1,(dY a.eval o).run P w1=.ok (.value v) w1:=by intro _;go_simp<;>rfl)(eX:∀w1,(dY a.eval o).events P w1 #[]=#[]:=by intro _;simp[go_sem]):aC P main E Stop S (G (b.at a<|bW ops (i::rest)::k) cs) w:=.mute v ho hw hk iy eX next
def aC.sq{x y:Code}(h:aC P main E Stop S (G (b.at a<|.code x:: .code y::k) cs) w):aC P main E Stop S (G (b.at a<|.code (.seq x y)::k) cs) w:=.ctl rfl (fun _=>aFd) h
def aC.gK(h:aC P main E Stop S (G (b.at a k) cs) w):aC P main E Stop S (G (b.at a<|bW ops []::k) cs) w:=.ctl rfl (fun _=>aFa) h
def aC.kQ(ho:ops[i]? =ae o)(hw:Region.wanted o (yielded ops a.tmps)=true)(hk:b.kind≠.early)
 (h:∀w1,bu S E w w1->∃v w2,((dY a.eval o).run P w1=.ok (.value v) w2\/(v=ai/\(dY a.eval o).run P w1=.ok .skip w2))/\jC S E w1 w2 ((dY a.eval o).events P w1 #[])/\aC P main E Stop (grow S w1 w2) (G (b.at (a.put o.dst v)<|bW ops rest::k) cs) w2):
 aC P main E Stop S (G (b.at a<|bW ops (i::rest)::k) cs) w:=by
 refine .step1 rfl fun w1 aT=>?_;obtain⟨v,w2,hr,hG,hn⟩:=h w1 aT;have VW:jC S E w1 w2 (listed P b.fn a o w1):=⟨hG.tape,hG.os,hG.output,hG.size,hG.still,fun e he=>hG.evs e<|aFW he,hG.ok⟩;rcases hr with hr|⟨rfl,hr⟩
 ·exact⟨_,w2,_,aFS ho hw hk hr,VW,hn⟩
 ·exact⟨_,w2,_,stepG_none ho hw hk hr,VW,hn⟩
variable{fn:Func}{todo:List Item}
def aC.call{f:ji}{c:Code}{args:Array Operand}{l7:Array dJ}(ho:ops[i]? =ae o)(hw:Region.wanted o (yielded ops a.tmps)=true)(hk:b.kind≠.early)(aP:o.op=.call {callee:=.value<|.func f,args,argTypes:=l7})
 (hf:P.funcs[f]? =ae fn)(Jl:(fn.name== "runtime.NumGoroutine")=false)(hb:fn.body=ae c)
 (h:aC P main E Stop S (G ((base f).at {tmps:=args.map a.eval++gz (fn.ntmps-(args.map a.eval).size) ai,defers:=[]} [.code c])<|b.at a (bW ops (i::rest)::k)::cs) w):aC P main E Stop S (G (b.at a<|bW ops (i::rest)::k) cs) w:=
 .goes rfl fun _ aT=>goes_call ho hw hk aP hf Jl hb ⟨jC.refl,by rw[tY<|dI _];exact h.rely aT⟩
def aC.leave1{b₀:bH}{a₀:Act}{t:Tmp}(hn:b.kind=.normal)(hd:a.defers=[])(hf:P.funcs[b.fn]? =ae fn)(hr:fn.results=#[.tmp t])
 (h:aC P main E Stop S (G (b₀.at (a₀.put ((ops[i]?).bind (·.dst))<|a.tmps.getD t ai)<|bW ops rest::k) cs) w):aC P main E Stop S (G {b.at a todo with mode:=.returning}<|b₀.at a₀ (bW ops (i::rest)::k)::cs) w:=
 .goes rfl fun _ aT=>goes_leave1 hn hd hf hr ⟨jC.refl,by rw[tY<|dI _];exact h.rely aT⟩
def aC.leave0{b₀:bH}{a₀:Act}(hn:b.kind=.normal)(hd:a.defers=[])(hf:P.funcs[b.fn]? =ae fn)(hr:fn.results=#[])
 (h:aC P main E Stop S (G (b₀.at (a₀.put ((ops[i]?).bind (·.dst))<|dU #[])<|bW ops rest::k) cs) w):aC P main E Stop S (G {b.at a todo with mode:=.returning}<|b₀.at a₀ (bW ops (i::rest)::k)::cs) w:=
 .goes rfl fun _ aT=>goes_leave0 hn hd hf hr ⟨jC.refl,by rw[tY<|dI _];exact h.rely aT⟩
end
def sN(P:fJ)(main:Bool)(E:dL)(f:ji)(args:Array aA)(S:aO)(w:ay)(nX:aA->aO->ay->Prop):Prop:=
 ∀(b₀:bH) (a₀:Act) (ops:Array Oper) (i:Nat) (rest:List Nat) (k:List Item) (cs:List bH) (Stop:aO->bM->ay->Prop) (fn:Func) (c:Code),P.funcs[f]? =ae fn->fn.body=ae c->
  (∀v S' w',nX v S' w'->aC P main E Stop S' (G (b₀.at (a₀.put ((ops[i]?).bind (·.dst)) v)<|bW ops rest::k) cs) w')->
  aC P main E Stop S (G ((base f).at {tmps:=args++gz (fn.ntmps-args.size) ai,defers:=[]} [.code c])<|b₀.at a₀ (bW ops (i::rest)::k)::cs) w
end Twin
end
section
namespace Twin
open Go Go.Proofs Go.Conc Go.RowKit Go.Maps
variable{E:dL}{S:aO}{w:ay}{B lb bm n clock:Nat}{v:aA}{s:aJ}{es:Array MapEntry}
def aC.reg{P:fJ}{main:Bool}{Stop:aO->bM->ay->Prop}{b:bH}{a:Act}{k:List Item}{cs:List bH}{id:Nat}{ops:Array Oper}(l:List Nat)(hl:List.range ops.size=l)(h:aC P main E Stop S (G (b.at a<|bW ops l::k) cs) w):aC P main E Stop S (G (b.at a<|.code (.region id ops false)::k) cs) w:=
 .ctl rfl (fun _=>stepG_region) (by rw[hl];exact h)
def acU{w1:ay}(h:fA w B lb bm v n s)(hl:S lb)(hm:S bm)(hr:∀k,bY v=ae k->S k)(hk:bu S E w w1):fA w1 B lb bm v n s:=by
 refine⟨by rw[hk.own lb hl];exact h.blk,?_,?_,h.hl,h.hm⟩
 ·obtain⟨h1,h2⟩:=h.row;refine⟨h1,?_⟩;rcases h2 with h2|⟨g,cap,cur,rfl,hb,hg,r⟩
  ·exact .inl h2
  ·exact .inr ⟨g,cap,cur,rfl,hb,by rw[hk.own g<|hr g rfl];exact hg,r⟩
 ·obtain⟨D,⟨es,clock,hb,r⟩,h2⟩:=h.map;exact⟨D,⟨es,clock,by rw[hk.own bm hm];exact hb,r⟩,h2⟩
def acV{p:Int}:∀(es:List MapEntry) (i:Nat),(∀e∈es,∃q:Int,e.key=.int .i64 q)->∃r,Instr.findNow (.int .i64) (.int .i64 p) es i=ae r
 |[],_,_=>⟨_,rfl⟩
 |e::es,i,h=>by
  obtain⟨q,hq⟩:=h e (by simp);obtain⟨r,hr⟩:=acV es (i+1) fun x hx=>h x (by simp[hx]);unfold Instr.findNow;rw[hq];simp only[Instr.sameNow,if_true];cases hpq:(p==q)with
  |true=>exact⟨_,rfl⟩
  |false=>exact⟨r,hr⟩
def ai0{nw:Int->Option (Int×Bool)}(h:jG w prog 3 bm n (jH nw)):∃es clock,w.heap[bm]? =ae (.map es clock)/\∀e∈es.toList,∃q:Int,e.key=.int .i64 q:=by
 obtain⟨D,⟨es,clock,h1,h2,h3,h4⟩,h5⟩:=h;have iT:=atb h2 h4 h5;exact⟨es,clock,h1,fun e he=>by obtain⟨q,x,q1,_⟩:=iT e he;exact⟨q,q1⟩⟩
def ai1(hb:w.heap[bm]? =ae (.map es clock)):(getObj bm).run prog w=.ok (.map es clock) w/\(getObj bm).events prog w #[]=#[⟨.obj bm,false,false⟩]:=by
 constructor
 ·simp[getObj,Sem.run,hb]
 ·unfold Sem.events getObj Sem.runT;rw[hb];rfl
def acW{k:Nat}{fs:Array MapEntry}(hb:w.heap[bm]? =ae (.map es clock))(f:Array Event):(setObj bm<|.map fs k).events prog w f=f.push ⟨.obj bm,true,false⟩:=by
 unfold Sem.events setObj Sem.runT;rw[hb];rfl
def atc{nw:Int->Option (Int×Bool)}(h:jG w prog 3 bm n (jH nw))(p:Int):∀e∈(Instr.lookup 161 (.map<|ae bm) (.int .i64 p) false).events prog w #[],e.loc=.obj bm/\e.sync=false:=by
 obtain⟨es,clock,hb,hk⟩:=ai0 h;obtain⟨r,hr⟩:=acV (p:=p) es.toList 0 hk;obtain⟨g1,g2⟩:=ai1 hb;unfold Instr.lookup Instr.findKey Instr.checkKey;cases r with
 |none=>
  cases hi:prog.info? 189 with
  |none=>simp[go_sem,g1,g2,hr,zeroValue,typeInfo,hi]
  |some i=>cases hz:i.zero<;>simp[go_sem,g1,g2,hr,zeroValue,typeInfo,hi,hz]
 |some x=>simp[go_sem,g1,g2,hr]
def atd{nw:Int->Option (Int×Bool)}(h:jG w prog 3 bm n (jH nw))(p:Int)(v:aA):∀e∈(Instr.mapUpdate 161 (.map<|ae bm) (.int .i64 p) v).events prog w #[],e.loc=.obj bm/\e.sync=false:=by
 obtain⟨es,clock,hb,hk⟩:=ai0 h;obtain⟨r,hr⟩:=acV (p:=p) es.toList 0 hk;obtain⟨g1,g2⟩:=ai1 hb;unfold Instr.mapUpdate Instr.findKey Instr.checkKey;cases r with
 |none=>simp[go_sem,g1,g2,hr,acW hb]
 |some x=>
  simp[go_sem,g1,g2,hr,Instr.keyThatStays];split<;>simp[acW hb,acW (w:=w.drew) hb]
def ate{y0 t:Int}{y1:Bool}:(do eqGuard .eql 189 (.tmp 12) (.tmp 14) (iF #[ag ah y0,.bool y1]) (iF #[ag ah t,.bool true]);binOp .eql 189 (iF #[ag ah y0,.bool y1]) (iF #[ag ah t,.bool true]):Sem aA).events prog w #[]=#[]:=by
 have hg:prog.eqGuardType prog.depth 189=false:=by kernel_rfl
 have e1:∀f,(eqGuard .eql 189 (.tmp 12) (.tmp 14) (iF #[ag ah y0,.bool y1])<|iF #[ag ah t,.bool true]).events prog w f=f:=fun f=>by
  unfold eqGuard;simp[go_sem,hg]
 go_simp
 have r3:∀(d:Nat) (a b:Int),(Op.equalIn (d+1) 3 (.int .i64 a)<|.int .i64 b).run prog w=.ok (a==b) w/\∀f,(Op.equalIn (d+1) 3 (.int .i64 a)<|.int .i64 b).events prog w f=f:=fun d a b=>by
  unfold Op.equalIn;constructor
  ·simp[go_sem]
  ·simp[go_sem]
 have r4:∀(d:Nat) (a b:Bool),(Op.equalIn (d+1) 4 (.bool a)<|.bool b).run prog w=.ok (a==b) w/\∀f,(Op.equalIn (d+1) 4 (.bool a)<|.bool b).events prog w f=f:=fun d a b=>by
  unfold Op.equalIn;constructor
  ·simp[go_sem]
  ·simp[go_sem]
 have r5:∀d f,(Op.equalIn (d+2) 189 (iF #[ag ah y0,.bool y1])<|iF #[ag ah t,.bool true]).events prog w f=f:=fun d f=>by
  rw[Op.equalIn];simp[go_sem,r3,r4]
 show Sem.events prog (Op.equal 189 (iF #[ag ah y0,.bool y1]) (iF #[ag ah t,.bool true])>>=fun b=>pure<|Value.bool b) w #[]=#[];have r6:(Op.equal 189 (iF #[ag ah y0,.bool y1])<|iF #[ag ah t,.bool true]).events prog w #[]=#[]:=r5 _ _;rw[Sem.events_bind,r6];cases (Op.equal 189 (iF #[ag ah y0,.bool y1])<|iF #[ag ah t,.bool true]).run prog w<;>simp[go_sem,Result.evThen]
def evg{e:Event}(hm:S bm)(h:e.loc=.obj bm/\e.sync=false):nD S E e:=by
 unfold nD;rw[h.1];exact⟨h.2,.inl hm⟩
def atf(h:fA w B lb bm v n s)(hl:S lb)(hm:S bm)(hr:∀k,bY v=ae k->S k)(p t:Int)(hp:(Lit.int .i64 p).wf=true):
 sN prog false E 122 #[az<|ae ⟨lb,0,af⟩,ag ah p,ag ah t] S w fun x S' w'=>S'=S/\bu S E w w'/\x=.bool (s.isOpen p t):=by
 intro b₀ a₀ ops i rest k cs Stop fn c hf hc Fj;obtain rfl:fn=Tryz.f122:=by rw[func122]at hf;exact(rP hf).s
 obtain rfl:c=(Tryz.f122.body.getD .skip):=by rw[hc];rfl
 simp only[Tryz.f122,ik];walk_nrm;refine aC.sq ?_;refine aC.reg [0] rfl ?_;refine aC.mu rfl rfl ?_;walk_nrm;refine aC.gK ?_;refine aC.sq ?_;refine aC.reg [0,1,2,3,4,5,6,7,8,9] rfl ?_;refine aC.mu rfl rfl ?_;walk_nrm;refine aC.mu rfl rfl ?_;walk_nrm;refine aC.mu rfl rfl ?_;walk_nrm;have hL:∀w1,bu S E w w1->fA w1 B lb bm v n s:=fun w1 hk=>acU h hl hm hr hk;have hcell:∀w1,bu S E w w1->aB w1 ⟨lb,2,af⟩=ae (.map<|ae bm):=fun w1 hk=>by rw[aQ (hL w1 hk).blk];rfl
 refine aC.val (.map<|ae bm) rfl rfl (by decide) (fun w1 aT=>by have hc:=hcell w1 aT;go_simp) (fun w1 aT e he=>?_) ?_
 ·have hc:=hcell w1 aT;simp[go_sem,hc]at he;subst he;exact .inl hl
 walk_nrm;refine aC.mu rfl rfl ?_;walk_nrm;have mG:keyOf prog 3 (.int .i64 p)=ae (.int .i64 p):=aF2 underlying3 hp;have aAX:∀w1,bu S E w w1->(Instr.lookup 161 (.map<|ae bm) (.int .i64 p) false).run prog w1=.ok ((jH s.nw<|.int .i64 p).getD<|iF #[ag ah 0,.bool false]) w1:=fun w1 hk=>(hL w1 hk).map.look Bl underlying161 (aaO w1) mG;refine aC.val ((jH s.nw<|.int .i64 p).getD<|iF #[ag ah 0,.bool false]) rfl rfl (by decide) (fun w1 aT=>by have hc:=aAX w1 aT;go_simp) (fun w1 aT e he=>?_) ?_
 ·exact evg hm<|atc (hL w1 aT).map p e<|by simpa[dY,Act.eval]using he
 walk_nrm;refine aC.mu rfl rfl ?_;walk_nrm;refine aC.mu rfl rfl ?_;walk_nrm;have Ja:jH s.nw (.int .i64 p)=(s.nw p).map fun x=>iF #[ag ah x.1,.bool x.2]:=rfl;obtain⟨y0,y1,hy,aP⟩:∃(y0:Int) (y1:Bool),(jH s.nw<|.int .i64 p).getD (iF #[ag ah 0,.bool false])=iF #[ag ah y0,.bool y1]/\s.isOpen p t=(y0==t&&y1==true):=by
  rw[Ja];unfold aJ.isOpen;cases s.nw p with
  |none=>exact⟨0,false,rfl,by simp⟩
  |some x=>
   obtain⟨x0,x1⟩:=x;exact⟨x0,x1,rfl,by cases x1<;>first|(simp;done)|(simp;rfl)⟩
 rw[hy];refine aC.val (.bool<|y0==t&&y1==true) rfl rfl (by decide) (fun w1 _=>by go_simp;by_cases e:y0=t<;>cases y1<;>simp[e]) (fun w1 _ e he=>?_) ?_
 ·have h0:e∈(do eqGuard .eql 189 (.tmp 12) (.tmp 14) (iF #[ag ah y0,.bool y1]) (iF #[ag ah t,.bool true]);binOp .eql 189 (iF #[ag ah y0,.bool y1]) (iF #[ag ah t,.bool true]):Sem aA).events prog w1 #[]:=by simpa[dY,Act.eval]using he
  rw[ate]at h0;simp at h0
 walk_nrm;refine aC.mu rfl rfl ?_;walk_nrm;refine aC.gK ?_;refine aC.ctl rfl (fun _=>aFu) ?_;refine aC.leave1 rfl rfl func122 rfl ?_;walk_nrm;exact Fj _ _ _ ⟨rfl,bu.refl _ _ _,by rw[aP];simp⟩
end Twin
end
