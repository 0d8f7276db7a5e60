import Derived.Test.YtkelpcjiediamaaGreatQb37
set_option maxRecDepth 100000
set_option maxHeartbeats 0
set_option linter.all false
namespace Go.Proofs.YtkelpcjiediamaaGreat
open Go renaming Frame→aV,Goroutine→aX,TypeId→bW,Value→aj,World→ah,execOp→dJ,undef→ag
open Option renaming none→af,some→ae
open Go.Proofs.Tryz
section
namespace Twin
open Go Go.Proofs Go.Conc Go.RowKit Go.Maps eX
open Go.ConcR (WgAt KK DC0)
open Go.ConcN (WgLive)
noncomputable def KP:Array Oper:=match iD (fB Dj)with| .region _ o _=>o|_=>#[]
noncomputable def Dk:Code:=fB<|fB Dj
noncomputable def di(cs:List aV)(a:Act):Goroutine:=G ((base 54).at (a.put (ae 67)<|.tuple #[]) [.inRegion KP [],.code Dk]) cs
noncomputable def BA(z:Gs)(cs:List aV)(a:Act):aX->ah->Prop:=QX link z.Wg ((base 54).at a [.inRegion KP [0],.code Dk]) cs
def Gs.Mid(z:Gs)(u:Nat->aj)(a:Act)(S:aC)(w:ah):Prop:=
 ∃t9 t10 t33 t34 t35 t36 t37 t38 t39 t40 t41 t42 t13 t46 t47 t48 t49 t50 t51 t52 t53 t54 t55 t56 t57 t58 t59 t60 t61 t62 t63 t64 t65 av:aj,a=⟨#[.pointer<|ae ⟨z.xb,0,af⟩,.slice z.ma z.ms.length z.mc,.pointer<|ae ⟨z.hv,0,af⟩,u 3,u 4,.slice (ae ⟨z.mr,0,af⟩) z.np z.np,.pointer<|ae ⟨z.sv,0,af⟩,.pointer<|ae ⟨z.ob,0,af⟩,.pointer<|ae ⟨z.Wg,0,af⟩,t9,t10,av,u 12,t13,u 14,u 15,u 16,u 17,u 18,u 19,u 20,u 21,u 22,u 23,u 24,u 25,u 26,u 27,u 28,u 29,u 30,.int .i64 z.np,.int .i64 z.np,t33,t34,t35,t36,t37,t38,t39,t40,t41,t42,.slice z.ma z.ms.length z.mc,.int .i64 z.ms.length,.int .i64 z.ms.length,t46,t47,t48,t49,t50,t51,t52,t53,t54,t55,t56,t57,t58,t59,t60,t61,t62,t63,t64,t65,.chan<|ae z.ov,u 67,u 68,u 69,u 70,u 71],[]⟩/\z.Aa w/\Own S w z.Ba 119 5 av (dU z.ms).length ((dU z.ms).flatMap Ms.cs)
def Gs.bT(z:Gs)(k:Kd)(l:List aj)(v:aj)(S:aC)(w:ah):Prop:=∃lm:List Ms,l=lm.map jS/\k.x.p.At (KN z.R k.x) lm v S w
variable{z:Gs}{k:Kd}{l:List aj}{v:aj}{S:aC}{w:ah}
def Gs.bT.aP{w1:ah}(h:z.bT k l v S w)(hk:aQ S (KN z.R k.x) w w1):z.bT k l v S w1:=let ⟨lm,h1,h2⟩:=h;⟨lm,h1,h2.aP hk⟩
def Gs.bT.named(h:z.bT k l v S w)(B:ai.bP)(hB:∀b,B.bK b->¬S b):ai.az B v:=let ⟨_,_,h2⟩:=h;Q3 h2.oz.row fun b hb hx=>hB b hx<|h2.oz.r b hb
def Gs.fin{z:Gs}(hO:z.Ok){ks:List Kd}(hg:z.Good ks)(i:Nat)(k:Kd)(hk:ks[i]? =ae k)(l:List aj)(S:aC)(g:aX)(w:ah)(h:z.iw.Fin k l S g w):∃v,z.iw.zX 177 z.np i v g w/\z.bT k l v S w:=by
 obtain⟨p,nb,cb,c,hp,rfl⟩:=hg i k hk;obtain⟨lm,v,rfl,rfl,hA,_⟩:=h;have hi:i<z.np:=(dD.1 hp).1;refine⟨v,?_,lm,rfl,hA⟩;rcases hA.oz.row.2 with h2|⟨g,cap,cur,rfl,_⟩
 ·obtain rfl:=h2.1;exact ahn (X:=z.iw) (x:=z.wx i p nb cb c) rfl rfl rfl hO.Wp hi
 ·exact ahn (X:=z.iw) (x:=z.wx i p nb cb c) rfl rfl rfl hO.Wp hi
open Go.Conc.Lib Go.ConcR.Gen Go.ConcN.Gen in
def arV(v1:aj):#[v1]++Array.replicate ((waitFn link).ntmps- #[v1].size) ag=#[v1]++Array.replicate 83 undef:=by
 kernel_rfl
open Go.ConcR (Payload)in
def arW [Payload]{K:Type}{X:bn K}{ty:bW}{n:Nat}{Anch:aX->ah->Prop}{Mid:aC->ah->Prop}{bT:K->List aj->aj->aC->ah->Prop}{Good:List K->Prop}{ks:List K}{E E2:cO}{S:aC}{w:ah}{b:aV}{a:Act}{k:List Item}{cs:List aV}{ops:Array Oper}{i:Nat}{rest:List Nat}{o:Oper}{x:Operand}{kP:Array bW}
 (ho:ops[i]? =ae o)(hw:Region.wanted o (yielded ops a.tmps)=true)(hk:b.kind≠.early)(hq:(X.P.funcs[b.fn]?).any (·.norace)=false)(aF:o.op=.call {callee:=.builtin .close,args:=#[x],argTypes:=kP})(hx:a.eval x=.chan (ae X.ov))
 (hlen:ks.length=n)(X9:Good ks)(bH:WgAt ty X.Wg w (n*KK) 0)(yB:∀(i:Nat) (k:K),ks[i]? =ae k->∀l S g w,X.Fin k l S g w->∃v,X.zX ty n i v g w/\bT k l v S w)
 (Hl:∀b,E2.ro b->E.ro b/\b≠X.Wg)(TB:∀b,E2.rd b->E.rd b)(hR:∀cap s r,w.heap[X.ov]? =ae (.chan cap #[] false s r false)->au X.P true E2 (fun S g w=>X.AtKd ty Anch g w/\Mid S w) S (G (b.at (a.put o.dst<|.tuple #[])<|.inRegion ops rest::k) cs) {w with heap:=w.heap.setIfInBounds X.ov<|.chan cap #[] true s r false}):
 X.AtClose ty n Anch Mid bT Good ks E S (G (b.at a<|.inRegion ops (i::rest)::k) cs) w:=by
 refine⟨hlen,X9,bH,?_,yB,G (b.at (a.put o.dst<|.tuple #[])<|.inRegion ops rest::k) cs,E2,rfl,Hl,TB,fun cap s r zA=>⟨?_,hR cap s r zA⟩⟩
 ·simp[mayWake,G,Frame.at,ho,aF]
 ·have fU:(dJ a.eval o).run X.P w=.ok (.value<|.tuple #[]) {w with heap:=w.heap.setIfInBounds X.ov<|.chan cap #[] true s r false}:=by
   unfold dJ;simp only[aF,resolve,invoke,builtin,Sem.run_bind,Sem.run_pure,Result.andThen_ok,adL,yM,zL,hx,run_close_open _ _ zA]
  have dI:(dJ a.eval o).events X.P w #[]=#[⟨.obj X.ov,false,true⟩,⟨.obj X.ov,true,true⟩]:=by
   unfold dJ;simp[aF,resolve,invoke,builtin,hx,events_close_open _ _ zA]
  rw[aCG ho hw hk fU];congr 1;unfold listed;rw[dI];exact seen_eq hq<|by simp
open Go.Conc.Lib Go.ConcR.Gen Go.ConcN.Gen in
def arX{K:Type}{X:bn K}{E:cO}{S:aC}{w:ah}{Mid:aC->ah->Prop}{b:aV}{a:Act}{ops:Array Oper}{i:Nat}{rest:List Nat}{k:List Item}{cs:List aV}{o:Oper}{args:Array Operand}{kP:Array bW}(hP:X.P=prog)(ho:ops[i]? =ae o)(hw:Region.wanted o (yielded ops a.tmps)=true)(hk:b.kind≠.early)(aF:o.op=.call {callee:=.value<|.func 115,args,argTypes:=kP})(hv:args.map a.eval=#[.pointer<|ae ⟨X.Wg,0,af⟩])(hM:∀w1,aQ S E w w1->Mid S w1):
 au X.P true E (fun S g w=>X.AtKd 177 (QX link X.Wg (b.at a<|.inRegion ops (i::rest)::k) cs) g w/\Mid S w) S (G (b.at a<|.inRegion ops (i::rest)::k) cs) w:=by
 have H:WgLib X.P link:=hP▸QW;refine au.call ho hw hk aF H.f_wait (nm_wait link) rfl ?_;rw[hv,arV];exact ary (L:=link) H hM
def Gs.E2(z:Gs):cO:=⟨z.R,z.R,fun _ h=>h⟩
open Go.Conc.Lib Go.ConcR.Gen Go.ConcN.Gen in
def arY{z:Gs}{ks:List Kd}{u:Nat->aj}{cs:List aV}(hO:z.Ok)(hl:ks.length=z.np)(hg:z.Good ks)(t9 t10 t33 t34 t35 t36 t37 t38 t39 t40 t41 t42 t13 t46 t47 t48 t49 t50 t51 t52 t53 t54 t55 t56 t57 t58 t59 t60 t61 t62 t63 t64 t65 av:aj)(S:aC)(w:ah)(h:z.nP ks S w)(bH:WgAt 177 z.Wg w ((z.np:Int)*KK) 0)(hA:Own S w z.Ba 119 5 av (dU z.ms).length ((dU z.ms).flatMap Ms.cs)):
 au prog true z.E (z.iw.jH (fun ks E S g w=>∃a,z.iw.AtClose 177 z.np (BA z cs a) (z.Mid u a) z.bT z.Good ks E S g w) [] ks 0 z.E) S (G ((base 54).at ⟨#[.pointer<|ae ⟨z.xb,0,af⟩,.slice z.ma z.ms.length z.mc,.pointer<|ae ⟨z.hv,0,af⟩,u 3,u 4,.slice (ae ⟨z.mr,0,af⟩) z.np z.np,.pointer<|ae ⟨z.sv,0,af⟩,.pointer<|ae ⟨z.ob,0,af⟩,.pointer<|ae ⟨z.Wg,0,af⟩,t9,t10,av,u 12,t13,u 14,u 15,u 16,u 17,u 18,u 19,u 20,u 21,u 22,u 23,u 24,u 25,u 26,u 27,u 28,u 29,u 30,.int .i64 z.np,.int .i64 z.np,t33,t34,t35,t36,t37,t38,t39,t40,t41,t42,.slice z.ma z.ms.length z.mc,.int .i64 z.ms.length,.int .i64 z.ms.length,t46,t47,t48,t49,t50,t51,t52,t53,t54,t55,t56,t57,t58,t59,t60,t61,t62,t63,t64,t65,u 66,u 67,u 68,u 69,u 70,u 71],[]⟩ [.code Dj]) cs) w:=by
 have o5:∀b,z.R b->z.E.ro b:=fun b hb=>.inl hb;have wF:∀(S:aC) (w:ah),z.Aa w->Own S w z.Ba 119 5 av (dU z.ms).length ((dU z.ms).flatMap Ms.cs)->z.Mid u ⟨#[.pointer<|ae ⟨z.xb,0,af⟩,.slice z.ma z.ms.length z.mc,.pointer<|ae ⟨z.hv,0,af⟩,u 3,u 4,.slice (ae ⟨z.mr,0,af⟩) z.np z.np,.pointer<|ae ⟨z.sv,0,af⟩,.pointer<|ae ⟨z.ob,0,af⟩,.pointer<|ae ⟨z.Wg,0,af⟩,t9,t10,av,u 12,t13,u 14,u 15,u 16,u 17,u 18,u 19,u 20,u 21,u 22,u 23,u 24,u 25,u 26,u 27,u 28,u 29,u 30,.int .i64 z.np,.int .i64 z.np,t33,t34,t35,t36,t37,t38,t39,t40,t41,t42,.slice z.ma z.ms.length z.mc,.int .i64 z.ms.length,.int .i64 z.ms.length,t46,t47,t48,t49,t50,t51,t52,t53,t54,t55,t56,t57,t58,t59,t60,t61,t62,t63,t64,t65,.chan<|ae z.ov,u 67,u 68,u 69,u 70,u 71],[]⟩ S w:=fun S w h1 h2=>⟨t9,t10,t33,t34,t35,t36,t37,t38,t39,t40,t41,t42,t13,t46,t47,t48,t49,t50,t51,t52,t53,t54,t55,t56,t57,t58,t59,t60,t61,t62,t63,t64,t65,av,rfl,h1,h2⟩;have bU:∀(S:aC) (g:aX) (w:ah),g.status=.running->(∃a,z.iw.AtClose 177 z.np (BA z cs a) (z.Mid u a) z.bT z.Good ks z.E S g w)->z.iw.jH (fun ks E S g w=>∃a,z.iw.AtClose 177 z.np (BA z cs a) (z.Mid u a) z.bT z.Good ks E S g w) [] ks 0 z.E S g w:=fun S g w h1 h2=>⟨rfl,h1,h2⟩;generalize z.iw.jH (fun ks E S g w=>∃a,z.iw.AtClose 177 z.np (BA z cs a) (z.Mid u a) z.bT z.Good ks E S g w) [] ks 0 z.E=St at bU⊢
 simp only[BA,KP,Dk,Dj,xP,vT,pW,Tryz.f54,gQ,fB,iD]at bU⊢
 refine au.sq ?_;refine au.reg [0,1] rfl ?_;refine au.val (.chan<|ae z.ov) rfl rfl (by decide) (fun w1 aI=>?_) (fun w1 aI e he=>?_) ?_
 ·have q0:=(h.aP hO o5 aI).jA.ob;go_simp
 ·have q0:=(h.aP hO o5 aI).jA.ob;simp[go_sem,q0]at he;subst he;exact .inr ⟨hO.Oe,rfl⟩
 walk_nrm;refine au.stop fun w1 aI=>bU _ _ _ rfl ⟨⟨#[.pointer<|ae ⟨z.xb,0,af⟩,.slice z.ma z.ms.length z.mc,.pointer<|ae ⟨z.hv,0,af⟩,u 3,u 4,.slice (ae ⟨z.mr,0,af⟩) z.np z.np,.pointer<|ae ⟨z.sv,0,af⟩,.pointer<|ae ⟨z.ob,0,af⟩,.pointer<|ae ⟨z.Wg,0,af⟩,t9,t10,av,u 12,t13,u 14,u 15,u 16,u 17,u 18,u 19,u 20,u 21,u 22,u 23,u 24,u 25,u 26,u 27,u 28,u 29,u 30,.int .i64 z.np,.int .i64 z.np,t33,t34,t35,t36,t37,t38,t39,t40,t41,t42,.slice z.ma z.ms.length z.mc,.int .i64 z.ms.length,.int .i64 z.ms.length,t46,t47,t48,t49,t50,t51,t52,t53,t54,t55,t56,t57,t58,t59,t60,t61,t62,t63,t64,t65,.chan<|ae z.ov,u 67,u 68,u 69,u 70,u 71],[]⟩,arW (X:=z.iw) (E2:=z.E2) rfl rfl (by decide) (by kernel_rfl) rfl rfl hl hg (bH.of_block<|aI.ro z.Wg<|.inr rfl) (Gs.fin hO hg) (fun b hb=>⟨.inl hb,fun e=>hO.Bz<|show z.R z.Wg from(show b=z.Wg from e)▸hb⟩) (fun b hb=>hb) fun cap s r zA=>?_⟩;have h1:=(h.aP hO o5 aI).jA;have Cc:=hA.aP aI;have zH:¬S z.ov:=h.uk.1;have yx:aQ S z.E2 w1 ({w1 with heap:=w1.heap.setIfInBounds z.iw.ov<|.chan cap #[] true s r false}:ah):=⟨rfl,rfl,rfl,by simp,fun b hb=>gu fun e=>zH<|show S z.ov from(show z.ov=b from e)▸hb,fun b hb=>gu fun e=>hO.uk<|show z.R z.ov from(show z.ov=b from e)▸hb⟩;have h2:=h1.aP hO (E:=z.E2) (fun b hb=>hb) yx;have Cf:=Cc.aP yx;generalize({w1 with heap:=w1.heap.setIfInBounds z.iw.ov<|.chan cap #[] true s r false}:ah)=w2 at h2 Cf⊢
 clear yx zA;have DK:∀w3,aQ S z.E2 w2 w3->z.Mid u ⟨#[.pointer<|ae ⟨z.xb,0,af⟩,.slice z.ma z.ms.length z.mc,.pointer<|ae ⟨z.hv,0,af⟩,u 3,u 4,.slice (ae ⟨z.mr,0,af⟩) z.np z.np,.pointer<|ae ⟨z.sv,0,af⟩,.pointer<|ae ⟨z.ob,0,af⟩,.pointer<|ae ⟨z.Wg,0,af⟩,t9,t10,av,u 12,t13,u 14,u 15,u 16,u 17,u 18,u 19,u 20,u 21,u 22,u 23,u 24,u 25,u 26,u 27,u 28,u 29,u 30,.int .i64 z.np,.int .i64 z.np,t33,t34,t35,t36,t37,t38,t39,t40,t41,t42,.slice z.ma z.ms.length z.mc,.int .i64 z.ms.length,.int .i64 z.ms.length,t46,t47,t48,t49,t50,t51,t52,t53,t54,t55,t56,t57,t58,t59,t60,t61,t62,t63,t64,t65,.chan<|ae z.ov,u 67,u 68,u 69,u 70,u 71],[]⟩ S w3:=fun w3 hk=>wF S w3 (h2.aP hO (fun b hb=>hb) hk)<|Cf.aP hk;walk_nrm;refine au.fA ?_;refine au.sq ?_;refine au.reg [0] rfl ?_;exact arX (X:=z.iw) rfl rfl rfl (by decide) rfl (by walk_nrm;rfl) DK
end Twin
end
section
namespace Twin
open Go Go.Proofs Go.Conc Go.RowKit Go.Maps eX
open Go.ConcR (WgAt KK DC0)
variable{z:Gs}{u:Nat->aj}{cs:List aV}{S:aC}{w:ah}
def arZ(hO:z.Ok)(h:z.nP [] S w)(bH:WgAt 177 z.Wg w 0 0):
 au prog true z.E (z.iw.jH (fun ks E S g w=>∃a,z.iw.AtClose 177 z.np (BA z cs a) (z.Mid u a) z.bT z.Good ks E S g w) (EC 0 z.np++um z.ms) [] 0 z.E) S (G ((base 54).at ⟨#[.pointer<|ae ⟨z.xb,0,af⟩,.slice z.ma z.ms.length z.mc,.pointer<|ae ⟨z.hv,0,af⟩,u 3,u 4,.slice (ae ⟨z.mr,0,af⟩) z.np z.np,.pointer<|ae ⟨z.sv,0,af⟩,.pointer<|ae ⟨z.ob,0,af⟩,.pointer<|ae ⟨z.Wg,0,af⟩,u 9,u 10,u 11,u 12,u 13,u 14,u 15,u 16,u 17,u 18,u 19,u 20,u 21,u 22,u 23,u 24,u 25,u 26,u 27,u 28,u 29,u 30,.int .i64 z.np,.int .i64 0,u 33,u 34,u 35,u 36,u 37,u 38,u 39,u 40,u 41,u 42,u 43,u 44,u 45,u 46,u 47,u 48,u 49,u 50,u 51,u 52,u 53,u 54,u 55,u 56,u 57,u 58,u 59,u 60,u 61,u 62,u 63,u 64,u 65,u 66,u 67,u 68,u 69,u 70,u 71],[]⟩ [.code GG,.inLoop GG,.inBlock 0,.code xP]) cs) w:=by
 have hR:=arF (End:=fun ks E S g w=>∃a,z.iw.AtClose 177 z.np (BA z cs a) (z.Mid u a) z.bT z.Good ks E S g w) (ts:=um z.ms) (u:=u) (cs:=cs) hO (fun i=>abj i z.ms fun m hm hk=>let ⟨j,hj,_⟩:=hO.q m hm hk;⟨j,hj⟩) ?_ z.np [] (u 9) (u 10) (u 33) (u 34) (u 35) (u 36) (u 37) (u 38) (u 39) (u 40) (u 41) (u 42) S w (by simp) (fun i k hk=>by simp at hk) h<|by simpa using bH
 ·exact hR
 intro ks t9 t10 t33 t34 t35 t36 t37 t38 t39 t40 t41 t42 S w hl hg h bH;have uw:=fun t13 t46 t47 t48 t49 t50 t51 t52 t53 t54 t55 t56 t57 t58 t59 t60 t61 t62 t63 t64 t65 av S w h1 h2 h3=>arY (u:=u) (cs:=cs) hO hl hg t9 t10 t33 t34 t35 t36 t37 t38 t39 t40 t41 t42 t13 t46 t47 t48 t49 t50 t51 t52 t53 t54 t55 t56 t57 t58 t59 t60 t61 t62 t63 t64 t65 av S w h1 h2 h3;have E8:=arO (End:=fun ks E S g w=>∃a,z.iw.AtClose 177 z.np (BA z cs a) (z.Mid u a) z.bT z.Good ks E S g w) (ks:=ks) (u:=u) (t9:=t9) (t10:=t10) (t33:=t33) (t34:=t34) (t35:=t35) (t36:=t36) (t37:=t37) (t38:=t38) (t39:=t39) (t40:=t40) (t41:=t41) (t42:=t42) (cs:=cs) hO hl (fun t13 t46 t47 t48 t49 t50 t51 t52 t53 t54 t55 t56 t57 t58 t59 t60 t61 t62 t63 t64 t65 av S w h1 h2 h3 _=>uw t13 t46 t47 t48 t49 t50 t51 t52 t53 t54 t55 t56 t57 t58 t59 t60 t61 t62 t63 t64 t65 av S w h1 h2 h3) z.ms [] (u 13) (u 46) (u 47) (u 48) (u 49) (u 50) (u 51) (u 52) (u 53) (u 54) (u 55) (u 56) (u 57) (u 58) (u 59) (u 60) (u 61) (u 62) (u 63) (u 64) (u 65) (.slice af 0 0) S w rfl h bH ⟨aCb _ _ _ _,by simp[Value.ownBlock]⟩ (by simp[Value.ownBlock]);generalize z.iw.jH (fun ks E S g w=>∃a,z.iw.AtClose 177 z.np (BA z cs a) (z.Mid u a) z.bT z.Good ks E S g w) (um z.ms) ks 0 z.E=St at E8⊢
 clear uw;generalize hI2:Item.code Dj=I2 at E8;simp only[Di,Dj,xP,vT,pW,Tryz.f54,gQ,fB,iD,vP]at E8 hI2⊢
 refine au.sq ?_;refine au.reg [0] rfl ?_;refine au.mu rfl rfl ?_;walk_nrm;refine au.fA ?_;refine au.sq ?_;refine au.sq ?_;refine au.reg [0,1,2] rfl ?_;refine au.mu rfl rfl ?_;walk_nrm;refine au.mu rfl rfl ?_;walk_nrm;refine au.mu rfl rfl ?_;walk_nrm;refine au.fA ?_;refine au.ctl rfl (fun _=>aCm) ?_;refine au.ctl rfl (fun _=>aC3) ?_;rw[hI2];exact E8
noncomputable def GI:Array Oper:=match iD (fB<|fB<|fB<|fB pW)with| .region _ o _=>o|_=>#[]
def eH(z:Gs)(u:Nat->aj):Nat->Value:=(fun i=>match i with|27=>.pointer (ae ⟨z.xb,0,af⟩)|28=>.pointer (ae ⟨z.xb,0,af⟩)|29=>.pointer (ae ⟨z.xb,68,af⟩)|30=>.slice (ae ⟨z.pb,0,af⟩) z.np z.pc|i=>u i)
def ar0(z:Gs)(u:Nat->aj):#[.pointer<|ae ⟨z.xb,0,af⟩,.slice z.ma z.ms.length z.mc,.pointer<|ae ⟨z.hv,0,af⟩,u 3,u 4,.slice (ae ⟨z.mr,0,af⟩) z.np z.np,.pointer<|ae ⟨z.sv,0,af⟩,.pointer<|ae ⟨z.ob,0,af⟩,.pointer<|ae ⟨z.Wg,0,af⟩,u 9,u 10,u 11,u 12,u 13,u 14,u 15,u 16,u 17,u 18,u 19,u 20,u 21,u 22,u 23,u 24,u 25,u 26,.pointer<|ae ⟨z.xb,0,af⟩,.pointer<|ae ⟨z.xb,0,af⟩,.pointer<|ae ⟨z.xb,68,af⟩,.slice (ae ⟨z.pb,0,af⟩) z.np z.pc,.int .i64 z.np,.int .i64 0,u 33,u 34,u 35,u 36,u 37,u 38,u 39,u 40,u 41,u 42,u 43,u 44,u 45,u 46,u 47,u 48,u 49,u 50,u 51,u 52,u 53,u 54,u 55,u 56,u 57,u 58,u 59,u 60,u 61,u 62,u 63,u 64,u 65,u 66,u 67,u 68,u 69,u 70,u 71]=#[.pointer<|ae ⟨z.xb,0,af⟩,.slice z.ma z.ms.length z.mc,.pointer<|ae ⟨z.hv,0,af⟩,eH z u 3,eH z u 4,.slice (ae ⟨z.mr,0,af⟩) z.np z.np,.pointer<|ae ⟨z.sv,0,af⟩,.pointer<|ae ⟨z.ob,0,af⟩,.pointer<|ae ⟨z.Wg,0,af⟩,eH z u 9,eH z u 10,eH z u 11,eH z u 12,eH z u 13,eH z u 14,eH z u 15,eH z u 16,eH z u 17,eH z u 18,eH z u 19,eH z u 20,eH z u 21,eH z u 22,eH z u 23,eH z u 24,eH z u 25,eH z u 26,eH z u 27,eH z u 28,eH z u 29,eH z u 30,.int .i64 z.np,.int .i64 0,eH z u 33,eH z u 34,eH z u 35,eH z u 36,eH z u 37,eH z u 38,eH z u 39,eH z u 40,eH z u 41,eH z u 42,eH z u 43,eH z u 44,eH z u 45,eH z u 46,eH z u 47,eH z u 48,eH z u 49,eH z u 50,eH z u 51,eH z u 52,eH z u 53,eH z u 54,eH z u 55,eH z u 56,eH z u 57,eH z u 58,eH z u 59,eH z u 60,eH z u 61,eH z u 62,eH z u 63,eH z u 64,eH z u 65,eH z u 66,eH z u 67,eH z u 68,eH z u 69,eH z u 70,eH z u 71]:=by kernel_rfl
def ar1(hO:z.Ok)(h:z.nP [] S w)(bH:WgAt 177 z.Wg w 0 0):
 au prog true z.E (z.iw.jH (fun ks E S g w=>∃a,z.iw.AtClose 177 z.np (BA z cs a) (z.Mid (eH z u) a) z.bT z.Good ks E S g w) (EC 0 z.np++um z.ms) [] 0 z.E) S (G ((base 54).at ⟨#[.pointer<|ae ⟨z.xb,0,af⟩,.slice z.ma z.ms.length z.mc,.pointer<|ae ⟨z.hv,0,af⟩,u 3,u 4,.slice (ae ⟨z.mr,0,af⟩) z.np z.np,.pointer<|ae ⟨z.sv,0,af⟩,.pointer<|ae ⟨z.ob,0,af⟩,.pointer<|ae ⟨z.Wg,0,af⟩,u 9,u 10,u 11,u 12,u 13,u 14,u 15,u 16,u 17,u 18,u 19,u 20,u 21,u 22,u 23,u 24,u 25,u 26,u 27,u 28,u 29,u 30,u 31,u 32,u 33,u 34,u 35,u 36,u 37,u 38,u 39,u 40,u 41,u 42,u 43,u 44,u 45,u 46,u 47,u 48,u 49,u 50,u 51,u 52,u 53,u 54,u 55,u 56,u 57,u 58,u 59,u 60,u 61,u 62,u 63,u 64,u 65,u 66,u 67,u 68,u 69,u 70,u 71],[]⟩ [.inRegion GI [],.code vT]) cs) w:=by
 have Yr:=arZ (u:=eH z u) (cs:=cs) hO h bH;rw[<-ar0]at Yr;generalize z.iw.jH (fun ks E S g w=>∃a,z.iw.AtClose 177 z.np (BA z cs a) (z.Mid (eH z u) a) z.bT z.Good ks E S g w) (EC 0 z.np++um z.ms) [] 0 z.E=St at Yr⊢
 have o5:∀b,z.R b->z.E.ro b:=fun b hb=>.inl hb;simp only[GG,xP,vT,GI,pW,Tryz.f54,gQ,fB,iD,vP]at Yr⊢
 refine au.fA ?_;refine au.sq ?_;refine au.sq ?_;refine au.reg [0,1,2,3,4,5] rfl ?_;refine au.val (.pointer<|ae ⟨z.xb,0,af⟩) rfl rfl (by decide) (fun w1 aI=>?_) (fun w1 aI e he=>?_) ?_
 ·have q0:=(h.aP hO o5 aI).jA.hv;go_simp
 ·have q0:=(h.aP hO o5 aI).jA.hv;simp[go_sem,q0]at he;subst he;exact .inr ⟨hO.Ob,rfl⟩
 walk_nrm;refine au.mu rfl rfl ?_;walk_nrm;refine au.mute (.pointer<|ae ⟨z.xb,68,af⟩) rfl rfl (by decide) (fun _=>by go_simp<;>rfl) (fun _=>by simp[go_sem]) ?_;walk_nrm;refine au.val (.slice (ae ⟨z.pb,0,af⟩) z.np z.pc) rfl rfl (by decide) (fun w1 aI=>?_) (fun w1 aI e he=>?_) ?_
 ·have q0:=(h.aP hO o5 aI).jA.ps;go_simp
 ·have q0:=(h.aP hO o5 aI).jA.ps;simp[go_sem,q0]at he;subst he;exact .inr ⟨hO.Oc,rfl⟩
 walk_nrm;refine au.mute (.int .i64 z.np) rfl rfl (by decide) (fun _=>by go_simp<;>rfl) (fun _=>by simp[go_sem]) ?_;walk_nrm;refine au.mu rfl rfl ?_;walk_nrm;refine au.fA ?_;refine au.ctl rfl (fun _=>aCm) ?_;refine au.ctl rfl (fun _=>aC3) ?_;exact Yr
end Twin
end
section
namespace Twin
open Go Go.Proofs Go.Conc Go.RowKit Go.Maps eX
open Go.ConcR (WgAt KK DC0)
open Go.ConcN (WgLive PayAt Has)
def ahz(fo s:Nat->Prop):ai.sG (ai.bz fo s)=kD s:=by
 funext l;cases l<;>first|rfl|exact propext ⟨fun h=>h.1,fun h=>⟨h,.inl h⟩⟩
structure Gs.ahA(z:Gs)(S:aC)(w:ah):Prop where
 Ol:z.nP [] S w
 own:∀b,S b->b≠z.Wg/\b≠z.C/\b≠z.ov/\¬(z.gJ b\/z.yV b)
 rd:∀b,z.R b->¬z.gJ b
 cl:z.C<w.heap.size
 ns:¬(z.gJ z.Wg\/z.yV z.Wg)/\¬(z.gJ z.C\/z.yV z.C)/\¬(z.gJ z.ov\/z.yV z.ov)
 ne:z.Wg≠z.ov/\z.C≠z.ov
 over:∃cap s r,w.heap[z.ov]? =ae (.chan cap #[] false s r false)
 pay:∃cs:Array aj,w.heap[z.C]? =ae (.cells cs 107)/\cs.size=z.np
 wg:WgAt 177 z.Wg w 0 0
 oV:ai.iZ (fun b=>(z.gJ b\/z.yV b)\/b=z.Wg) w
def ar2{z:Gs}{u:Nat->aj}{cs:List aV}{S:aC}{w:ah}{gs:Array aX}{sl:Option (Nat×Nat)}{t:Trace}{q:Nat->Nat}(hO:z.Ok)(h:z.ahA S w)(hm:z.m0=gs.size)
 (ha:gs[0]? =ae (G ((base 54).at ⟨#[.pointer<|ae ⟨z.xb,0,af⟩,.slice z.ma z.ms.length z.mc,.pointer<|ae ⟨z.hv,0,af⟩,u 3,u 4,.slice (ae ⟨z.mr,0,af⟩) z.np z.np,.pointer<|ae ⟨z.sv,0,af⟩,.pointer<|ae ⟨z.ob,0,af⟩,.pointer<|ae ⟨z.Wg,0,af⟩,u 9,u 10,u 11,u 12,u 13,u 14,u 15,u 16,u 17,u 18,u 19,u 20,u 21,u 22,u 23,u 24,u 25,u 26,u 27,u 28,u 29,u 30,u 31,u 32,u 33,u 34,u 35,u 36,u 37,u 38,u 39,u 40,u 41,u 42,u 43,u 44,u 45,u 46,u 47,u 48,u 49,u 50,u 51,u 52,u 53,u 54,u 55,u 56,u 57,u 58,u 59,u 60,u 61,u 62,u 63,u 64,u 65,u 66,u 67,u 68,u 69,u 70,u 71],[]⟩ [.inRegion GI [],.code vT]) cs))(hL:Leavers prog t gs q)(hP:Past (ai.sG<|ai.bz z.yV z.gJ) w.heap.size t):
 ∃a M gs1 w1 jV t1 q1 ks S1 Sw G1,runNT prog M (crowd gs w sl) t=(.next<|crowd gs1 w1 jV,t1)/\gs1[0]? =ae (di cs a)/\Leavers prog t1 gs1 q1/\Past (ai.sG<|ai.bz z.yV fun b=>z.gJ b\/b=z.Wg) w1.heap.size t1/\z.Mid (eH z u) a S1 w1/\ks.length=z.np/\z.Good ks/\(∃E1,z.iw.Mem ks E1 S1 G1 Sw w1)/\
  PayAt z.C z.np w1/\ai.iZ (fun b=>(z.gJ b\/b=z.Wg)\/z.yV b) w1/\∀(i:Nat) (k:Kd),ks[i]? =ae k->∃v,z.bT k ((z.marks i).map jS) v (Sw i) w1/\Has z.C i v w1:=by
 have hR:=ar1 (u:=u) (cs:=cs) hO h.Ol h.wg
 have uw:∀a,di cs a=G ((base 54).at (a.put ((KP[0]?).bind (·.dst))<|.tuple #[])<|.inRegion KP []::[.code Dk]) cs:=fun a=>rfl
 have bU:z.iw.Start z.np z.E S gs w t q:=⟨hm,hL,by rw[<-ahz z.yV];exact hP,fun b hb=>(h.oV.low b<|.inl hb).2,fun b hb=>⟨h.Ol.low b hb,fun hx=>h.Ol.yZ b hx hb,(h.own b hb).1,(h.own b hb).2.1,(h.own b hb).2.2.1,(h.own b hb).2.2.2⟩,
  fun b hb=>⟨h.Ol.xQ b hb,fun e=>hO.Bz<|(show b=z.Wg from e)▸hb,fun e=>hO.nC<|(show b=z.C from e)▸hb,fun e=>hO.uk<|(show b=z.ov from e)▸hb,h.rd b hb⟩,fun b hb=>hb,⟨GH h.wg,h.cl,h.Ol.uk.2,h.ns.1,h.ns.2.1,h.ns.2.2,hO.Wp,h.ne.1,h.ne.2⟩,h.over,h.pay,h.oV⟩
 obtain⟨a,M,gs1,w1,jV,t1,q1,ks,S1,Sw,G1,r1,r2,r3,r4,r5,r6,r7,r8,_,r9,Yt,r11⟩:=bn.arw (X:=z.iw) (ty:=177) (n:=z.np) (sl:=sl) (di:=di cs) (Anch:=BA z cs) (Mid:=z.Mid<|eH z u) (bT:=z.bT) (Good:=z.Good) z.fit (fun _ _ _ _ _ hr=>hr.named) (fun _ _ _ hx=>by obtain⟨T,rfl,_⟩:=hx;rfl) (fun _=>rfl) (fun _ _ _ _ _ _ hr hk=>hr.aP hk) hO.np (fun a g w hx hl=>by
  rw[uw];exact aqD (X:=z.iw) (L:=link) QW g w hx hl) bU ha hR
 refine⟨a,M,gs1,w1,jV,t1,q1,ks,S1,Sw,G1,r1,r2,r3,by rw[ahz];exact r4,r5,r6,r7,r8,r9,Yt.iff fun b=>or_right_comm,fun i k hk=>?_⟩
 have:=r11 i k hk
 rw[abh,abj i z.ms fun m hm hk=>let ⟨j,hj,_⟩:=hO.q m hm hk;⟨j,hj⟩]at this
 exact this
end Twin
end
section
namespace Twin
open Go Go.Proofs Go.Conc Go.RowKit Go.Maps eX
open Go.ConcR (WgAt KK DC0)
def ahB(w:ah):∀n:Nat,1<=n->n<=4->(Instr.makeSlice 165 (.int .i64 n)<|.int .i64 n).run prog w=.ok (.slice (ae ⟨w.heap.size,0,af⟩) n n) (w.alloc<|.cells (Array.replicate n<|.chan af) 178)/\(Instr.makeSlice 165 (.int .i64 n)<|.int .i64 n).events prog w #[]=#[]
 |0,h,_=>absurd h<|by omega
 |1,_,_=>⟨by kernel_rfl,by kernel_rfl⟩
 |2,_,_=>⟨by kernel_rfl,by kernel_rfl⟩
 |3,_,_=>⟨by kernel_rfl,by kernel_rfl⟩
 |4,_,_=>⟨by kernel_rfl,by kernel_rfl⟩
 |n+5,_,h=>absurd h<|by omega
def ahC(w:ah):∀n:Nat,1<=n->n<=4->(Instr.makeSlice 166 (.int .i64 n)<|.int .i64 n).run prog w=.ok (.slice (ae ⟨w.heap.size,0,af⟩) n n) (w.alloc<|.cells (Array.replicate n<|.slice af 0 0) 107)/\(Instr.makeSlice 166 (.int .i64 n)<|.int .i64 n).events prog w #[]=#[]
 |0,h,_=>absurd h<|by omega
 |1,_,_=>⟨by kernel_rfl,by kernel_rfl⟩
 |2,_,_=>⟨by kernel_rfl,by kernel_rfl⟩
 |3,_,_=>⟨by kernel_rfl,by kernel_rfl⟩
 |4,_,_=>⟨by kernel_rfl,by kernel_rfl⟩
 |n+5,_,h=>absurd h<|by omega
def ar4(w:ah):(Instr.makeChan 167<|.int .i64 0).run prog w=.ok (.chan<|ae w.heap.size) (w.alloc<|.chan 0 #[] false 0 0 false):=by kernel_rfl
def ar5(w:ah):(Instr.makeChan 167<|.int .i64 0).events prog w #[]=#[]:=by kernel_rfl
def ahD{v:aj}(hv:∀B:ai.bP,ai.az B v)(t:bW)(B:ai.bP):ai.lN B (.cells #[v] t):=fun x hx=>by
 simp at hx;subst hx;exact hv B
def ahE{v:aj}(hv:∀B:ai.bP,ai.az B v)(n:Nat)(t:bW)(B:ai.bP):ai.lN B (.cells (Array.replicate n v) t):=fun x hx=>by
 obtain⟨_,rfl⟩:=MQ.1 hx;exact hv B
structure Laid(xb np:Nat)(S:aC)(w:ah)(hv mr C sv ov ob:Nat):Prop where
 bh:dN S w hv #[.pointer<|ae ⟨xb,0,af⟩] 33
 bm:dN S w mr (Array.replicate np<|.chan af) 178
 bC:dN S w C (Array.replicate np<|.slice af 0 0) 107
 bs:dN S w sv #[.slice (ae ⟨C,0,af⟩) np np] 166
 bo:S ov/\w.heap[ov]? =ae (.chan 0 #[] false 0 0 false)
 bb:dN S w ob #[.chan<|ae ov] 167
 lt:hv<mr/\mr<C/\C<sv/\sv<ov/\ov<ob
noncomputable def IZ:Array Oper:=match iD pW with| .region _ o _=>o|_=>#[]
def ar6{xb hv pb np pc:Nat}{mv:aj}{E:cO}{S:aC}{w:ah}{cs:List aV}(h1:1<=np)(h4:np<=4)(wE:E.rd xb){w0:Nat}(gG:w0<=w.heap.size)(zH:¬S xb)(hS:∀b,S b->b<w.heap.size)(hH:dN S w hv #[.pointer<|ae ⟨xb,0,af⟩] 33)(fP:w.cell? ⟨xb,68,af⟩=ae (.slice (ae ⟨pb,0,af⟩) np pc)):
 au prog true E (fun S' g' w'=>∃(u:Nat->aj) (mr C sv ov ob:Nat),Laid xb np S' w' hv mr C sv ov ob/\w0<=mr/\g'=G ((base 54).at ⟨#[.pointer<|ae ⟨xb,0,af⟩,mv,.pointer<|ae ⟨hv,0,af⟩,u 3,u 4,.slice (ae ⟨mr,0,af⟩) np np,.pointer<|ae ⟨sv,0,af⟩,.pointer<|ae ⟨ob,0,af⟩,u 8,u 9,u 10,u 11,u 12,u 13,u 14,u 15,u 16,u 17,u 18,u 19,u 20,u 21,u 22,u 23,u 24,u 25,u 26,u 27,u 28,u 29,u 30,u 31,u 32,u 33,u 34,u 35,u 36,u 37,u 38,u 39,u 40,u 41,u 42,u 43,u 44,u 45,u 46,u 47,u 48,u 49,u 50,u 51,u 52,u 53,u 54,u 55,u 56,u 57,u 58,u 59,u 60,u 61,u 62,u 63,u 64,u 65,u 66,u 67,u 68,u 69,u 70,u 71],[]⟩ [.inRegion GI [0],.code vT]) cs)
  S (G ((base 54).at ⟨#[.pointer<|ae ⟨xb,0,af⟩,mv,.pointer<|ae ⟨hv,0,af⟩,ag,ag,ag,ag,ag,ag,ag,ag,ag,ag,ag,ag,ag,ag,ag,ag,ag,ag,ag,ag,ag,ag,ag,ag,ag,ag,ag,ag,ag,ag,ag,ag,ag,ag,ag,ag,ag,ag,ag,ag,ag,ag,ag,ag,ag,ag,ag,ag,ag,ag,ag,ag,ag,ag,ag,ag,ag,ag,ag,ag,ag,ag,ag,ag,ag,ag,ag,ag,ag],[]⟩ [.inRegion IZ [1],.code<|fB pW]) cs) w:=by
 generalize Og:Item.code vT=IR
 generalize hI1:Item.inRegion GI [0]=I1
 simp only[vT,GI,IZ,pW,Tryz.f54,gQ,fB,iD]at Og hI1⊢
 refine au.mu rfl rfl ?_
 walk_nrm
 refine au.fA ?_
 refine au.sq ?_
 refine au.reg [0,1,2,3,4,5,6] rfl ?_
 refine au.val (.pointer<|ae ⟨xb,0,af⟩) rfl rfl (by decide) (fun w1 aI=>?_) (fun w1 aI e he=>?_) ?_
 ·have q0:=(hH.aP aI).cell (o:=0) rfl
  go_simp
 ·have q0:=(hH.aP aI).cell (o:=0) rfl
  simp[go_sem,q0]at he
  subst he
  exact .inl hH.1
 walk_nrm
 refine au.mu rfl rfl ?_
 walk_nrm
 refine au.mute (.pointer<|ae ⟨xb,68,af⟩) rfl rfl (by decide) (fun _=>by go_simp<;>rfl) (fun _=>by simp[go_sem]) ?_
 walk_nrm
 refine au.val (.slice (ae ⟨pb,0,af⟩) np pc) rfl rfl (by decide) (fun w1 aI=>?_) (fun w1 aI e he=>?_) ?_
 ·have q0:=mJ fP wE aI
  go_simp
 ·have q0:=mJ fP wE aI
  simp[go_sem,q0]at he
  subst he
  exact .inr ⟨wE,rfl⟩
 walk_nrm
 refine au.mute (.int .i64 np) rfl rfl (by decide) (fun _=>by go_simp<;>rfl) (fun _=>by simp[go_sem]) ?_
 walk_nrm
 refine au.jM rfl rfl (by decide) fun w1 aI=>?_
 have fO:=aI.size
 replace hH:=hH.aP aI
 replace fP:=mJ fP wE aI
 replace hS:=wS hS aI
 refine⟨.slice (ae ⟨w1.heap.size,0,af⟩) np np,w1.alloc<|.cells (Array.replicate np<|.chan af) 178,.inl (by go_simp;rw[(ahB w1 np h1 h4).1];rfl),vN (by simp[go_sem];exact(ahB w1 np h1 h4).2) (IY _<|ahE (fun _=>.chan fun x hx=>by cases hx) np 178),?_⟩
 have ar7:hv<w1.heap.size:=hS _ hH.1
 have ar8:w0<=w1.heap.size:=by omega
 have fZ:=mX fP
 simp only at fZ
 have hM:=dN.new S w1 (Array.replicate np<|.chan af) 178
 replace hH:=hH.alloc<|.cells (Array.replicate np<|.chan af) 178
 replace fP:(w1.alloc<|.cells (Array.replicate np<|.chan af) 178).cell? ⟨xb,68,af⟩=ae (.slice (ae ⟨pb,0,af⟩) np pc):=(aB4<|aB3 w1 _ _<|mX fP).trans fP
 replace zH:¬grow S w1 (w1.alloc<|.cells (Array.replicate np<|.chan af) 178) xb:=fun hx=>hx.elim zH fun y=>by omega
 replace hS:=Gy hS<|.cells (Array.replicate np<|.chan af) 178
 replace gG:w0<=(w1.alloc<|.cells (Array.replicate np<|.chan af) 178).heap.size:=by simp<;>omega
 clear aI fZ fO
 generalize grow S w1 (w1.alloc<|.cells (Array.replicate np<|.chan af) 178)=S at*
 generalize w1.alloc (.cells (Array.replicate np<|.chan af) 178)=w at*
 generalize w1.heap.size=mr at*
 walk_nrm
 refine au.mu rfl rfl ?_
 walk_nrm
 refine au.fA ?_
 refine au.sq ?_
 refine au.reg [0,1,2,3,4,5,6,7] rfl ?_
 refine au.val (.pointer<|ae ⟨xb,0,af⟩) rfl rfl (by decide) (fun w1 aI=>?_) (fun w1 aI e he=>?_) ?_
 ·have q0:=(hH.aP aI).cell (o:=0) rfl
  go_simp
 ·have q0:=(hH.aP aI).cell (o:=0) rfl
  simp[go_sem,q0]at he
  subst he
  exact .inl hH.1
 walk_nrm
 refine au.mu rfl rfl ?_
 walk_nrm
 refine au.mute (.pointer<|ae ⟨xb,68,af⟩) rfl rfl (by decide) (fun _=>by go_simp<;>rfl) (fun _=>by simp[go_sem]) ?_
 walk_nrm
 refine au.val (.slice (ae ⟨pb,0,af⟩) np pc) rfl rfl (by decide) (fun w1 aI=>?_) (fun w1 aI e he=>?_) ?_
 ·have q0:=mJ fP wE aI
  go_simp
 ·have q0:=mJ fP wE aI
  simp[go_sem,q0]at he
  subst he
  exact .inr ⟨wE,rfl⟩
 walk_nrm
 refine au.mute (.int .i64 np) rfl rfl (by decide) (fun _=>by go_simp<;>rfl) (fun _=>by simp[go_sem]) ?_
 walk_nrm
 refine au.jM rfl rfl (by decide) fun w1 aI=>?_
 have fO:=aI.size
 replace hH:=hH.aP aI
 replace hM:=hM.aP aI
 replace fP:=mJ fP wE aI
 replace hS:=wS hS aI
 refine⟨.slice (ae ⟨w1.heap.size,0,af⟩) np np,w1.alloc<|.cells (Array.replicate np<|.slice af 0 0) 107,.inl (by go_simp;rw[(ahC w1 np h1 h4).1];rfl),vN (by simp[go_sem];exact(ahC w1 np h1 h4).2) (IY _<|ahE (fun _=>.slice fun x hx=>by cases hx) np 107),?_⟩
 have ar9:mr<w1.heap.size:=hS _ hM.1
 have azU:w0<=w1.heap.size:=by omega
 have fZ:=mX fP
 simp only at fZ
 have hC:=dN.new S w1 (Array.replicate np<|.slice af 0 0) 107
 replace hH:=hH.alloc<|.cells (Array.replicate np<|.slice af 0 0) 107
 replace hM:=hM.alloc<|.cells (Array.replicate np<|.slice af 0 0) 107
 replace fP:(w1.alloc<|.cells (Array.replicate np<|.slice af 0 0) 107).cell? ⟨xb,68,af⟩=ae (.slice (ae ⟨pb,0,af⟩) np pc):=(aB4<|aB3 w1 _ _<|mX fP).trans fP
 replace zH:¬grow S w1 (w1.alloc<|.cells (Array.replicate np<|.slice af 0 0) 107) xb:=fun hx=>hx.elim zH fun y=>by omega
 replace hS:=Gy hS<|.cells (Array.replicate np<|.slice af 0 0) 107
 replace gG:w0<=(w1.alloc<|.cells (Array.replicate np<|.slice af 0 0) 107).heap.size:=by simp<;>omega
 clear aI fZ fO
 generalize grow S w1 (w1.alloc<|.cells (Array.replicate np<|.slice af 0 0) 107)=S at*
 generalize w1.alloc (.cells (Array.replicate np<|.slice af 0 0) 107)=w at*
 generalize w1.heap.size=C at*
 walk_nrm
 refine au.jM rfl rfl (by decide) fun w1 aI=>?_
 have fO:=aI.size
 replace hH:=hH.aP aI
 replace hM:=hM.aP aI
 replace hC:=hC.aP aI
 replace fP:=mJ fP wE aI
 replace hS:=wS hS aI
 refine⟨.pointer<|ae ⟨w1.heap.size,0,af⟩,w1.alloc<|.cells #[.slice af 0 0] 166,.inl<|by go_simp,vN (by simp[go_sem]) (IY _<|ahD (fun _=>.slice fun x hx=>by cases hx) 166),?_⟩
 have asa:C<w1.heap.size:=hS _ hC.1
 have azV:w0<=w1.heap.size:=by omega
 have fZ:=mX fP
 simp only at fZ
 have hV:=dN.new S w1 (#[.slice af 0 0]) 166
 replace hH:=hH.alloc<|.cells #[.slice af 0 0] 166
 replace hM:=hM.alloc<|.cells #[.slice af 0 0] 166
 replace hC:=hC.alloc<|.cells #[.slice af 0 0] 166
 replace fP:(w1.alloc<|.cells #[.slice af 0 0] 166).cell? ⟨xb,68,af⟩=ae (.slice (ae ⟨pb,0,af⟩) np pc):=(aB4<|aB3 w1 _ _<|mX fP).trans fP
 replace zH:¬grow S w1 (w1.alloc<|.cells #[.slice af 0 0] 166) xb:=fun hx=>hx.elim zH fun y=>by omega
 replace hS:=Gy hS<|.cells #[.slice af 0 0] 166
 replace gG:w0<=(w1.alloc<|.cells #[.slice af 0 0] 166).heap.size:=by simp<;>omega
 clear aI fZ fO
 generalize grow S w1 (w1.alloc<|.cells #[.slice af 0 0] 166)=S at*
 generalize w1.alloc (.cells #[.slice af 0 0] 166)=w at*
 generalize w1.heap.size=sv at*
 walk_nrm
 refine au.jM rfl rfl (by decide) fun w1 aI=>?_
 have fO:=aI.size
 replace hH:=hH.aP aI
 replace hM:=hM.aP aI
 replace hC:=hC.aP aI
 replace hV:=hV.aP aI
 replace fP:=mJ fP wE aI
 replace hS:=wS hS aI
 have q0:=hV.cell (o:=0) rfl
 have r0:=hV.free 0
 have ou:∀B:ai.bP,(∀b,B.bK b->¬S b)->ai.az B (.slice (ae ⟨C,0,af⟩) np np):=fun B hB=>.slice fun y hy zz=>by cases hy;exact hB _ zz hC.1
 refine⟨ag,w1.setCell ⟨sv,0,af⟩<|.slice (ae ⟨C,0,af⟩) np np,.inr ⟨rfl,by go_simp⟩,Gu hV.1 ou fun e he=>?_,?_⟩
 ·simp[go_sem,aCI,storedEv,q0,r0]at he
  subst he
  exact .inl hV.1
 rw[rD<|by simp]
 replace hH:dN S (w1.setCell ⟨sv,0,af⟩<|.slice (ae ⟨C,0,af⟩) np np) hv (#[.pointer<|ae ⟨xb,0,af⟩]) 33:=⟨hH.1,by rw[aB5 w1 _ _ _ (by simp<;>omega)];exact hH.2⟩
 replace hM:dN S (w1.setCell ⟨sv,0,af⟩<|.slice (ae ⟨C,0,af⟩) np np) mr (Array.replicate np<|.chan af) 178:=⟨hM.1,by rw[aB5 w1 _ _ _ (by simp<;>omega)];exact hM.2⟩
 replace hC:dN S (w1.setCell ⟨sv,0,af⟩<|.slice (ae ⟨C,0,af⟩) np np) C (Array.replicate np<|.slice af 0 0) 107:=⟨hC.1,by rw[aB5 w1 _ _ _ (by simp<;>omega)];exact hC.2⟩
 have TZ:xb≠sv:=fun e=>zH<|e▸hV.1
 replace fP:(w1.setCell ⟨sv,0,af⟩<|.slice (ae ⟨C,0,af⟩) np np).cell? ⟨xb,68,af⟩=ae (.slice (ae ⟨pb,0,af⟩) np pc):=(aB4<|aB5 w1 ⟨sv,0,af⟩ (.slice (ae ⟨C,0,af⟩) np np) xb TZ).trans fP
 clear TZ
 replace hS:∀b,S b->b<(w1.setCell ⟨sv,0,af⟩<|.slice (ae ⟨C,0,af⟩) np np).heap.size:=fun b hb=>by simpa using hS b hb
 replace gG:w0<=(w1.setCell ⟨sv,0,af⟩<|.slice (ae ⟨C,0,af⟩) np np).heap.size:=by simp<;>omega
 replace hV:=hV.set 0<|.slice (ae ⟨C,0,af⟩) np np
 change dN S _ sv (#[.slice (ae ⟨C,0,af⟩) np np]) 166 at hV
 clear fO aI q0 r0 ou
 generalize w1.setCell ⟨sv,0,af⟩ (.slice (ae ⟨C,0,af⟩) np np)=w at*
 walk_nrm
 refine au.fA ?_
 refine au.sq ?_
 refine au.reg [0,1,2] rfl ?_
 refine au.jM rfl rfl (by decide) fun w1 aI=>?_
 have fO:=aI.size
 replace hH:=hH.aP aI
 replace hM:=hM.aP aI
 replace hC:=hC.aP aI
 replace hV:=hV.aP aI
 replace fP:=mJ fP wE aI
 replace hS:=wS hS aI
 refine⟨.chan<|ae w1.heap.size,w1.alloc<|.chan 0 #[] false 0 0 false,.inl (by go_simp;rw[ar4];rfl),vN (by simp[go_sem];exact ar5 w1) (IY _ fun _ v hv=>by simp at hv),?_⟩
 have asb:sv<w1.heap.size:=hS _ hV.1
 have azW:w0<=w1.heap.size:=by omega
 have fZ:=mX fP
 simp only at fZ
 have tC:grow S w1 (w1.alloc<|.chan 0 #[] false 0 0 false) w1.heap.size/\(w1.alloc<|.chan 0 #[] false 0 0 false).heap[w1.heap.size]? =ae (.chan 0 #[] false 0 0 false):=⟨.inr ⟨bV _,by simp⟩,aB0 _ _⟩
 replace hH:=hH.alloc<|.chan 0 #[] false 0 0 false
 replace hM:=hM.alloc<|.chan 0 #[] false 0 0 false
 replace hC:=hC.alloc<|.chan 0 #[] false 0 0 false
 replace hV:=hV.alloc<|.chan 0 #[] false 0 0 false
 replace fP:(w1.alloc<|.chan 0 #[] false 0 0 false).cell? ⟨xb,68,af⟩=ae (.slice (ae ⟨pb,0,af⟩) np pc):=(aB4<|aB3 w1 _ _<|mX fP).trans fP
 replace zH:¬grow S w1 (w1.alloc<|.chan 0 #[] false 0 0 false) xb:=fun hx=>hx.elim zH fun y=>by omega
 replace hS:=Gy hS<|.chan 0 #[] false 0 0 false
 replace gG:w0<=(w1.alloc<|.chan 0 #[] false 0 0 false).heap.size:=by simp<;>omega
 clear aI fZ fO
 generalize grow S w1 (w1.alloc<|.chan 0 #[] false 0 0 false)=S at*
 generalize w1.alloc (.chan 0 #[] false 0 0 false)=w at*
 generalize w1.heap.size=ov at*
 walk_nrm
 refine au.jM rfl rfl (by decide) fun w1 aI=>?_
 have fO:=aI.size
 replace hH:=hH.aP aI
 replace hM:=hM.aP aI
 replace hC:=hC.aP aI
 replace hV:=hV.aP aI
 replace fP:=mJ fP wE aI
 replace hS:=wS hS aI
 replace tC:S ov/\w1.heap[ov]? =ae (.chan 0 #[] false 0 0 false):=⟨tC.1,by rw[aI.own ov tC.1];exact tC.2⟩
 refine⟨.pointer<|ae ⟨w1.heap.size,0,af⟩,w1.alloc<|.cells #[.chan af] 167,.inl<|by go_simp,vN (by simp[go_sem]) (IY _<|ahD (fun _=>.chan fun x hx=>by cases hx) 167),?_⟩
 have asc:ov<w1.heap.size:=hS _ tC.1
 have azX:w0<=w1.heap.size:=by omega
 have fZ:=mX fP
 simp only at fZ
 have hB:=dN.new S w1 (#[.chan af]) 167
 replace hH:=hH.alloc<|.cells #[.chan af] 167
 replace hM:=hM.alloc<|.cells #[.chan af] 167
 replace hC:=hC.alloc<|.cells #[.chan af] 167
 replace hV:=hV.alloc<|.cells #[.chan af] 167
 replace fP:(w1.alloc<|.cells #[.chan af] 167).cell? ⟨xb,68,af⟩=ae (.slice (ae ⟨pb,0,af⟩) np pc):=(aB4<|aB3 w1 _ _<|mX fP).trans fP
 replace tC:grow S w1 (w1.alloc<|.cells #[.chan af] 167) ov/\(w1.alloc<|.cells #[.chan af] 167).heap[ov]? =ae (.chan 0 #[] false 0 0 false):=⟨.inl tC.1,by rw[aB3 w1 _ _<|hS ov tC.1];exact tC.2⟩
 replace zH:¬grow S w1 (w1.alloc<|.cells #[.chan af] 167) xb:=fun hx=>hx.elim zH fun y=>by omega
 replace hS:=Gy hS<|.cells #[.chan af] 167
 replace gG:w0<=(w1.alloc<|.cells #[.chan af] 167).heap.size:=by simp<;>omega
 clear aI fZ fO
 generalize grow S w1 (w1.alloc<|.cells #[.chan af] 167)=S at*
 generalize w1.alloc (.cells #[.chan af] 167)=w at*
 generalize w1.heap.size=ob at*
 walk_nrm
 refine au.jM rfl rfl (by decide) fun w1 aI=>?_
 have fO:=aI.size
 replace hH:=hH.aP aI
 replace hM:=hM.aP aI
 replace hC:=hC.aP aI
 replace hV:=hV.aP aI
 replace hB:=hB.aP aI
 replace fP:=mJ fP wE aI
 replace hS:=wS hS aI
 replace tC:S ov/\w1.heap[ov]? =ae (.chan 0 #[] false 0 0 false):=⟨tC.1,by rw[aI.own ov tC.1];exact tC.2⟩
 have q0:=hB.cell (o:=0) rfl
 have r0:=hB.free 0
 have ou:∀B:ai.bP,(∀b,B.bK b->¬S b)->ai.az B (.chan<|ae ov):=fun B hB'=>.chan fun y hy zz=>by cases hy;exact hB' _ zz tC.1
 refine⟨ag,w1.setCell ⟨ob,0,af⟩<|.chan<|ae ov,.inr ⟨rfl,by go_simp⟩,Gu hB.1 ou fun e he=>?_,?_⟩
 ·simp[go_sem,aDf,storedEv,q0,r0]at he
  subst he
  exact .inl hB.1
 rw[rD<|by simp]
 replace hH:dN S (w1.setCell ⟨ob,0,af⟩<|.chan<|ae ov) hv (#[.pointer<|ae ⟨xb,0,af⟩]) 33:=⟨hH.1,by rw[aB5 w1 _ _ _ (by simp<;>omega)];exact hH.2⟩
 replace hM:dN S (w1.setCell ⟨ob,0,af⟩<|.chan<|ae ov) mr (Array.replicate np<|.chan af) 178:=⟨hM.1,by rw[aB5 w1 _ _ _ (by simp<;>omega)];exact hM.2⟩
 replace hC:dN S (w1.setCell ⟨ob,0,af⟩<|.chan<|ae ov) C (Array.replicate np<|.slice af 0 0) 107:=⟨hC.1,by rw[aB5 w1 _ _ _ (by simp<;>omega)];exact hC.2⟩
 replace hV:dN S (w1.setCell ⟨ob,0,af⟩<|.chan<|ae ov) sv (#[.slice (ae ⟨C,0,af⟩) np np]) 166:=⟨hV.1,by rw[aB5 w1 _ _ _ (by simp<;>omega)];exact hV.2⟩
 replace tC:S ov/\(w1.setCell ⟨ob,0,af⟩<|.chan<|ae ov).heap[ov]? =ae (.chan 0 #[] false 0 0 false):=⟨tC.1,by rw[aB5 w1 _ _ _ (by simp<;>omega)];exact tC.2⟩
 have TZ:xb≠ob:=fun e=>zH<|e▸hB.1
 replace fP:(w1.setCell ⟨ob,0,af⟩<|.chan<|ae ov).cell? ⟨xb,68,af⟩=ae (.slice (ae ⟨pb,0,af⟩) np pc):=(aB4<|aB5 w1 ⟨ob,0,af⟩ (.chan<|ae ov) xb TZ).trans fP
 clear TZ
 replace hS:∀b,S b->b<(w1.setCell ⟨ob,0,af⟩<|.chan<|ae ov).heap.size:=fun b hb=>by simpa using hS b hb
 replace gG:w0<=(w1.setCell ⟨ob,0,af⟩<|.chan<|ae ov).heap.size:=by simp<;>omega
 replace hB:=hB.set 0<|.chan<|ae ov
 change dN S _ ob (#[.chan<|ae ov]) 167 at hB
 clear fO aI q0 r0 ou
 generalize w1.setCell ⟨ob,0,af⟩ (.chan<|ae ov)=w at*
 walk_nrm
 refine au.fA ?_
 refine au.sq ?_
 refine au.reg [0] rfl ?_
 subst Og hI1
 refine au.stop fun w1 hk=>⟨(fun i=>match i with|4=>.slice af 0 0|14=>.pointer (ae ⟨xb,0,af⟩)|15=>.pointer (ae ⟨xb,0,af⟩)|16=>.pointer (ae ⟨xb,68,af⟩)|17=>.slice (ae ⟨pb,0,af⟩) np pc|18=>.int .i64 np|19=>.slice (ae ⟨mr,0,af⟩) np np|20=>.pointer (ae ⟨xb,0,af⟩)|21=>.pointer (ae ⟨xb,0,af⟩)|22=>.pointer (ae ⟨xb,68,af⟩)|23=>.slice (ae ⟨pb,0,af⟩) np pc|24=>.int .i64 np|25=>.slice (ae ⟨C,0,af⟩) np np|26=>.chan (ae ov)|_=>ag),mr,C,sv,ov,ob,⟨hH.aP hk,hM.aP hk,hC.aP hk,hV.aP hk,⟨tC.1,by rw[hk.own ov tC.1];exact tC.2⟩,hB.aP hk,⟨ar7,ar9,asa,asb,asc⟩⟩,ar8,?_⟩
 kernel_rfl
end Twin
end
end Go.Proofs.YtkelpcjiediamaaGreat
