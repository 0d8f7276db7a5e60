import Derived.Test.YtkelpcjiediamaaGreatQf6
import Derived.Conc.WgGenN3
set_option maxRecDepth 100000
set_option maxHeartbeats 0
set_option linter.all false
namespace Go.Proofs.YtkelpcjiediamaaGreat
def aFa:=@Go.Conc.stepG_region_end
def aFd:=@Go.Conc.stepG_seq
def aFh:=@Go.Conc.mem_listed
def aFp:=@Go.Conc.stepG_cond
def aFr:=@Go.Conc.stepG_skip
def aFs:=@Go.Conc.stepG_block
def aFu:=@Go.Conc.stepG_ret'
def aFv:=@Go.Conc.Goes.stop
def aFJ:=@Go.Conc.events_convert_to_unsafe
def aFL:=@Go.Conc.stepG_inBlock
def aFQ:=@Go.run_convert_to_unsafe
def aFV:=@Go.Conc.stepG_inLoop
def aFX:=@Go.Conc.stepG_loop
def aGf:=@Go.Conc.stepG_markAt
def aGm:=@Go.Conc.stepG_mark0
def aGn:=@Go.Conc.goes_oper_k
def aGp:=@Go.Conc.stepG_load_atomic
def aGx:=@Go.Conc.goes_elim
open Go renaming Frame→bH,Goroutine→bM,Program→fJ,TypeId→dJ,Value→aA,World→ay,stepG→bK,undef→ai
open Go.IntKind renaming i64→ah
open Go.Item renaming inRegion→bW
open Go.Value renaming int→ag,pointer→az,tuple→dU
open Option renaming none→af,some→ae
open _root_.Array renaming replicate→gz
open Go.Proofs.Tryz
section
namespace fU
open Go Go.Conc
abbrev link:Go.Conc.Lib.WgLink:={add:=111,done:=113,wait:=115,relMerge:=152,disable:=153,enable:=154,inBubble:=155,associate:=156,fatal:=157,uOr:=158,uAdd:=159,raceRead:=160,uLoad:=161,uStore:=162,disassociate:=163,semrelease:=164,acquire:=165,isAssociated:=166,uCas:=167,raceWrite:=168,semacquire:=169,orU64:=189,addU64:=190,loadU64:=191,storeU64:=192,casU64:=193,tWgP:=207,tUP:=209,tAssoc:=210,tWg:=177,tAU:=174,tU64:=172,tUint:=214,tU32:=175,tPU32:=215,tPAU:=243,tPU64:=245,tNoCopy:=169,tANoCopy:=170,tAlign64:=171}
def TR:Go.Conc.Lib.WgLib prog link:=
 ⟨func111,func113,func115,func152,func153,func154,func155,func156,func157,func158,func159,func160,func161,func162,func163,func164,func165,func166,func167,func168,func169,func189,func190,func191,func192,func193,underlying207,runUnderlying207,sizeOf207,isAgg207,zeroValue207,underlying209,runUnderlying209,sizeOf209,isAgg209,zeroValue209,underlying210,runUnderlying210,sizeOf210,isAgg210,zeroValue210,underlying177,runUnderlying177,sizeOf177,isAgg177,zeroValue177,underlying174,runUnderlying174,sizeOf174,isAgg174,zeroValue174,underlying172,runUnderlying172,sizeOf172,isAgg172,zeroValue172,underlying214,runUnderlying214,sizeOf214,isAgg214,zeroValue214,underlying175,runUnderlying175,sizeOf175,isAgg175,zeroValue175,underlying215,runUnderlying215,sizeOf215,isAgg215,zeroValue215,underlying243,runUnderlying243,sizeOf243,isAgg243,zeroValue243,underlying245,runUnderlying245,sizeOf245,isAgg245,zeroValue245,underlying0,runUnderlying0,sizeOf0,isAgg0,zeroValue0,underlying3,runUnderlying3,sizeOf3,isAgg3,zeroValue3,underlying4,runUnderlying4,sizeOf4,isAgg4,zeroValue4,underlying9,runUnderlying9,sizeOf9,isAgg9,zeroValue9,underlying20,runUnderlying20,sizeOf20,isAgg20,zeroValue20,underlying21,runUnderlying21,sizeOf21,isAgg21,zeroValue21,(by kernel_rfl),(by kernel_rfl)⟩
instance:Go.ConcR.Payload:=⟨107⟩
end fU
end
section
namespace fU
open Go Go.Conc Go.ConcN Go.RowKit Go.Conc.Lib Go.ConcR.Gen Go.ConcN.Gen
open Go.ConcR (KK wgBlock WgAt stA smA rd wr DC0)
def aY{ty:dJ}{Wg:Nat}{w w₁:ay}(h:WgLive ty Wg w)(r:RL ty Wg w w₁):WgLive ty Wg w₁:=r h
def TU(L:WgLink)(Wg:Nat)(c:bH)(cs:List bH)(g:bM)(_w:ay):Prop:=
 ∃T:Array aA,g=G ((base L.wait).at ⟨T,[]⟩ [.code<|L7 L,.inLoop<|L7 L,.inBlock 0]) (c::cs)/\T.size=84/\T[0]? =ae (az<|ae ⟨Wg,0,af⟩)
section
variable{L:WgLink}{K:Type}{X:bV K}{b₀:bH}{a₀:Act}{vX:Array Oper}{i₀:Nat}{Ci:List Nat}{k₀:List Item}{cs:List bH}
def as5(H:WgLib X.P L)(g:bM)(w:ay)(h:TU L X.Wg (b₀.at a₀<|bW vX (i₀::Ci)::k₀) cs g w)(hF:WgLive L.tWg X.Wg w):
 ∃m,Goes X.P true (RL L.tWg X.Wg) DC0 (X.AtW1 L.tWg (G (b₀.at (a₀.put ((vX[i₀]?).bind (·.dst))<|dU #[])<|bW vX Ci::k₀) cs)<|TU L X.Wg (b₀.at a₀<|bW vX (i₀::Ci)::k₀) cs) m g w:=by
 lib_facts
 obtain⟨T,rfl,aAU,t0⟩:=h;obtain⟨v0,v1,v2,v3,v4,v5,v6,v7,v8,v9,v10,v11,v12,v13,v14,v15,v16,v17,v18,v19,v20,v21,v22,v23,v24,v25,v26,v27,v28,v29,v30,v31,v32,v33,v34,v35,v36,v37,v38,v39,v40,v41,v42,v43,v44,v45,v46,v47,v48,v49,v50,v51,v52,v53,v54,v55,v56,v57,v58,v59,v60,v61,v62,v63,v64,v65,v66,v67,v68,v69,v70,v71,v72,v73,v74,v75,v76,v77,v78,v79,v80,v81,v82,v83,rfl⟩:=array84 T aAU;simp only[anF,yV,gU]at t0;subst t0;refine⟨30,?_⟩;simp only[L7,body_wait,waitFn,ik];u_c aFs aY hF
 u_c aFd aY hF
 u_reg aY hF
 u_op aY hF
 u_op aY hF
 u_op aY hF
 u_call H.f_uLoad (nm_uLoad L) uLoadFn aY hF
 u_c aFd aY hF
 u_reg aY hF
 u_op aY hF
 u_c aFa aY hF
 u_c aFd aY hF
 u_reg aY hF
 u_op aY hF
 u_op aY hF
 u_op aY hF
 refine aFv fun w₁ h₁=>?_;replace hF:=aY hF h₁
 clear h₁
 refine⟨rfl,fun v hv hw=>?_⟩;rcases Ju v with rfl|hvp
 ·
  replace hw:WgAt L.tWg X.Wg w₁ 0 0:=by simpa using hw
  refine⟨_,aGp (v:=0) rfl rfl (by k_ne) rfl H.f_loadU64 (x_loadU64_n L) (x_loadU64_b L) (x_loadU64_x L) .u64 (x_loadU64_f L) rfl hw.cellSt,fun _=>⟨60,?_⟩,fun h=>absurd rfl h⟩;clear hw;walk_nrm;u_op aY hF
  u_c aFa aY hF
  u_c aFu aY hF
  u_leave1 H.f_uLoad aY hF
  u_op aY hF
  u_c aFa aY hF
  u_c aFd aY hF
  u_reg aY hF
  u_op aY hF
  u_op aY hF
  u_op aY hF
  u_op aY hF
  u_c aFa aY hF
  u_c aFd aY hF
  u_reg aY hF
  u_op aY hF
  u_op aY hF
  u_op aY hF
  u_op aY hF
  u_c aFa aY hF
  u_c aFd aY hF
  u_c aFd aY hF
  u_reg aY hF
  u_op aY hF
  u_op aY hF
  u_c aFa aY hF
  u_cond true aY hF
  u_c aFd aY hF
  u_cond true aY hF
  u_c aFd aY hF
  u_reg aY hF
  refine aFv fun w₅ h₅=>?_;replace hF:=aY hF h₅
  clear h₅
  refine⟨rfl,_,aGm .enable (by simp) rfl rfl (by k_ne) rfl H.f_enable (x_enable_n L) (x_enable_b L) (x_enable_x L)<|x_enable_f L,12,?_⟩;walk_nrm;u_c aFa aY hF
  u_reg aY hF
  u_op aY hF
  u_in aY hF
  refine aGn rfl rfl (by k_ne) fun Kx A8=>?_;have Jj:=aFQ (P:=X.P) H.underlying_tWgP H.underlying_tUP H.room_tWg (WgLive.cell0 hF).choose_spec;have Bc:=fun es=>aFJ (P:=X.P) H.underlying_tWgP H.underlying_tUP H.room_tWg (WgLive.cell0 hF).choose_spec es;go_simp
  refine A8 _ _ ⟨?_,?_⟩
  ·u_none
   intro ex hex;have Jk:=aFh hex;simp[go_sem,Bc]at Jk
  clear A8 Kx Jj Bc;refine aFv fun w₆ h₆=>?_;replace hF:=aY hF h₆
  clear h₆
  refine⟨rfl,_,aGf .acquire (by simp) rfl rfl (by k_ne) rfl H.f_acquire (x_acquire_n L) (x_acquire_b L) (x_acquire_x L) (x_acquire_f L)<|by simp[Act.eval,stA],40,?_⟩;walk_nrm;u_c aFa aY hF
  u_c aFd aY hF
  u_c aFd aY hF
  u_reg aY hF
  u_op aY hF
  u_op aY hF
  u_op aY hF
  u_op aY hF
  u_op aY hF
  u_op aY hF
  u_op aY hF
  u_op aY hF
  u_skip aY hF
  u_skip aY hF
  u_op aY hF
  u_c aFa aY hF
  u_cond false aY hF
  u_c aFr aY hF
  u_c aFu aY hF
  u_leave0 H.f_wait aY hF
  exact aFv fun _ _=>rfl
 ·
  obtain⟨S,hS⟩:∃S:Int,(v:Int)*KK=S:=⟨_,rfl⟩;have a1:S/4294967296=(v:Int):=by rw[<-hS];simp only[KK];omega
  have b1:bits .and .u64 S 2147483648=0:=by rw[<-hS];have:=st_flag v 0 (by omega) (by omega);simpa[KK]using this
  have b2:bits .and .u64 S 2147483647=0:=by rw[<-hS];have:=st_waiters v 0 (by omega) (by omega);simpa[KK]using this
  have c1:IntKind.i32.wrap (v:Int)=(v:Int):=by rw[IntKind.wrap_i32];omega
  have w1:IntKind.u64.wrap (S+1)=S+1:=by rw[IntKind.wrap_u64,<-hS];simp only[KK];omega
  have q3:decide ((v:Int)<0)=false:=qZ (by omega);have q4:decide (0<(v:Int))=true:=jY (by omega);have q5:((v:Int)==0)=false:=by simp<;>omega
  have q6:decide ((v:Int)=0)=false:=qZ (by omega);rw[hS]at hw;refine⟨_,aGp (v:=S) rfl rfl (by k_ne) rfl H.f_loadU64 (x_loadU64_n L) (x_loadU64_b L) (x_loadU64_x L) .u64 (x_loadU64_f L) rfl hw.cellSt,fun h0=>absurd h0<|by omega,fun _=>⟨80,?_⟩⟩;clear hw;walk_nrm;u_op aY hF
  u_c aFa aY hF
  u_c aFu aY hF
  u_leave1 H.f_uLoad aY hF
  u_op aY hF
  u_c aFa aY hF
  u_c aFd aY hF
  u_reg aY hF
  u_op aY hF
  u_op aY hF
  u_op aY hF
  u_op aY hF
  u_c aFa aY hF
  u_c aFd aY hF
  u_reg aY hF
  u_op aY hF
  u_op aY hF
  u_op aY hF
  u_op aY hF
  u_c aFa aY hF
  u_c aFd aY hF
  u_c aFd aY hF
  u_reg aY hF
  u_op aY hF
  u_op aY hF
  u_c aFa aY hF
  u_cnd false aY hF
  u_c aFr aY hF
  u_c aFd aY hF
  u_reg aY hF
  u_op aY hF
  u_op aY hF
  u_op aY hF
  u_op aY hF
  u_op aY hF
  u_op aY hF
  u_call H.f_uCas (nm_uCas L) uCasFn aY hF
  u_c aFd aY hF
  u_reg aY hF
  u_op aY hF
  u_c aFa aY hF
  u_c aFd aY hF
  u_reg aY hF
  u_op aY hF
  u_op aY hF
  u_op aY hF
  u_op aY hF
  u_op aY hF
  refine aFv fun w₂ h₂=>?_;replace hF:=aY hF h₂
  clear h₂
  refine⟨rfl,fun v' hv' hw=>⟨fun e=>?_,fun e=>?_⟩⟩
  ·subst e;rw[hS]at hw⊢
   refine⟨_,(stepG_cas_hit (v:=S) (n:=S+1) rfl rfl (by k_ne) rfl H.f_casU64 (x_casU64_n L) (x_casU64_b L) (x_casU64_x L) .u64 (x_casU64_f L) rfl rfl rfl hw.cellSt<|hw.thaw 0).t<|by rfl,70,?_⟩;replace hF:WgLive L.tWg X.Wg (w₂.setCell (stA X.Wg)<|.int .u64<|S+1):=⟨_,_,hw.setSt _⟩;clear hw;walk_nrm;u_op aY hF
   u_c aFa aY hF
   u_c aFu aY hF
   u_leave1 H.f_uCas aY hF
   u_c aFa aY hF
   u_cond true aY hF
   u_c aFd aY hF
   u_c aFd aY hF
   u_reg aY hF
   u_op aY hF
   u_op aY hF
   u_op aY hF
   u_op aY hF
   u_c aFa aY hF
   u_cond true aY hF
   u_reg aY hF
   u_op aY hF
   u_op aY hF
   u_op aY hF
   u_in aY hF
   refine aGn rfl rfl (by k_ne) fun Kx A8=>?_;have Jj:=aFQ (P:=X.P) H.underlying_tPU32 H.underlying_tUP H.room_tU32 (WgLive.cell1 hF).choose_spec;have Bc:=fun es=>aFJ (P:=X.P) H.underlying_tPU32 H.underlying_tUP H.room_tU32 (WgLive.cell1 hF).choose_spec es;go_simp
   refine A8 _ _ ⟨?_,?_⟩
   ·u_none
    intro ex hex;have Jk:=aFh hex;simp[go_sem,Bc]at Jk
   clear A8 Kx Jj Bc;refine aFv fun aCJ aiW=>?_;replace hF:=aY hF aiW;clear aiW;refine⟨rfl,_,aGf .write (by simp) rfl rfl (by k_ne) rfl H.f_raceWrite (x_raceWrite_n L) (x_raceWrite_b L) (x_raceWrite_x L) (x_raceWrite_f L) (ad:=smA X.Wg)<|by simp[Act.eval,smA],40,?_⟩;walk_nrm;u_c aFa aY hF
   u_c aFd aY hF
   u_reg aY hF
   u_op aY hF
   u_c aFa aY hF
   u_c aFd aY hF
   u_c aFd aY hF
   u_reg aY hF
   u_op aY hF
   u_op aY hF
   u_op aY hF
   u_op aY hF
   u_skip aY hF
   u_op aY hF
   u_c aFa aY hF
   u_cond false aY hF
   u_c aFr aY hF
   u_c aFd aY hF
   u_reg aY hF
   u_op aY hF
   u_op aY hF
   u_op aY hF
   u_op aY hF
   refine aFv fun w₃ h₃=>?_;replace hF:=aY hF h₃
   clear h₃
   refine⟨rfl,rfl,fun⟨st,hw⟩=>stepG_semacquire_wait rfl rfl rfl H.f_semacquire (x_semacquire_n L) (x_semacquire_b L) (x_semacquire_x L) (x_semacquire_f L) (by simp[Act.eval,smA]) hw.cellSm,fun hf=>?_⟩;refine⟨_,(stepG_semacquire (n:=1) rfl rfl (by k_ne) rfl H.f_semacquire (x_semacquire_n L) (x_semacquire_b L) (x_semacquire_x L) (x_semacquire_f L) (by simp[Act.eval,smA]) hf.cellSm (by k_ne)<|hf.thaw 1).t<|by rfl,30,?_⟩;replace hF:WgLive L.tWg X.Wg (w₃.setCell (smA X.Wg)<|.int .u32 0):=⟨_,_,hf.setSm 0⟩;clear hf;walk_nrm;u_c aFa aY hF
   u_c aFd aY hF
   u_reg aY hF
   u_op aY hF
   u_op aY hF
   u_op aY hF
   u_call H.f_uLoad (nm_uLoad L) uLoadFn aY hF
   u_c aFd aY hF
   u_reg aY hF
   u_op aY hF
   u_c aFa aY hF
   u_c aFd aY hF
   u_reg aY hF
   u_op aY hF
   u_op aY hF
   u_op aY hF
   refine aFv fun w₄ h₄=>?_;replace hF:=aY hF h₄
   clear h₄
   refine⟨rfl,fun hw=>⟨_,aGp (v:=0) rfl rfl (by k_ne) rfl H.f_loadU64 (x_loadU64_n L) (x_loadU64_b L) (x_loadU64_x L) .u64 (x_loadU64_f L) rfl hw.cellSt,30,?_⟩⟩;clear hw;walk_nrm;u_op aY hF
   u_c aFa aY hF
   u_c aFu aY hF
   u_leave1 H.f_uLoad aY hF
   u_op aY hF
   u_op aY hF
   u_c aFa aY hF
   u_c aFd aY hF
   u_cond true aY hF
   u_c aFd aY hF
   u_reg aY hF
   refine aFv fun w₅ h₅=>?_;replace hF:=aY hF h₅
   clear h₅
   refine⟨rfl,_,aGm .enable (by simp) rfl rfl (by k_ne) rfl H.f_enable (x_enable_n L) (x_enable_b L) (x_enable_x L)<|x_enable_f L,12,?_⟩;walk_nrm;u_c aFa aY hF
   u_reg aY hF
   u_op aY hF
   u_in aY hF
   refine aGn rfl rfl (by k_ne) fun Kx A8=>?_;have Jj:=aFQ (P:=X.P) H.underlying_tWgP H.underlying_tUP H.room_tWg (WgLive.cell0 hF).choose_spec;have Bc:=fun es=>aFJ (P:=X.P) H.underlying_tWgP H.underlying_tUP H.room_tWg (WgLive.cell0 hF).choose_spec es;go_simp
   refine A8 _ _ ⟨?_,?_⟩
   ·u_none
    intro ex hex;have Jk:=aFh hex;simp[go_sem,Bc]at Jk
   clear A8 Kx Jj Bc;refine aFv fun w₆ h₆=>?_;replace hF:=aY hF h₆
   clear h₆
   refine⟨rfl,_,aGf .acquire (by simp) rfl rfl (by k_ne) rfl H.f_acquire (x_acquire_n L) (x_acquire_b L) (x_acquire_x L) (x_acquire_f L)<|by simp[Act.eval,stA],40,?_⟩;walk_nrm;u_c aFa aY hF
   u_c aFd aY hF
   u_c aFd aY hF
   u_reg aY hF
   u_op aY hF
   u_c aFa aY hF
   u_cond false aY hF
   u_c aFr aY hF
   u_c aFu aY hF
   u_leave0 H.f_wait aY hF
   exact aFv fun _ _=>rfl
  ·
   refine⟨_,stepG_cas_miss (v:=(v':Int)*KK) (old:=S) (n:=S+1) rfl rfl (by k_ne) rfl H.f_casU64 (x_casU64_n L) (x_casU64_b L) (x_casU64_x L) .u64 (x_casU64_f L) rfl rfl rfl hw.cellSt (hw.thaw 0) (by rw[<-hS];simp only[KK];omega),20,?_⟩;clear hw;walk_nrm;u_op aY hF
   u_c aFa aY hF
   u_c aFu aY hF
   u_leave1 H.f_uCas aY hF
   u_c aFa aY hF
   u_cond false aY hF
   u_c aFr aY hF
   u_c aFL aY hF
   u_c aFV aY hF
   exact aFv fun w₃ h₃=>⟨_,rfl,by simp,by simp⟩
end
end fU
end
section
namespace fU
open Go Go.Conc Go.ConcN Go.RowKit Go.Conc.Lib Go.ConcR.Gen Go.ConcN.Gen Twin
open Go.ConcR (KK wgBlock WgAt stA smA rd wr DC0)
def less(E:dL)(b:Nat):dL:=⟨fun x=>E.ro x/\x≠b,fun x=>E.rd x/\x≠b,fun _ h=>⟨E.le _ h.1,h.2⟩⟩
variable{w w1:ay}{b:Nat}
def bu.less{S:aO}{E:dL}(h:bu S E w w1)(b:Nat):bu S (less E b) w w1:=⟨h.tape,h.os,h.output,h.size,h.own,fun x hx=>h.ro x hx.1⟩
def aiX{S:aO}{E:dL}(hS:¬S b)(h:Aside b w w1):bu S (less E b) w w1:=
 ⟨h.tape,h.os,h.output,CQ h.size.s,fun x hx=>h.block x fun e=>hS<|e▸hx,fun _ hx=>h.block _ hx.2⟩
def JY{P:fJ}{main:Bool}{S:aO}{E:dL}{Stop:bM->ay->Prop}{Stop':aO->bM->ay->Prop}(hs:∀g w,Stop g w->Stop' S g w):∀{m:Nat} {g:bM} {w:ay},Goes P main (bu S E) DC0 Stop m g w->aC P main E Stop' S g w
 |0,_,_,h=>.stop fun w1 k=>hs _ _<|h w1 k
 |m+1,g,w,h=>by
  rcases h with h|⟨hr,h⟩
  ·exact .stop fun w1 k=>hs _ _<|h w1 k
  ·refine .step1 hr fun w1 k=>?_;obtain⟨g',w',es,e,⟨rfl,rfl⟩,hn⟩:=aGx<|h w1 k;exact⟨g',w',#[],e,jC.refl,by rw[tY<|dI _];exact JY hs hn⟩
def ka{ty:dJ}{S:aO}{E:dL}{st:Int}{w0 w w₁:ay}(h:WgAt ty b w st 0/\bu S (less E b) w0 w/\E.ro b)(r:bu S E w w₁):WgAt ty b w₁ st 0/\bu S (less E b) w0 w₁/\E.ro b:=
 ⟨h.1.of_block<|r.ro b h.2.2,h.2.1.t<|bu.less r b,h.2.2⟩
def libs(v:Nat):List rD:=if v=0 then[.iw,.iw,.iw,.iw]else[.iw,.iw,.iw]
section
variable{L:WgLink}{K:Type}{X:bV K}{End:List K->dL->aO->bM->ay->Prop}{ts:List rD}{ks:List K}{E:dL}{S:aO}{b₀:bH}{a₀:Act}{vX:Array Oper}{i₀:Nat}{Ci:List Nat}{k₀:List Item}{cs:List bH}
def as6(H:WgLib X.P L)(hS:¬S X.Wg){w0:ay}(v:Nat)(hv:v<2147483647)
 (hT:∀w',bu S (less E X.Wg) w0 w'->WgAt L.tWg X.Wg w' (((v:Int)+1)*KK) 0->aC X.P true E (X.kE End ts ks 0 E) S (G (b₀.at (a₀.put ((vX[i₀]?).bind (·.dst))<|dU #[])<|bW vX Ci::k₀) cs) w')
 (w:ay)(hF:WgAt L.tWg X.Wg w ((v:Int)*KK) 0/\bu S (less E X.Wg) w0 w/\E.ro X.Wg):
 aC X.P true E (X.kE End (libs v++ts) ks 0 E) S (G ((base L.add).at ⟨#[az<|ae ⟨X.Wg,0,af⟩,ag ah 1,ai,ai,ai,ai,ai,ai,ai,ai,ai,ai,ai,ai,ai,ai,ai,ai,ai,ai,ai,ai,ai,ai,ai,ai,ai,ai,ai,ai,ai,ai,ai,ai,ai,ai,ai,ai,ai,ai,ai,ai,ai,ai,ai,ai,ai,ai,ai,ai,ai,ai,ai,ai,ai,ai,ai,ai,ai,ai,ai,ai,ai,ai,ai,ai,ai,ai,ai,ai,ai,ai,ai,ai,ai,ai,ai,ai,ai,ai,ai,ai,ai,ai,ai,ai,ai,ai,ai,ai,ai,ai,ai,ai,ai,ai,ai,ai,ai,ai,ai,ai,ai,ai,ai,ai,ai,ai,ai,ai,ai,ai,ai,ai,ai,ai,ai],[]⟩ [.code<|body_add L])<|b₀.at a₀ (bW vX (i₀::Ci)::k₀)::cs) w:=by
 lib_facts
 have as7:∃l,libs v=.iw:: .iw::l:=by unfold libs;split<;>exact⟨_,rfl⟩
 obtain⟨l,hl⟩:=as7;rw[hl];simp only[body_add,addFn,ik];refine JY (m:=14) (Stop:=fun g w=>X.kE End (.iw:: .iw::(l++ts)) ks 0 E S g w) (fun _ _ h=>h) ?_;u_c aFd ka hF
 u_cond true ka hF
 u_c aFd ka hF
 u_c aFd ka hF
 u_reg ka hF
 u_op ka hF
 u_op ka hF
 u_c aFa ka hF
 u_cond false ka hF
 u_c aFr ka hF
 u_c aFd ka hF
 u_reg ka hF
 refine aFv fun w₁ h₁=>?_;replace hF:=ka hF h₁
 clear h₁
 refine⟨rfl,_,w₁,_,aGm .disable (by simp) rfl rfl (by k_ne) rfl H.f_disable (x_disable_n L) (x_disable_b L) (x_disable_x L)<|x_disable_f L,.refl X.Wg w₁,(by intro e he;simp at he;subst he;exact .inl rfl),?_⟩;walk_nrm;refine JY (m:=45) (Stop:=fun g w=>X.kE End (.iw::(l++ts)) ks 1 E S g w) (fun _ _ h=>h) ?_;u_c aFa ka hF
 u_reg ka hF
 u_defer ka hF
 u_c aFa ka hF
 u_c aFd ka hF
 u_reg ka hF
 u_op ka hF
 u_c aFa ka hF
 u_c aFd ka hF
 u_c aFd ka hF
 u_reg ka hF
 u_bub ka hF
 u_c aFa ka hF
 u_cond false ka hF
 u_c aFr ka hF
 u_c aFd ka hF
 u_reg ka hF
 u_op ka hF
 u_op ka hF
 u_op ka hF
 u_op ka hF
 u_op ka hF
 u_op ka hF
 u_call H.f_uAdd (nm_uAdd L) uAddFn ka hF
 u_c aFd ka hF
 u_reg ka hF
 u_op ka hF
 u_c aFa ka hF
 u_c aFd ka hF
 u_reg ka hF
 u_op ka hF
 u_op ka hF
 u_op ka hF
 u_op ka hF
 refine aFv fun w₂ h₂=>?_;replace hF:=ka hF h₂
 clear h₂
 have hw:=hF.1;rcases Ju v with rfl|hvp
 ·
  obtain rfl:l=[.iw,.iw]:=by simpa[libs]using hl.s
  replace hw:WgAt L.tWg X.Wg w₂ 0 0:=by simpa using hw
  have e0:IntKind.u64.wrap (0+4294967296)=KK:=by decide
  refine⟨rfl,_,_,_,(stepG_add_atomic rfl rfl (by k_ne) rfl H.f_addU64 (x_addU64_n L) (x_addU64_b L) (x_addU64_x L) .u64 (x_addU64_f L) rfl rfl hw.cellSt<|hw.thaw 0).t<|by rw[e0],aFD w₂ (stA X.Wg) _,(by intro e he;simp at he;rcases he with rfl|rfl<;>exact IA _ rfl _),?_⟩;replace hF:WgAt L.tWg X.Wg (w₂.setCell (stA X.Wg)<|.int .u64 KK) KK 0/\bu S (less E X.Wg) w0 (w₂.setCell (stA X.Wg)<|.int .u64 KK)/\E.ro X.Wg:=⟨hw.setSt _,hF.2.1.t<|aiX hS<|aFD w₂ (stA X.Wg) _,hF.2.2⟩;clear hw;simp only[KK]at hF⊢
  walk_nrm;refine JY (m:=70) (Stop:=fun g w=>X.kE End (.iw:: .iw::ts) ks 1 E S g w) (fun _ _ h=>h) ?_;u_op ka hF
  u_c aFa ka hF
  u_c aFu ka hF
  u_leave1 H.f_uAdd ka hF
  u_op ka hF
  u_c aFa ka hF
  u_c aFd ka hF
  u_c aFd ka hF
  u_reg ka hF
  u_op ka hF
  u_op ka hF
  u_op ka hF
  u_op ka hF
  u_skip ka hF
  u_skip ka hF
  u_op ka hF
  u_c aFa ka hF
  u_cond false ka hF
  u_c aFr ka hF
  u_c aFd ka hF
  u_reg ka hF
  u_op ka hF
  u_op ka hF
  u_op ka hF
  u_op ka hF
  u_c aFa ka hF
  u_c aFd ka hF
  u_reg ka hF
  u_op ka hF
  u_op ka hF
  u_op ka hF
  u_op ka hF
  u_c aFa ka hF
  u_c aFd ka hF
  u_c aFd ka hF
  u_reg ka hF
  u_op ka hF
  u_op ka hF
  u_op ka hF
  u_op ka hF
  u_op ka hF
  u_op ka hF
  u_op ka hF
  u_op ka hF
  u_op ka hF
  u_op ka hF
  u_c aFa ka hF
  u_cond true ka hF
  u_reg ka hF
  u_op ka hF
  u_op ka hF
  u_op ka hF
  u_in ka hF
  refine aGn rfl rfl (by k_ne) fun Kx A8=>?_;have Jj:=aFQ (P:=X.P) H.underlying_tPU32 H.underlying_tUP H.room_tU32 (WgLive.cell1 ⟨_,_,hF.1⟩).choose_spec;have Bc:=fun es=>aFJ (P:=X.P) H.underlying_tPU32 H.underlying_tUP H.room_tU32 (WgLive.cell1 ⟨_,_,hF.1⟩).choose_spec es;go_simp
  refine A8 _ _ ⟨?_,?_⟩
  ·u_none
   intro ex hex;have Jk:=aFh hex;simp[go_sem,Bc]at Jk
  clear A8 Kx Jj Bc;refine aFv fun w₃ h₃=>?_;replace hF:=ka hF h₃
  clear h₃
  refine⟨rfl,_,w₃,_,aGf .read (by simp) rfl rfl (by k_ne) rfl H.f_raceRead (x_raceRead_n L) (x_raceRead_b L) (x_raceRead_x L) (x_raceRead_f L) (ad:=⟨X.Wg,1,af⟩)<|by simp[Act.eval],.refl X.Wg w₃,(by intro e he;simp at he;subst he;exact .inr<|.inr<|.inl ⟨_,rfl,rfl⟩),?_⟩;walk_nrm;refine JY (m:=50) (Stop:=fun g w=>X.kE End (.iw::ts) ks 1 E S g w) (fun _ _ h=>h) ?_;u_c aFa ka hF
  u_c aFd ka hF
  u_c aFd ka hF
  u_reg ka hF
  u_op ka hF
  u_op ka hF
  u_c aFa ka hF
  u_cond false ka hF
  u_c aFr ka hF
  u_c aFd ka hF
  u_c aFd ka hF
  u_reg ka hF
  u_op ka hF
  u_op ka hF
  u_op ka hF
  u_skip ka hF
  u_skip ka hF
  u_op ka hF
  u_op ka hF
  u_skip ka hF
  u_skip ka hF
  u_skip ka hF
  u_skip ka hF
  u_op ka hF
  u_c aFa ka hF
  u_cond false ka hF
  u_c aFr ka hF
  u_c aFd ka hF
  u_c aFd ka hF
  u_reg ka hF
  u_op ka hF
  u_op ka hF
  u_op ka hF
  u_skip ka hF
  u_skip ka hF
  u_op ka hF
  u_c aFa ka hF
  u_cond true ka hF
  u_c aFu ka hF
  refine aFv fun w₄ h₄=>?_;replace hF:=ka hF h₄
  clear h₄
  refine⟨rfl,_,w₄,_,stepG_unwind_entry (v:=dU #[]) (evs:=#[Go.ConcR.mk .enable]) rfl H.f_enable (x_enable_n L) (x_enable_b L) (x_enable_x L) (x_enable_f L) (by simp[Extern.Race.none_]) (by simp[Go.ConcR.mk])<|by simp[Go.ConcR.mk],.refl X.Wg w₄,(by intro e he;simp at he;subst he;exact .inr<|.inl rfl),?_⟩;refine(JY (m:=1) (Stop:=fun g w=>g=G (b₀.at (a₀.put ((vX[i₀]?).bind (·.dst))<|dU #[])<|bW vX Ci::k₀) cs/\WgAt L.tWg X.Wg w 4294967296 0/\bu S (less E X.Wg) w0 w) (Stop':=fun S' g w=>S'=S/\g=G (b₀.at (a₀.put ((vX[i₀]?).bind (·.dst))<|dU #[])<|bW vX Ci::k₀) cs/\WgAt L.tWg X.Wg w 4294967296 0/\bu S (less E X.Wg) w0 w) (fun _ _ h=>⟨rfl,h⟩) ?_).t ?_
  ·u_leave0 H.f_add ka hF
   exact aFv fun w₅ h₅=>⟨rfl,(ka hF h₅).1,(ka hF h₅).2.1⟩
  ·rintro S' g w' ⟨rfl,rfl,h1,h2⟩;exact hT w' h2<|by simpa[KK]using h1
 ·
  obtain rfl:l=[.iw]:=by
   have:libs v=[.iw,.iw,.iw]:=by unfold libs;rw[if_neg<|by omega]
   rw[this]at hl;simpa using hl.s
  obtain⟨V,hV⟩:∃V:Int,V=(v:Int)+1:=⟨_,rfl⟩;obtain⟨Q,hQ⟩:∃Q:Int,Q=V*KK:=⟨_,rfl⟩;have eQ:IntKind.u64.wrap ((v:Int)*KK+4294967296)=Q:=by rw[IntKind.wrap_u64,hQ,hV];simp only[KK];omega
  rw[<-hV,<-hQ]at hT;have a1:Q/4294967296=V:=by rw[hQ];simp only[KK];omega
  have b1:bits .and .u64 Q 2147483648=0:=by rw[hQ,hV];have:=st_flag (v+1) 0 (by omega) (by omega);simpa[KK]using this
  have b2:bits .and .u64 Q 2147483647=0:=by rw[hQ,hV];have:=st_waiters (v+1) 0 (by omega) (by omega);simpa[KK]using this
  have c1:IntKind.i32.wrap V=V:=by rw[IntKind.wrap_i32];omega
  have hV1:1<V:=by omega
  have hV2:V<2147483648:=by omega
  have q1:(V==1)=false:=by simp<;>omega
  have q2:decide (V=1)=false:=qZ (by omega);have q3:decide (V<0)=false:=qZ (by omega);have q4:decide (0<V)=true:=jY (by omega);have q5:(V==0)=false:=by simp<;>omega
  have q6:decide (V=0)=false:=qZ (by omega);refine⟨rfl,_,_,_,(stepG_add_atomic rfl rfl (by k_ne) rfl H.f_addU64 (x_addU64_n L) (x_addU64_b L) (x_addU64_x L) .u64 (x_addU64_f L) rfl rfl hw.cellSt<|hw.thaw 0).t<|by rw[eQ],aFD w₂ (stA X.Wg) _,(by intro e he;simp at he;rcases he with rfl|rfl<;>exact IA _ rfl _),?_⟩;replace hF:WgAt L.tWg X.Wg (w₂.setCell (stA X.Wg)<|.int .u64 Q) Q 0/\bu S (less E X.Wg) w0 (w₂.setCell (stA X.Wg)<|.int .u64 Q)/\E.ro X.Wg:=⟨hw.setSt _,hF.2.1.t<|aiX hS<|aFD w₂ (stA X.Wg) _,hF.2.2⟩;clear hw hQ hV eQ hl;walk_nrm;refine JY (m:=100) (Stop:=fun g w=>X.kE End (.iw::ts) ks 1 E S g w) (fun _ _ h=>h) ?_;u_op ka hF
  u_c aFa ka hF
  u_c aFu ka hF
  u_leave1 H.f_uAdd ka hF
  u_op ka hF
  u_c aFa ka hF
  u_c aFd ka hF
  u_c aFd ka hF
  u_reg ka hF
  u_op ka hF
  u_op ka hF
  u_op ka hF
  u_op ka hF
  u_skip ka hF
  u_skip ka hF
  u_op ka hF
  u_c aFa ka hF
  u_cnd false ka hF
  u_c aFr ka hF
  u_c aFd ka hF
  u_reg ka hF
  u_op ka hF
  u_op ka hF
  u_op ka hF
  u_op ka hF
  u_c aFa ka hF
  u_c aFd ka hF
  u_reg ka hF
  u_op ka hF
  u_op ka hF
  u_op ka hF
  u_op ka hF
  u_c aFa ka hF
  u_c aFd ka hF
  u_c aFd ka hF
  u_reg ka hF
  u_op ka hF
  u_op ka hF
  u_op ka hF
  u_op ka hF
  u_op ka hF
  u_op ka hF
  u_op ka hF
  u_op ka hF
  u_op ka hF
  u_op ka hF
  u_c aFa ka hF
  u_cnd false ka hF
  u_c aFr ka hF
  u_c aFd ka hF
  u_c aFd ka hF
  u_reg ka hF
  u_op ka hF
  u_op ka hF
  u_c aFa ka hF
  u_cnd false ka hF
  u_c aFr ka hF
  u_c aFd ka hF
  u_c aFd ka hF
  u_reg ka hF
  u_op ka hF
  u_op ka hF
  u_op ka hF
  u_skip ka hF
  u_skip ka hF
  u_op ka hF
  u_op ka hF
  u_skip ka hF
  u_skip ka hF
  u_skip ka hF
  u_skip ka hF
  u_op ka hF
  u_c aFa ka hF
  u_cnd false ka hF
  u_c aFr ka hF
  u_c aFd ka hF
  u_c aFd ka hF
  u_reg ka hF
  u_op ka hF
  u_op ka hF
  u_op ka hF
  u_skip ka hF
  u_skip ka hF
  u_op ka hF
  u_c aFa ka hF
  u_cnd true ka hF
  u_c aFu ka hF
  refine aFv fun w₄ h₄=>?_;replace hF:=ka hF h₄
  clear h₄
  refine⟨rfl,_,w₄,_,stepG_unwind_entry (v:=dU #[]) (evs:=#[Go.ConcR.mk .enable]) rfl H.f_enable (x_enable_n L) (x_enable_b L) (x_enable_x L) (x_enable_f L) (by simp[Extern.Race.none_]) (by simp[Go.ConcR.mk])<|by simp[Go.ConcR.mk],.refl X.Wg w₄,(by intro e he;simp at he;subst he;exact .inr<|.inl rfl),?_⟩;refine(JY (m:=1) (Stop:=fun g w=>g=G (b₀.at (a₀.put ((vX[i₀]?).bind (·.dst))<|dU #[])<|bW vX Ci::k₀) cs/\WgAt L.tWg X.Wg w Q 0/\bu S (less E X.Wg) w0 w) (Stop':=fun S' g w=>S'=S/\g=G (b₀.at (a₀.put ((vX[i₀]?).bind (·.dst))<|dU #[])<|bW vX Ci::k₀) cs/\WgAt L.tWg X.Wg w Q 0/\bu S (less E X.Wg) w0 w) (fun _ _ h=>⟨rfl,h⟩) ?_).t ?_
  ·u_leave0 H.f_add ka hF
   exact aFv fun w₅ h₅=>⟨rfl,(ka hF h₅).1,(ka hF h₅).2.1⟩
  ·rintro S' g w' ⟨rfl,rfl,h1,h2⟩;exact hT w' h2 h1
end
end fU
end
section
namespace fU
open Go Go.Conc Go.ConcN Go.RowKit Go.Conc.Lib Go.ConcR.Gen Go.ConcN.Gen
open Go.ConcR (KK wgBlock WgAt stA smA rd wr DC0 Payload)
variable{b:Bool}{R:ay->ay->Prop}{Stop:bM->ay->Prop}
theorem aiY{P:fJ}{D:ay->ay->Array Event->Prop}{Stop':bM->ay->Prop}(h:∀g w,Stop g w->Stop' g w):∀{m:Nat} {g:bM} {w:ay},Goes P b R D Stop m g w->Goes P b R D Stop' m g w
 |0,_,_,k=>fun w₁ r=>h _ _<|k w₁ r
 |m+1,g,w,k=>by
  rcases k with k|⟨hr,k⟩
  ·exact .inl fun w₁ r=>h _ _<|k w₁ r
  ·refine .inr ⟨hr,fun w₁ r=>?_⟩;obtain⟨g',w',es,e,hd,hn⟩:=aGx<|k w₁ r;rw[e];exact⟨hd,aiY h hn⟩
theorem meet{P:fJ}{D:ay->ay->Array Event->Prop}(tr:∀a b c,R a b->R b c->R a c)(refl:∀w,R w w)(hq:∀g w g',Stop g w->bK P b g w≠.go g' w #[]){aiZ:bM->ay->Prop}:
 ∀{m n:Nat} {g:bM} {w:ay},Goes P b R DC0 aiZ m g w->Goes P b R D Stop n g w->Goes P b R DC0 (fun g w=>aiZ g w/\∃n',Goes P b R D Stop n' g w) m g w
 |0,n,g,w,h,k=>fun w₁ r=>⟨h w₁ r,n,aFK tr k r⟩
 |m+1,n,g,w,h,k=>by
  rcases h with h|⟨hr,h⟩
  ·exact .inl fun w₁ r=>⟨h w₁ r,n,aFK tr k r⟩
  ·refine .inr ⟨hr,fun w₁ r=>?_⟩;obtain⟨g',w',es,e,⟨rfl,rfl⟩,hn⟩:=aGx<|h w₁ r;rw[e];refine⟨⟨rfl,rfl⟩,?_⟩;rcases aFy (aFK tr k r)with hs|⟨n',rfl,hs⟩
   ·exact absurd e<|hq _ _ _<|hs w'<|refl w'
   ·obtain⟨g2,w2,es2,e2,_,tq⟩:=hs w'<|refl w';rw[e]at e2;simp only[aFw]at e2;obtain⟨rfl,rfl,_⟩:=e2;exact meet tr refl hq hn tq
section
variable [Payload]{L:WgLink}{P:fJ}{Wg C n Low k:Nat}{val:aA}{c:bH}{cs:List bH}{qt:Nat}
variable(P L Wg C n Low k)in
def as8(g:bM)(_w:ay):Prop:=
 g.status=.running/\∃g2,(∀w₁,bK P false g w₁=.go g2 w₁ #[Go.ConcR.mk<|.releaseMerge<|stA Wg])/\∀w₁,Goes P false (RW L.tWg Wg C n Low<|k-1) DC0 (fun g5 _=>∀w₁,∃g6,bK P false g5 w₁=.go g6 w₁ #[Go.ConcR.mk .disable]) 6 g2 w₁
theorem rt{w w₁:ay}(h:True)(_r:RW L.tWg Wg C n Low (k-1) w w₁):True:=h
theorem as9(H:WgLib P L)(w:ay)(hK:WgLive L.tWg Wg w/\Has C (k-1) val w):
 Goes P false (RW L.tWg Wg C n Low<|k-1) DC0 (as8 L P Wg C n Low k) 23 (G ((baseD L.done).at ⟨#[az<|ae ⟨Wg,0,af⟩,ai,ai,ai],[]⟩ [.code<|body_done L])<|c::cs) w:=by
 lib_facts
 simp only[body_done,doneFn,ik];u_reg kn_rely hK
 u_op kn_rely hK
 u_in kn_rely hK
 refine goes_call rfl rfl (by k_ne) rfl H.f_add (nm_add L) rfl ⟨by u_nil,?_⟩;walk_nrmf addFn
 u_c aFd kn_rely hK
 u_cond true kn_rely hK
 u_c aFd kn_rely hK
 u_c aFd kn_rely hK
 u_reg kn_rely hK
 u_op kn_rely hK
 u_op kn_rely hK
 u_c aFa kn_rely hK
 u_cond true kn_rely hK
 u_reg kn_rely hK
 u_op kn_rely hK
 u_in kn_rely hK
 refine aGn rfl rfl (by k_ne) fun Kx A8=>?_;have Jj:=aFQ (P:=P) H.underlying_tWgP H.underlying_tUP H.room_tWg (WgLive.cell0 hK.1).choose_spec;have Bc:=fun es=>aFJ (P:=P) H.underlying_tWgP H.underlying_tUP H.room_tWg (WgLive.cell0 hK.1).choose_spec es;go_simp
 refine A8 _ _ ⟨?_,?_⟩
 ·u_none
  intro ex hex;have Jk:=aFh hex;simp[go_sem,Bc]at Jk
 clear A8 Kx Jj Bc;refine aFv fun w₁ h₁=>?_;refine⟨rfl,_,fun w₁=>aGf .releaseMerge (by simp) rfl rfl (by k_ne) rfl H.f_relMerge (x_relMerge_n L) (x_relMerge_b L) (x_relMerge_x L) (x_relMerge_f L)<|by simp[Act.eval,stA],fun w₁=>?_⟩;walk_nrm;have hT:True:=trivial;u_c aFa rt hT
 u_c aFd rt hT
 u_reg rt hT
 exact aFv fun w₂ h₂=>fun w₃=>⟨_,aGm .disable (by simp) rfl rfl (by k_ne) rfl H.f_disable (x_disable_n L) (x_disable_b L) (x_disable_x L)<|x_disable_f L⟩
theorem ata(H:WgLib P L)(BU:c.mode=.returning)(hT:QuitsD P qt 0 (G c cs))(w:ay)(hK:WgLive L.tWg Wg w/\Has C (k-1) val w):
 Goes P false (RW L.tWg Wg C n Low<|k-1) DC0 (AtR0 P L.tWg Wg C n Low k val) 23 (G ((baseD L.done).at ⟨#[az<|ae ⟨Wg,0,af⟩,ai,ai,ai],[]⟩ [.code<|body_done L])<|c::cs) w:=by
 have tr:∀a b c,RW L.tWg Wg C n Low (k-1) a b->RW L.tWg Wg C n Low (k-1) b c->RW L.tWg Wg C n Low (k-1) a c:=fun _ _ _ h1 h2=>h1.trans h2;have hq:∀g w g',AtR0 P L.tWg Wg C n Low k val g w->bK P false g w≠.go g' w #[]:=by
  rintro g w g' ⟨_,_,g2,e,_⟩ e';rw[e]at e';simp at e'
 have h1:=meet tr (fun w=>aFC w) hq (as9 (n:=n) (Low:=Low) (c:=c) (cs:=cs) H w hK)<|doneN (Own:=Dl) (Rd:=Dl) (n:=n) (Low:=Low) H BU hT w hK;refine aiY ?_ h1;rintro g w' ⟨⟨_,g2,dF,hgo⟩,n',hg⟩;rcases aFy hg with hs|⟨n2,rfl,hs⟩
 ·exact hs w'<|aFC w'
 ·exfalso;obtain⟨g2',w2,es2,e2,_,tq⟩:=hs w'<|aFC w';rw[dF w']at e2;simp only[aFw]at e2;obtain⟨rfl,rfl,_⟩:=e2;have h2:=meet tr (fun w=>aFC w) hq (hgo w') tq;have key:∀{m:Nat} {g:bM} {w:ay},Goes P false (RW L.tWg Wg C n Low<|k-1) DC0 (fun g w=>(∀w₁,∃g6,bK P false g w₁=.go g6 w₁ #[Go.ConcR.mk .disable])/\∃n',Goes P false (RW L.tWg Wg C n Low<|k-1) (DWs Wg Dl Dl C n k) (AtR0 P L.tWg Wg C n Low k val) n' g w) m g w->False:=by
   intro m;induction m with
   |zero=>
    intro g w h;obtain⟨hd,n3,ZL⟩:=h w<|aFC w;obtain⟨g6,e6⟩:=hd w;rcases aFy ZL with zJ|⟨n4,rfl,zJ⟩
    ·obtain⟨_,_,g7,e7,_⟩:=zJ w<|aFC w;rw[e6]at e7;simp[Go.ConcR.mk]at e7
    ·obtain⟨g7,w7,es7,e7,⟨_,eX⟩,_⟩:=zJ w<|aFC w;rw[e6]at e7;simp only[aFw]at e7;obtain⟨_,_,rfl⟩:=e7;exact(eX (Go.ConcR.mk .disable)<|by simp).2.1 rfl
   |succ m ih=>
    intro g w h;rcases aFy h with zJ|⟨m',e,zJ⟩
    ·exact ih (g:=g) (w:=w) (by
      cases m with
      |zero=>exact zJ
      |succ m=>exact .inl zJ)
    ·obtain rfl:m=m':=by omega
     obtain⟨g',w',es,_,_,hn⟩:=zJ w<|aFC w;exact ih hn
  exact key h2
end
end fU
end
section
namespace fU
open Go Go.Conc Twin
open Go.ConcN (upd upd_same upd_ne WgLive PayAt Has RW WSit WD CTag Vc cnt sumTo)
open Go.ConcR (stA smA rd wr KK WgAt DC0 Payload Bk)
section
variable [Payload]{K:Type}{X:bV K}{ty:dJ}{n:Nat}{U:Type}{dO:U->bM}{Anch:U->bM->ay->Prop}{Mid:U->aO->ay->Prop}{dH:K->List aA->aA->aO->ay->Prop}{Good:List K->Prop}
 {gs:Array bM}{w:ay}{t:Trace}{E:dL}{S0:aO}{q:Nat->Nat}{sl:Option (Nat×Nat)}
theorem bV.atX(F:X.Fit)(TP:∀k l v S w,dH k l v S w->∀B:au.dE,(∀b,B.dB b->¬S b)->au.aI B v)(hA:∀u g w,Anch u g w->g.status=.running)(hE:∀u,(dO u).status=.running)(qP:∀k l v S w w1,dH k l v S w->bu S (X.side k) w w1->dH k l v S w1)(hn:n<2147483648)
 (Lc:∀u g w,Anch u g w->WgLive ty X.Wg w->∃m,Goes X.P true (RL ty X.Wg) DC0 (X.AtW1 ty (dO u)<|Anch u) m g w)(h:X.Start n E S0 gs w t q){a:bM}(ha:gs[0]? =ae a){ts:List rD}(hR:aC X.P true E (X.kE (fun ks E S g w=>∃u,X.AtClose ty n (Anch u) (Mid u) dH Good ks E S g w) ts [] 0 E) S0 a w):
 ∃u M gs1 w1 lu t1 q1 ks S1 Sw G1,runNT X.P M (crowd gs w sl) t=(.next<|crowd gs1 w1 lu,t1)/\gs1[0]? =ae (dO u)/\Leavers X.P t1 gs1 q1/\Past (lK fun b=>X.iQ b\/b=X.Wg) w1.heap.size t1/\Mid u S1 w1/\ks.length=n/\Good ks/\(∃E1,X.Mem ks E1 S1 G1 Sw w1)/\WgAt ty X.Wg w1 0 0/\
  PayAt X.C n w1/\au.jK X.dB w1/\∀(i:Nat) (k:K),ks[i]? =ae k->∃v,dH k (msgs ts i) v (Sw i) w1/\Has X.C i v w1:=by
 obtain⟨D,τ,hI⟩:=h.inv ha hR
 obtain⟨M,gs1,w1,lu,t1,dd,mV,zi,E1,S1,G1,wG,q1,Aj,D1,iZ,a1,r1,r2,r3,r4,r5,⟨u,r6⟩,r7⟩:=bV.asG (sl:=sl) F ts.length gs.size D τ rfl rfl hI
 obtain⟨nV,w2,ops,E2,D2,Eu,s1,s2,s3⟩:=r3.close (dO:=dO u) (sl:=mV) F (let ⟨cs,h1,h2⟩:=h.pay;⟨cs,h1,h2⟩) r4 r6
 obtain⟨M',gs3,w3,VQ,t3,dW3,E3,S3,G3,Sw3,q3,st3,D3,τ3,p1,p2,p3,p4⟩:=bV.asX (sl:=mV) F TP (hA u) (hE u) r6.fin qP hn (Lc u) nV.size _ D2 Eu (dI _) rfl s3
 obtain⟨⟨q',d1⟩,d2,d3⟩:=p2.done h.JO
 obtain⟨wa,wb,dh,kR⟩:=p2.wg
 obtain⟨_,rfl,rfl⟩:=kR.fin_inv trivial
 refine⟨u,M+(M'+1),gs3,w3,VQ,t3,q',zi,S3,Sw3,G3,au.XM r1 ?_,p3,d1,d2,p4,p2.len,r6.BB,⟨E3,p2.base.mem⟩,dh,p2.pay,p2.base.qw,fun i k hk=>?_⟩
 ·simp only[runNT,r2,s1]
  exact p1
 ·have:=d3 i k hk
  rw[r7 i]at this
  simpa using this
end
section
open Go.RowKit Go.Conc.Lib Go.ConcR.Gen Go.ConcN.Gen
variable{L:WgLink}{K:Type}{X:bV K}{b₀:bH}{a₀:Act}{vX:Array Oper}{i₀:Nat}{Ci:List Nat}{k₀:List Item}{cs:List bH}
theorem atZ(H:WgLib X.P L){E:dL}{S:aO}{w:ay}{Mid:aO->ay->Prop}(hM:∀w1,bu S E w w1->Mid S w1):
 aC X.P true E (fun S g w=>X.AtKd L.tWg (TU L X.Wg (b₀.at a₀<|bW vX (i₀::Ci)::k₀) cs) g w/\Mid S w) S (G ((base L.wait).at ⟨#[az<|ae ⟨X.Wg,0,af⟩]++gz 83 ai,[]⟩ [.code<|body_wait L])<|b₀.at a₀ (bW vX (i₀::Ci)::k₀)::cs) w:=by
 lib_facts
 simp only[body_wait,waitFn,ik];refine aC.ctl rfl (fun _=>aFd) ?_;refine aC.ctl rfl (fun _=>aFp (t:=true)<|by rfl) ?_;refine aC.ctl rfl (fun _=>stepG_region) ?_;refine aC.stop fun w1 hk=>⟨⟨rfl,fun hF=>⟨_,aGm .disable (by simp) rfl rfl (by k_ne) rfl H.f_disable (x_disable_n L) (x_disable_b L) (x_disable_x L)<|x_disable_f L,3,?_⟩⟩,hM w1 hk⟩;walk_nrm;u_c aFa aY hF
 u_c aFs aY hF
 u_c aFX aY hF
 exact aFv fun w₂ h₂=>⟨_,rfl,by simp,by simp⟩
end
end fU
end
