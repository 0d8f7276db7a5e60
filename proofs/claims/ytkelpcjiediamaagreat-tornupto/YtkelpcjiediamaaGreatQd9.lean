import Derived.Test.YtkelpcjiediamaaGreatQd7
import Derived.Conc.WgGenN3
set_option maxRecDepth 100000
set_option maxHeartbeats 0
set_option linter.all false
namespace Go.Proofs.YtkelpcjiediamaaGreat
def aDX:=@Go.Conc.stepG_region_end
def aD0:=@Go.Conc.stepG_seq
def aD4:=@Go.Conc.mem_listed
def aEc:=@Go.Conc.stepG_cond
def aEe:=@Go.Conc.stepG_skip
def aEg:=@Go.Conc.stepG_block
def aEh:=@Go.Conc.stepG_ret'
def aEi:=@Go.Conc.Goes.stop
def aEw:=@Go.Conc.events_convert_to_unsafe
def aEy:=@Go.Conc.stepG_inBlock
def aED:=@Go.run_convert_to_unsafe
def aEI:=@Go.Conc.stepG_inLoop
def aEO:=@Go.Conc.stepG_loop
def aE2:=@Go.Conc.stepG_markAt
def aE9:=@Go.Conc.stepG_mark0
def aFa:=@Go.Conc.goes_oper_k
def aFc:=@Go.Conc.stepG_load_atomic
def aFk:=@Go.Conc.goes_elim
open Go renaming Frame→bu,Goroutine→bF,Program→eF,TypeId→dw,Value→az,World→aj,stepG→bD,undef→ai
open Go.IntKind renaming i64→ah
open Go.Item renaming inRegion→bQ
open Go.Value renaming int→ag,pointer→ay,tuple→dK
open Option renaming none→af,some→ae
open Go.Proofs.Tryz
section
namespace fJ
open Go Go.Conc
abbrev link:Go.Conc.Lib.WgLink:={add:=111,done:=113,wait:=115,relMerge:=152,disable:=153,enable:=154,inBubble:=155,associate:=156,fatal:=157,uOr:=158,uAdd:=159,raceRead:=160,uLoad:=161,uStore:=162,disassociate:=163,semrelease:=164,acquire:=165,isAssociated:=166,uCas:=167,raceWrite:=168,semacquire:=169,orU64:=189,addU64:=190,loadU64:=191,storeU64:=192,casU64:=193,tWgP:=207,tUP:=209,tAssoc:=210,tWg:=177,tAU:=174,tU64:=172,tUint:=214,tU32:=175,tPU32:=215,tPAU:=243,tPU64:=245,tNoCopy:=169,tANoCopy:=170,tAlign64:=171}
def SI:Go.Conc.Lib.WgLib prog link:=
 ⟨func111,func113,func115,func152,func153,func154,func155,func156,func157,func158,func159,func160,func161,func162,func163,func164,func165,func166,func167,func168,func169,func189,func190,func191,func192,func193,underlying207,runUnderlying207,sizeOf207,isAgg207,zeroValue207,underlying209,runUnderlying209,sizeOf209,isAgg209,zeroValue209,underlying210,runUnderlying210,sizeOf210,isAgg210,zeroValue210,underlying177,runUnderlying177,sizeOf177,isAgg177,zeroValue177,underlying174,runUnderlying174,sizeOf174,isAgg174,zeroValue174,underlying172,runUnderlying172,sizeOf172,isAgg172,zeroValue172,underlying214,runUnderlying214,sizeOf214,isAgg214,zeroValue214,underlying175,runUnderlying175,sizeOf175,isAgg175,zeroValue175,underlying215,runUnderlying215,sizeOf215,isAgg215,zeroValue215,underlying243,runUnderlying243,sizeOf243,isAgg243,zeroValue243,underlying245,runUnderlying245,sizeOf245,isAgg245,zeroValue245,underlying0,runUnderlying0,sizeOf0,isAgg0,zeroValue0,underlying3,runUnderlying3,sizeOf3,isAgg3,zeroValue3,underlying4,runUnderlying4,sizeOf4,isAgg4,zeroValue4,underlying9,runUnderlying9,sizeOf9,isAgg9,zeroValue9,underlying20,runUnderlying20,sizeOf20,isAgg20,zeroValue20,underlying21,runUnderlying21,sizeOf21,isAgg21,zeroValue21,(by kernel_rfl),(by kernel_rfl)⟩
instance:Go.ConcR.Payload:=⟨107⟩
end fJ
end
section
namespace fJ
open Go Go.Conc Go.ConcN Go.RowKit Go.Conc.Lib Go.ConcR.Gen Go.ConcN.Gen
open Go.ConcR (KK wgBlock WgAt stA smA rd wr DC0)
def aV{ty:dw}{Wg:Nat}{w w₁:aj}(h:WgLive ty Wg w)(r:RL ty Wg w w₁):WgLive ty Wg w₁:=r h
def SK(L:WgLink)(Wg:Nat)(c:bu)(cs:List bu)(g:bF)(_w:aj):Prop:=
 ∃T:Array az,g=G ((base L.wait).at ⟨T,[]⟩ [.code<|L7 L,.inLoop<|L7 L,.inBlock 0]) (c::cs)/\T.size=84/\T[0]? =ae (ay<|ae ⟨Wg,0,af⟩)
section
variable{L:WgLink}{K:Type}{X:bK K}{b₀:bu}{a₀:Act}{uY:Array Oper}{i₀:Nat}{BI:List Nat}{k₀:List Item}{cs:List bu}
def asr(H:WgLib X.P L)(g:bF)(w:aj)(h:SK L X.Wg (b₀.at a₀<|bQ uY (i₀::BI)::k₀) cs g w)(hF:WgLive L.tWg X.Wg w):
 ∃m,Goes X.P true (RL L.tWg X.Wg) DC0 (X.AtW1 L.tWg (G (b₀.at (a₀.put ((uY[i₀]?).bind (·.dst))<|dK #[])<|bQ uY BI::k₀) cs)<|SK L X.Wg (b₀.at a₀<|bQ uY (i₀::BI)::k₀) cs) m g w:=by
 lib_facts
 obtain⟨T,rfl,azQ,t0⟩:=h;obtain⟨v0,v1,v2,v3,v4,v5,v6,v7,v8,v9,v10,v11,v12,v13,v14,v15,v16,v17,v18,v19,v20,v21,v22,v23,v24,v25,v26,v27,v28,v29,v30,v31,v32,v33,v34,v35,v36,v37,v38,v39,v40,v41,v42,v43,v44,v45,v46,v47,v48,v49,v50,v51,v52,v53,v54,v55,v56,v57,v58,v59,v60,v61,v62,v63,v64,v65,v66,v67,v68,v69,v70,v71,v72,v73,v74,v75,v76,v77,v78,v79,v80,v81,v82,v83,rfl⟩:=array84 T azQ;simp only[afd,xE,gu]at t0;subst t0;refine⟨30,?_⟩;simp only[L7,body_wait,waitFn,ik];u_c aEg aV hF
 u_c aD0 aV hF
 u_reg aV hF
 u_op aV hF
 u_op aV hF
 u_op aV hF
 u_call H.f_uLoad (nm_uLoad L) uLoadFn aV hF
 u_c aD0 aV hF
 u_reg aV hF
 u_op aV hF
 u_c aDX aV hF
 u_c aD0 aV hF
 u_reg aV hF
 u_op aV hF
 u_op aV hF
 u_op aV hF
 refine aEi fun w₁ h₁=>?_;replace hF:=aV hF h₁
 clear h₁
 refine⟨rfl,fun v hv hw=>?_⟩;rcases Jc v with rfl|hvp
 ·
  replace hw:WgAt L.tWg X.Wg w₁ 0 0:=by simpa using hw
  refine⟨_,aFc (v:=0) rfl rfl (by k_ne) rfl H.f_loadU64 (x_loadU64_n L) (x_loadU64_b L) (x_loadU64_x L) .u64 (x_loadU64_f L) rfl hw.cellSt,fun _=>⟨60,?_⟩,fun h=>absurd rfl h⟩;clear hw;walk_nrm;u_op aV hF
  u_c aDX aV hF
  u_c aEh aV hF
  u_leave1 H.f_uLoad aV hF
  u_op aV hF
  u_c aDX aV hF
  u_c aD0 aV hF
  u_reg aV hF
  u_op aV hF
  u_op aV hF
  u_op aV hF
  u_op aV hF
  u_c aDX aV hF
  u_c aD0 aV hF
  u_reg aV hF
  u_op aV hF
  u_op aV hF
  u_op aV hF
  u_op aV hF
  u_c aDX aV hF
  u_c aD0 aV hF
  u_c aD0 aV hF
  u_reg aV hF
  u_op aV hF
  u_op aV hF
  u_c aDX aV hF
  u_cond true aV hF
  u_c aD0 aV hF
  u_cond true aV hF
  u_c aD0 aV hF
  u_reg aV hF
  refine aEi fun w₅ h₅=>?_;replace hF:=aV hF h₅
  clear h₅
  refine⟨rfl,_,aE9 .enable (by simp) rfl rfl (by k_ne) rfl H.f_enable (x_enable_n L) (x_enable_b L) (x_enable_x L)<|x_enable_f L,12,?_⟩;walk_nrm;u_c aDX aV hF
  u_reg aV hF
  u_op aV hF
  u_in aV hF
  refine aFa rfl rfl (by k_ne) fun Kx Aq=>?_;have EJ:=aED (P:=X.P) H.underlying_tWgP H.underlying_tUP H.room_tWg (WgLive.cell0 hF).choose_spec;have Ar:=fun es=>aEw (P:=X.P) H.underlying_tWgP H.underlying_tUP H.room_tWg (WgLive.cell0 hF).choose_spec es;go_simp
  refine Aq _ _ ⟨?_,?_⟩
  ·u_none
   intro ex hex;have IY:=aD4 hex;simp[go_sem,Ar]at IY
  clear Aq Kx EJ Ar;refine aEi fun w₆ h₆=>?_;replace hF:=aV hF h₆
  clear h₆
  refine⟨rfl,_,aE2 .acquire (by simp) rfl rfl (by k_ne) rfl H.f_acquire (x_acquire_n L) (x_acquire_b L) (x_acquire_x L) (x_acquire_f L)<|by simp[Act.eval,stA],40,?_⟩;walk_nrm;u_c aDX aV hF
  u_c aD0 aV hF
  u_c aD0 aV hF
  u_reg aV hF
  u_op aV hF
  u_op aV hF
  u_op aV hF
  u_op aV hF
  u_op aV hF
  u_op aV hF
  u_op aV hF
  u_op aV hF
  u_skip aV hF
  u_skip aV hF
  u_op aV hF
  u_c aDX aV hF
  u_cond false aV hF
  u_c aEe aV hF
  u_c aEh aV hF
  u_leave0 H.f_wait aV hF
  exact aEi fun _ _=>rfl
 ·
  obtain⟨S,hS⟩:∃S:Int,(v:Int)*KK=S:=⟨_,rfl⟩;have a1:S/4294967296=(v:Int):=by rw[<-hS];simp only[KK];omega
  have b1:bits .and .u64 S 2147483648=0:=by rw[<-hS];have:=st_flag v 0 (by omega) (by omega);simpa[KK]using this
  have b2:bits .and .u64 S 2147483647=0:=by rw[<-hS];have:=st_waiters v 0 (by omega) (by omega);simpa[KK]using this
  have c1:IntKind.i32.wrap (v:Int)=(v:Int):=by rw[IntKind.wrap_i32];omega
  have w1:IntKind.u64.wrap (S+1)=S+1:=by rw[IntKind.wrap_u64,<-hS];simp only[KK];omega
  have q3:decide ((v:Int)<0)=false:=qW (by omega);have q4:decide (0<(v:Int))=true:=kF (by omega);have q5:((v:Int)==0)=false:=by simp<;>omega
  have q6:decide ((v:Int)=0)=false:=qW (by omega);rw[hS]at hw;refine⟨_,aFc (v:=S) rfl rfl (by k_ne) rfl H.f_loadU64 (x_loadU64_n L) (x_loadU64_b L) (x_loadU64_x L) .u64 (x_loadU64_f L) rfl hw.cellSt,fun h0=>absurd h0<|by omega,fun _=>⟨80,?_⟩⟩;clear hw;walk_nrm;u_op aV hF
  u_c aDX aV hF
  u_c aEh aV hF
  u_leave1 H.f_uLoad aV hF
  u_op aV hF
  u_c aDX aV hF
  u_c aD0 aV hF
  u_reg aV hF
  u_op aV hF
  u_op aV hF
  u_op aV hF
  u_op aV hF
  u_c aDX aV hF
  u_c aD0 aV hF
  u_reg aV hF
  u_op aV hF
  u_op aV hF
  u_op aV hF
  u_op aV hF
  u_c aDX aV hF
  u_c aD0 aV hF
  u_c aD0 aV hF
  u_reg aV hF
  u_op aV hF
  u_op aV hF
  u_c aDX aV hF
  u_cnd false aV hF
  u_c aEe aV hF
  u_c aD0 aV hF
  u_reg aV hF
  u_op aV hF
  u_op aV hF
  u_op aV hF
  u_op aV hF
  u_op aV hF
  u_op aV hF
  u_call H.f_uCas (nm_uCas L) uCasFn aV hF
  u_c aD0 aV hF
  u_reg aV hF
  u_op aV hF
  u_c aDX aV hF
  u_c aD0 aV hF
  u_reg aV hF
  u_op aV hF
  u_op aV hF
  u_op aV hF
  u_op aV hF
  u_op aV hF
  refine aEi fun w₂ h₂=>?_;replace hF:=aV hF h₂
  clear h₂
  refine⟨rfl,fun v' ZK hw=>⟨fun e=>?_,fun e=>?_⟩⟩
  ·subst e;rw[hS]at hw⊢
   refine⟨_,(stepG_cas_hit (v:=S) (n:=S+1) rfl rfl (by k_ne) rfl H.f_casU64 (x_casU64_n L) (x_casU64_b L) (x_casU64_x L) .u64 (x_casU64_f L) rfl rfl rfl hw.cellSt<|hw.thaw 0).trans<|by rfl,70,?_⟩;replace hF:WgLive L.tWg X.Wg (w₂.setCell (stA X.Wg)<|.int .u64<|S+1):=⟨_,_,hw.setSt _⟩;clear hw;walk_nrm;u_op aV hF
   u_c aDX aV hF
   u_c aEh aV hF
   u_leave1 H.f_uCas aV hF
   u_c aDX aV hF
   u_cond true aV hF
   u_c aD0 aV hF
   u_c aD0 aV hF
   u_reg aV hF
   u_op aV hF
   u_op aV hF
   u_op aV hF
   u_op aV hF
   u_c aDX aV hF
   u_cond true aV hF
   u_reg aV hF
   u_op aV hF
   u_op aV hF
   u_op aV hF
   u_in aV hF
   refine aFa rfl rfl (by k_ne) fun Kx Aq=>?_;have EJ:=aED (P:=X.P) H.underlying_tPU32 H.underlying_tUP H.room_tU32 (WgLive.cell1 hF).choose_spec;have Ar:=fun es=>aEw (P:=X.P) H.underlying_tPU32 H.underlying_tUP H.room_tU32 (WgLive.cell1 hF).choose_spec es;go_simp
   refine Aq _ _ ⟨?_,?_⟩
   ·u_none
    intro ex hex;have IY:=aD4 hex;simp[go_sem,Ar]at IY
   clear Aq Kx EJ Ar;refine aEi fun aBA ain=>?_;replace hF:=aV hF ain;clear ain;refine⟨rfl,_,aE2 .write (by simp) rfl rfl (by k_ne) rfl H.f_raceWrite (x_raceWrite_n L) (x_raceWrite_b L) (x_raceWrite_x L) (x_raceWrite_f L) (ad:=smA X.Wg)<|by simp[Act.eval,smA],40,?_⟩;walk_nrm;u_c aDX aV hF
   u_c aD0 aV hF
   u_reg aV hF
   u_op aV hF
   u_c aDX aV hF
   u_c aD0 aV hF
   u_c aD0 aV hF
   u_reg aV hF
   u_op aV hF
   u_op aV hF
   u_op aV hF
   u_op aV hF
   u_skip aV hF
   u_op aV hF
   u_c aDX aV hF
   u_cond false aV hF
   u_c aEe aV hF
   u_c aD0 aV hF
   u_reg aV hF
   u_op aV hF
   u_op aV hF
   u_op aV hF
   u_op aV hF
   refine aEi fun w₃ h₃=>?_;replace hF:=aV hF h₃
   clear h₃
   refine⟨rfl,rfl,fun⟨st,hw⟩=>stepG_semacquire_wait rfl rfl rfl H.f_semacquire (x_semacquire_n L) (x_semacquire_b L) (x_semacquire_x L) (x_semacquire_f L) (by simp[Act.eval,smA]) hw.cellSm,fun hf=>?_⟩;refine⟨_,(stepG_semacquire (n:=1) rfl rfl (by k_ne) rfl H.f_semacquire (x_semacquire_n L) (x_semacquire_b L) (x_semacquire_x L) (x_semacquire_f L) (by simp[Act.eval,smA]) hf.cellSm (by k_ne)<|hf.thaw 1).trans<|by rfl,30,?_⟩;replace hF:WgLive L.tWg X.Wg (w₃.setCell (smA X.Wg)<|.int .u32 0):=⟨_,_,hf.setSm 0⟩;clear hf;walk_nrm;u_c aDX aV hF
   u_c aD0 aV hF
   u_reg aV hF
   u_op aV hF
   u_op aV hF
   u_op aV hF
   u_call H.f_uLoad (nm_uLoad L) uLoadFn aV hF
   u_c aD0 aV hF
   u_reg aV hF
   u_op aV hF
   u_c aDX aV hF
   u_c aD0 aV hF
   u_reg aV hF
   u_op aV hF
   u_op aV hF
   u_op aV hF
   refine aEi fun w₄ h₄=>?_;replace hF:=aV hF h₄
   clear h₄
   refine⟨rfl,fun hw=>⟨_,aFc (v:=0) rfl rfl (by k_ne) rfl H.f_loadU64 (x_loadU64_n L) (x_loadU64_b L) (x_loadU64_x L) .u64 (x_loadU64_f L) rfl hw.cellSt,30,?_⟩⟩;clear hw;walk_nrm;u_op aV hF
   u_c aDX aV hF
   u_c aEh aV hF
   u_leave1 H.f_uLoad aV hF
   u_op aV hF
   u_op aV hF
   u_c aDX aV hF
   u_c aD0 aV hF
   u_cond true aV hF
   u_c aD0 aV hF
   u_reg aV hF
   refine aEi fun w₅ h₅=>?_;replace hF:=aV hF h₅
   clear h₅
   refine⟨rfl,_,aE9 .enable (by simp) rfl rfl (by k_ne) rfl H.f_enable (x_enable_n L) (x_enable_b L) (x_enable_x L)<|x_enable_f L,12,?_⟩;walk_nrm;u_c aDX aV hF
   u_reg aV hF
   u_op aV hF
   u_in aV hF
   refine aFa rfl rfl (by k_ne) fun Kx Aq=>?_;have EJ:=aED (P:=X.P) H.underlying_tWgP H.underlying_tUP H.room_tWg (WgLive.cell0 hF).choose_spec;have Ar:=fun es=>aEw (P:=X.P) H.underlying_tWgP H.underlying_tUP H.room_tWg (WgLive.cell0 hF).choose_spec es;go_simp
   refine Aq _ _ ⟨?_,?_⟩
   ·u_none
    intro ex hex;have IY:=aD4 hex;simp[go_sem,Ar]at IY
   clear Aq Kx EJ Ar;refine aEi fun w₆ h₆=>?_;replace hF:=aV hF h₆
   clear h₆
   refine⟨rfl,_,aE2 .acquire (by simp) rfl rfl (by k_ne) rfl H.f_acquire (x_acquire_n L) (x_acquire_b L) (x_acquire_x L) (x_acquire_f L)<|by simp[Act.eval,stA],40,?_⟩;walk_nrm;u_c aDX aV hF
   u_c aD0 aV hF
   u_c aD0 aV hF
   u_reg aV hF
   u_op aV hF
   u_c aDX aV hF
   u_cond false aV hF
   u_c aEe aV hF
   u_c aEh aV hF
   u_leave0 H.f_wait aV hF
   exact aEi fun _ _=>rfl
  ·
   refine⟨_,stepG_cas_miss (v:=(v':Int)*KK) (old:=S) (n:=S+1) rfl rfl (by k_ne) rfl H.f_casU64 (x_casU64_n L) (x_casU64_b L) (x_casU64_x L) .u64 (x_casU64_f L) rfl rfl rfl hw.cellSt (hw.thaw 0) (by rw[<-hS];simp only[KK];omega),20,?_⟩;clear hw;walk_nrm;u_op aV hF
   u_c aDX aV hF
   u_c aEh aV hF
   u_leave1 H.f_uCas aV hF
   u_c aDX aV hF
   u_cond false aV hF
   u_c aEe aV hF
   u_c aEy aV hF
   u_c aEI aV hF
   exact aEi fun w₃ h₃=>⟨_,rfl,by simp,by simp⟩
end
end fJ
end
section
namespace fJ
open Go Go.Conc Go.ConcN Go.RowKit Go.Conc.Lib Go.ConcR.Gen Go.ConcN.Gen Twin
open Go.ConcR (KK wgBlock WgAt stA smA rd wr DC0)
def less(E:dD)(b:Nat):dD:=⟨fun x=>E.ro x/\x≠b,fun x=>E.rd x/\x≠b,fun _ h=>⟨E.le _ h.1,h.2⟩⟩
variable{w w1:aj}{b:Nat}
def bg.less{S:aN}{E:dD}(h:bg S E w w1)(b:Nat):bg S (less E b) w w1:=⟨h.tape,h.os,h.output,h.size,h.own,fun x hx=>h.ro x hx.1⟩
def aio{S:aN}{E:dD}(hS:¬S b)(h:Aside b w w1):bg S (less E b) w w1:=
 ⟨h.tape,h.os,h.output,BM h.size.symm,fun x hx=>h.block x fun e=>hS<|e▸hx,fun _ hx=>h.block _ hx.2⟩
def JD{P:eF}{main:Bool}{S:aN}{E:dD}{Stop:bF->aj->Prop}{Stop':aN->bF->aj->Prop}(hs:∀g w,Stop g w->Stop' S g w):∀{m:Nat} {g:bF} {w:aj},Goes P main (bg S E) DC0 Stop m g w->aA P main E Stop' S g w
 |0,_,_,h=>.stop fun w1 k=>hs _ _<|h w1 k
 |m+1,g,w,h=>by
  rcases h with h|⟨hr,h⟩
  ·exact .stop fun w1 k=>hs _ _<|h w1 k
  ·refine .step1 hr fun w1 k=>?_;obtain⟨g',w',es,e,⟨rfl,rfl⟩,hn⟩:=aFk<|h w1 k;exact⟨g',w',#[],e,je.refl,by rw[sK<|dm _];exact JD hs hn⟩
def ka{ty:dw}{S:aN}{E:dD}{st:Int}{w0 w w₁:aj}(h:WgAt ty b w st 0/\bg S (less E b) w0 w/\E.ro b)(r:bg S E w w₁):WgAt ty b w₁ st 0/\bg S (less E b) w0 w₁/\E.ro b:=
 ⟨h.1.of_block<|r.ro b h.2.2,h.2.1.trans<|bg.less r b,h.2.2⟩
def libs(v:Nat):List qP:=if v=0 then[.gK,.gK,.gK,.gK]else[.gK,.gK,.gK]
section
variable{L:WgLink}{K:Type}{X:bK K}{End:List K->dD->aN->bF->aj->Prop}{ts:List qP}{ks:List K}{E:dD}{S:aN}{b₀:bu}{a₀:Act}{uY:Array Oper}{i₀:Nat}{BI:List Nat}{k₀:List Item}{cs:List bu}
def ass(H:WgLib X.P L)(hS:¬S X.Wg){w0:aj}(v:Nat)(hv:v<2147483647)
 (hT:∀w',bg S (less E X.Wg) w0 w'->WgAt L.tWg X.Wg w' (((v:Int)+1)*KK) 0->aA X.P true E (X.jY End ts ks 0 E) S (G (b₀.at (a₀.put ((uY[i₀]?).bind (·.dst))<|dK #[])<|bQ uY BI::k₀) cs) w')
 (w:aj)(hF:WgAt L.tWg X.Wg w ((v:Int)*KK) 0/\bg S (less E X.Wg) w0 w/\E.ro X.Wg):
 aA X.P true E (X.jY End (libs v++ts) ks 0 E) S (G ((base L.add).at ⟨#[ay<|ae ⟨X.Wg,0,af⟩,ag ah 1,ai,ai,ai,ai,ai,ai,ai,ai,ai,ai,ai,ai,ai,ai,ai,ai,ai,ai,ai,ai,ai,ai,ai,ai,ai,ai,ai,ai,ai,ai,ai,ai,ai,ai,ai,ai,ai,ai,ai,ai,ai,ai,ai,ai,ai,ai,ai,ai,ai,ai,ai,ai,ai,ai,ai,ai,ai,ai,ai,ai,ai,ai,ai,ai,ai,ai,ai,ai,ai,ai,ai,ai,ai,ai,ai,ai,ai,ai,ai,ai,ai,ai,ai,ai,ai,ai,ai,ai,ai,ai,ai,ai,ai,ai,ai,ai,ai,ai,ai,ai,ai,ai,ai,ai,ai,ai,ai,ai,ai,ai,ai,ai,ai,ai,ai],[]⟩ [.code<|body_add L])<|b₀.at a₀ (bQ uY (i₀::BI)::k₀)::cs) w:=by
 lib_facts
 have ast:∃l,libs v=.gK:: .gK::l:=by unfold libs;split<;>exact⟨_,rfl⟩
 obtain⟨l,hl⟩:=ast;rw[hl];simp only[body_add,addFn,ik];refine JD (m:=14) (Stop:=fun g w=>X.jY End (.gK:: .gK::(l++ts)) ks 0 E S g w) (fun _ _ h=>h) ?_;u_c aD0 ka hF
 u_cond true ka hF
 u_c aD0 ka hF
 u_c aD0 ka hF
 u_reg ka hF
 u_op ka hF
 u_op ka hF
 u_c aDX ka hF
 u_cond false ka hF
 u_c aEe ka hF
 u_c aD0 ka hF
 u_reg ka hF
 refine aEi fun w₁ h₁=>?_;replace hF:=ka hF h₁
 clear h₁
 refine⟨rfl,_,w₁,_,aE9 .disable (by simp) rfl rfl (by k_ne) rfl H.f_disable (x_disable_n L) (x_disable_b L) (x_disable_x L)<|x_disable_f L,.refl X.Wg w₁,(by intro e he;simp at he;subst he;exact .inl rfl),?_⟩;walk_nrm;refine JD (m:=45) (Stop:=fun g w=>X.jY End (.gK::(l++ts)) ks 1 E S g w) (fun _ _ h=>h) ?_;u_c aDX ka hF
 u_reg ka hF
 u_defer ka hF
 u_c aDX ka hF
 u_c aD0 ka hF
 u_reg ka hF
 u_op ka hF
 u_c aDX ka hF
 u_c aD0 ka hF
 u_c aD0 ka hF
 u_reg ka hF
 u_bub ka hF
 u_c aDX ka hF
 u_cond false ka hF
 u_c aEe ka hF
 u_c aD0 ka hF
 u_reg ka hF
 u_op ka hF
 u_op ka hF
 u_op ka hF
 u_op ka hF
 u_op ka hF
 u_op ka hF
 u_call H.f_uAdd (nm_uAdd L) uAddFn ka hF
 u_c aD0 ka hF
 u_reg ka hF
 u_op ka hF
 u_c aDX ka hF
 u_c aD0 ka hF
 u_reg ka hF
 u_op ka hF
 u_op ka hF
 u_op ka hF
 u_op ka hF
 refine aEi fun w₂ h₂=>?_;replace hF:=ka hF h₂
 clear h₂
 have hw:=hF.1;rcases Jc v with rfl|hvp
 ·
  obtain rfl:l=[.gK,.gK]:=by simpa[libs]using hl.symm
  replace hw:WgAt L.tWg X.Wg w₂ 0 0:=by simpa using hw
  have e0:IntKind.u64.wrap (0+4294967296)=KK:=by decide
  refine⟨rfl,_,_,_,(stepG_add_atomic rfl rfl (by k_ne) rfl H.f_addU64 (x_addU64_n L) (x_addU64_b L) (x_addU64_x L) .u64 (x_addU64_f L) rfl rfl hw.cellSt<|hw.thaw 0).trans<|by rw[e0],aEp w₂ (stA X.Wg) _,(by intro e he;simp at he;rcases he with rfl|rfl<;>exact Ia _ rfl _),?_⟩;replace hF:WgAt L.tWg X.Wg (w₂.setCell (stA X.Wg)<|.int .u64 KK) KK 0/\bg S (less E X.Wg) w0 (w₂.setCell (stA X.Wg)<|.int .u64 KK)/\E.ro X.Wg:=⟨hw.setSt _,hF.2.1.trans<|aio hS<|aEp w₂ (stA X.Wg) _,hF.2.2⟩;clear hw;simp only[KK]at hF⊢
  walk_nrm;refine JD (m:=70) (Stop:=fun g w=>X.jY End (.gK:: .gK::ts) ks 1 E S g w) (fun _ _ h=>h) ?_;u_op ka hF
  u_c aDX ka hF
  u_c aEh ka hF
  u_leave1 H.f_uAdd ka hF
  u_op ka hF
  u_c aDX ka hF
  u_c aD0 ka hF
  u_c aD0 ka hF
  u_reg ka hF
  u_op ka hF
  u_op ka hF
  u_op ka hF
  u_op ka hF
  u_skip ka hF
  u_skip ka hF
  u_op ka hF
  u_c aDX ka hF
  u_cond false ka hF
  u_c aEe ka hF
  u_c aD0 ka hF
  u_reg ka hF
  u_op ka hF
  u_op ka hF
  u_op ka hF
  u_op ka hF
  u_c aDX ka hF
  u_c aD0 ka hF
  u_reg ka hF
  u_op ka hF
  u_op ka hF
  u_op ka hF
  u_op ka hF
  u_c aDX ka hF
  u_c aD0 ka hF
  u_c aD0 ka hF
  u_reg ka hF
  u_op ka hF
  u_op ka hF
  u_op ka hF
  u_op ka hF
  u_op ka hF
  u_op ka hF
  u_op ka hF
  u_op ka hF
  u_op ka hF
  u_op ka hF
  u_c aDX ka hF
  u_cond true ka hF
  u_reg ka hF
  u_op ka hF
  u_op ka hF
  u_op ka hF
  u_in ka hF
  refine aFa rfl rfl (by k_ne) fun Kx Aq=>?_;have EJ:=aED (P:=X.P) H.underlying_tPU32 H.underlying_tUP H.room_tU32 (WgLive.cell1 ⟨_,_,hF.1⟩).choose_spec;have Ar:=fun es=>aEw (P:=X.P) H.underlying_tPU32 H.underlying_tUP H.room_tU32 (WgLive.cell1 ⟨_,_,hF.1⟩).choose_spec es;go_simp
  refine Aq _ _ ⟨?_,?_⟩
  ·u_none
   intro ex hex;have IY:=aD4 hex;simp[go_sem,Ar]at IY
  clear Aq Kx EJ Ar;refine aEi fun w₃ h₃=>?_;replace hF:=ka hF h₃
  clear h₃
  refine⟨rfl,_,w₃,_,aE2 .read (by simp) rfl rfl (by k_ne) rfl H.f_raceRead (x_raceRead_n L) (x_raceRead_b L) (x_raceRead_x L) (x_raceRead_f L) (ad:=⟨X.Wg,1,af⟩)<|by simp[Act.eval],.refl X.Wg w₃,(by intro e he;simp at he;subst he;exact .inr<|.inr<|.inl ⟨_,rfl,rfl⟩),?_⟩;walk_nrm;refine JD (m:=50) (Stop:=fun g w=>X.jY End (.gK::ts) ks 1 E S g w) (fun _ _ h=>h) ?_;u_c aDX ka hF
  u_c aD0 ka hF
  u_c aD0 ka hF
  u_reg ka hF
  u_op ka hF
  u_op ka hF
  u_c aDX ka hF
  u_cond false ka hF
  u_c aEe ka hF
  u_c aD0 ka hF
  u_c aD0 ka hF
  u_reg ka hF
  u_op ka hF
  u_op ka hF
  u_op ka hF
  u_skip ka hF
  u_skip ka hF
  u_op ka hF
  u_op ka hF
  u_skip ka hF
  u_skip ka hF
  u_skip ka hF
  u_skip ka hF
  u_op ka hF
  u_c aDX ka hF
  u_cond false ka hF
  u_c aEe ka hF
  u_c aD0 ka hF
  u_c aD0 ka hF
  u_reg ka hF
  u_op ka hF
  u_op ka hF
  u_op ka hF
  u_skip ka hF
  u_skip ka hF
  u_op ka hF
  u_c aDX ka hF
  u_cond true ka hF
  u_c aEh ka hF
  refine aEi fun w₄ h₄=>?_;replace hF:=ka hF h₄
  clear h₄
  refine⟨rfl,_,w₄,_,stepG_unwind_entry (v:=dK #[]) (evs:=#[Go.ConcR.mk .enable]) rfl H.f_enable (x_enable_n L) (x_enable_b L) (x_enable_x L) (x_enable_f L) (by simp[Extern.Race.none_]) (by simp[Go.ConcR.mk])<|by simp[Go.ConcR.mk],.refl X.Wg w₄,(by intro e he;simp at he;subst he;exact .inr<|.inl rfl),?_⟩;refine(JD (m:=1) (Stop:=fun g w=>g=G (b₀.at (a₀.put ((uY[i₀]?).bind (·.dst))<|dK #[])<|bQ uY BI::k₀) cs/\WgAt L.tWg X.Wg w 4294967296 0/\bg S (less E X.Wg) w0 w) (Stop':=fun S' g w=>S'=S/\g=G (b₀.at (a₀.put ((uY[i₀]?).bind (·.dst))<|dK #[])<|bQ uY BI::k₀) cs/\WgAt L.tWg X.Wg w 4294967296 0/\bg S (less E X.Wg) w0 w) (fun _ _ h=>⟨rfl,h⟩) ?_).trans ?_
  ·u_leave0 H.f_add ka hF
   exact aEi fun w₅ h₅=>⟨rfl,(ka hF h₅).1,(ka hF h₅).2.1⟩
  ·rintro S' g w' ⟨rfl,rfl,h1,h2⟩;exact hT w' h2<|by simpa[KK]using h1
 ·
  obtain rfl:l=[.gK]:=by
   have:libs v=[.gK,.gK,.gK]:=by unfold libs;rw[if_neg<|by omega]
   rw[this]at hl;simpa using hl.symm
  obtain⟨V,hV⟩:∃V:Int,V=(v:Int)+1:=⟨_,rfl⟩;obtain⟨Q,hQ⟩:∃Q:Int,Q=V*KK:=⟨_,rfl⟩;have eQ:IntKind.u64.wrap ((v:Int)*KK+4294967296)=Q:=by rw[IntKind.wrap_u64,hQ,hV];simp only[KK];omega
  rw[<-hV,<-hQ]at hT;have a1:Q/4294967296=V:=by rw[hQ];simp only[KK];omega
  have b1:bits .and .u64 Q 2147483648=0:=by rw[hQ,hV];have:=st_flag (v+1) 0 (by omega) (by omega);simpa[KK]using this
  have b2:bits .and .u64 Q 2147483647=0:=by rw[hQ,hV];have:=st_waiters (v+1) 0 (by omega) (by omega);simpa[KK]using this
  have c1:IntKind.i32.wrap V=V:=by rw[IntKind.wrap_i32];omega
  have hV1:1<V:=by omega
  have hV2:V<2147483648:=by omega
  have q1:(V==1)=false:=by simp<;>omega
  have q2:decide (V=1)=false:=qW (by omega);have q3:decide (V<0)=false:=qW (by omega);have q4:decide (0<V)=true:=kF (by omega);have q5:(V==0)=false:=by simp<;>omega
  have q6:decide (V=0)=false:=qW (by omega);refine⟨rfl,_,_,_,(stepG_add_atomic rfl rfl (by k_ne) rfl H.f_addU64 (x_addU64_n L) (x_addU64_b L) (x_addU64_x L) .u64 (x_addU64_f L) rfl rfl hw.cellSt<|hw.thaw 0).trans<|by rw[eQ],aEp w₂ (stA X.Wg) _,(by intro e he;simp at he;rcases he with rfl|rfl<;>exact Ia _ rfl _),?_⟩;replace hF:WgAt L.tWg X.Wg (w₂.setCell (stA X.Wg)<|.int .u64 Q) Q 0/\bg S (less E X.Wg) w0 (w₂.setCell (stA X.Wg)<|.int .u64 Q)/\E.ro X.Wg:=⟨hw.setSt _,hF.2.1.trans<|aio hS<|aEp w₂ (stA X.Wg) _,hF.2.2⟩;clear hw hQ hV eQ hl;walk_nrm;refine JD (m:=100) (Stop:=fun g w=>X.jY End (.gK::ts) ks 1 E S g w) (fun _ _ h=>h) ?_;u_op ka hF
  u_c aDX ka hF
  u_c aEh ka hF
  u_leave1 H.f_uAdd ka hF
  u_op ka hF
  u_c aDX ka hF
  u_c aD0 ka hF
  u_c aD0 ka hF
  u_reg ka hF
  u_op ka hF
  u_op ka hF
  u_op ka hF
  u_op ka hF
  u_skip ka hF
  u_skip ka hF
  u_op ka hF
  u_c aDX ka hF
  u_cnd false ka hF
  u_c aEe ka hF
  u_c aD0 ka hF
  u_reg ka hF
  u_op ka hF
  u_op ka hF
  u_op ka hF
  u_op ka hF
  u_c aDX ka hF
  u_c aD0 ka hF
  u_reg ka hF
  u_op ka hF
  u_op ka hF
  u_op ka hF
  u_op ka hF
  u_c aDX ka hF
  u_c aD0 ka hF
  u_c aD0 ka hF
  u_reg ka hF
  u_op ka hF
  u_op ka hF
  u_op ka hF
  u_op ka hF
  u_op ka hF
  u_op ka hF
  u_op ka hF
  u_op ka hF
  u_op ka hF
  u_op ka hF
  u_c aDX ka hF
  u_cnd false ka hF
  u_c aEe ka hF
  u_c aD0 ka hF
  u_c aD0 ka hF
  u_reg ka hF
  u_op ka hF
  u_op ka hF
  u_c aDX ka hF
  u_cnd false ka hF
  u_c aEe ka hF
  u_c aD0 ka hF
  u_c aD0 ka hF
  u_reg ka hF
  u_op ka hF
  u_op ka hF
  u_op ka hF
  u_skip ka hF
  u_skip ka hF
  u_op ka hF
  u_op ka hF
  u_skip ka hF
  u_skip ka hF
  u_skip ka hF
  u_skip ka hF
  u_op ka hF
  u_c aDX ka hF
  u_cnd false ka hF
  u_c aEe ka hF
  u_c aD0 ka hF
  u_c aD0 ka hF
  u_reg ka hF
  u_op ka hF
  u_op ka hF
  u_op ka hF
  u_skip ka hF
  u_skip ka hF
  u_op ka hF
  u_c aDX ka hF
  u_cnd true ka hF
  u_c aEh ka hF
  refine aEi fun w₄ h₄=>?_;replace hF:=ka hF h₄
  clear h₄
  refine⟨rfl,_,w₄,_,stepG_unwind_entry (v:=dK #[]) (evs:=#[Go.ConcR.mk .enable]) rfl H.f_enable (x_enable_n L) (x_enable_b L) (x_enable_x L) (x_enable_f L) (by simp[Extern.Race.none_]) (by simp[Go.ConcR.mk])<|by simp[Go.ConcR.mk],.refl X.Wg w₄,(by intro e he;simp at he;subst he;exact .inr<|.inl rfl),?_⟩;refine(JD (m:=1) (Stop:=fun g w=>g=G (b₀.at (a₀.put ((uY[i₀]?).bind (·.dst))<|dK #[])<|bQ uY BI::k₀) cs/\WgAt L.tWg X.Wg w Q 0/\bg S (less E X.Wg) w0 w) (Stop':=fun S' g w=>S'=S/\g=G (b₀.at (a₀.put ((uY[i₀]?).bind (·.dst))<|dK #[])<|bQ uY BI::k₀) cs/\WgAt L.tWg X.Wg w Q 0/\bg S (less E X.Wg) w0 w) (fun _ _ h=>⟨rfl,h⟩) ?_).trans ?_
  ·u_leave0 H.f_add ka hF
   exact aEi fun w₅ h₅=>⟨rfl,(ka hF h₅).1,(ka hF h₅).2.1⟩
  ·rintro S' g w' ⟨rfl,rfl,h1,h2⟩;exact hT w' h2 h1
end
end fJ
end
section
namespace fJ
open Go Go.Conc Go.ConcN Go.RowKit Go.Conc.Lib Go.ConcR.Gen Go.ConcN.Gen
open Go.ConcR (KK wgBlock WgAt stA smA rd wr DC0 Payload)
variable{b:Bool}{R:aj->aj->Prop}{Stop:bF->aj->Prop}
theorem aip{P:eF}{D:aj->aj->Array Event->Prop}{Stop':bF->aj->Prop}(h:∀g w,Stop g w->Stop' g w):∀{m:Nat} {g:bF} {w:aj},Goes P b R D Stop m g w->Goes P b R D Stop' m g w
 |0,_,_,k=>fun w₁ r=>h _ _<|k w₁ r
 |m+1,g,w,k=>by
  rcases k with k|⟨hr,k⟩
  ·exact .inl fun w₁ r=>h _ _<|k w₁ r
  ·refine .inr ⟨hr,fun w₁ r=>?_⟩;obtain⟨g',w',es,e,hd,hn⟩:=aFk<|k w₁ r;rw[e];exact⟨hd,aip h hn⟩
theorem meet{P:eF}{D:aj->aj->Array Event->Prop}(tr:∀a b c,R a b->R b c->R a c)(refl:∀w,R w w)(hq:∀g w g',Stop g w->bD P b g w≠.go g' w #[]){aiq:bF->aj->Prop}:
 ∀{m n:Nat} {g:bF} {w:aj},Goes P b R DC0 aiq m g w->Goes P b R D Stop n g w->Goes P b R DC0 (fun g w=>aiq g w/\∃n',Goes P b R D Stop n' g w) m g w
 |0,n,g,w,h,k=>fun w₁ r=>⟨h w₁ r,n,aEx tr k r⟩
 |m+1,n,g,w,h,k=>by
  rcases h with h|⟨hr,h⟩
  ·exact .inl fun w₁ r=>⟨h w₁ r,n,aEx tr k r⟩
  ·refine .inr ⟨hr,fun w₁ r=>?_⟩;obtain⟨g',w',es,e,⟨rfl,rfl⟩,hn⟩:=aFk<|h w₁ r;rw[e];refine⟨⟨rfl,rfl⟩,?_⟩;rcases aEl (aEx tr k r)with hs|⟨n',rfl,hs⟩
   ·exact absurd e<|hq _ _ _<|hs w'<|refl w'
   ·obtain⟨g2,w2,es2,e2,_,sS⟩:=hs w'<|refl w';rw[e]at e2;simp only[aEj]at e2;obtain⟨rfl,rfl,_⟩:=e2;exact meet tr refl hq hn sS
section
variable [Payload]{L:WgLink}{P:eF}{Wg C n Low k:Nat}{val:az}{c:bu}{cs:List bu}{qt:Nat}
variable(P L Wg C n Low k)in
def asu(g:bF)(_w:aj):Prop:=
 g.status=.running/\∃g2,(∀w₁,bD P false g w₁=.go g2 w₁ #[Go.ConcR.mk<|.releaseMerge<|stA Wg])/\∀w₁,Goes P false (RW L.tWg Wg C n Low<|k-1) DC0 (fun g5 _=>∀w₁,∃g6,bD P false g5 w₁=.go g6 w₁ #[Go.ConcR.mk .disable]) 6 g2 w₁
theorem rt{w w₁:aj}(h:True)(_r:RW L.tWg Wg C n Low (k-1) w w₁):True:=h
theorem asv(H:WgLib P L)(w:aj)(hK:WgLive L.tWg Wg w/\Has C (k-1) val w):
 Goes P false (RW L.tWg Wg C n Low<|k-1) DC0 (asu L P Wg C n Low k) 23 (G ((baseD L.done).at ⟨#[ay<|ae ⟨Wg,0,af⟩,ai,ai,ai],[]⟩ [.code<|body_done L])<|c::cs) w:=by
 lib_facts
 simp only[body_done,doneFn,ik];u_reg kn_rely hK
 u_op kn_rely hK
 u_in kn_rely hK
 refine goes_call rfl rfl (by k_ne) rfl H.f_add (nm_add L) rfl ⟨by u_nil,?_⟩;walk_nrmf addFn
 u_c aD0 kn_rely hK
 u_cond true kn_rely hK
 u_c aD0 kn_rely hK
 u_c aD0 kn_rely hK
 u_reg kn_rely hK
 u_op kn_rely hK
 u_op kn_rely hK
 u_c aDX kn_rely hK
 u_cond true kn_rely hK
 u_reg kn_rely hK
 u_op kn_rely hK
 u_in kn_rely hK
 refine aFa rfl rfl (by k_ne) fun Kx Aq=>?_;have EJ:=aED (P:=P) H.underlying_tWgP H.underlying_tUP H.room_tWg (WgLive.cell0 hK.1).choose_spec;have Ar:=fun es=>aEw (P:=P) H.underlying_tWgP H.underlying_tUP H.room_tWg (WgLive.cell0 hK.1).choose_spec es;go_simp
 refine Aq _ _ ⟨?_,?_⟩
 ·u_none
  intro ex hex;have IY:=aD4 hex;simp[go_sem,Ar]at IY
 clear Aq Kx EJ Ar;refine aEi fun w₁ h₁=>?_;refine⟨rfl,_,fun w₁=>aE2 .releaseMerge (by simp) rfl rfl (by k_ne) rfl H.f_relMerge (x_relMerge_n L) (x_relMerge_b L) (x_relMerge_x L) (x_relMerge_f L)<|by simp[Act.eval,stA],fun w₁=>?_⟩;walk_nrm;have hT:True:=trivial;u_c aDX rt hT
 u_c aD0 rt hT
 u_reg rt hT
 exact aEi fun w₂ h₂=>fun w₃=>⟨_,aE9 .disable (by simp) rfl rfl (by k_ne) rfl H.f_disable (x_disable_n L) (x_disable_b L) (x_disable_x L)<|x_disable_f L⟩
theorem asw(H:WgLib P L)(Bz:c.mode=.returning)(hT:QuitsD P qt 0 (G c cs))(w:aj)(hK:WgLive L.tWg Wg w/\Has C (k-1) val w):
 Goes P false (RW L.tWg Wg C n Low<|k-1) DC0 (AtR0 P L.tWg Wg C n Low k val) 23 (G ((baseD L.done).at ⟨#[ay<|ae ⟨Wg,0,af⟩,ai,ai,ai],[]⟩ [.code<|body_done L])<|c::cs) w:=by
 have tr:∀a b c,RW L.tWg Wg C n Low (k-1) a b->RW L.tWg Wg C n Low (k-1) b c->RW L.tWg Wg C n Low (k-1) a c:=fun _ _ _ h1 h2=>h1.trans h2;have hq:∀g w g',AtR0 P L.tWg Wg C n Low k val g w->bD P false g w≠.go g' w #[]:=by
  rintro g w g' ⟨_,_,g2,e,_⟩ e';rw[e]at e';simp at e'
 have h1:=meet tr (fun w=>aEo w) hq (asv (n:=n) (Low:=Low) (c:=c) (cs:=cs) H w hK)<|doneN (Own:=CJ) (Rd:=CJ) (n:=n) (Low:=Low) H Bz hT w hK;refine aip ?_ h1;rintro g w' ⟨⟨_,g2,di,hgo⟩,n',hg⟩;rcases aEl hg with hs|⟨n2,rfl,hs⟩
 ·exact hs w'<|aEo w'
 ·exfalso;obtain⟨g2',w2,es2,e2,_,sS⟩:=hs w'<|aEo w';rw[di w']at e2;simp only[aEj]at e2;obtain⟨rfl,rfl,_⟩:=e2;have h2:=meet tr (fun w=>aEo w) hq (hgo w') sS;have key:∀{m:Nat} {g:bF} {w:aj},Goes P false (RW L.tWg Wg C n Low<|k-1) DC0 (fun g w=>(∀w₁,∃g6,bD P false g w₁=.go g6 w₁ #[Go.ConcR.mk .disable])/\∃n',Goes P false (RW L.tWg Wg C n Low<|k-1) (DWs Wg CJ CJ C n k) (AtR0 P L.tWg Wg C n Low k val) n' g w) m g w->False:=by
   intro m;induction m with
   |zero=>
    intro g w h;obtain⟨hd,n3,Zf⟩:=h w<|aEo w;obtain⟨g6,e6⟩:=hd w;rcases aEl Zf with zk|⟨n4,rfl,zk⟩
    ·obtain⟨_,_,g7,e7,_⟩:=zk w<|aEo w;rw[e6]at e7;simp[Go.ConcR.mk]at e7
    ·obtain⟨g7,w7,es7,e7,⟨_,dS⟩,_⟩:=zk w<|aEo w;rw[e6]at e7;simp only[aEj]at e7;obtain⟨_,_,rfl⟩:=e7;exact(dS (Go.ConcR.mk .disable)<|by simp).2.1 rfl
   |succ m ih=>
    intro g w h;rcases aEl h with zk|⟨m',e,zk⟩
    ·exact ih (g:=g) (w:=w) (by
      cases m with
      |zero=>exact zk
      |succ m=>exact .inl zk)
    ·obtain rfl:m=m':=by omega
     obtain⟨g',w',es,_,_,hn⟩:=zk w<|aEo w;exact ih hn
  exact key h2
end
end fJ
end
section
namespace fJ
open Go Go.Conc Twin
open Go.ConcN (upd upd_same upd_ne WgLive PayAt Has RW WSit WD CTag Vc cnt sumTo)
open Go.ConcR (stA smA rd wr KK WgAt DC0 Payload Bk)
section
variable [Payload]{K:Type}{X:bK K}{ty:dw}{n:Nat}{U:Type}{dH:U->bF}{Anch:U->bF->aj->Prop}{Mid:U->aN->aj->Prop}{cZ:K->List az->az->aN->aj->Prop}{Good:List K->Prop}
 {gs:Array bF}{w:aj}{t:Trace}{E:dD}{S0:aN}{q:Nat->Nat}{sl:Option (Nat×Nat)}
theorem bK.atj(F:X.Fit)(SG:∀k l v S w,cZ k l v S w->∀B:au.cO,(∀b,B.bZ b->¬S b)->au.aG B v)(hA:∀u g w,Anch u g w->g.status=.running)(hE:∀u,(dH u).status=.running)(qA:∀k l v S w w1,cZ k l v S w->bg S (X.side k) w w1->cZ k l v S w1)(hn:n<2147483648)
 (KH:∀u g w,Anch u g w->WgLive ty X.Wg w->∃m,Goes X.P true (RL ty X.Wg) DC0 (X.AtW1 ty (dH u)<|Anch u) m g w)(h:X.Start n E S0 gs w t q){a:bF}(ha:gs[0]? =ae a){ts:List qP}(hR:aA X.P true E (X.jY (fun ks E S g w=>∃u,X.AtClose ty n (Anch u) (Mid u) cZ Good ks E S g w) ts [] 0 E) S0 a w):
 ∃u M gs1 w1 kM t1 q1 ks S1 Sw G1,runNT X.P M (crowd gs w sl) t=(.next<|crowd gs1 w1 kM,t1)/\gs1[0]? =ae (dH u)/\Leavers X.P t1 gs1 q1/\Past (lh fun b=>X.iG b\/b=X.Wg) w1.heap.size t1/\Mid u S1 w1/\ks.length=n/\Good ks/\(∃E1,X.Mem ks E1 S1 G1 Sw w1)/\WgAt ty X.Wg w1 0 0/\
  PayAt X.C n w1/\au.jB X.bZ w1/\∀(i:Nat) (k:K),ks[i]? =ae k->∃v,cZ k (msgs ts i) v (Sw i) w1/\Has X.C i v w1:=by
 obtain⟨D,τ,hI⟩:=h.inv ha hR
 obtain⟨M,gs1,w1,kM,t1,dd,l9,yP,E1,S1,G1,vG,q1,zS,D1,iL,a1,r1,r2,r3,r4,r5,⟨u,r6⟩,r7⟩:=bK.ar1 (sl:=sl) F ts.length gs.size D τ rfl rfl hI
 obtain⟨ni,w2,ops,E2,D2,D9,s1,s2,s3⟩:=r3.close (dH:=dH u) (sl:=l9) F (let ⟨cs,h1,h2⟩:=h.pay;⟨cs,h1,h2⟩) r4 r6
 obtain⟨M',gs3,w3,Vg,t3,dW3,E3,S3,G3,Sw3,q3,st3,D3,τ3,p1,p2,p3,p4⟩:=bK.asj (sl:=l9) F SG (hA u) (hE u) r6.fin qA hn (KH u) ni.size _ D2 D9 (dm _) rfl s3
 obtain⟨⟨q',d1⟩,d2,d3⟩:=p2.done h.Jt
 obtain⟨wa,wb,bV,kD⟩:=p2.wg
 obtain⟨_,rfl,rfl⟩:=kD.fin_inv trivial
 refine⟨u,M+(M'+1),gs3,w3,Vg,t3,q',yP,S3,Sw3,G3,au.Xf r1 ?_,p3,d1,d2,p4,p2.len,r6.A7,⟨E3,p2.base.mem⟩,bV,p2.pay,p2.base.pM,fun i k hk=>?_⟩
 ·simp only[runNT,r2,s1]
  exact p1
 ·have:=d3 i k hk
  rw[r7 i]at this
  simpa using this
end
section
open Go.RowKit Go.Conc.Lib Go.ConcR.Gen Go.ConcN.Gen
variable{L:WgLink}{K:Type}{X:bK K}{b₀:bu}{a₀:Act}{uY:Array Oper}{i₀:Nat}{BI:List Nat}{k₀:List Item}{cs:List bu}
theorem atm(H:WgLib X.P L){E:dD}{S:aN}{w:aj}{Mid:aN->aj->Prop}(hM:∀w1,bg S E w w1->Mid S w1):
 aA X.P true E (fun S g w=>X.AtKd L.tWg (SK L X.Wg (b₀.at a₀<|bQ uY (i₀::BI)::k₀) cs) g w/\Mid S w) S (G ((base L.wait).at ⟨#[ay<|ae ⟨X.Wg,0,af⟩]++Array.replicate 83 ai,[]⟩ [.code<|body_wait L])<|b₀.at a₀ (bQ uY (i₀::BI)::k₀)::cs) w:=by
 lib_facts
 simp only[body_wait,waitFn,ik];refine aA.ctl rfl (fun _=>aD0) ?_;refine aA.ctl rfl (fun _=>aEc (t:=true)<|by rfl) ?_;refine aA.ctl rfl (fun _=>stepG_region) ?_;refine aA.stop fun w1 hk=>⟨⟨rfl,fun hF=>⟨_,aE9 .disable (by simp) rfl rfl (by k_ne) rfl H.f_disable (x_disable_n L) (x_disable_b L) (x_disable_x L)<|x_disable_f L,3,?_⟩⟩,hM w1 hk⟩;walk_nrm;u_c aDX aV hF
 u_c aEg aV hF
 u_c aEO aV hF
 exact aEi fun w₂ h₂=>⟨_,rfl,by simp,by simp⟩
end
end fJ
end
end Go.Proofs.YtkelpcjiediamaaGreat
