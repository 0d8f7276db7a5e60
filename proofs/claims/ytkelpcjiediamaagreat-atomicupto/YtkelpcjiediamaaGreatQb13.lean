import Derived.Test.YtkelpcjiediamaaGreatQb11
import Derived.Conc.WgGenN3
set_option maxRecDepth 100000
set_option maxHeartbeats 0
set_option linter.all false
namespace Go.Proofs.YtkelpcjiediamaaGreat
def aBZ:=@Go.Conc.stepG_region_end
def aB2:=@Go.Conc.stepG_seq
def aB6:=@Go.Conc.mem_listed
def aCe:=@Go.Conc.stepG_cond
def aCg:=@Go.Conc.stepG_skip
def aCi:=@Go.Conc.stepG_ret'
def aCj:=@Go.Conc.Goes.stop
def aCm:=@Go.Conc.stepG_block
def aCx:=@Go.Conc.events_convert_to_unsafe
def aCD:=@Go.run_convert_to_unsafe
def aCE:=@Go.Conc.stepG_inBlock
def aCN:=@Go.Conc.stepG_inLoop
def aC2:=@Go.Conc.stepG_markAt
def aC3:=@Go.Conc.stepG_loop
def aDa:=@Go.Conc.stepG_mark0
def aDb:=@Go.Conc.goes_oper_k
def aDd:=@Go.Conc.stepG_load_atomic
def aDk:=@Go.Conc.goes_elim
open Go renaming Frame→aV,Goroutine→aX,Program→dO,TypeId→bW,Value→aj,World→ah,stepG→aW,undef→ag
open Option renaming none→af,some→ae
open Go.Proofs.Tryz
section
namespace eX
open Go Go.Conc
abbrev link:Go.Conc.Lib.WgLink:={add:=111,done:=113,wait:=115,relMerge:=152,disable:=153,enable:=154,inBubble:=155,associate:=156,fatal:=157,uOr:=158,uAdd:=159,raceRead:=160,uLoad:=161,uStore:=162,disassociate:=163,semrelease:=164,acquire:=165,isAssociated:=166,uCas:=167,raceWrite:=168,semacquire:=169,orU64:=189,addU64:=190,loadU64:=191,storeU64:=192,casU64:=193,tWgP:=207,tUP:=209,tAssoc:=210,tWg:=177,tAU:=174,tU64:=172,tUint:=214,tU32:=175,tPU32:=215,tPAU:=243,tPU64:=245,tNoCopy:=169,tANoCopy:=170,tAlign64:=171}
def QW:Go.Conc.Lib.WgLib prog link:=
 ⟨func111,func113,func115,func152,func153,func154,func155,func156,func157,func158,func159,func160,func161,func162,func163,func164,func165,func166,func167,func168,func169,func189,func190,func191,func192,func193,underlying207,runUnderlying207,sizeOf207,isAgg207,zeroValue207,underlying209,runUnderlying209,sizeOf209,isAgg209,zeroValue209,underlying210,runUnderlying210,sizeOf210,isAgg210,zeroValue210,underlying177,runUnderlying177,sizeOf177,isAgg177,zeroValue177,underlying174,runUnderlying174,sizeOf174,isAgg174,zeroValue174,underlying172,runUnderlying172,sizeOf172,isAgg172,zeroValue172,underlying214,runUnderlying214,sizeOf214,isAgg214,zeroValue214,underlying175,runUnderlying175,sizeOf175,isAgg175,zeroValue175,underlying215,runUnderlying215,sizeOf215,isAgg215,zeroValue215,underlying243,runUnderlying243,sizeOf243,isAgg243,zeroValue243,underlying245,runUnderlying245,sizeOf245,isAgg245,zeroValue245,underlying0,runUnderlying0,sizeOf0,isAgg0,zeroValue0,underlying3,runUnderlying3,sizeOf3,isAgg3,zeroValue3,underlying4,runUnderlying4,sizeOf4,isAgg4,zeroValue4,underlying9,runUnderlying9,sizeOf9,isAgg9,zeroValue9,underlying20,runUnderlying20,sizeOf20,isAgg20,zeroValue20,underlying21,runUnderlying21,sizeOf21,isAgg21,zeroValue21,(by kernel_rfl),(by kernel_rfl)⟩
instance:Go.ConcR.Payload:=⟨107⟩
end eX
end
section
namespace eX
open Go Go.Conc Go.ConcN Go.RowKit Go.Conc.Lib Go.ConcR.Gen Go.ConcN.Gen
open Go.ConcR (KK wgBlock WgAt stA smA rd wr DC0)
def aN{ty:bW}{Wg:Nat}{w w₁:ah}(h:WgLive ty Wg w)(r:RL ty Wg w w₁):WgLive ty Wg w₁:=r h
def QX(L:WgLink)(Wg:Nat)(c:aV)(cs:List aV)(g:aX)(_w:ah):Prop:=
 ∃T:Array aj,g=G ((base L.wait).at ⟨T,[]⟩ [.code<|L7 L,.inLoop<|L7 L,.inBlock 0]) (c::cs)/\T.size=84/\T[0]? =ae (.pointer<|ae ⟨Wg,0,af⟩)
section
variable{L:WgLink}{K:Type}{X:bn K}{b₀:aV}{a₀:Act}{uC:Array Oper}{i₀:Nat}{Az:List Nat}{k₀:List Item}{cs:List aV}
def aqD(H:WgLib X.P L)(g:aX)(w:ah)(h:QX L X.Wg (b₀.at a₀<|.inRegion uC (i₀::Az)::k₀) cs g w)(hF:WgLive L.tWg X.Wg w):
 ∃m,Goes X.P true (RL L.tWg X.Wg) DC0 (X.AtW1 L.tWg (G (b₀.at (a₀.put ((uC[i₀]?).bind (·.dst))<|.tuple #[])<|.inRegion uC Az::k₀) cs)<|QX L X.Wg (b₀.at a₀<|.inRegion uC (i₀::Az)::k₀) cs) m g w:=by
 lib_facts
 obtain⟨T,rfl,axX,t0⟩:=h;obtain⟨v0,v1,v2,v3,v4,v5,v6,v7,v8,v9,v10,v11,v12,v13,v14,v15,v16,v17,v18,v19,v20,v21,v22,v23,v24,v25,v26,v27,v28,v29,v30,v31,v32,v33,v34,v35,v36,v37,v38,v39,v40,v41,v42,v43,v44,v45,v46,v47,v48,v49,v50,v51,v52,v53,v54,v55,v56,v57,v58,v59,v60,v61,v62,v63,v64,v65,v66,v67,v68,v69,v70,v71,v72,v73,v74,v75,v76,v77,v78,v79,v80,v81,v82,v83,rfl⟩:=array84 T axX;simp only[ald,xA,fJ]at t0;subst t0;refine⟨30,?_⟩;simp only[L7,body_wait,waitFn,gQ];u_c aCm aN hF
 u_c aB2 aN hF
 u_reg aN hF
 u_op aN hF
 u_op aN hF
 u_op aN hF
 u_call H.f_uLoad (nm_uLoad L) uLoadFn aN hF
 u_c aB2 aN hF
 u_reg aN hF
 u_op aN hF
 u_c aBZ aN hF
 u_c aB2 aN hF
 u_reg aN hF
 u_op aN hF
 u_op aN hF
 u_op aN hF
 refine aCj fun w₁ h₁=>?_;replace hF:=aN hF h₁
 clear h₁
 refine⟨rfl,fun v hv hw=>?_⟩;rcases H9 v with rfl|hvp
 ·
  replace hw:WgAt L.tWg X.Wg w₁ 0 0:=by simpa using hw
  refine⟨_,aDd (v:=0) rfl rfl (by k_ne) rfl H.f_loadU64 (x_loadU64_n L) (x_loadU64_b L) (x_loadU64_x L) .u64 (x_loadU64_f L) rfl hw.cellSt,fun _=>⟨60,?_⟩,fun h=>absurd rfl h⟩;clear hw;walk_nrm;u_op aN hF
  u_c aBZ aN hF
  u_c aCi aN hF
  u_leave1 H.f_uLoad aN hF
  u_op aN hF
  u_c aBZ aN hF
  u_c aB2 aN hF
  u_reg aN hF
  u_op aN hF
  u_op aN hF
  u_op aN hF
  u_op aN hF
  u_c aBZ aN hF
  u_c aB2 aN hF
  u_reg aN hF
  u_op aN hF
  u_op aN hF
  u_op aN hF
  u_op aN hF
  u_c aBZ aN hF
  u_c aB2 aN hF
  u_c aB2 aN hF
  u_reg aN hF
  u_op aN hF
  u_op aN hF
  u_c aBZ aN hF
  u_cond true aN hF
  u_c aB2 aN hF
  u_cond true aN hF
  u_c aB2 aN hF
  u_reg aN hF
  refine aCj fun w₅ h₅=>?_;replace hF:=aN hF h₅
  clear h₅
  refine⟨rfl,_,aDa .enable (by simp) rfl rfl (by k_ne) rfl H.f_enable (x_enable_n L) (x_enable_b L) (x_enable_x L)<|x_enable_f L,12,?_⟩;walk_nrm;u_c aBZ aN hF
  u_reg aN hF
  u_op aN hF
  u_in aN hF
  refine aDb rfl rfl (by k_ne) fun Kx zC=>?_;have Hq:=aCD (P:=X.P) H.underlying_tWgP H.underlying_tUP H.room_tWg (WgLive.cell0 hF).choose_spec;have zD:=fun es=>aCx (P:=X.P) H.underlying_tWgP H.underlying_tUP H.room_tWg (WgLive.cell0 hF).choose_spec es;go_simp
  refine zC _ _ ⟨?_,?_⟩
  ·u_none
   intro ex hex;have Hr:=aB6 hex;simp[go_sem,zD]at Hr
  clear zC Kx Hq zD;refine aCj fun w₆ h₆=>?_;replace hF:=aN hF h₆
  clear h₆
  refine⟨rfl,_,aC2 .acquire (by simp) rfl rfl (by k_ne) rfl H.f_acquire (x_acquire_n L) (x_acquire_b L) (x_acquire_x L) (x_acquire_f L)<|by simp[Act.eval,stA],40,?_⟩;walk_nrm;u_c aBZ aN hF
  u_c aB2 aN hF
  u_c aB2 aN hF
  u_reg aN hF
  u_op aN hF
  u_op aN hF
  u_op aN hF
  u_op aN hF
  u_op aN hF
  u_op aN hF
  u_op aN hF
  u_op aN hF
  u_skip aN hF
  u_skip aN hF
  u_op aN hF
  u_c aBZ aN hF
  u_cond false aN hF
  u_c aCg aN hF
  u_c aCi aN hF
  u_leave0 H.f_wait aN hF
  exact aCj fun _ _=>rfl
 ·
  obtain⟨S,hS⟩:∃S:Int,(v:Int)*KK=S:=⟨_,rfl⟩;have a1:S/4294967296=(v:Int):=by rw[<-hS];simp only[KK];omega
  have b1:bits .and .u64 S 2147483648=0:=by rw[<-hS];have:=st_flag v 0 (by omega) (by omega);simpa[KK]using this
  have b2:bits .and .u64 S 2147483647=0:=by rw[<-hS];have:=st_waiters v 0 (by omega) (by omega);simpa[KK]using this
  have c1:IntKind.i32.wrap (v:Int)=(v:Int):=by rw[IntKind.wrap_i32];omega
  have w1:IntKind.u64.wrap (S+1)=S+1:=by rw[IntKind.wrap_u64,<-hS];simp only[KK];omega
  have q3:decide ((v:Int)<0)=false:=qC (by omega);have q4:decide (0<(v:Int))=true:=jI (by omega);have q5:((v:Int)==0)=false:=by simp<;>omega
  have q6:decide ((v:Int)=0)=false:=qC (by omega);rw[hS]at hw;refine⟨_,aDd (v:=S) rfl rfl (by k_ne) rfl H.f_loadU64 (x_loadU64_n L) (x_loadU64_b L) (x_loadU64_x L) .u64 (x_loadU64_f L) rfl hw.cellSt,fun h0=>absurd h0<|by omega,fun _=>⟨80,?_⟩⟩;clear hw;walk_nrm;u_op aN hF
  u_c aBZ aN hF
  u_c aCi aN hF
  u_leave1 H.f_uLoad aN hF
  u_op aN hF
  u_c aBZ aN hF
  u_c aB2 aN hF
  u_reg aN hF
  u_op aN hF
  u_op aN hF
  u_op aN hF
  u_op aN hF
  u_c aBZ aN hF
  u_c aB2 aN hF
  u_reg aN hF
  u_op aN hF
  u_op aN hF
  u_op aN hF
  u_op aN hF
  u_c aBZ aN hF
  u_c aB2 aN hF
  u_c aB2 aN hF
  u_reg aN hF
  u_op aN hF
  u_op aN hF
  u_c aBZ aN hF
  u_cnd false aN hF
  u_c aCg aN hF
  u_c aB2 aN hF
  u_reg aN hF
  u_op aN hF
  u_op aN hF
  u_op aN hF
  u_op aN hF
  u_op aN hF
  u_op aN hF
  u_call H.f_uCas (nm_uCas L) uCasFn aN hF
  u_c aB2 aN hF
  u_reg aN hF
  u_op aN hF
  u_c aBZ aN hF
  u_c aB2 aN hF
  u_reg aN hF
  u_op aN hF
  u_op aN hF
  u_op aN hF
  u_op aN hF
  u_op aN hF
  refine aCj fun w₂ h₂=>?_;replace hF:=aN hF h₂
  clear h₂
  refine⟨rfl,fun v' Yh hw=>⟨fun e=>?_,fun e=>?_⟩⟩
  ·subst e;rw[hS]at hw⊢
   refine⟨_,(stepG_cas_hit (v:=S) (n:=S+1) rfl rfl (by k_ne) rfl H.f_casU64 (x_casU64_n L) (x_casU64_b L) (x_casU64_x L) .u64 (x_casU64_f L) rfl rfl rfl hw.cellSt<|hw.thaw 0).trans<|by rfl,70,?_⟩;replace hF:WgLive L.tWg X.Wg (w₂.setCell (stA X.Wg)<|.int .u64<|S+1):=⟨_,_,hw.setSt _⟩;clear hw;walk_nrm;u_op aN hF
   u_c aBZ aN hF
   u_c aCi aN hF
   u_leave1 H.f_uCas aN hF
   u_c aBZ aN hF
   u_cond true aN hF
   u_c aB2 aN hF
   u_c aB2 aN hF
   u_reg aN hF
   u_op aN hF
   u_op aN hF
   u_op aN hF
   u_op aN hF
   u_c aBZ aN hF
   u_cond true aN hF
   u_reg aN hF
   u_op aN hF
   u_op aN hF
   u_op aN hF
   u_in aN hF
   refine aDb rfl rfl (by k_ne) fun Kx zC=>?_;have Hq:=aCD (P:=X.P) H.underlying_tPU32 H.underlying_tUP H.room_tU32 (WgLive.cell1 hF).choose_spec;have zD:=fun es=>aCx (P:=X.P) H.underlying_tPU32 H.underlying_tUP H.room_tU32 (WgLive.cell1 hF).choose_spec es;go_simp
   refine zC _ _ ⟨?_,?_⟩
   ·u_none
    intro ex hex;have Hr:=aB6 hex;simp[go_sem,zD]at Hr
   clear zC Kx Hq zD;refine aCj fun azJ agQ=>?_;replace hF:=aN hF agQ;clear agQ;refine⟨rfl,_,aC2 .write (by simp) rfl rfl (by k_ne) rfl H.f_raceWrite (x_raceWrite_n L) (x_raceWrite_b L) (x_raceWrite_x L) (x_raceWrite_f L) (ad:=smA X.Wg)<|by simp[Act.eval,smA],40,?_⟩;walk_nrm;u_c aBZ aN hF
   u_c aB2 aN hF
   u_reg aN hF
   u_op aN hF
   u_c aBZ aN hF
   u_c aB2 aN hF
   u_c aB2 aN hF
   u_reg aN hF
   u_op aN hF
   u_op aN hF
   u_op aN hF
   u_op aN hF
   u_skip aN hF
   u_op aN hF
   u_c aBZ aN hF
   u_cond false aN hF
   u_c aCg aN hF
   u_c aB2 aN hF
   u_reg aN hF
   u_op aN hF
   u_op aN hF
   u_op aN hF
   u_op aN hF
   refine aCj fun w₃ h₃=>?_;replace hF:=aN hF h₃
   clear h₃
   refine⟨rfl,rfl,fun⟨st,hw⟩=>stepG_semacquire_wait rfl rfl rfl H.f_semacquire (x_semacquire_n L) (x_semacquire_b L) (x_semacquire_x L) (x_semacquire_f L) (by simp[Act.eval,smA]) hw.cellSm,fun hf=>?_⟩;refine⟨_,(stepG_semacquire (n:=1) rfl rfl (by k_ne) rfl H.f_semacquire (x_semacquire_n L) (x_semacquire_b L) (x_semacquire_x L) (x_semacquire_f L) (by simp[Act.eval,smA]) hf.cellSm (by k_ne)<|hf.thaw 1).trans<|by rfl,30,?_⟩;replace hF:WgLive L.tWg X.Wg (w₃.setCell (smA X.Wg)<|.int .u32 0):=⟨_,_,hf.setSm 0⟩;clear hf;walk_nrm;u_c aBZ aN hF
   u_c aB2 aN hF
   u_reg aN hF
   u_op aN hF
   u_op aN hF
   u_op aN hF
   u_call H.f_uLoad (nm_uLoad L) uLoadFn aN hF
   u_c aB2 aN hF
   u_reg aN hF
   u_op aN hF
   u_c aBZ aN hF
   u_c aB2 aN hF
   u_reg aN hF
   u_op aN hF
   u_op aN hF
   u_op aN hF
   refine aCj fun w₄ h₄=>?_;replace hF:=aN hF h₄
   clear h₄
   refine⟨rfl,fun hw=>⟨_,aDd (v:=0) rfl rfl (by k_ne) rfl H.f_loadU64 (x_loadU64_n L) (x_loadU64_b L) (x_loadU64_x L) .u64 (x_loadU64_f L) rfl hw.cellSt,30,?_⟩⟩;clear hw;walk_nrm;u_op aN hF
   u_c aBZ aN hF
   u_c aCi aN hF
   u_leave1 H.f_uLoad aN hF
   u_op aN hF
   u_op aN hF
   u_c aBZ aN hF
   u_c aB2 aN hF
   u_cond true aN hF
   u_c aB2 aN hF
   u_reg aN hF
   refine aCj fun w₅ h₅=>?_;replace hF:=aN hF h₅
   clear h₅
   refine⟨rfl,_,aDa .enable (by simp) rfl rfl (by k_ne) rfl H.f_enable (x_enable_n L) (x_enable_b L) (x_enable_x L)<|x_enable_f L,12,?_⟩;walk_nrm;u_c aBZ aN hF
   u_reg aN hF
   u_op aN hF
   u_in aN hF
   refine aDb rfl rfl (by k_ne) fun Kx zC=>?_;have Hq:=aCD (P:=X.P) H.underlying_tWgP H.underlying_tUP H.room_tWg (WgLive.cell0 hF).choose_spec;have zD:=fun es=>aCx (P:=X.P) H.underlying_tWgP H.underlying_tUP H.room_tWg (WgLive.cell0 hF).choose_spec es;go_simp
   refine zC _ _ ⟨?_,?_⟩
   ·u_none
    intro ex hex;have Hr:=aB6 hex;simp[go_sem,zD]at Hr
   clear zC Kx Hq zD;refine aCj fun w₆ h₆=>?_;replace hF:=aN hF h₆
   clear h₆
   refine⟨rfl,_,aC2 .acquire (by simp) rfl rfl (by k_ne) rfl H.f_acquire (x_acquire_n L) (x_acquire_b L) (x_acquire_x L) (x_acquire_f L)<|by simp[Act.eval,stA],40,?_⟩;walk_nrm;u_c aBZ aN hF
   u_c aB2 aN hF
   u_c aB2 aN hF
   u_reg aN hF
   u_op aN hF
   u_c aBZ aN hF
   u_cond false aN hF
   u_c aCg aN hF
   u_c aCi aN hF
   u_leave0 H.f_wait aN hF
   exact aCj fun _ _=>rfl
  ·
   refine⟨_,stepG_cas_miss (v:=(v':Int)*KK) (old:=S) (n:=S+1) rfl rfl (by k_ne) rfl H.f_casU64 (x_casU64_n L) (x_casU64_b L) (x_casU64_x L) .u64 (x_casU64_f L) rfl rfl rfl hw.cellSt (hw.thaw 0) (by rw[<-hS];simp only[KK];omega),20,?_⟩;clear hw;walk_nrm;u_op aN hF
   u_c aBZ aN hF
   u_c aCi aN hF
   u_leave1 H.f_uCas aN hF
   u_c aBZ aN hF
   u_cond false aN hF
   u_c aCg aN hF
   u_c aCE aN hF
   u_c aCN aN hF
   exact aCj fun w₃ h₃=>⟨_,rfl,by simp,by simp⟩
end
end eX
end
section
namespace eX
open Go Go.Conc Go.ConcN Go.RowKit Go.Conc.Lib Go.ConcR.Gen Go.ConcN.Gen Twin
open Go.ConcR (KK wgBlock WgAt stA smA rd wr DC0)
def less(E:cO)(b:Nat):cO:=⟨fun x=>E.ro x/\x≠b,fun x=>E.rd x/\x≠b,fun _ h=>⟨E.le _ h.1,h.2⟩⟩
variable{w w1:ah}{b:Nat}
def aQ.less{S:aC}{E:cO}(h:aQ S E w w1)(b:Nat):aQ S (less E b) w w1:=⟨h.tape,h.os,h.output,h.size,h.own,fun x hx=>h.ro x hx.1⟩
def agR{S:aC}{E:cO}(hS:¬S b)(h:Aside b w w1):aQ S (less E b) w w1:=
 ⟨h.tape,h.os,h.output,AU h.size.symm,fun x hx=>h.block x fun e=>hS<|e▸hx,fun _ hx=>h.block _ hx.2⟩
def IQ{P:dO}{main:Bool}{S:aC}{E:cO}{Stop:aX->ah->Prop}{Stop':aC->aX->ah->Prop}(hs:∀g w,Stop g w->Stop' S g w):∀{m:Nat} {g:aX} {w:ah},Goes P main (aQ S E) DC0 Stop m g w->au P main E Stop' S g w
 |0,_,_,h=>.stop fun w1 k=>hs _ _<|h w1 k
 |m+1,g,w,h=>by
  rcases h with h|⟨hr,h⟩
  ·exact .stop fun w1 k=>hs _ _<|h w1 k
  ·refine .step1 hr fun w1 k=>?_;obtain⟨g',w',es,e,⟨rfl,rfl⟩,hn⟩:=aDk<|h w1 k;exact⟨g',w',#[],e,iO.refl,by rw[rD<|bV _];exact IQ hs hn⟩
def ka{ty:bW}{S:aC}{E:cO}{st:Int}{w0 w w₁:ah}(h:WgAt ty b w st 0/\aQ S (less E b) w0 w/\E.ro b)(r:aQ S E w w₁):WgAt ty b w₁ st 0/\aQ S (less E b) w0 w₁/\E.ro b:=
 ⟨h.1.of_block<|r.ro b h.2.2,h.2.1.trans<|aQ.less r b,h.2.2⟩
def libs(v:Nat):List qw:=if v=0 then[.fQ,.fQ,.fQ,.fQ]else[.fQ,.fQ,.fQ]
section
variable{L:WgLink}{K:Type}{X:bn K}{End:List K->cO->aC->aX->ah->Prop}{ts:List qw}{ks:List K}{E:cO}{S:aC}{b₀:aV}{a₀:Act}{uC:Array Oper}{i₀:Nat}{Az:List Nat}{k₀:List Item}{cs:List aV}
def aqE(H:WgLib X.P L)(hS:¬S X.Wg){w0:ah}(v:Nat)(hv:v<2147483647)
 (hT:∀w',aQ S (less E X.Wg) w0 w'->WgAt L.tWg X.Wg w' (((v:Int)+1)*KK) 0->au X.P true E (X.jH End ts ks 0 E) S (G (b₀.at (a₀.put ((uC[i₀]?).bind (·.dst))<|.tuple #[])<|.inRegion uC Az::k₀) cs) w')
 (w:ah)(hF:WgAt L.tWg X.Wg w ((v:Int)*KK) 0/\aQ S (less E X.Wg) w0 w/\E.ro X.Wg):
 au X.P true E (X.jH End (libs v++ts) ks 0 E) S (G ((base L.add).at ⟨#[.pointer<|ae ⟨X.Wg,0,af⟩,.int .i64 1,ag,ag,ag,ag,ag,ag,ag,ag,ag,ag,ag,ag,ag,ag,ag,ag,ag,ag,ag,ag,ag,ag,ag,ag,ag,ag,ag,ag,ag,ag,ag,ag,ag,ag,ag,ag,ag,ag,ag,ag,ag,ag,ag,ag,ag,ag,ag,ag,ag,ag,ag,ag,ag,ag,ag,ag,ag,ag,ag,ag,ag,ag,ag,ag,ag,ag,ag,ag,ag,ag,ag,ag,ag,ag,ag,ag,ag,ag,ag,ag,ag,ag,ag,ag,ag,ag,ag,ag,ag,ag,ag,ag,ag,ag,ag,ag,ag,ag,ag,ag,ag,ag,ag,ag,ag,ag,ag,ag,ag,ag,ag,ag,ag,ag,ag],[]⟩ [.code<|body_add L])<|b₀.at a₀ (.inRegion uC (i₀::Az)::k₀)::cs) w:=by
 lib_facts
 have aqF:∃l,libs v=.fQ:: .fQ::l:=by unfold libs;split<;>exact⟨_,rfl⟩
 obtain⟨l,hl⟩:=aqF;rw[hl];simp only[body_add,addFn,gQ];refine IQ (m:=14) (Stop:=fun g w=>X.jH End (.fQ:: .fQ::(l++ts)) ks 0 E S g w) (fun _ _ h=>h) ?_;u_c aB2 ka hF
 u_cond true ka hF
 u_c aB2 ka hF
 u_c aB2 ka hF
 u_reg ka hF
 u_op ka hF
 u_op ka hF
 u_c aBZ ka hF
 u_cond false ka hF
 u_c aCg ka hF
 u_c aB2 ka hF
 u_reg ka hF
 refine aCj fun w₁ h₁=>?_;replace hF:=ka hF h₁
 clear h₁
 refine⟨rfl,_,w₁,_,aDa .disable (by simp) rfl rfl (by k_ne) rfl H.f_disable (x_disable_n L) (x_disable_b L) (x_disable_x L)<|x_disable_f L,.refl X.Wg w₁,(by intro e he;simp at he;subst he;exact .inl rfl),?_⟩;walk_nrm;refine IQ (m:=45) (Stop:=fun g w=>X.jH End (.fQ::(l++ts)) ks 1 E S g w) (fun _ _ h=>h) ?_;u_c aBZ ka hF
 u_reg ka hF
 u_defer ka hF
 u_c aBZ ka hF
 u_c aB2 ka hF
 u_reg ka hF
 u_op ka hF
 u_c aBZ ka hF
 u_c aB2 ka hF
 u_c aB2 ka hF
 u_reg ka hF
 u_bub ka hF
 u_c aBZ ka hF
 u_cond false ka hF
 u_c aCg ka hF
 u_c aB2 ka hF
 u_reg ka hF
 u_op ka hF
 u_op ka hF
 u_op ka hF
 u_op ka hF
 u_op ka hF
 u_op ka hF
 u_call H.f_uAdd (nm_uAdd L) uAddFn ka hF
 u_c aB2 ka hF
 u_reg ka hF
 u_op ka hF
 u_c aBZ ka hF
 u_c aB2 ka hF
 u_reg ka hF
 u_op ka hF
 u_op ka hF
 u_op ka hF
 u_op ka hF
 refine aCj fun w₂ h₂=>?_;replace hF:=ka hF h₂
 clear h₂
 have hw:=hF.1;rcases H9 v with rfl|hvp
 ·
  obtain rfl:l=[.fQ,.fQ]:=by simpa[libs]using hl.symm
  replace hw:WgAt L.tWg X.Wg w₂ 0 0:=by simpa using hw
  have e0:IntKind.u64.wrap (0+4294967296)=KK:=by decide
  refine⟨rfl,_,_,_,(stepG_add_atomic rfl rfl (by k_ne) rfl H.f_addU64 (x_addU64_n L) (x_addU64_b L) (x_addU64_x L) .u64 (x_addU64_f L) rfl rfl hw.cellSt<|hw.thaw 0).trans<|by rw[e0],aCq w₂ (stA X.Wg) _,(by intro e he;simp at he;rcases he with rfl|rfl<;>exact Gt _ rfl _),?_⟩;replace hF:WgAt L.tWg X.Wg (w₂.setCell (stA X.Wg)<|.int .u64 KK) KK 0/\aQ S (less E X.Wg) w0 (w₂.setCell (stA X.Wg)<|.int .u64 KK)/\E.ro X.Wg:=⟨hw.setSt _,hF.2.1.trans<|agR hS<|aCq w₂ (stA X.Wg) _,hF.2.2⟩;clear hw;simp only[KK]at hF⊢
  walk_nrm;refine IQ (m:=70) (Stop:=fun g w=>X.jH End (.fQ:: .fQ::ts) ks 1 E S g w) (fun _ _ h=>h) ?_;u_op ka hF
  u_c aBZ ka hF
  u_c aCi ka hF
  u_leave1 H.f_uAdd ka hF
  u_op ka hF
  u_c aBZ ka hF
  u_c aB2 ka hF
  u_c aB2 ka hF
  u_reg ka hF
  u_op ka hF
  u_op ka hF
  u_op ka hF
  u_op ka hF
  u_skip ka hF
  u_skip ka hF
  u_op ka hF
  u_c aBZ ka hF
  u_cond false ka hF
  u_c aCg ka hF
  u_c aB2 ka hF
  u_reg ka hF
  u_op ka hF
  u_op ka hF
  u_op ka hF
  u_op ka hF
  u_c aBZ ka hF
  u_c aB2 ka hF
  u_reg ka hF
  u_op ka hF
  u_op ka hF
  u_op ka hF
  u_op ka hF
  u_c aBZ ka hF
  u_c aB2 ka hF
  u_c aB2 ka hF
  u_reg ka hF
  u_op ka hF
  u_op ka hF
  u_op ka hF
  u_op ka hF
  u_op ka hF
  u_op ka hF
  u_op ka hF
  u_op ka hF
  u_op ka hF
  u_op ka hF
  u_c aBZ ka hF
  u_cond true ka hF
  u_reg ka hF
  u_op ka hF
  u_op ka hF
  u_op ka hF
  u_in ka hF
  refine aDb rfl rfl (by k_ne) fun Kx zC=>?_;have Hq:=aCD (P:=X.P) H.underlying_tPU32 H.underlying_tUP H.room_tU32 (WgLive.cell1 ⟨_,_,hF.1⟩).choose_spec;have zD:=fun es=>aCx (P:=X.P) H.underlying_tPU32 H.underlying_tUP H.room_tU32 (WgLive.cell1 ⟨_,_,hF.1⟩).choose_spec es;go_simp
  refine zC _ _ ⟨?_,?_⟩
  ·u_none
   intro ex hex;have Hr:=aB6 hex;simp[go_sem,zD]at Hr
  clear zC Kx Hq zD;refine aCj fun w₃ h₃=>?_;replace hF:=ka hF h₃
  clear h₃
  refine⟨rfl,_,w₃,_,aC2 .read (by simp) rfl rfl (by k_ne) rfl H.f_raceRead (x_raceRead_n L) (x_raceRead_b L) (x_raceRead_x L) (x_raceRead_f L) (ad:=⟨X.Wg,1,af⟩)<|by simp[Act.eval],.refl X.Wg w₃,(by intro e he;simp at he;subst he;exact .inr<|.inr<|.inl ⟨_,rfl,rfl⟩),?_⟩;walk_nrm;refine IQ (m:=50) (Stop:=fun g w=>X.jH End (.fQ::ts) ks 1 E S g w) (fun _ _ h=>h) ?_;u_c aBZ ka hF
  u_c aB2 ka hF
  u_c aB2 ka hF
  u_reg ka hF
  u_op ka hF
  u_op ka hF
  u_c aBZ ka hF
  u_cond false ka hF
  u_c aCg ka hF
  u_c aB2 ka hF
  u_c aB2 ka hF
  u_reg ka hF
  u_op ka hF
  u_op ka hF
  u_op ka hF
  u_skip ka hF
  u_skip ka hF
  u_op ka hF
  u_op ka hF
  u_skip ka hF
  u_skip ka hF
  u_skip ka hF
  u_skip ka hF
  u_op ka hF
  u_c aBZ ka hF
  u_cond false ka hF
  u_c aCg ka hF
  u_c aB2 ka hF
  u_c aB2 ka hF
  u_reg ka hF
  u_op ka hF
  u_op ka hF
  u_op ka hF
  u_skip ka hF
  u_skip ka hF
  u_op ka hF
  u_c aBZ ka hF
  u_cond true ka hF
  u_c aCi ka hF
  refine aCj fun w₄ h₄=>?_;replace hF:=ka hF h₄
  clear h₄
  refine⟨rfl,_,w₄,_,stepG_unwind_entry (v:=.tuple #[]) (evs:=#[Go.ConcR.mk .enable]) rfl H.f_enable (x_enable_n L) (x_enable_b L) (x_enable_x L) (x_enable_f L) (by simp[Extern.Race.none_]) (by simp[Go.ConcR.mk])<|by simp[Go.ConcR.mk],.refl X.Wg w₄,(by intro e he;simp at he;subst he;exact .inr<|.inl rfl),?_⟩;refine(IQ (m:=1) (Stop:=fun g w=>g=G (b₀.at (a₀.put ((uC[i₀]?).bind (·.dst))<|.tuple #[])<|.inRegion uC Az::k₀) cs/\WgAt L.tWg X.Wg w 4294967296 0/\aQ S (less E X.Wg) w0 w) (Stop':=fun S' g w=>S'=S/\g=G (b₀.at (a₀.put ((uC[i₀]?).bind (·.dst))<|.tuple #[])<|.inRegion uC Az::k₀) cs/\WgAt L.tWg X.Wg w 4294967296 0/\aQ S (less E X.Wg) w0 w) (fun _ _ h=>⟨rfl,h⟩) ?_).trans ?_
  ·u_leave0 H.f_add ka hF
   exact aCj fun w₅ h₅=>⟨rfl,(ka hF h₅).1,(ka hF h₅).2.1⟩
  ·rintro S' g w' ⟨rfl,rfl,h1,h2⟩;exact hT w' h2<|by simpa[KK]using h1
 ·
  obtain rfl:l=[.fQ]:=by
   have:libs v=[.fQ,.fQ,.fQ]:=by unfold libs;rw[if_neg<|by omega]
   rw[this]at hl;simpa using hl.symm
  obtain⟨V,hV⟩:∃V:Int,V=(v:Int)+1:=⟨_,rfl⟩;obtain⟨Q,hQ⟩:∃Q:Int,Q=V*KK:=⟨_,rfl⟩;have eQ:IntKind.u64.wrap ((v:Int)*KK+4294967296)=Q:=by rw[IntKind.wrap_u64,hQ,hV];simp only[KK];omega
  rw[<-hV,<-hQ]at hT;have a1:Q/4294967296=V:=by rw[hQ];simp only[KK];omega
  have b1:bits .and .u64 Q 2147483648=0:=by rw[hQ,hV];have:=st_flag (v+1) 0 (by omega) (by omega);simpa[KK]using this
  have b2:bits .and .u64 Q 2147483647=0:=by rw[hQ,hV];have:=st_waiters (v+1) 0 (by omega) (by omega);simpa[KK]using this
  have c1:IntKind.i32.wrap V=V:=by rw[IntKind.wrap_i32];omega
  have hV1:1<V:=by omega
  have hV2:V<2147483648:=by omega
  have q1:(V==1)=false:=by simp<;>omega
  have q2:decide (V=1)=false:=qC (by omega);have q3:decide (V<0)=false:=qC (by omega);have q4:decide (0<V)=true:=jI (by omega);have q5:(V==0)=false:=by simp<;>omega
  have q6:decide (V=0)=false:=qC (by omega);refine⟨rfl,_,_,_,(stepG_add_atomic rfl rfl (by k_ne) rfl H.f_addU64 (x_addU64_n L) (x_addU64_b L) (x_addU64_x L) .u64 (x_addU64_f L) rfl rfl hw.cellSt<|hw.thaw 0).trans<|by rw[eQ],aCq w₂ (stA X.Wg) _,(by intro e he;simp at he;rcases he with rfl|rfl<;>exact Gt _ rfl _),?_⟩;replace hF:WgAt L.tWg X.Wg (w₂.setCell (stA X.Wg)<|.int .u64 Q) Q 0/\aQ S (less E X.Wg) w0 (w₂.setCell (stA X.Wg)<|.int .u64 Q)/\E.ro X.Wg:=⟨hw.setSt _,hF.2.1.trans<|agR hS<|aCq w₂ (stA X.Wg) _,hF.2.2⟩;clear hw hQ hV eQ hl;walk_nrm;refine IQ (m:=100) (Stop:=fun g w=>X.jH End (.fQ::ts) ks 1 E S g w) (fun _ _ h=>h) ?_;u_op ka hF
  u_c aBZ ka hF
  u_c aCi ka hF
  u_leave1 H.f_uAdd ka hF
  u_op ka hF
  u_c aBZ ka hF
  u_c aB2 ka hF
  u_c aB2 ka hF
  u_reg ka hF
  u_op ka hF
  u_op ka hF
  u_op ka hF
  u_op ka hF
  u_skip ka hF
  u_skip ka hF
  u_op ka hF
  u_c aBZ ka hF
  u_cnd false ka hF
  u_c aCg ka hF
  u_c aB2 ka hF
  u_reg ka hF
  u_op ka hF
  u_op ka hF
  u_op ka hF
  u_op ka hF
  u_c aBZ ka hF
  u_c aB2 ka hF
  u_reg ka hF
  u_op ka hF
  u_op ka hF
  u_op ka hF
  u_op ka hF
  u_c aBZ ka hF
  u_c aB2 ka hF
  u_c aB2 ka hF
  u_reg ka hF
  u_op ka hF
  u_op ka hF
  u_op ka hF
  u_op ka hF
  u_op ka hF
  u_op ka hF
  u_op ka hF
  u_op ka hF
  u_op ka hF
  u_op ka hF
  u_c aBZ ka hF
  u_cnd false ka hF
  u_c aCg ka hF
  u_c aB2 ka hF
  u_c aB2 ka hF
  u_reg ka hF
  u_op ka hF
  u_op ka hF
  u_c aBZ ka hF
  u_cnd false ka hF
  u_c aCg ka hF
  u_c aB2 ka hF
  u_c aB2 ka hF
  u_reg ka hF
  u_op ka hF
  u_op ka hF
  u_op ka hF
  u_skip ka hF
  u_skip ka hF
  u_op ka hF
  u_op ka hF
  u_skip ka hF
  u_skip ka hF
  u_skip ka hF
  u_skip ka hF
  u_op ka hF
  u_c aBZ ka hF
  u_cnd false ka hF
  u_c aCg ka hF
  u_c aB2 ka hF
  u_c aB2 ka hF
  u_reg ka hF
  u_op ka hF
  u_op ka hF
  u_op ka hF
  u_skip ka hF
  u_skip ka hF
  u_op ka hF
  u_c aBZ ka hF
  u_cnd true ka hF
  u_c aCi ka hF
  refine aCj fun w₄ h₄=>?_;replace hF:=ka hF h₄
  clear h₄
  refine⟨rfl,_,w₄,_,stepG_unwind_entry (v:=.tuple #[]) (evs:=#[Go.ConcR.mk .enable]) rfl H.f_enable (x_enable_n L) (x_enable_b L) (x_enable_x L) (x_enable_f L) (by simp[Extern.Race.none_]) (by simp[Go.ConcR.mk])<|by simp[Go.ConcR.mk],.refl X.Wg w₄,(by intro e he;simp at he;subst he;exact .inr<|.inl rfl),?_⟩;refine(IQ (m:=1) (Stop:=fun g w=>g=G (b₀.at (a₀.put ((uC[i₀]?).bind (·.dst))<|.tuple #[])<|.inRegion uC Az::k₀) cs/\WgAt L.tWg X.Wg w Q 0/\aQ S (less E X.Wg) w0 w) (Stop':=fun S' g w=>S'=S/\g=G (b₀.at (a₀.put ((uC[i₀]?).bind (·.dst))<|.tuple #[])<|.inRegion uC Az::k₀) cs/\WgAt L.tWg X.Wg w Q 0/\aQ S (less E X.Wg) w0 w) (fun _ _ h=>⟨rfl,h⟩) ?_).trans ?_
  ·u_leave0 H.f_add ka hF
   exact aCj fun w₅ h₅=>⟨rfl,(ka hF h₅).1,(ka hF h₅).2.1⟩
  ·rintro S' g w' ⟨rfl,rfl,h1,h2⟩;exact hT w' h2 h1
end
end eX
end
section
namespace eX
open Go Go.Conc Go.ConcN Go.RowKit Go.Conc.Lib Go.ConcR.Gen Go.ConcN.Gen
open Go.ConcR (KK wgBlock WgAt stA smA rd wr DC0 Payload)
variable{b:Bool}{R:ah->ah->Prop}{Stop:aX->ah->Prop}
theorem agS{P:dO}{D:ah->ah->Array Event->Prop}{Stop':aX->ah->Prop}(h:∀g w,Stop g w->Stop' g w):∀{m:Nat} {g:aX} {w:ah},Goes P b R D Stop m g w->Goes P b R D Stop' m g w
 |0,_,_,k=>fun w₁ r=>h _ _<|k w₁ r
 |m+1,g,w,k=>by
  rcases k with k|⟨hr,k⟩
  ·exact .inl fun w₁ r=>h _ _<|k w₁ r
  ·refine .inr ⟨hr,fun w₁ r=>?_⟩;obtain⟨g',w',es,e,hd,hn⟩:=aDk<|k w₁ r;rw[e];exact⟨hd,agS h hn⟩
theorem meet{P:dO}{D:ah->ah->Array Event->Prop}(tr:∀a b c,R a b->R b c->R a c)(refl:∀w,R w w)(hq:∀g w g',Stop g w->aW P b g w≠.go g' w #[]){agT:aX->ah->Prop}:
 ∀{m n:Nat} {g:aX} {w:ah},Goes P b R DC0 agT m g w->Goes P b R D Stop n g w->Goes P b R DC0 (fun g w=>agT g w/\∃n',Goes P b R D Stop n' g w) m g w
 |0,n,g,w,h,k=>fun w₁ r=>⟨h w₁ r,n,aCy tr k r⟩
 |m+1,n,g,w,h,k=>by
  rcases h with h|⟨hr,h⟩
  ·exact .inl fun w₁ r=>⟨h w₁ r,n,aCy tr k r⟩
  ·refine .inr ⟨hr,fun w₁ r=>?_⟩;obtain⟨g',w',es,e,⟨rfl,rfl⟩,hn⟩:=aDk<|h w₁ r;rw[e];refine⟨⟨rfl,rfl⟩,?_⟩;rcases aCl (aCy tr k r)with hs|⟨n',rfl,hs⟩
   ·exact absurd e<|hq _ _ _<|hs w'<|refl w'
   ·obtain⟨g2,w2,es2,e2,_,rG⟩:=hs w'<|refl w';rw[e]at e2;simp only[GStep.go.injEq]at e2;obtain⟨rfl,rfl,_⟩:=e2;exact meet tr refl hq hn rG
section
variable [Payload]{L:WgLink}{P:dO}{Wg C n Low k:Nat}{val:aj}{c:aV}{cs:List aV}{qt:Nat}
variable(P L Wg C n Low k)in
def aqG(g:aX)(_w:ah):Prop:=
 g.status=.running/\∃g2,(∀w₁,aW P false g w₁=.go g2 w₁ #[Go.ConcR.mk<|.releaseMerge<|stA Wg])/\∀w₁,Goes P false (RW L.tWg Wg C n Low<|k-1) DC0 (fun g5 _=>∀w₁,∃g6,aW P false g5 w₁=.go g6 w₁ #[Go.ConcR.mk .disable]) 6 g2 w₁
theorem rt{w w₁:ah}(h:True)(_r:RW L.tWg Wg C n Low (k-1) w w₁):True:=h
theorem aqH(H:WgLib P L)(w:ah)(hK:WgLive L.tWg Wg w/\Has C (k-1) val w):
 Goes P false (RW L.tWg Wg C n Low<|k-1) DC0 (aqG L P Wg C n Low k) 23 (G ((baseD L.done).at ⟨#[.pointer<|ae ⟨Wg,0,af⟩,ag,ag,ag],[]⟩ [.code<|body_done L])<|c::cs) w:=by
 lib_facts
 simp only[body_done,doneFn,gQ];u_reg kn_rely hK
 u_op kn_rely hK
 u_in kn_rely hK
 refine goes_call rfl rfl (by k_ne) rfl H.f_add (nm_add L) rfl ⟨by u_nil,?_⟩;walk_nrmf addFn
 u_c aB2 kn_rely hK
 u_cond true kn_rely hK
 u_c aB2 kn_rely hK
 u_c aB2 kn_rely hK
 u_reg kn_rely hK
 u_op kn_rely hK
 u_op kn_rely hK
 u_c aBZ kn_rely hK
 u_cond true kn_rely hK
 u_reg kn_rely hK
 u_op kn_rely hK
 u_in kn_rely hK
 refine aDb rfl rfl (by k_ne) fun Kx zC=>?_;have Hq:=aCD (P:=P) H.underlying_tWgP H.underlying_tUP H.room_tWg (WgLive.cell0 hK.1).choose_spec;have zD:=fun es=>aCx (P:=P) H.underlying_tWgP H.underlying_tUP H.room_tWg (WgLive.cell0 hK.1).choose_spec es;go_simp
 refine zC _ _ ⟨?_,?_⟩
 ·u_none
  intro ex hex;have Hr:=aB6 hex;simp[go_sem,zD]at Hr
 clear zC Kx Hq zD;refine aCj fun w₁ h₁=>?_;refine⟨rfl,_,fun w₁=>aC2 .releaseMerge (by simp) rfl rfl (by k_ne) rfl H.f_relMerge (x_relMerge_n L) (x_relMerge_b L) (x_relMerge_x L) (x_relMerge_f L)<|by simp[Act.eval,stA],fun w₁=>?_⟩;walk_nrm;have hT:True:=trivial;u_c aBZ rt hT
 u_c aB2 rt hT
 u_reg rt hT
 exact aCj fun w₂ h₂=>fun w₃=>⟨_,aDa .disable (by simp) rfl rfl (by k_ne) rfl H.f_disable (x_disable_n L) (x_disable_b L) (x_disable_x L)<|x_disable_f L⟩
theorem aqI(H:WgLib P L)(Ai:c.mode=.returning)(hT:QuitsD P qt 0 (G c cs))(w:ah)(hK:WgLive L.tWg Wg w/\Has C (k-1) val w):
 Goes P false (RW L.tWg Wg C n Low<|k-1) DC0 (AtR0 P L.tWg Wg C n Low k val) 23 (G ((baseD L.done).at ⟨#[.pointer<|ae ⟨Wg,0,af⟩,ag,ag,ag],[]⟩ [.code<|body_done L])<|c::cs) w:=by
 have tr:∀a b c,RW L.tWg Wg C n Low (k-1) a b->RW L.tWg Wg C n Low (k-1) b c->RW L.tWg Wg C n Low (k-1) a c:=fun _ _ _ h1 h2=>h1.trans h2;have hq:∀g w g',AtR0 P L.tWg Wg C n Low k val g w->aW P false g w≠.go g' w #[]:=by
  rintro g w g' ⟨_,_,g2,e,_⟩ e';rw[e]at e';simp at e'
 have h1:=meet tr (fun w=>aCp w) hq (aqH (n:=n) (Low:=Low) (c:=c) (cs:=cs) H w hK)<|doneN (Own:=Bl) (Rd:=Bl) (n:=n) (Low:=Low) H Ai hT w hK;refine agS ?_ h1;rintro g w' ⟨⟨_,g2,bU,hgo⟩,n',hg⟩;rcases aCl hg with hs|⟨n2,rfl,hs⟩
 ·exact hs w'<|aCp w'
 ·exfalso;obtain⟨g2',w2,es2,e2,_,rG⟩:=hs w'<|aCp w';rw[bU w']at e2;simp only[GStep.go.injEq]at e2;obtain⟨rfl,rfl,_⟩:=e2;have h2:=meet tr (fun w=>aCp w) hq (hgo w') rG;have key:∀{m:Nat} {g:aX} {w:ah},Goes P false (RW L.tWg Wg C n Low<|k-1) DC0 (fun g w=>(∀w₁,∃g6,aW P false g w₁=.go g6 w₁ #[Go.ConcR.mk .disable])/\∃n',Goes P false (RW L.tWg Wg C n Low<|k-1) (DWs Wg Bl Bl C n k) (AtR0 P L.tWg Wg C n Low k val) n' g w) m g w->False:=by
   intro m;induction m with
   |zero=>
    intro g w h;obtain⟨hd,n3,XL⟩:=h w<|aCp w;obtain⟨g6,e6⟩:=hd w;rcases aCl XL with yl|⟨n4,rfl,yl⟩
    ·obtain⟨_,_,g7,e7,_⟩:=yl w<|aCp w;rw[e6]at e7;simp[Go.ConcR.mk]at e7
    ·obtain⟨g7,w7,es7,e7,⟨_,dI⟩,_⟩:=yl w<|aCp w;rw[e6]at e7;simp only[GStep.go.injEq]at e7;obtain⟨_,_,rfl⟩:=e7;exact(dI (Go.ConcR.mk .disable)<|by simp).2.1 rfl
   |succ m ih=>
    intro g w h;rcases aCl h with yl|⟨m',e,yl⟩
    ·exact ih (g:=g) (w:=w) (by
      cases m with
      |zero=>exact yl
      |succ m=>exact .inl yl)
    ·obtain rfl:m=m':=by omega
     obtain⟨g',w',es,_,_,hn⟩:=yl w<|aCp w;exact ih hn
  exact key h2
end
end eX
end
section
namespace eX
open Go Go.Conc Twin
open Go.ConcN (upd upd_same upd_ne WgLive PayAt Has RW WSit WD CTag Vc cnt sumTo)
open Go.ConcR (stA smA rd wr KK WgAt DC0 Payload Bk)
section
variable [Payload]{K:Type}{X:bn K}{ty:bW}{n:Nat}{U:Type}{di:U->aX}{Anch:U->aX->ah->Prop}{Mid:U->aC->ah->Prop}{bT:K->List aj->aj->aC->ah->Prop}{Good:List K->Prop}
 {gs:Array aX}{w:ah}{t:Trace}{E:cO}{S0:aC}{q:Nat->Nat}{sl:Option (Nat×Nat)}
theorem bn.arw(F:X.Fit)(QU:∀k l v S w,bT k l v S w->∀B:ai.bP,(∀b,B.bK b->¬S b)->ai.az B v)(hA:∀u g w,Anch u g w->g.status=.running)(hE:∀u,(di u).status=.running)(pR:∀k l v S w w1,bT k l v S w->aQ S (X.side k) w w1->bT k l v S w1)(hn:n<2147483648)
 (JB:∀u g w,Anch u g w->WgLive ty X.Wg w->∃m,Goes X.P true (RL ty X.Wg) DC0 (X.AtW1 ty (di u)<|Anch u) m g w)(h:X.Start n E S0 gs w t q){a:aX}(ha:gs[0]? =ae a){ts:List qw}(hR:au X.P true E (X.jH (fun ks E S g w=>∃u,X.AtClose ty n (Anch u) (Mid u) bT Good ks E S g w) ts [] 0 E) S0 a w):
 ∃u M gs1 w1 jV t1 q1 ks S1 Sw G1,runNT X.P M (crowd gs w sl) t=(.next<|crowd gs1 w1 jV,t1)/\gs1[0]? =ae (di u)/\Leavers X.P t1 gs1 q1/\Past (kD fun b=>X.gJ b\/b=X.Wg) w1.heap.size t1/\Mid u S1 w1/\ks.length=n/\Good ks/\(∃E1,X.Mem ks E1 S1 G1 Sw w1)/\WgAt ty X.Wg w1 0 0/\
  PayAt X.C n w1/\ai.iZ X.bK w1/\∀(i:Nat) (k:K),ks[i]? =ae k->∃v,bT k (msgs ts i) v (Sw i) w1/\Has X.C i v w1:=by
 obtain⟨D,τ,hI⟩:=h.inv ha hR
 obtain⟨M,gs1,w1,jV,t1,dd,lJ,xK,E1,S1,G1,uJ,q1,yY,D1,ik,a1,r1,r2,r3,r4,r5,⟨u,r6⟩,r7⟩:=bn.aqh (sl:=sl) F ts.length gs.size D τ rfl rfl hI
 obtain⟨mg,w2,ops,E2,D2,Dc,s1,s2,s3⟩:=r3.close (di:=di u) (sl:=lJ) F (let ⟨cs,h1,h2⟩:=h.pay;⟨cs,h1,h2⟩) r4 r6
 obtain⟨M',gs3,w3,TG,t3,dW3,E3,S3,G3,Sw3,q3,st3,D3,τ3,p1,p2,p3,p4⟩:=bn.aqy (sl:=lJ) F QU (hA u) (hE u) r6.fin pR hn (JB u) mg.size _ D2 Dc (bV _) rfl s3
 obtain⟨⟨q',d1⟩,d2,d3⟩:=p2.done h.IB
 obtain⟨wa,wb,bH,jO⟩:=p2.wg
 obtain⟨_,rfl,rfl⟩:=jO.fin_inv trivial
 refine⟨u,M+(M'+1),gs3,w3,TG,t3,q',xK,S3,Sw3,G3,ai.VJ r1 ?_,p3,d1,d2,p4,p2.len,r6.zV,⟨E3,p2.base.mem⟩,bH,p2.pay,p2.base.oV,fun i k hk=>?_⟩
 ·simp only[runNT,r2,s1]
  exact p1
 ·have:=d3 i k hk
  rw[r7 i]at this
  simpa using this
end
section
open Go.RowKit Go.Conc.Lib Go.ConcR.Gen Go.ConcN.Gen
variable{L:WgLink}{K:Type}{X:bn K}{b₀:aV}{a₀:Act}{uC:Array Oper}{i₀:Nat}{Az:List Nat}{k₀:List Item}{cs:List aV}
theorem ary(H:WgLib X.P L){E:cO}{S:aC}{w:ah}{Mid:aC->ah->Prop}(hM:∀w1,aQ S E w w1->Mid S w1):
 au X.P true E (fun S g w=>X.AtKd L.tWg (QX L X.Wg (b₀.at a₀<|.inRegion uC (i₀::Az)::k₀) cs) g w/\Mid S w) S (G ((base L.wait).at ⟨#[.pointer<|ae ⟨X.Wg,0,af⟩]++Array.replicate 83 ag,[]⟩ [.code<|body_wait L])<|b₀.at a₀ (.inRegion uC (i₀::Az)::k₀)::cs) w:=by
 lib_facts
 simp only[body_wait,waitFn,gQ];refine au.ctl rfl (fun _=>aB2) ?_;refine au.ctl rfl (fun _=>aCe (t:=true)<|by rfl) ?_;refine au.ctl rfl (fun _=>stepG_region) ?_;refine au.stop fun w1 hk=>⟨⟨rfl,fun hF=>⟨_,aDa .disable (by simp) rfl rfl (by k_ne) rfl H.f_disable (x_disable_n L) (x_disable_b L) (x_disable_x L)<|x_disable_f L,3,?_⟩⟩,hM w1 hk⟩;walk_nrm;u_c aBZ aN hF
 u_c aCm aN hF
 u_c aC3 aN hF
 exact aCj fun w₂ h₂=>⟨_,rfl,by simp,by simp⟩
end
end eX
end
end Go.Proofs.YtkelpcjiediamaaGreat
