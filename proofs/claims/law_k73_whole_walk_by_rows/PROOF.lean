import PyProof.Rows.All
import PySem.Challenge.RW_staywalk_k73_whole_walk_by_rows
import KE.KFromBytes
import KE.KIntText
import KE.KPairComp
import KE.KSortTup
import KE.KIsAll
import KE.KDictSum
import KE.KRevIter
import KE.KRevSl
import KE.LcSums
import KE.KDictOf
set_option Elab.async false
set_option linter.all false
set_option maxRecDepth 100000
set_option tactic.hygienic false
set_option compiler.extract_closed false
noncomputable section
local macro_rules (kind:=«term{_}»)|`({$x,*})=>`(⟨$x,*⟩)
local macro_rules|`(tactic|let $p:term:=$e)=>do
 let n:=Lean.Syntax.node .none
 let w:=λs=>n ``Lean.Parser.Tactic.rcasesPatLo #[n ``Lean.Parser.Tactic.rcasesPatMed #[Lean.mkNullNode #[s]],Lean.mkNullNode]
 let r←p.raw.rewriteBottomUpM (m:=Lean.MacroM) λs=>pure (if s.isIdent then w (n ``Lean.Parser.Tactic.rcasesPat.one #[s]) else if s.isOfKind ``Lean.Parser.Term.hole then w (n ``Lean.Parser.Tactic.rcasesPat.ignore #[s[0]]) else if s.isOfKind ``«term{_}» then w (n ``Lean.Parser.Tactic.rcasesPat.tuple s.getArgs) else if s.isOfKind Lean.choiceKind then (s.getArgs.find? (·.isOfKind ``Lean.Parser.Tactic.rcasesPatLo)).getD s else s)
 if r.isOfKind ``Lean.Parser.Tactic.rcasesPatLo then `(tactic|obtain $(⟨r[0]⟩):rcasesPatMed:=$e) else Lean.Macro.throwUnsupported
local macro_rules|`(!$n:num)=>`(nat_lit $n)
local macro_rules|`(tactic|lia)=>`(tactic|omega)
local macro_rules | `(()) => `(by lia)
local macro_rules | `((_)) => `(by decide)
local macro_rules | `(∅) => `(by decide+kernel)
local macro_rules | `({_}) => `(by rfl)
abbrev M:=@rfl
local macro_rules|`(tactic|ac_rfl)=>`(tactic|(first|exact .inl M|exact .inr M|assumption))
local macro_rules|`(tactic|subst_eqs)=>`(tactic|(intro _;rfl))
local macro_rules|`(tactic|and_intros)=>`(tactic|(first|exact Or.inl M|exact Or.inr (Or.inl M)|exact Or.inr<|Or.inr M))
set_option genSizeOf false
set_option maxHeartbeats 0
abbrev Q0:=@List.length_map
abbrev Q1:=@List.mem_of_getElem?
abbrev Q2:=@List.getElem?_eq_some_iff
abbrev Q3:=@List.getElem?_eq_getElem
abbrev Q4:=@Nat.le_refl
abbrev Q5:=@List.mem_append
abbrev Q6:=@List.mem_cons_self
abbrev Q7:=@List.length_append
abbrev Q8:=@List.map_append
abbrev Q9:=@List.mem_singleton
abbrev Qa:=@List.mem_cons_of_mem
abbrev Qb:=@List.mem_cons
abbrev Qc:=@Nat.zero_le
abbrev Qd:=@Array.length_toList
abbrev Qe:=@List.length_take
abbrev Qf:=@List.mem_map
abbrev Qg:=@Bool.false_ne_true
abbrev Qh:=@List.size_toArray
abbrev Qi:=@List.length_cons
abbrev Qj:=@List.pairwise_append
abbrev Qk:=@PySem.F.plainAttrs_list
abbrev Ql:=@List.append_assoc
abbrev Qm:=@List.length_filter_le
abbrev Qn:=@List.getD_eq_getElem?_getD
abbrev Qo:=@List.getElem?_map
abbrev Qp:=@List.take_add_one
abbrev Qq:=@Bool.and_eq_true
abbrev Qr:=@Nat.le_trans
abbrev Qs:=@List.take_of_length_le
abbrev Qt:=@List.map_cons
abbrev Qu:=@Nat.lt_of_lt_of_le
abbrev Qv:=@List.mem_append_right
abbrev Qw:=@List.getElem?_set
abbrev Qx:=@Int.emod_nonneg
abbrev Qy:=@List.take_length
abbrev Qz:=@List.length_drop
abbrev QA:=@Array.getElem?_toList
abbrev QB:=@List.take_append_drop
abbrev QC:=@List.mem_filter
abbrev QD:=@Int.emod_lt_of_pos
abbrev QE:=@List.filter_append
abbrev QF:=@Array.toList_append
abbrev QG:=@List.getElem_of_mem
abbrev QH:=@Nat.ne_of_lt
abbrev QI:=@Nat.sub_one_lt_of_le
abbrev QJ:=@PySem.F.slot_list_append
abbrev QK:=@PySem.F.type_list_append
abbrev QL:=@Bool.and_eq_true_iff
abbrev QM:=@List.pairwise_map
abbrev QN:=@List.length_set
abbrev QO:=@List.mem_map_of_mem
abbrev QP:=@Nat.max_eq_right
abbrev QQ:=@List.nodup_cons
abbrev QR:=@Int.toNat_natCast
abbrev QS:=@List.map_map
abbrev QT:=@Bool.eq_false_iff
abbrev QU:=@Int.eq_ofNat_of_zero_le
abbrev QV:=@Nat.lt_of_le_of_ne
abbrev QW:=@Nat.eq_zero_or_pos
abbrev QX:=@Nat.le_of_lt
abbrev QY:=@Nat.le_of_eq
abbrev QZ:=@Int.ne_of_gt
abbrev Z0:=@List.all_eq_true
abbrev Z1:=@PySem.F.plainAttrs_str
abbrev Z2:=@List.drop_eq_getElem_cons
abbrev Z3:=@List.extract_eq_take_drop
abbrev Z4:=@List.length_pos_iff
abbrev Z5:=@PySem.W.kia_one
abbrev Z6:=@Bool.false_eq_true
abbrev Z7:=@List.not_mem_nil
abbrev Z8:=@PySem.W.mg_of
abbrev Z9:=@List.length_reverse
abbrev Za:=@Nat.le_succ
abbrev Zb:=@List.pairwise_iff_getElem
abbrev Zc:=@Nat.add_lt_of_lt_sub'
abbrev Zd:=@List.mem_of_mem_eraseIdx
abbrev Ze:=@Array.toList_extract
abbrev Zf:=@List.drop_zero
abbrev Zg:=@List.mem_of_mem_take
abbrev Zh:=@List.pairwise_singleton
abbrev Zi:=@List.flatten_cons
abbrev Zj:=@PySem.F.plainAttrs_dict
abbrev Zk:=@List.flatten_append
abbrev Zl:=@List.drop_eq_nil_of_le
abbrev Zm:=@List.getElem_mem
abbrev Zn:=@Bool.false_and
abbrev Zo:=@PySem.W.callWith_K
abbrev Zp:=@List.getElem?_append_right
abbrev Zq:=@List.nodup_nil
abbrev Zr:=@List.length_replicate
abbrev Zs:=@List.length_singleton
abbrev Zt:=@List.getElem?_append_left
abbrev Zu:=@List.getElem?_eq_none_iff
abbrev Zv:=@List.ne_nil_of_length_pos
abbrev Zw:=@Option.isSome_iff_exists
abbrev Zx:=@List.eq_of_mem_replicate
abbrev Zy:=@Bool.true_and
abbrev Zz:=@Option.map_eq_some_iff
abbrev ZA:=@List.contains_cons
abbrev ZB:=@List.pairwise_cons
abbrev ZC:=@List.append_nil
abbrev ZD:=@Nat.lt_irrefl
abbrev ZE:=@List.map_take
abbrev ZF:=@PySem.W.methodCall_KW
abbrev ZG:=@Array.getElem?_eq_some_iff
abbrev ZH:=@Nat.lt_succ_self
abbrev ZI:=@List.lookup_cons
abbrev ZJ:=@List.mem_flatMap
abbrev ZL:=@Nat.add_le_add_left
abbrev ZM:=@List.map_congr_left
abbrev ZN:=@PySem.F.slot_list_extend
abbrev ZO:=@PySem.F.type_list_extend
abbrev ZP:=@List.length_nil
abbrev ZQ:=@List.find?_cons
abbrev ZR:=@Nat.min_eq_left
abbrev ZS:=@Nat.lt_of_le_of_lt
abbrev ZT:=@Int.le_refl
abbrev ZU:=@Nat.ne_of_gt
abbrev ZV:=@List.take_sublist
abbrev ZW:=@Option.isSome_map
abbrev ZX:=@Nat.pow_succ
abbrev ZY:=@Nat.add_zero
abbrev ZZ:=@List.getElem_drop
abbrev X0:=@List.getElem_take
abbrev X1:=@Nat.zero_lt_of_lt
abbrev X2:=@List.filter_eq_nil_iff
abbrev X3:=@PySem.F.slot_dict_pop
abbrev X4:=@List.perm_append_comm
abbrev X5:=@List.filter_cons
abbrev X6:=@List.mem_reverse
abbrev X7:=@List.any_cons
abbrev X8:=@List.mem_append_left
abbrev X9:=@List.mem_iff_getElem
abbrev Xa:=@Array.push_eq_append
abbrev Xb:=@List.mem_of_mem_drop
abbrev Xc:=@Bool.eq_iff_iff
abbrev Xd:=@Int.lt_ediv_add_one_mul_self
abbrev Xe:=@List.flatMap_append
abbrev Xf:=@List.map_nil
abbrev Xg:=@Nat.mul_comm
abbrev Xh:=@PySem.F.slot_str_startswith
abbrev Xi:=@PySem.F.type_str_startswith
abbrev Xj:=@Bool.and_false
abbrev Xk:=@PySem.F.excBase_ValueError
abbrev Xl:=@Nat.pos_of_ne_zero
abbrev Xm:=@List.getElem?_drop
abbrev Xn:=@Int.mul_nonneg
abbrev Xo:=@Nat.le_pred_of_lt
abbrev Xp:=@List.nodup_append
abbrev Xq:=@List.getElem?_take_of_lt
abbrev Xr:=@List.map_drop
abbrev Xs:=@List.take_nil
abbrev Xu:=@PySem.F.slot_dict_items
abbrev Xv:=@List.getElem?_cons_succ
abbrev Xw:=@Bool.not_eq_true
abbrev Xx:=@List.getElem?_set_self
abbrev Xy:=@Nat.div_div_eq_div_mul
abbrev Xz:=@Int.mul_comm
abbrev XA:=@Int.le_of_lt
abbrev XB:=@Nat.zero_add
abbrev XC:=@PySem.F.slot_str_split
abbrev XD:=@PySem.F.type_str_split
abbrev XE:=@Option.map_some
abbrev XF:=@Nat.not_lt_zero
abbrev XG:=@Int.ediv_nonneg
abbrev XH:=@Int.mul_ediv_add_emod
abbrev XI:=@Array.getElem_push_lt
abbrev XJ:=@PySem.F.type_dict_pop
abbrev XM:=@List.pairwise_reverse
abbrev XQ:=@Array.toArray_toList
abbrev XR:=@Nat.add_le_add_right
abbrev XS:=@List.getElem?_append
abbrev XT:=@List.length_eraseIdx
abbrev XU:=@List.filterMap_cons
abbrev XV:=@PySem.W.plainGet_of
abbrev XW:=@PySem.W.callWith_K0
abbrev XX:=@Int.toNat_of_nonneg
abbrev XY:=@List.take_succ_cons
abbrev XZ:=@Int.natCast_nonneg
abbrev V0:=@Nat.lt_or_eq_of_le
abbrev V1:=@List.eraseIdx_append_of_length_le
abbrev V2:=@Nat.lt_of_succ_lt
abbrev V3:=@Nat.sub_pos_of_lt
abbrev V4:=@Nat.lt_or_ge
abbrev V5:=@Array.toList_push
abbrev V6:=@List.filter_congr
abbrev V7:=@Nat.le_total
abbrev V8:=@List.flatMap_cons
abbrev V9:=@List.eraseIdxIfInBounds_toArray
abbrev Va:=@List.cons_append
abbrev Vb:=@List.any_eq_true
abbrev Vc:=@Option.getD_some
abbrev Vd:=@PySem.W.kat_cons
abbrev Ve:=@List.mem_flatten
abbrev Vf:=@Nat.min_eq_right
abbrev Vg:=@Int.mul_le_mul_of_nonneg_right
abbrev Vh:=@Int.ediv_le_ediv
abbrev Vi:=@Nat.add_mul
abbrev Vj:=@Int.mul_le_mul_of_nonneg_left
abbrev Vk:=@List.eq_nil_of_length_eq_zero
abbrev Vl:=@List.take_append_of_le_length
abbrev Vm:=@List.of_mem_zip
abbrev Vn:=@PySem.F.slot_dict_setdefault
abbrev Vo:=@PySem.W.kat_yes
abbrev Vp:=@List.take_left'
abbrev Vq:=@List.mem_range
abbrev Vr:=@Int.fdiv_eq_ediv_of_nonneg
abbrev Vs:=@Nat.not_lt
abbrev Vt:=@List.drop_drop
abbrev Vu:=@Nat.sub_le
abbrev Vv:=@Array.toList_setIfInBounds
abbrev Vw:=@Array.perm_iff_toList_perm
abbrev Vx:=@PySem.W.kat_go
abbrev Vy:=@PySem.W.kat_no
abbrev Vz:=@List.perm_ext_iff_of_nodup
abbrev VA:=@if_neg
abbrev VB:=@if_pos
abbrev VC:=@PySem.Heap.get?_push_of_some
abbrev VD:=@decide_eq_true
abbrev VE:=@PyProof.Rows.wpS_bind
abbrev VF:=@of_decide_eq_true
abbrev VG:=@absurd
abbrev VH:=@PyProof.Rows.wpS_pure
abbrev VI:=@PySem.wpAny_bind
abbrev VJ:=@decide_eq_false
abbrev VL:=@Option.some.inj
abbrev VM:=@PySem.Heap.lt_size
abbrev VN:=@PySem.Heap.get?_push_size
abbrev VO:=@decide_eq_true_eq
abbrev VP:=@beq_iff_eq
abbrev VQ:=@beq_eq_false_iff_ne
abbrev VR:=@PySem.wpAny_pure
abbrev VS:=@PySem.Heap.get?_update_other
abbrev VT:=@congrArg
abbrev VU:=@PySem.PassesOwn.never
abbrev VV:=@of_decide_eq_false
abbrev VW:=@True.intro
abbrev VX:=@PyProof.Rows.wpS_forRange
abbrev VY:=@List.Pairwise.nil
abbrev VZ:=@PySem.wpAny_truthy_bool
abbrev W2:=@PySem.wpAny_mono
abbrev W3:=@PySem.wpAny_Call_Name_kw
abbrev W4:=@List.Perm.append_right
abbrev W5:=@List.Perm.trans
abbrev W6:=@PyProof.Rows.wpS_modify
abbrev W7:=@Prod.mk.inj
abbrev W8:=@PySem.wpAny_passesOwn
abbrev W9:=@List.Perm.append_left
abbrev Wa:=@PyProof.Rows.wpS_mono
abbrev Wb:=@PyProof.Rows.wpS_get
abbrev Wc:=@List.Perm.of_eq
abbrev Wd:=@PySem.wpAny_holding
abbrev We:=@PySem.wpAny_rule
abbrev Wf:=@PySem.Heap.get?_none_of_le
abbrev Wg:=@beq_self_eq_true
namespace L2
open PySem PySem.Spec PyProof.Rows
noncomputable def aN(s:Stmt)(j:Nat):Stmt:=match s with
 | .ClassDef _ _ _ body _ _ _ _ _ _ _=>body.getD j (.Pass {0,0,0,0})
 |_=> .Pass {0,0,0,0}
noncomputable def fV(s:Stmt):Arguments:=match s with
 | .FunctionDef _ a _ _ _ _ _ _ _ _=>a
 |_=>{posonlyargs:=[],args:=[],vararg:=none,kwonlyargs:=[],kw_defaults:=[],kwarg:=none,defaults:=[]}
noncomputable def c7(s:Stmt):List Stmt:=match s with
 | .FunctionDef _ _ b _ _ _ _ _ _ _=>b
 |_=> []
noncomputable def aj(s:Stmt):Scope:=match s with
 | .FunctionDef _ _ _ _ _ _ sc _ _ _=>sc
 |_=>{kind:= .function,names:=[],isGenerator:=false,isCoroutine:=false}
end L2
namespace HD
open PySem PySem.W
abbrev _root_.Ru:=World
abbrev _root_.Rv:=Program
noncomputable def ID(p:Rv)(w:Ru)(n₀:Nat)(ann:Option Value):Nat->SharedT->Thread->Option SharedT
 |0,_,_=>none
 |n+1,s,t=>match through t with
  |true=>some s
  |false=>match Fast.tw6613529449190102663 n₀ ann t with
   |false=>none
   |true=>match Fast.tw10156331382660048174 (Fast.tw11892475500146522536 Fast.tw14364793385576792824) p w s t with
    |some (s',t')=>ID p w n₀ ann n s' t'
    |none=>none
def IC{p:Rv}{w:Ru}{z:Nat}{I:Option Value}{n:Nat}{s s':SharedT}{t:Thread}(h:ID p w z I n s t=some s'):topRun treeTable p w z I n s.abs t=some s'.abs:=by
 induction n generalizing s t with
 |zero=>cases h
 |succ n U=>
  unfold ID at h;rw[<-Fast.te6613529449190102663,<-Fast.te10156331382660048174,<-Fast.te11892475500146522536,<-Fast.te14364793385576792824]at h;unfold topRun;cases O:through t with
  |true=>rw[O]at h;cases h;rfl
  |false=>
   rw[O]at h;cases hk:stepOk z I t with
   |false=>rw[hk]at h;cases h
   |true=>
    rw[hk]at h;cases hs:stepT (denote treeTable) p w s t with
    |none=>rw[hs]at h;cases h
    |some x=>
     let{Y,Z}:=x;rw[hs]at h;show(match step (denote treeTable) p w s.abs t with| .go s' t'=>topRun treeTable p w z I n s' t'| .halt _ _=>none)=_;rw[stepT_spec hs];exact U h
noncomputable def Gx:List Obj->BT->Nat->Option (BT×Nat)
 | [],t,n=>some (t,n)
 |o::r,t,n=>match ((t.ins n o).get n).isSome with
  |true=>Gx r (t.ins n o) (n+1)
  |false=>none
theorem Dl{z:Life}:∀{l:List Obj}{t t':BT}{n n':Nat},Gx l t n=some (t',n')->absHeap t' n' z={(absHeap t n z).objs++l.toArray,z}
 | [],t,t',n,n',h=>by
  cases h;rw[Array.append_empty];rfl
 |o::r,t,t',n,n',h=>by
  unfold Gx at h;cases g:((t.ins n o).get n).isSome with
  |false=>rw[g]at h;cases h
  |true=>
   rw[g]at h;rw[Dl h,absHeap_ins g];show Heap.mk _ _=Heap.mk _ _;congr 1;show(absHeap t n z).objs.push o++r.toArray=_;rw[<-Array.append_singleton,Array.append_assoc];congr 1;simp
abbrev _root_.Rm:=Shared
def toT(s:Rm):Option SharedT:=match Gx s.heap.objs.toList .nil 0 with
 |some (t,n)=>some ⟨t,n,s.heap.life,s.gens,s.drawn,s.toks,s.os⟩
 |none=>none
def Lg{s:Rm}{S:SharedT}(h:toT s=some S):S.abs=s:=by
 unfold toT at h;cases e:Gx s.heap.objs.toList .nil 0 with
 |none=>rw[e]at h;cases h
 |some x=>
  let{t,n}:=x;rw[e]at h;cases h;let{{I,z},gens,drawn,toks,os}:=s;show Shared.mk (absHeap t n z) _ _ _ _=_;rw[Dl e];show Shared.mk (Heap.mk (#[]++I.toList.toArray) z) _ _ _ _=_;rw[XQ,Array.empty_append]
def Mt(p:Rv)(w:Ru)(N:Nat)(s₀:Rm):Option Shared:=match toT s₀ with
 |some S=>(ID p w S.n (s₀.heap.nsMap mainGlobals "__annotations__") N S<|topStub p).map SharedT.abs
 |none=>none
def JI{p:Rv}{w:Ru}{N:Nat}{s₀ s₁:Rm}(h:Mt p w N s₀=some s₁):topRun treeTable p w s₀.heap.objs.size (s₀.heap.nsMap mainGlobals "__annotations__") N s₀ (topStub p)=some s₁:=by
 unfold Mt at h;cases e:toT s₀ with
 |none=>rw[e]at h;cases h
 |some S=>
  rw[e]at h;let{I,h1,rfl}:=Zz.mp h;have ea:=Lg e;have z:S.n=s₀.heap.objs.size:=by
   rw[<-ea];exact(absHeap_size _ _ _).symm
  rw[z]at h1;have:=IC h1;rw[ea]at this;exact this
def endP(p:Rv)(w:Ru)(N:Nat):Option Shared:=((Fast.tw10274390034422433532 Fast.tw14364793385576792824 (opening p) w N (start<|opening p).1 (start<|opening p).2).bind<|Fast.tw14289696077712309145 p).bind λs₀=>match s₀.heap.isNs mainGlobals&&s₀.gens.size==0 with
 |true=>(Mt p w N s₀).bind λs₁=>match staticsOk (importedModules p.main.body) s₀.heap s₁.heap&&namesBound p s₁.heap&&gensDone s₁&&laidKept s₀.heap s₁.heap with
  |true=>some s₁
  |false=>none
 |false=>none
noncomputable def gA(q:Rv)(s:Rm):=(Fast.tw5160383126252970620 (R.mapR (λx=>x.name)<|Fast.tw3399658132070893891 q) (Fast.tw5991557255702980513 q) [] {s with gens:= #[]},s.heap.bltView)
abbrev _root_.Ry:=List Str
noncomputable def gB(p q:Rv)(loose:Ry)(Xt:Shared->Bool)(s:Rm):=(Fast.tw10880121769531294198 s.heap (Fast.tw821141287760084731 q loose) (R.mapR (λx=>x.name)<|Fast.tw3399658132070893891 q) (R.mapR (λx=>x.fst)<|Fast.tw7409074990110511671 q) (R.mapR (λx=>x.name)<|Fast.tw13664370479719496447 q<|Fast.tw821141287760084731 q loose)&&Fast.tw14722251495701143533 s.heap (importedModules p.main.body)&&s.heap.isNs mainGlobals&&s.heap.isNs builtinsNs&&Fast.tw10994771534591457954 q s.heap&&Xt s&&(s.gens.size==0),Fast.tw479339242167458305 q s)
noncomputable def gC(q:Rv)(loose:Ry)(s:Rm):=(Fast.tw16090120013241838585 q (Fast.tw3247288618530077131 q) s,Fast.tw2386780881361962483 q (Fast.tw821141287760084731 q loose) s,Fast.tw11698064438423848299 q loose s,Fast.tw7317090234206586261 q s,Fast.tw7369524293546568484 q loose s)
def left_of{p q:Rv}{loose:Ry}{Xt:Shared->Bool}{α:Type}{Yf:Shared->α}{Ya:World->α}{N:Nat}(U:∀w,(endP p w N).map (λs=>((gA q s,gB p q loose Xt s),gC q loose s))=some ((((openGood q loose).1,(openGood q loose).2.1),(true,true)),(openGood q loose).2.2.2.2))(hD:∀w,(endP p w N).map Yf=some (Ya w)):LeftO p q loose Xt Yf Ya N:=λw=>by
 let{s₁,e,z}:=Zz.mp (U w);let{ab,c}:=W7 z;let{a,b}:=W7 ab;let{_,I,d}:=Zz.mp (hD w);rw[e]at I;cases I;let{Y,Z}:=W7 a;let{b1,b2}:=W7 b;have g:Fast.tw4187177175401517315 q loose (importedModules p.main.body) Xt true s₁=openGood q loose:=by
  exact Prod.ext Y<|Prod.ext Z (Prod.ext b1<|Prod.ext b2 c)
 rw[<-Fast.te4187177175401517315]at g;unfold endP at e;rw[<-Fast.te10274390034422433532,<-Fast.te14364793385576792824,<-Fast.te14289696077712309145]at e;let{s₀,h0,e}:=Option.bind_eq_some_iff.mp e;unfold openEnds fencedOpening;rw[h0];show(topFrom treeTable p w N s₀).map _=_;unfold topFrom;cases O:(s₀.heap.isNs mainGlobals&&s₀.gens.size==0)with
 |false=>rw[O]at e;cases e
 |true=>
  rw[O]at e;let{s₂,h1,e}:=Option.bind_eq_some_iff.mp e;show Option.map _ ((topRun treeTable p w s₀.heap.objs.size (s₀.heap.nsMap mainGlobals "__annotations__") N s₀<|topStub p).bind _)=_;rw[JI h1];cases hs:(staticsOk (importedModules p.main.body) s₀.heap s₂.heap&&namesBound p s₂.heap&&gensDone s₂&&laidKept s₀.heap s₂.heap)with
  |false=>rw[hs]at e;cases e
  |true=>
   rw[hs]at e;cases e;show Option.map _ (match (staticsOk (importedModules p.main.body) s₀.heap s₁.heap&&namesBound p s₁.heap&&gensDone s₁&&laidKept s₀.heap s₁.heap)with|true=>some s₁|false=>none)=_;rw[hs];show some (_,_)=some (_,_);rw[g,d]
def two{α β:Type}{o:Option Shared}{f:Shared->α}{g:Shared->β}{a:α}{b:β}(h:o.map (λs=>(f s,g s))=some (a,b)):o.map f=some a/\o.map g=some b:=by
 cases o with
 |none=>cases h
 |some s=>
  have h:=W7 (VL h);exact{VT some h.1,VT some h.2}
end HD
namespace SW
open PySem L2
set_option maxHeartbeats 0
noncomputable def top(i:Nat):Stmt:=PySem.Challenge.pw_staywalk_k73_whole_walk_by_rows.main.body.getD i (.Pass {0,0,0,0})
abbrev mW:=aN (top 7) 0
abbrev mV:=aN (top 8) 0
abbrev kS:=aN (top 9) 0
abbrev i9:=aN (top 10) 0
abbrev uk:=top 14
abbrev qI:=top 15
abbrev oA:=top 16
abbrev qG:=top 17
abbrev jt:=top 18
abbrev qH:=top 19
abbrev oB:=top 21
abbrev qJ:=top 23
abbrev qF:=top 24
abbrev ig:=aN (top 25) 0
abbrev gf:=aN (top 25) 1
abbrev fq:=aN (top 26) 0
abbrev oG:=aN (top 27) 0
abbrev kR:=aN (top 27) 1
abbrev jL:=aN (top 28) 0
abbrev iC:=aN (top 28) 1
abbrev FJ:=top 31
abbrev fo:=top 32
abbrev dS:=top 33
abbrev dU:=top 34
abbrev kO:=top 35
abbrev gc:=top 36
abbrev gh:=aN (top 45) 0
abbrev eQ:=aN (top 45) 1
abbrev dY:=aN (top 45) 2
abbrev iy:=aN (top 45) 3
abbrev cH:=aN (top 45) 6
abbrev cf:=aN (top 45) 7
abbrev dX:=aN (top 45) 8
abbrev db:=aN (top 45) 9
abbrev cP:=aN (top 45) 10
abbrev iw:=aN (top 47) 0
abbrev iu:=aN (top 47) 1
abbrev gU:=top 51
abbrev iq:=aN (top 52) 0
abbrev jG:=aN (top 52) 1
abbrev ir:=aN (top 52) 2
abbrev jI:=aN (top 52) 3
abbrev jH:=aN (top 52) 4
abbrev eP:=aN (top 52) 6
abbrev kT:=aN (top 52) 7
abbrev dw:=aN (top 52) 9
abbrev io:=aN (top 52) 10
abbrev eG:=aN (top 52) 11
abbrev dW:=aN (top 52) 12
abbrev dE:=aN (top 52) 13
abbrev dF:=aN (top 52) 14
abbrev iz:=aN (top 54) 0
abbrev jJ:=aN (top 54) 1
abbrev iA:=aN (top 54) 2
abbrev jK:=aN (top 54) 3
abbrev iB:=aN (top 54) 15
abbrev eO:=top 59
abbrev ju:=top 60
abbrev jy:=top 61
abbrev jv:=top 62
abbrev uo:=top 64
abbrev jx:=top 69
abbrev hV:=top 70
abbrev jw:=top 71
abbrev uq:=top 72
abbrev jz:=top 74
abbrev hZ:=top 75
abbrev gT:=top 78
abbrev hX:=top 79
abbrev jM:=aN (top 98) 0
abbrev kU:=aN (top 98) 1
abbrev gd:=top 100
abbrev jE:=top 101
abbrev jD:=top 102
abbrev jB:=top 103
abbrev jC:=top 104
abbrev kP:=top 105
abbrev jA:=top 106
abbrev oC:=top 107
abbrev oE:=top 108
abbrev jF:=top 109
abbrev kQ:=top 110
abbrev ie:=top 111
abbrev xF:=top 112
set_option genInjectivity false in
structure NZ where
 Be:Addr
 vg:FuncData
 yj:Addr
 rh:FuncData
 vq:Addr
 oV:FuncData
 yh:Addr
 rf:FuncData
 p8:Addr
 jW:FuncData
 yi:Addr
 rg:FuncData
 vv:Addr
 oW:FuncData
 yk:Addr
 rj:FuncData
 yg:Addr
 rc:FuncData
 i7:Addr
 iN:FuncData
 cW:Addr
 gK:FuncData
 kE:Addr
 cx:FuncData
 vA:Addr
 gJ:FuncData
 rQ:Addr
 lT:FuncData
 qr:Addr
 eB:FuncData
 oe:Addr
 i4:FuncData
 K4:Addr
 AX:FuncData
 kD:Addr
 fB:FuncData
 mf:Addr
 gG:FuncData
 mh:Addr
 gH:FuncData
 rM:Addr
 lO:FuncData
 l9:Addr
 gF:FuncData
 mq:Addr
 gL:FuncData
 nY:Addr
 iW:FuncData
 hJ:Addr
 eh:FuncData
 nV:Addr
 iV:FuncData
 hI:Addr
 d9:FuncData
 fK:Addr
 dq:FuncData
 g9:Addr
 d8:FuncData
 fJ:Addr
 dj:FuncData
 fc:Addr
 cU:FuncData
 nU:Addr
 iU:FuncData
 nS:Addr
 iT:FuncData
 rN:Addr
 lP:FuncData
 nQ:Addr
 iR:FuncData
 ql:Addr
 kg:FuncData
 nR:Addr
 iS:FuncData
 qo:Addr
 kj:FuncData
 qm:Addr
 kh:FuncData
 nP:Addr
 iQ:FuncData
 nO:Addr
 iP:FuncData
 nN:Addr
 iO:FuncData
 jq:Addr
 eK:FuncData
 g8:Addr
 d7:FuncData
 gO:Addr
 dI:FuncData
 gP:Addr
 dJ:FuncData
 nZ:Addr
 iX:FuncData
 qp:Addr
 ko:FuncData
 n8:Addr
 iY:FuncData
 qq:Addr
 kq:FuncData
 n9:Addr
 iZ:FuncData
 nK:Addr
 iI:FuncData
 qa:Addr
 jX:FuncData
 qe:Addr
 j3:FuncData
 qb:Addr
 jY:FuncData
 Bf:Addr
 vh:FuncData
 qd:Addr
 j2:FuncData
 nJ:Addr
 iH:FuncData
 qc:Addr
 jZ:FuncData
 Bg:Addr
 vi:FuncData
 kA:Addr
 j4:FuncData
 i6:Addr
 iK:FuncData
 rL:Addr
 lN:FuncData
 i5:Addr
 iJ:FuncData
 qt:Addr
 kr:FuncData
 rR:Addr
 lW:FuncData
 mi:Addr
 gI:FuncData
 qj:Addr
 j9:FuncData
 qi:Addr
 j8:FuncData
 qg:Addr
 j6:FuncData
 qh:Addr
 j7:FuncData
 rO:Addr
 lQ:FuncData
 qf:Addr
 j5:FuncData
 vx:Addr
 oX:FuncData
 vz:Addr
 oY:FuncData
 qk:Addr
 kf:FuncData
 rP:Addr
 lR:FuncData
 nM:Addr
 iM:FuncData
 K3:Addr
 Dy:FuncData
 bI:Addr
 mN:Addr
 lX:Addr
 eT:Addr
 aQ:Addr
 da:Addr
 b8:Addr
 bC:Addr
 eU:Addr
 aU:Addr
 bj:Addr
 fE:Addr
 Jw:Addr
 pK:List (Str×Nat×Addr)
 EE:Addr
 mG:List (Str×Nat×Addr)
 lK:Addr
end SW
namespace ZK
open PySem PySem.W SW L2
noncomputable abbrev N:Value:= .none
noncomputable abbrev Wh(b:Bool):Value:= .bool b
noncomputable abbrev I(i:Int):Value:= .int i 0
noncomputable abbrev S(x:Str)(t:Nat):Value:= .str x t
noncomputable abbrev F(t:Nat):Value:= .str "/claim/cut.py" t
abbrev _root_.Rl:=Addr
noncomputable abbrev R(a:Rl):Value:= .ref a
noncomputable abbrev T(n:String):Value:= .type n
abbrev _root_.Rp:=Value
noncomputable abbrev E(P:Params)(x:Str)(t:Nat)(v:Rp):DictEntry:={PyData.keyHash P x,.str x t,v}
abbrev _root_.Rr:=List Value
noncomputable abbrev c(vs:Rr):Obj:={.type "code",none,.fields vs.toArray, #[]}
abbrev o(n:Str)(a:Nat)(m:Str)(b d:Nat)(e g h i j:Int)(k:Rl)(l:Int)(r s t u:Rl)(v w:Int)(x:Nat):Obj:=c [S n a,S m b,F d,I e,I g,I h,I i,I j,R k,Wh true,I l,R r,N,R s,R t,R u,I v,I w,F x]
abbrev _root_.RV:=Option Addr
abbrev D(nm qn:Str)(s:Stmt)(df kV dc pm:Rp)(an:RV)(cd ct:Rp):FuncData:=fnOf nm qn (fV s) (c7 s) (aj s) df kV dc pm an cd ct
abbrev _root_.R':=FuncData
noncomputable abbrev f(d:R'):Obj:={.type "function",none,.func d, #[]}
abbrev d10:=λx q s r=>D x q s N N N (S "law_staywalk_k73_whole_walk_by_rows" 1804) none (R r) N
abbrev d11:=λx q s r=>D x q s N N N (S "staywalk.asks" 602) none (R r) N
abbrev d12:=λx q s r=>D x q s N N N (S "staywalk.bits" 378) none (R r) N
abbrev d13:=λx q s r=>D x q s N N N (S "staywalk.desk" 1536) none (R r) N
abbrev d14:=λx q s r=>D x q s N N N (S "staywalk.house" 1203) none (R r) N
abbrev d15:=λx q s r=>D x q s N N N (S "staywalk.leaves" 866) none (R r) N
abbrev d16:=λx q s r=>D x q s N N N (S "staywalk.makes" 979) none (R r) N
abbrev d17:=λx q s r=>D x q s N N N (S "staywalk.orders" 1434) none (R r) N
abbrev d18:=λx q s r=>D x q s N N N (S "staywalk.slots" 1040) none (R r) N
abbrev d19:=λx q s r=>D x q s N N N (S "staywalk.tokens" 442) none (R r) N
abbrev d20:=λx q s r=>D x q s N N N (S "staywalk.words" 1378) none (R r) N
def t:NZ:={165,d12 "turned" "turned" uk 164,172,d12 "mark_of" "mark_of" qI 171,179,d12 "place_of" "place_of" oA 178,186,d12 "slot_of" "slot_of" qG 185,193,d12 "stretch_of" "stretch_of" jt 192,200,d12 "slot_at" "slot_at" qH 199,207,D "is_whole" "is_whole" oB N N N (S "staywalk.wholes" 433) none (R 206) N,214,d19 "is_from" "is_from" qJ 213,221,d19 "word_of" "word_of" qF 220,235,d19 "__init__" "Token.__init__" ig 234,242,d19 "words" "Token.words" gf 241,264,D "__init__" "BySlots.__init__" fq (R 257) N N (S "staywalk.tokens" 442) none (R 263) N,291,D "__init__" "Up.__init__" oG (R 284) N N (S "staywalk.tokens" 442) none (R 290) N,298,d19 "holds" "Up.holds" kR 297,318,D "__init__" "Down.__init__" jL (R 311) N N (S "staywalk.tokens" 442) none (R 317) N,325,d19 "holds" "Down.holds" iC 324,336,D "ask" "ask" FJ (R 331) N N (S "staywalk.asks" 602) none (R 335) N,343,d11 "page_by_slots" "page_by_slots" fo 342,348,d11 "page_by_keys" "page_by_keys" dS 347,353,d11 "keys_of_page" "keys_of_page" dU 352,360,d11 "keys_near" "keys_near" kO 359,367,d11 "token_behind" "token_behind" gc 366,544,d15 "__init__" "Leaves.__init__" gh 543,549,d15 "add" "Leaves.add" eQ 548,556,d15 "discard" "Leaves.discard" dY 555,563,d15 "has" "Leaves.has" iy 562,580,d15 "from_on" "Leaves.from_on" cH 579,585,d15 "down_from" "Leaves.down_from" cf 584,592,d15 "leaf_of" "Leaves.leaf_of" dX 591,599,d15 "part_leaf" "Leaves.part_leaf" db 598,606,d15 "join_small" "Leaves.join_small" cP 605,627,d16 "__init__" "Makes.__init__" iw 626,634,d16 "note" "Makes.note" iu 633,665,d18 "empty_row" "empty_row" gU 664,679,d18 "__init__" "Slots.__init__" iq 678,686,d18 "put" "Slots.put" jG 685,693,d18 "drop" "Slots.drop" ir 692,700,d18 "get" "Slots.get" jI 699,707,d18 "has" "Slots.has" jH 706,719,d18 "rows" "Slots.rows" eP 718,738,d18 "span" "Slots.span" dw 737,745,d18 "stop" "Slots.stop" io 744,752,d18 "cell_of" "Slots.cell_of" eG 751,759,d18 "lying_at" "Slots.lying_at" dW 758,766,d18 "move_slot" "Slots.move_slot" dE 765,773,d18 "begin_row" "Slots.begin_row" dF 772,794,d14 "__init__" "House.__init__" iz 793,801,d14 "put" "House.put" jJ 800,808,d14 "drop" "House.drop" iA 807,815,d14 "get" "House.get" jK 814,899,d14 "done" "House.done" iB 898,925,d20 "are_figures" "are_figures" eO 924,932,d20 "read_whole" "read_whole" ju 931,939,d20 "read_bound" "read_bound" jy 938,946,d20 "read_token" "read_token" jv 945,953,D "row_of" "row_of" uo N N N (S "staywalk.kept" 1418) none (R 952) N,988,d17 "read_order" "read_order" jx 987,995,d17 "read_things" "read_things" hV 994,1002,d17 "read_thing" "read_thing" jw 1001,1009,d17 "may_be" "may_be" uq 1008,1016,d13 "answer_put" "answer_put" jz 1015,1023,d13 "answer_drop" "answer_drop" hZ 1022,1042,d13 "page_told" "page_told" gT 1041,1049,d13 "answer_page" "answer_page" hX 1048,1176,d13 "__init__" "Desk.__init__" jM 1175,1183,d13 "say" "Desk.say" kU 1182,1197,d10 "_law_cell_at" "_law_cell_at" gd 1196,1204,d10 "_law_drawn" "_law_drawn" jE 1203,1211,d10 "_law_draws" "_law_draws" jD 1210,1218,d10 "_law_place" "_law_place" jB 1217,1225,d10 "_law_holds" "_law_holds" jC 1224,1232,d10 "_law_rank" "_law_rank" kP 1231,1239,d10 "_law_words" "_law_words" jA 1238,1246,d10 "_law_put" "_law_put" oC 1245,1253,d10 "_law_key" "_law_key" oE 1252,1260,d10 "_law_deeds" "_law_deeds" jF 1259,1267,d10 "_law_page" "_law_page" kQ 1266,1274,d10 "_law_bounds" "_law_bounds" ie 1273,1279,d10 "law" "law" xF 1278,31,44,56,245,274,301,328,609,656,776,916,1186,959,[("put",1436,960),("drop",1440,961),("get",1443,962),("many",1446,963),("page",1448,964),("hold",1452,965),("free",1454,966),("sweep",1457,967),("now",1459,968),("at",1461,969),("past",1465,970),("copy",1470,971),("open",1473,972),("read",1475,973),("close",1478,974),("follow",1480,975),("show",1483,976),("covers",1485,978),("total",1487,979),("stop",1488,980),("keep",1489,981)],1160,[("put",1712,1016),("drop",1714,1023),("get",1716,1030),("many",1718,1037),("page",1720,1049),("hold",1722,1056),("free",1724,1063),("sweep",1726,1070),("now",1728,1077),("at",1730,1084),("past",1732,1091),("copy",1734,1098),("open",1736,1105),("read",1738,1112),("close",1740,1119),("follow",1742,1126),("show",1744,1131),("covers",1746,1138),("total",1747,1145),("stop",1748,1152),("keep",1749,1159)],1162}
abbrev ob(n m:Str)(a:Nat)(e g:Int)(k:Rl)(v:Nat):=o n a m (a+1) (a+2) e g 0 0 3 k 181 (k+1) (k+2) (k+3) (k+4) v e (v+1)
abbrev oa(n:Str):=ob n n
abbrev ea(P:Params)(x:Str)(t:Nat)(a:Rl):=E P x t (R a)
def K:Params->Frag:=λP=>(!2,{N,none,.dict #[] 0, #[]})::
(!3,{(T "dict"),none,.dict #[E P "__name__" 165 (S "law_staywalk_k73_whole_walk_by_rows" 1804),E P "__doc__" 166 N,E P "__package__" 167 N,E P "__loader__" 168 (.builtin "__main__.__loader__#opaque"),E P "__spec__" 169 N,ea P "__annotations__" 170 6,ea P "__builtins__" 171 4,E P "__file__" 173 (S "/claim/cut.py" 172),E P "__cached__" 174 N,ea P "_wall" 193 21,ea P "WalkError" 213 31,ea P "NoToken" 229 44,ea P "NoText" 245 56,ea P "NoRow" 261 68,ea P "OutOfTurn" 277 80,ea P "NoKey" 302 99,ea P "Twice" 327 118,ea P "TooOld" 352 137,ea P "NoMoment" 377 156,E P "BITS" 381 (.int 16 380),E P "PLACES" 383 (.int 65536 382),ea P "turned" 393 165,ea P "mark_of" 400 172,ea P "place_of" 407 179,ea P "slot_of" 415 186,ea P "stretch_of" 424 193,ea P "slot_at" 432 200,ea P "is_whole" 441 207,ea P "is_from" 451 214,ea P "word_of" 458 221,ea P "Token" 498 245,ea P "BySlots" 533 274,ea P "Up" 567 301,ea P "Down" 601 328,E P "STRETCHES_A_KEY" 605 (.int 4 604),ea P "ask" 612 336,ea P "page_by_slots" 625 343,ea P "page_by_keys" 631 348,ea P "keys_of_page" 637 353,ea P "keys_near" 646 360,ea P "token_behind" 654 367,ea P "is_left" 664 374,ea P "change" 672 381,ea P "Page" 732 419,ea P "Copier" 865 526,E P "MOST_IN_LEAF" 869 (.int 8 868),E P "LEAST_IN_TWO" 871 (.int 5 870),ea P "Leaves" 978 609,ea P "Makes" 1039 656,E P "LEAST_SIZE" 1043 (.int 4 1042),E P "GREATEST_SIZE" 1045 (.int 256 1044),ea P "empty_row" 1051 665,ea P "Slots" 1202 776,ea P "House" 1377 916,E P "FIGURES" 1381 (S "0123456789" 1380),E P "MOST_FIGURES" 1383 (.int 60 1382),E P "WORDS_OF_TOKEN" 1385 (.int 3 1384),ea P "are_figures" 1391 925,ea P "read_whole" 1400 932,ea P "read_bound" 1407 939,ea P "read_token" 1417 946,ea P "row_of" 1427 953,ea P "rows_of" 1433 958,ea P "FORMS" 1494 959,E P "MOST_KEYS" 1496 (.int 100 1495),ea P "read_order" 1506 988,ea P "read_things" 1518 995,ea P "read_thing" 1527 1002,ea P "may_be" 1535 1009,ea P "answer_put" 1545 1016,ea P "answer_drop" 1553 1023,ea P "answer_get" 1561 1030,ea P "answer_many" 1569 1037,ea P "page_told" 1575 1042,ea P "answer_page" 1583 1049,ea P "answer_hold" 1591 1056,ea P "answer_free" 1599 1063,ea P "answer_sweep" 1607 1070,ea P "answer_now" 1615 1077,ea P "answer_at" 1624 1084,ea P "answer_past" 1632 1091,ea P "answer_copy" 1640 1098,ea P "answer_open" 1648 1105,ea P "answer_read" 1656 1112,ea P "answer_close" 1664 1119,ea P "answer_follow" 1672 1126,ea P "answer_show" 1678 1131,ea P "answer_covers" 1686 1138,ea P "answer_total" 1694 1145,ea P "answer_stop" 1703 1152,ea P "answer_keep" 1711 1159,ea P "ANSWERS" 1754 1160,ea P "OF_COPIER" 1763 1162,ea P "Desk" 1803 1186,ea P "_law_cell_at" 1813 1197,ea P "_law_drawn" 1822 1204,ea P "_law_draws" 1833 1211,ea P "_law_place" 1843 1218,ea P "_law_holds" 1853 1225,ea P "_law_rank" 1861 1232,ea P "_law_words" 1871 1239,ea P "_law_put" 1881 1246,ea P "_law_key" 1890 1253,ea P "_law_deeds" 1903 1260,ea P "_law_page" 1918 1267,ea P "_law_bounds" 1928 1274,ea P "law" 1934 1279] 107, #[]})::
(!30,{(T "dict"),none,.dict #[E P "__module__" 203 (S "staywalk.errors" 194),E P "__firstlineno__" 207 (.int 5 206),ea P "__static_attributes__" 208 29,ea P "__weakref__" 210 32,E P "__doc__" 211 N] 3, #[]})::
(!31,{(T "type"),none,.cls {"WalkError",[(T "ValueError")],[(R 31),(T "ValueError"),(T "Exception"),(T "BaseException"),(T "object")],30,"WalkError",true,[],[(R 44),(R 56),(R 68),(R 80),(R 99),(R 118),(R 137),(R 156)],false,none,false}, #[some (R 22),none,some (S "WalkError" 196),some (S "WalkError" 204),some (.builtin "ValueError.__new__"),some (Wh true)]})::
(!43,{(T "dict"),none,.dict #[E P "__module__" 221 (S "staywalk.errors" 194),E P "__firstlineno__" 225 (.int 7 224),ea P "__static_attributes__" 226 42,E P "__doc__" 227 N] 2, #[]})::
(!44,{(T "type"),none,.cls {"NoToken",[(R 31)],[(R 44),(R 31),(T "ValueError"),(T "Exception"),(T "BaseException"),(T "object")],43,"NoToken",true,[],[],false,none,false}, #[some (R 35),none,some (S "NoToken" 214),some (S "NoToken" 222),some (.builtin "ValueError.__new__"),some (Wh true)]})::
(!55,{(T "dict"),none,.dict #[E P "__module__" 237 (S "staywalk.errors" 194),E P "__firstlineno__" 241 (.int 9 240),ea P "__static_attributes__" 242 54,E P "__doc__" 243 N] 2, #[]})::
(!56,{(T "type"),none,.cls {"NoText",[(R 31)],[(R 56),(R 31),(T "ValueError"),(T "Exception"),(T "BaseException"),(T "object")],55,"NoText",true,[],[],false,none,false}, #[some (R 47),none,some (S "NoText" 230),some (S "NoText" 238),some (.builtin "ValueError.__new__"),some (Wh true)]})::
(!164,oa "turned" 384 38 1 159 391)::
(!165,f t.vg)::
(!171,oa "mark_of" 394 45 1 166 398)::
(!172,f t.rh)::
(!178,oa "place_of" 401 47 1 173 405)::
(!179,f t.oV)::
(!185,oa "slot_of" 408 49 2 180 413)::
(!186,f t.rf)::
(!192,oa "stretch_of" 416 51 2 187 422)::
(!193,f t.jW)::
(!199,oa "slot_at" 425 54 2 194 430)::
(!200,f t.rg)::
(!206,oa "is_whole" 435 57 1 201 439)::
(!207,f t.oW)::
(!213,oa "is_from" 444 60 2 208 449)::
(!214,f t.rj)::
(!220,oa "word_of" 452 62 1 215 456)::
(!221,f t.rc)::
(!234,ob "__init__" "Token.__init__" 471 66 4 229 478)::
(!235,f t.iN)::
(!241,ob "words" "Token.words" 481 71 1 236 485)::
(!242,f t.gK)::
(!244,{(T "dict"),none,.dict #[E P "__module__" 466 (S "staywalk.tokens" 442),E P "__firstlineno__" 470 (.int 64 469),ea P "__init__" 480 235,ea P "words" 487 242,ea P "__static_attributes__" 491 243,ea P "__dict__" 493 246,ea P "__weakref__" 495 247,E P "__doc__" 496 N] 4, #[]})::
(!245,{(T "type"),none,.cls {"Token",[(T "object")],[(R 245),(T "object")],244,"Token",true,[],[(R 274),(R 301),(R 328)],false,none,false}, #[none,none,some (S "Token" 459),some (S "Token" 467),some (.builtin "object.__new__"),some (Wh true)]})::
(!257,{(T "tuple"),none,.seq #[(.int 0 511),(.int 65536 512)] 0, #[]})::
(!263,ob "__init__" "BySlots.__init__" 513 75 3 258 519)::
(!264,f t.cx)::
(!273,{(T "dict"),none,.dict #[E P "__module__" 506 (S "staywalk.tokens" 442),E P "__firstlineno__" 510 (.int 73 509),ea P "__init__" 521 264,ea P "holds" 529 271,ea P "__static_attributes__" 530 272,E P "__doc__" 531 N] 2, #[]})::
(!274,{(T "type"),none,.cls {"BySlots",[(R 245)],[(R 274),(R 245),(T "object")],273,"BySlots",true,[],[],false,none,false}, #[some (R 250),none,some (S "BySlots" 499),some (S "BySlots" 507),some (.builtin "object.__new__"),some (Wh true)]})::
(!284,{(T "tuple"),none,.seq #[(.int 0 546),N] 0, #[]})::
(!290,ob "__init__" "Up.__init__" 547 84 3 285 553)::
(!291,f t.gJ)::
(!297,ob "holds" "Up.holds" 556 89 2 292 561)::
(!298,f t.lT)::
(!300,{(T "dict"),none,.dict #[E P "__module__" 541 (S "staywalk.tokens" 442),E P "__firstlineno__" 545 (.int 82 544),ea P "__init__" 555 291,ea P "holds" 563 298,ea P "__static_attributes__" 564 299,E P "__doc__" 565 N] 2, #[]})::
(!301,{(T "type"),none,.cls {"Up",[(R 245)],[(R 301),(R 245),(T "object")],300,"Up",true,[],[],false,none,false}, #[some (R 277),none,some (S "Up" 534),some (S "Up" 542),some (.builtin "object.__new__"),some (Wh true)]})::
(!311,{(T "tuple"),none,.seq #[N,(.int 0 580)] 0, #[]})::
(!317,ob "__init__" "Down.__init__" 581 93 3 312 587)::
(!318,f t.eB)::
(!324,ob "holds" "Down.holds" 590 98 2 319 595)::
(!325,f t.i4)::
(!327,{(T "dict"),none,.dict #[E P "__module__" 575 (S "staywalk.tokens" 442),E P "__firstlineno__" 579 (.int 91 578),ea P "__init__" 589 318,ea P "holds" 597 325,ea P "__static_attributes__" 598 326,E P "__doc__" 599 N] 2, #[]})::
(!328,{(T "type"),none,.cls {"Down",[(R 245)],[(R 328),(R 245),(T "object")],327,"Down",true,[],[],false,none,false}, #[some (R 304),none,some (S "Down" 568),some (S "Down" 576),some (.builtin "object.__new__"),some (Wh true)]})::
(!331,{(T "tuple"),none,.seq #[(.int 10 606),N] 0, #[]})::
(!335,c [(S "ask" 607),(S "ask" 608),(F 609),(I 102),(I 4),(I 0),(I 0),(I 3),(R 332),(Wh true),(I 181),(R 333),N,N,N,(R 334),(I 610),(I 102),(F 611)])::
(!336,f t.AX)::
(!342,oa "page_by_slots" 613 110 3 337 623)::
(!343,f t.fB)::
(!347,c [(S "page_by_keys" 626),(S "page_by_keys" 627),(F 628),(I 124),(I 3),(I 0),(I 0),(I 3),(R 344),(Wh true),(I 181),(R 345),N,N,N,(R 346),(I 629),(I 124),(F 630)])::
(!348,f t.gG)::
(!352,c [(S "keys_of_page" 632),(S "keys_of_page" 633),(F 634),(I 127),(I 3),(I 0),(I 0),(I 3),(R 349),(Wh true),(I 181),(R 350),N,N,N,(R 351),(I 635),(I 127),(F 636)])::
(!353,f t.gH)::
(!359,oa "keys_near" 638 136 3 354 644)::
(!360,f t.lO)::
(!366,oa "token_behind" 647 140 2 361 652)::
(!367,f t.gF)::
(!543,ob "__init__" "Leaves.__init__" 884 256 1 538 888)::
(!544,f t.gL)::
(!548,c [(S "add" 891),(S "Leaves.add" 892),(F 893),(I 259),(I 2),(I 0),(I 0),(I 3),(R 545),(Wh true),(I 181),(R 546),N,N,N,(R 547),(I 894),(I 259),(F 895)])::
(!549,f t.iW)::
(!555,ob "discard" "Leaves.discard" 897 271 2 550 903)::
(!556,f t.eh)::
(!562,ob "has" "Leaves.has" 906 282 2 557 912)::
(!563,f t.iV)::
(!579,c [(S "from_on" 928),(S "Leaves.from_on" 929),(F 930),(I 292),(I 3),(I 0),(I 0),(I 3),(R 576),(Wh true),(I 181),(R 577),N,N,N,(R 578),(I 931),(I 292),(F 932)])::
(!580,f t.d9)::
(!584,c [(S "down_from" 934),(S "Leaves.down_from" 935),(F 936),(I 300),(I 3),(I 0),(I 0),(I 3),(R 581),(Wh true),(I 181),(R 582),N,N,N,(R 583),(I 937),(I 300),(F 938)])::
(!585,f t.dq)::
(!591,ob "leaf_of" "Leaves.leaf_of" 940 310 2 586 948)::
(!592,f t.d8)::
(!598,ob "part_leaf" "Leaves.part_leaf" 951 321 2 593 958)::
(!599,f t.dj)::
(!605,ob "join_small" "Leaves.join_small" 961 327 2 600 967)::
(!606,f t.cU)::
(!608,{(T "dict"),none,.dict #[E P "__module__" 879 (S "staywalk.leaves" 866),E P "__firstlineno__" 883 (.int 254 882),ea P "__init__" 890 544,ea P "add" 896 549,ea P "discard" 905 556,ea P "has" 914 563,ea P "many" 920 568,ea P "all_of" 927 575,ea P "from_on" 933 580,ea P "down_from" 939 585,ea P "leaf_of" 950 592,ea P "part_leaf" 960 599,ea P "join_small" 969 606,ea P "__static_attributes__" 971 607,ea P "__dict__" 973 610,ea P "__weakref__" 975 611,E P "__doc__" 976 N] 4, #[]})::
(!609,{(T "type"),none,.cls {"Leaves",[(T "object")],[(R 609),(T "object")],608,"Leaves",true,[],[],false,none,false}, #[none,none,some (S "Leaves" 872),some (S "Leaves" 880),some (.builtin "object.__new__"),some (Wh true)]})::
(!626,ob "__init__" "Makes.__init__" 993 337 1 621 997)::
(!627,f t.iU)::
(!633,ob "note" "Makes.note" 1000 340 3 628 1006)::
(!634,f t.iT)::
(!655,{(T "dict"),none,.dict #[E P "__module__" 988 (S "staywalk.makes" 979),E P "__firstlineno__" 992 (.int 335 991),ea P "__init__" 999 627,ea P "note" 1008 634,ea P "all_told" 1015 641,ea P "value_at" 1024 648,ea P "sweep" 1030 653,ea P "__static_attributes__" 1032 654,ea P "__dict__" 1034 657,ea P "__weakref__" 1036 658,E P "__doc__" 1037 N] 4, #[]})::
(!656,{(T "type"),none,.cls {"Makes",[(T "object")],[(R 656),(T "object")],655,"Makes",true,[],[],false,none,false}, #[none,none,some (S "Makes" 981),some (S "Makes" 989),some (.builtin "object.__new__"),some (Wh true)]})::
(!664,c [(S "empty_row" 1046),(S "empty_row" 1047),(F 1048),(I 363),(I 1),(I 0),(I 0),(I 3),(R 661),(Wh true),(I 181),(R 662),N,N,N,(R 663),(I 1049),(I 363),(F 1050)])::
(!665,f t.lP)::
(!678,ob "__init__" "Slots.__init__" 1064 367 1 673 1068)::
(!679,f t.iR)::
(!685,ob "put" "Slots.put" 1071 372 3 680 1078)::
(!686,f t.kg)::
(!692,ob "drop" "Slots.drop" 1081 380 2 687 1086)::
(!693,f t.iS)::
(!699,ob "get" "Slots.get" 1089 388 2 694 1095)::
(!700,f t.kj)::
(!706,ob "has" "Slots.has" 1098 394 2 701 1103)::
(!707,f t.kh)::
(!718,c [(S "rows" 1113),(S "Slots.rows" 1114),(F 1115),(I 400),(I 1),(I 0),(I 0),(I 3),(R 715),(Wh true),(I 181),(R 716),N,N,N,(R 717),(I 1116),(I 400),(F 1117)])::
(!719,f t.iQ)::
(!737,c [(S "span" 1133),(S "Slots.span" 1134),(F 1135),(I 409),(I 3),(I 0),(I 0),(I 3),(R 734),(Wh true),(I 181),(R 735),N,N,N,(R 736),(I 1136),(I 409),(F 1137)])::
(!738,f t.iP)::
(!744,ob "stop" "Slots.stop" 1139 419 2 739 1145)::
(!745,f t.iO)::
(!751,ob "cell_of" "Slots.cell_of" 1148 423 2 746 1156)::
(!752,f t.eK)::
(!758,ob "lying_at" "Slots.lying_at" 1159 431 2 753 1170)::
(!759,f t.d7)::
(!765,ob "move_slot" "Slots.move_slot" 1173 440 1 760 1181)::
(!766,f t.dI)::
(!772,ob "begin_row" "Slots.begin_row" 1184 453 1 767 1189)::
(!773,f t.dJ)::
(!775,{(T "dict"),none,.dict #[E P "__module__" 1059 (S "staywalk.slots" 1040),E P "__firstlineno__" 1063 (.int 365 1062),ea P "__init__" 1070 679,ea P "put" 1080 686,ea P "drop" 1088 693,ea P "get" 1097 700,ea P "has" 1105 707,ea P "many" 1112 714,ea P "rows" 1118 719,ea P "moved" 1125 726,ea P "cells" 1132 733,ea P "span" 1138 738,ea P "stop" 1147 745,ea P "cell_of" 1158 752,ea P "lying_at" 1172 759,ea P "move_slot" 1183 766,ea P "begin_row" 1191 773,ea P "__static_attributes__" 1195 774,ea P "__dict__" 1197 777,ea P "__weakref__" 1199 778,E P "__doc__" 1200 N] 4, #[]})::
(!776,{(T "type"),none,.cls {"Slots",[(T "object")],[(R 776),(T "object")],775,"Slots",true,[],[],false,none,false}, #[none,none,some (S "Slots" 1052),some (S "Slots" 1060),some (.builtin "object.__new__"),some (Wh true)]})::
(!793,ob "__init__" "House.__init__" 1217 464 1 788 1221)::
(!794,f t.iX)::
(!800,ob "put" "House.put" 1224 474 3 795 1230)::
(!801,f t.ko)::
(!807,ob "drop" "House.drop" 1233 480 2 802 1238)::
(!808,f t.iY)::
(!814,ob "get" "House.get" 1241 485 2 809 1246)::
(!815,f t.kq)::
(!898,ob "done" "House.done" 1335 539 3 893 1342)::
(!899,f t.iZ)::
(!915,{(T "dict"),none,.dict #[E P "__module__" 1212 (S "staywalk.house" 1203),E P "__firstlineno__" 1216 (.int 462 1215),ea P "__init__" 1223 794,ea P "put" 1232 801,ea P "drop" 1240 808,ea P "get" 1248 815,ea P "has" 1256 822,ea P "many" 1263 829,ea P "lay_mark" 1270 836,ea P "diary" 1279 844,ea P "makes" 1287 851,ea P "hold" 1294 858,ea P "let_go" 1302 865,ea P "held" 1309 872,ea P "sweep" 1318 879,ea P "was" 1327 886,ea P "page_at" 1334 892,ea P "done" 1344 899,ea P "refuse_outside" 1352 906,ea P "value_then" 1361 913,ea P "__static_attributes__" 1370 914,ea P "__dict__" 1372 917,ea P "__weakref__" 1374 918,E P "__doc__" 1375 N] 4, #[]})::
(!916,{(T "type"),none,.cls {"House",[(T "object")],[(R 916),(T "object")],915,"House",true,[],[],false,none,false}, #[none,none,some (S "House" 1205),some (S "House" 1213),some (.builtin "object.__new__"),some (Wh true)]})::
(!924,c [(S "are_figures" 1386),(S "are_figures" 1387),(F 1388),(I 558),(I 1),(I 0),(I 0),(I 3),(R 921),(Wh true),(I 181),(R 922),N,N,N,(R 923),(I 1389),(I 558),(F 1390)])::
(!925,f t.iI)::
(!931,oa "read_whole" 1392 564 1 926 1398)::
(!932,f t.jX)::
(!938,oa "read_bound" 1401 572 1 933 1405)::
(!939,f t.j3)::
(!945,oa "read_token" 1408 579 1 940 1415)::
(!946,f t.jY)::
(!952,oa "row_of" 1420 595 2 947 1425)::
(!953,f t.vh)::
(!959,{(T "dict"),none,.dict #[ea P "put" 1436 960,ea P "drop" 1440 961,ea P "get" 1443 962,ea P "many" 1446 963,ea P "page" 1448 964,ea P "hold" 1452 965,ea P "free" 1454 966,ea P "sweep" 1457 967,ea P "now" 1459 968,ea P "at" 1461 969,ea P "past" 1465 970,ea P "copy" 1470 971,ea P "open" 1473 972,ea P "read" 1475 973,ea P "close" 1478 974,ea P "follow" 1480 975,ea P "show" 1483 976,ea P "covers" 1485 978,ea P "total" 1487 979,ea P "stop" 1488 980,ea P "keep" 1489 981] 21, #[]})::
(!960,{(T "tuple"),none,.seq #[(S "KEY" 1437),(S "VALUE" 1438)] 0, #[]})::
(!961,{(T "tuple"),none,.seq #[(S "KEY" 1441)] 0, #[]})::
(!964,{(T "tuple"),none,.seq #[(S "TOKEN" 1449),(S "MANY" 1450)] 0, #[]})::
(!987,oa "read_order" 1497 603 1 982 1504)::
(!988,f t.j2)::
(!994,oa "read_things" 1507 614 2 989 1516)::
(!995,f t.iH)::
(!1001,oa "read_thing" 1519 624 2 996 1525)::
(!1002,f t.jZ)::
(!1008,oa "may_be" 1528 634 2 1003 1533)::
(!1009,f t.vi)::
(!1015,oa "answer_put" 1538 641 2 1010 1543)::
(!1016,f t.j4)::
(!1022,oa "answer_drop" 1546 644 2 1017 1551)::
(!1023,f t.iK)::
(!1041,c [(S "page_told" 1570),(S "page_told" 1571),(F 1572),(I 651),(I 1),(I 0),(I 0),(I 3),(R 1038),(Wh true),(I 181),(R 1039),N,N,N,(R 1040),(I 1573),(I 651),(F 1574)])::
(!1042,f t.lN)::
(!1048,oa "answer_page" 1576 656 2 1043 1581)::
(!1049,f t.iJ)::
(!1160,{(T "dict"),none,.dict #[ea P "put" 1712 1016,ea P "drop" 1714 1023,ea P "get" 1716 1030,ea P "many" 1718 1037,ea P "page" 1720 1049,ea P "hold" 1722 1056,ea P "free" 1724 1063,ea P "sweep" 1726 1070,ea P "now" 1728 1077,ea P "at" 1730 1084,ea P "past" 1732 1091,ea P "copy" 1734 1098,ea P "open" 1736 1105,ea P "read" 1738 1112,ea P "close" 1740 1119,ea P "follow" 1742 1126,ea P "show" 1744 1131,ea P "covers" 1746 1138,ea P "total" 1747 1145,ea P "stop" 1748 1152,ea P "keep" 1749 1159] 21, #[]})::
(!1162,{(T "tuple"),none,.seq #[(S "open" 1755),(S "read" 1756),(S "close" 1757),(S "follow" 1758),(S "show" 1759),(S "covers" 1760),(S "total" 1761),(S "stop" 1762)] 0, #[]})::
(!1175,ob "__init__" "Desk.__init__" 1776 702 1 1170 1780)::
(!1176,f t.kr)::
(!1182,ob "say" "Desk.say" 1783 706 2 1177 1791)::
(!1183,f t.lW)::
(!1185,{(T "dict"),none,.dict #[E P "__module__" 1771 (S "staywalk.desk" 1536),E P "__firstlineno__" 1775 (.int 700 1774),ea P "__init__" 1782 1176,ea P "say" 1793 1183,ea P "__static_attributes__" 1796 1184,ea P "__dict__" 1798 1187,ea P "__weakref__" 1800 1188,E P "__doc__" 1801 N] 4, #[]})::
(!1186,{(T "type"),none,.cls {"Desk",[(T "object")],[(R 1186),(T "object")],1185,"Desk",true,[],[],false,none,false}, #[none,none,some (S "Desk" 1764),some (S "Desk" 1772),some (.builtin "object.__new__"),some (Wh true)]})::
(!1196,oa "_law_cell_at" 1806 714 2 1191 1811)::
(!1197,f t.gI)::
(!1203,oa "_law_drawn" 1814 718 2 1198 1820)::
(!1204,f t.j9)::
(!1210,oa "_law_draws" 1823 722 3 1205 1831)::
(!1211,f t.j8)::
(!1217,oa "_law_place" 1834 731 1 1212 1841)::
(!1218,f t.j6)::
(!1224,oa "_law_holds" 1844 738 4 1219 1851)::
(!1225,f t.j7)::
(!1231,oa "_law_rank" 1854 744 2 1226 1859)::
(!1232,f t.lQ)::
(!1238,oa "_law_words" 1862 748 3 1233 1869)::
(!1239,f t.j5)::
(!1245,oa "_law_put" 1872 755 4 1240 1879)::
(!1246,f t.oX)::
(!1252,oa "_law_key" 1882 760 2 1247 1888)::
(!1253,f t.oY)::
(!1259,oa "_law_deeds" 1891 767 4 1254 1901)::
(!1260,f t.kf)::
(!1266,oa "_law_page" 1904 779 6 1261 1916)::
(!1267,f t.lR)::
(!1273,oa "_law_bounds" 1919 791 2 1268 1926)::
(!1274,f t.iM)::
(!1278,c [(S "law" 1929),(S "law" 1930),(F 1931),(I 797),(I 1),(I 0),(I 0),(I 3),(R 1275),(Wh true),(I 181),(R 1276),N,N,N,(R 1277),(I 1932),(I 797),(F 1933)])::
(!1279,f t.Dy)::[]
noncomputable abbrev as:List Addr:=[2,3,30,31,43,44,55,56,164,165,171,172,178,179,185,186,192,193,199,200,206,207,213,214,220,221,234,235,241,242,244,245,257,263,264,273,274,284,290,291,297,298,300,301,311,317,318,324,325,327,328,331,335,336,342,343,347,348,352,353,359,360,366,367,543,544,548,549,555,556,562,563,579,580,584,585,591,592,598,599,605,606,608,609,626,627,633,634,655,656,664,665,678,679,685,686,692,693,699,700,706,707,718,719,737,738,744,745,751,752,758,759,765,766,772,773,775,776,793,794,800,801,807,808,814,815,898,899,915,916,924,925,931,932,938,939,945,946,952,953,959,960,961,964,987,988,994,995,1001,1002,1008,1009,1015,1016,1022,1023,1041,1042,1048,1049,1160,1162,1175,1176,1182,1183,1185,1186,1196,1197,1203,1204,1210,1211,1217,1218,1224,1225,1231,1232,1238,1239,1245,1246,1252,1253,1259,1260,1266,1267,1273,1274,1278,1279]
noncomputable abbrev p:Program:=PySem.Challenge.pw_staywalk_k73_whole_walk_by_rows
abbrev q:Program:=view p [112]
abbrev H:Hook:=kHook K as λ_=>rfl
def said:OpenLaw.wellSaid PySem.Challenge.rw_staywalk_k73_whole_walk_by_rows=true:=by
 rw[Fast.te9446332074065402090]
 kernel_rfl
noncomputable abbrev M':Nat:=19304
noncomputable abbrev L:List Str:="__name__"::"__doc__"::"__package__"::"__loader__"::"__spec__"::"__annotations__"::"__builtins__"::"__file__"::"__cached__"::"_wall"::"WalkError"::"NoToken"::"NoText"::"NoRow"::"OutOfTurn"::"NoKey"::"Twice"::"TooOld"::"NoMoment"::"BITS"::"PLACES"::"turned"::"mark_of"::"place_of"::"slot_of"::"stretch_of"::"slot_at"::"is_whole"::"is_from"::"word_of"::"Token"::"BySlots"::"Up"::"Down"::"STRETCHES_A_KEY"::"ask"::"page_by_slots"::"page_by_keys"::"keys_of_page"::"keys_near"::"token_behind"::"is_left"::"change"::"Page"::"Copier"::"MOST_IN_LEAF"::"LEAST_IN_TWO"::"Leaves"::"Makes"::"LEAST_SIZE"::"GREATEST_SIZE"::"empty_row"::"Slots"::"House"::"FIGURES"::"MOST_FIGURES"::"WORDS_OF_TOKEN"::"are_figures"::"read_whole"::"read_bound"::"read_token"::"row_of"::"rows_of"::"FORMS"::"MOST_KEYS"::"read_order"::"read_things"::"read_thing"::"may_be"::"answer_put"::"answer_drop"::"answer_get"::"answer_many"::"page_told"::"answer_page"::"answer_hold"::"answer_free"::"answer_sweep"::"answer_now"::"answer_at"::"answer_past"::"answer_copy"::"answer_open"::"answer_read"::"answer_close"::"answer_follow"::"answer_show"::"answer_covers"::"answer_total"::"answer_stop"::"answer_keep"::"ANSWERS"::"OF_COPIER"::"Desk"::"_law_cell_at"::"_law_drawn"::"_law_draws"::"_law_place"::"_law_holds"::"_law_rank"::"_law_words"::"_law_put"::"_law_key"::"_law_deeds"::"_law_page"::"_law_bounds"::[]
abbrev X:Shared->Bool:=λs=>xlAt q [] s&&recOk [] s
def lAf:∀w:World,(HD.endP p (w.withFollow "special-get-raises" false) M').map (λs=>(((HD.gA q s,HD.gB p q L X s),HD.gC q L s),Hook.obs H s))=some (((((openGood q L).1,(openGood q L).2.1),(true,true)),(openGood q L).2.2.2.2),Hook.val H (w.withFollow "special-get-raises" false)):=λw=>by kernel_rfl
def lAt:∀w:World,(HD.endP p (w.withFollow "special-get-raises" true) M').map (λs=>(((HD.gA q s,HD.gB p q L X s),HD.gC q L s),Hook.obs H s))=some (((((openGood q L).1,(openGood q L).2.1),(true,true)),(openGood q L).2.2.2.2),Hook.val H (w.withFollow "special-get-raises" true)):=λw=>by kernel_rfl
def lA:∀w,(HD.endP p w M').map (λs=>(((HD.gA q s,HD.gB p q L X s),HD.gC q L s),Hook.obs H s))=some (((((openGood q L).1,(openGood q L).2.1),(true,true)),(openGood q L).2.2.2.2),Hook.val H w):=byRow2 "special-get-raises" lAf lAt
def left:LeftO p q L X (Hook.obs H) (Hook.val H) M':=HD.left_of (λw=>(HD.two<|lA w).1) (λw=>(HD.two<|lA w).2)
end ZK
abbrev cC:="self"
abbrev eN:="_law_key_here"
abbrev eR:="key"
abbrev ff:="_law_kind"
abbrev fx:="_law_high"
abbrev ge:="_law_kept"
abbrev gp:="_law_draws_here"
abbrev gr:="_law_low"
abbrev gt:="list"
abbrev hW:="token"
abbrev jj:="_law_script"
abbrev kt:="leaves"
abbrev lg:="__debug__"
abbrev lm:="_law_told"
abbrev ly:="_law_stayed"
abbrev lU:="__init__"
abbrev lV:="_law_words_here"
abbrev l6:="tuple"
abbrev mu:="value"
abbrev nj:="_law_cell"
abbrev nC:="_law_k"
abbrev nE:="_law_many"
abbrev nX:="_law_seen"
abbrev pM:="object.__class__"
abbrev p7:="end"
abbrev u4:="page"
abbrev vo:="type.__call__"
abbrev vt:="range"
abbrev vB:="ValueError.__new__"
abbrev wf:="_law_found"
abbrev wh:="at"
abbrev zp:="_law_way"
abbrev z9:="thing"
abbrev J':="next "
abbrev K':="size"
abbrev L':="many"
abbrev O':="most"
abbrev P':="drop"
abbrev Ra:="text"
abbrev Rb:=" "
abbrev Rc:="house"
abbrev Re:="slots"
abbrev Rf:="given"
abbrev Rg:="0123456789"
abbrev Rh:="TOKEN"
abbrev Ri:="_law_first"
abbrev Rj:="_law_other"
abbrev Rk:="_law_cells"
namespace L2
open PySem PySem.Spec PyProof.Rows
abbrev Key:=Sum Int Str
noncomputable def lJ:Key->Value->Bool
 | .inl k,v=>Value.isInt k v
 | .inr x,v=>Value.isStrOf x v
noncomputable def keyH(w:Ru):Key->Int
 | .inl k=>hashInt k
 | .inr x=>hashStr w x
def bY:∀{k:Key}{v:Rp},lJ k v=true->(∃i t,k=Sum.inl i/\v=Value.int i t)\/(∃x t,k=Sum.inr x/\v=Value.str x t)
 | .inl i,v,h=>by
  let{t,e}:=Value.isInt_shape (k:=i) (v:=v) h;exact .inl ⟨i,t,M,e⟩
 | .inr x,v,h=>by
  let{t,e}:=Value.isStrOf_shape (x:=x) (v:=v) h;exact .inr ⟨x,t,M,e⟩
def ED(i:Int)(t:Tok):lJ (.inl i) (.int i t)=true:=by simp[lJ,Value.isInt]
def EC(x:Str)(t:Tok):lJ (.inr x) (.str x t)=true:=by simp[lJ,Value.isStrOf]
def Mc(a b:Int):decide ((Sum.inl a:Key)=Sum.inl b)=(a==b):=by
 by_cases e:a=b
 .subst e;simp
 .have h:¬(Sum.inl a:Key)=Sum.inl b:=λq=>e (Sum.inl.inj q);rw[VJ h];exact(VQ.mpr e).symm
def L9(a b:Str):decide ((Sum.inr a:Key)=Sum.inr b)=decide (a=b):=by
 by_cases e:a=b
 .subst e;simp
 .have h:¬(Sum.inr a:Key)=Sum.inr b:=λq=>e (Sum.inr.inj q);rw[VJ h,VJ e]
def Mb(a:Int)(b:Str):decide ((Sum.inl a:Key)=Sum.inr b)=false:=VJ (λq=>nomatch q)
def Ma(a:Str)(b:Int):decide ((Sum.inr a:Key)=Sum.inl b)=false:=VJ (λq=>nomatch q)
def bx(prog:Rv)(w:Ru):PySem.KeyKind prog w Key where
 is:=lJ
 hash:=keyH w
 inj:=λv a b ha hb=>by
  rcases bY ha with⟨i,t,rfl,rfl⟩|⟨x,t,rfl,rfl⟩
  .rcases bY hb with⟨j,u,rfl,e⟩|⟨y,u,rfl,e⟩
   .injection e with e1 _;rw[e1]
   .exact nomatch e
  .rcases bY hb with⟨j,u,rfl,e⟩|⟨y,u,rfl,e⟩
   .exact nomatch e
   .injection e with e1 _;rw[e1]
 byValue:=λk v h=>by
  rcases bY h with⟨i,t,rfl,rfl⟩|⟨x,t,rfl,rfl⟩<;>rfl
 pyHash:=λhv h=>by
  rcases bY hv with⟨i,t,rfl,rfl⟩|⟨x,t,rfl,rfl⟩
  .exact wpAny_pyHash_int h
  .exact wpAny_pyHash_str h
 eqBool:=λhu hv h=>by
  rcases bY hu with⟨i,t,rfl,rfl⟩|⟨x,t,rfl,rfl⟩
  .rcases bY hv with⟨j,u,rfl,rfl⟩|⟨y,u,rfl,rfl⟩
   .rw[Mc]at h;exact wpAny_eqBool_int h
   .rw[Mb]at h;exact SeqAt.EqAt.int_str i t y u _ _ _ _ h
  .rcases bY hv with⟨j,u,rfl,rfl⟩|⟨y,u,rfl,rfl⟩
   .rw[Ma]at h;exact SeqAt.EqAt.str_int x t j u _ _ _ _ h
   .rw[L9]at h;exact wpAny_eqBool_str h
 «strs»:=λk x t v h=>by
  rcases bY h with⟨i,u,rfl,e⟩|⟨y,u,rfl,e⟩
  .exact nomatch e
  .injection e with e1 _;subst e1;cases v<;>rfl
def Cc(prog:Rv)(w:Ru)(k:Key)(v:Rp):(bx prog w).is k v=lJ k v:=rfl
def AC(prog:Rv)(w:Ru)(i:Int)(t:Tok):(bx prog w).is (.inl i) (.int i t)=true:=ED i t
def lH(prog:Rv)(w:Ru)(x:Str)(t:Tok):(bx prog w).is (.inr x) (.str x t)=true:=EC x t
inductive V where
 |non|bl (b:Bool)|int (i:Int)|str (x:Str)|byt (b:Array UInt8)|flt (b:UInt64)|ref (a:Rl)|ty (n:String)
 deriving DecidableEq
abbrev _root_.Rq:=List V
variable{a b:Rl}{o u:HO}{h h':Heap}{H:Hp}{xs:Rq}{us:Rr}{P:Rv}{x:V}{w:Ru}
def RelV:V->Value->Prop
 | .non,u=>u=Value.none
 | .bl b,u=>u=Value.bool b
 | .int i,u=>∃t,u=Value.int i t
 | .str x,u=>∃t,u=Value.str x t
 | .byt b,u=>∃t,u=Value.bytes b t
 | .flt b,u=>∃t,u=Value.float b t
 | .ref a,u=>u=Value.ref a
 | .ty n,u=>u=Value.type n
abbrev HV:List V->List Value->Prop:=Paired RelV
def HV.length(r:HV xs us):xs.length=us.length:=Paired.length r
def HV.get{i:Nat}(h:HV xs us)(e:xs[i]?=some x):∃u,us[i]?=some u/\RelV x u:=by
 induction h generalizing i with
 |nil=>cases e
 |cons r t z=>cases i with
  |zero=>cases e;exact{_,M,r}
  |succ i=>exact z e
def HV.set{u:Rp}(r:RelV x u)(i:Nat)(h:HV xs us):HV (xs.set i x) (us.set i u):=by
 induction h generalizing i with
 |nil=>exact .nil
 |cons q t z=>cases i with
  |zero=>exact .cons r t
  |succ i=>exact .cons q<|z i
def HV.append{ys:Rq}{ws:Rr}(h:HV xs us)(s:HV ys ws):HV (xs++ys) (us++ws):=by
 induction h with
 |nil=>exact s
 |cons r t z=>exact .cons r z
theorem HV.take:∀{xs:Rq}{us:Rr}(n:Nat),HV xs us->HV (xs.take n) (us.take n)
 |_,_,0,_=> .nil
 |_,_,_+1,.nil=> .nil
 |_,_,n+1,.cons r t=> .cons r (HV.take n t)
theorem HV.drop:∀{xs:Rq}{us:Rr}(n:Nat),HV xs us->HV (xs.drop n) (us.drop n)
 |_,_,0,r=>r
 |_,_,_+1,.nil=> .nil
 |_,_,n+1,.cons _ t=>HV.drop n t
def OZ:Option V->Option Value->Prop
 |some v,some u=>RelV v u
 |none,none=>True
 |_,_=>False
def KV{κ:Type}:List (κ×V)->List (κ×Value)->Prop:=Paired λ(p:κ×V)(q:κ×Value)=>p.1=q.1/\RelV p.2 q.2
noncomputable def kV:Key->V
 | .inl i=> .int i
 | .inr x=> .str x
abbrev _root_.RX:=List (Str×V)
abbrev _root_.RY:=List (Key×V)
abbrev _root_.Sd:=Array Value
abbrev _root_.Sh:=Int->Bool
abbrev _root_.Sj:=List (List Key×V)
inductive HO where
 |lst(xs:Rq)
 |tup(xs:Rq)
 |dK (kvs:RY)|dT (kvs:Sj)
 |set(S:Sh)(n:Nat)
 |ins(C dx:Rl)(fs:RX)
 |own(x:Rl)
 |xd(fs:RX)
 |met(f x:Rl)
 |rng(lo hi:Int)
 |frz(o:Obj)(u:HO)
 |tbl(ps:Sd)
 |ext(φ:Heap->Prop)
abbrev Hp:=Addr->Option HO
def upd(H:Hp)(a:Rl)(o:HO):Hp:=λb=>if b=a then some o else H b
def A9:upd H a o a=some o:=by unfold upd;rw[VB M]
def ag(h:b≠a):upd H a o b=H b:=by unfold upd;rw[VA h]
def cY:upd (upd H a o) a u=upd H a u:=by
 funext b;unfold upd;split<;>rfl
def cw(h:H a=some o)(h':H b=some u)(d:o≠u):a≠b:=by
 intro e;subst e;rw[h]at h';exact d<|VL h'
def am(h:H a=some o)(h':H b=none):a≠b:=by
 intro e;subst e;rw[h]at h';cases h'
section
variable(P:Rv)(w:Ru)
def N6(H:Hp)(h:Heap)(a:Rl):HO->Prop
 | .lst xs=>xs.length<=sizeLine/\∃(its:Rr)(n:Nat),HV xs its/\h.get? a=some {cls:= .type gt,data:= .seq its.toArray n}
 | .tup xs=>xs.length<=sizeLine/\∃its:List Value,HV xs its/\IsTup h a its.toArray
 | .dK kvs=>kvs.length<=sizeLine/\(a==sysModules)=false/\∃vs,KV kvs vs/\h.DictOf (bx P w) a vs
 | .dT kvs=>kvs.length<=sizeLine/\(a==sysModules)=false/\∃xs:List (List Key×Addr×Value),
   Paired (λ(p:List Key×V)(q:List Key×Addr×Value)=>p.1=q.1/\H q.2.1=some (.tup<|p.1.map kV)/\RelV p.2 q.2.2) kvs xs/\
   ∃o es ep,h.get? a=some o/\o.ExactDict/\o.data= .dict es ep/\es.toList=xs.map (entryOfKey<|tupleKind<|bx P w)/\(xs.map (·.1)).Nodup
 | .set S n=>h.SetOf (intKind P w) a S n
 | .ins C dx fs=>H dx=some (.own a)/\fs.length<=1000/\dx≠a/\h.get? a=some (PySem.W.instObj C dx)/\
   ∃mA,h.Ns1 dx mA/\(∀f,OZ (fs.lookup f) (mA f))/\PySem.Within mA (fs.map (·.1))
 | .own _=>∃o,h.get? a=some o
 | .xd fs=>∃mA,h.Ns1 a mA/\∀f,OZ (fs.lookup f) (mA f)
 | .rng lo hi=>∃t u v,h.get? a=some {cls:= .type vt,data:= .fields #[.int lo t,.int hi u,.int 1 v]}
 | .frz o u=>h.get? a=some o/\N6 H h a u
 | .tbl ps=>h.get? a=some {cls:= .none,data:= .fields ps}
 | .met f x=>h.get? a=some (PySem.W.methodObj (.ref f)<|.ref x)
 | .ext φ=>φ h/\(∃o,h.get? a=some o)/\∀h1 h2:Heap,φ h1->(∀o,h1.get? a=some o->h2.get? a=some o)->φ h2
def OK(H:Hp)(h:Heap):Prop:=∀a o,H a=some o->N6 P w H h a o
end
section
variable{H':Hp}
def N6.lt(x:N6 P w H h a o):a<h.objs.size:=by
 cases o with
 |lst xs=>let{_,_,_,_,e}:=x;exact VM e
 |tup xs=>let{_,_,_,p}:=x;exact p.lt
 |dK kvs=>let{_,_,_,_,o,_,_,e,_}:=x;exact VM e
 |dT kvs=>let{_,_,_,_,o,_,_,e,_}:=x;exact VM e
 |set S n=>let{o,_,_,_,e,_}:=x;exact VM e
 |ins C dx fs=>let{_,_,_,e,_}:=x;exact VM e
 |own y=>let{_,e}:=x;exact VM e
 |xd fs=>let{_,{_,_,_,e,_},_}:=x;exact VM e
 |rng lo hi=>let{_,_,_,e}:=x;exact VM e
 |frz ob u=>let{e,_}:=x;exact VM e
 |tbl ps=>exact VM<|show h.get? a=some _ from x
 |met f y=>exact VM<|show h.get? a=some _ from x
 |ext φ=>let{_,{_,e},_}:=x;exact VM e
def Paired.mapP{α β:Type}{F G:α->β->Prop}{l₁:List α}{l₂:List β}(h:Paired F l₁ l₂)(f:∀a b,F a b->G a b):Paired G l₁ l₂:=by
 induction h with
 |nil=>exact .nil
 |cons r t z=>exact .cons (f _ _ r) z
def N6.stay(x:N6 P w H h a o)(k:∀b u,(b=a\/H b=some (.own a))->h.get? b=some u->h'.get? b=some u)
  (I:∀b,H b=some (.own a)->H' b=some (.own a)) (O:∀b xs,H b=some (.tup xs)->H' b=some (.tup xs)):N6 P w H' h' a o:=by
 induction o with
 |lst xs=>let{z,its,n,r,e}:=x;exact{z,its,n,r,k _ _ (.inl M) e}
 |tup xs=>let{z,its,r,ob,e,c}:=x;exact{z,its,r,ob,k _ _ (.inl M) e,c}
 |dK kvs=>let{z,y,vs,r,ob,es,ep,e,c}:=x;exact{z,y,vs,r,ob,es,ep,k _ _ (.inl M) e,c}
 |dT kvs=>
  let{z,y,xs,r,ob,es,ep,e,c}:=x;exact{z,y,xs,Paired.mapP r λp q z=>{z.1,O _ _ z.2.1,z.2.2},ob,es,ep,k _ _ (.inl M) e,c}
 |set S n=>let{ob,es,ep,t,e,c}:=x;exact{ob,es,ep,t,k _ _ (.inl M) e,c}
 |ins C dx fs=>
  let{d,z,U,e,mA,{od,es,ep,e2,c},r}:=x;exact{I _ d,z,U,k _ _ (.inl M) e,mA,{od,es,ep,k _ _ (.inr d) e2,c},r}
 |own y=>let{ob,e}:=x;exact{ob,k _ _ (.inl M) e}
 |xd fs=>let{mA,{od,es,ep,e,c},r}:=x;exact{mA,{od,es,ep,k _ _ (.inl M) e,c},r}
 |rng lo hi=>let{t,u,v,e}:=x;exact{t,u,v,k _ _ (.inl M) e}
 |frz ob u Y=>let{e,q}:=x;exact{k _ _ (.inl M) e,Y q}
 |tbl ps=>
  have e:h.get? a=some {cls:= .none,data:= .fields ps}:=x;show h'.get? a=some {cls:= .none,data:= .fields ps};exact k a _ (.inl M) e
 |met f y=>
  have e:h.get? a=some (PySem.W.methodObj (.ref f)<|.ref y):=x;show h'.get? a=some (PySem.W.methodObj (.ref f)<|.ref y);exact k a _ (.inl M) e
 |ext φ=>let{p,{o,e},st}:=x;exact{st _ _ p λo q=>k _ _ (.inl M) q,{o,k _ _ (.inl M) e},st}
def OK.lt(x:OK P w H h)(e:H a=some o):a<h.objs.size:=(x a o e).lt
def OK.fresh(x:OK P w H h)(e:h.objs.size<=a):H a=none:=by
 cases q:H a with
 |none=>rfl
 |some u=>exact VG (Qu (x.lt q) e)<|ZD _
def OK.kept(x:OK P w H h)(k:∀b u,h.get? b=some u->h'.get? b=some u):OK P w H h':=λa o e=>
 (x a o e).stay (λb u _ q=>k b u q) (λ_ q=>q) λ_ _ q=>q
def OK.laid(x:OK P w H h)(k:∀b u,h.get? b=some u->h'.get? b=some u)(I:h.objs.size<=a)(new:N6 P w (upd H a o) h' a o):OK P w (upd H a o) h':=λb u e=>by
 have z:=x.fresh I;by_cases hb:b=a
 .subst hb;rw[A9]at e;cases e;exact new
 .rw[ag hb]at e;exact(x b u e).stay (λc v _ q=>k c v q) (λc q=>by rw[ag (am q z)];exact q) λc xs q=>by rw[ag (am q z)];exact q
end
def Rd(H:Hp)(a:Rl)(u:HO):Prop:=H a=some u\/∃o,H a=some (.frz o u)
def Rd.ok(r:Rd H a u)(x:OK P w H h):N6 P w H h a u:=by
 rcases r with r|⟨o,r⟩
 .exact x a u r
 .let{_,q}:=x a _ r;exact q
def Mut:Option HO->Prop
 |some (.lst _)=>True
 |some (.dK _)=>True
 |some (.dT _)=>True
 |some (.set _ _)=>True
 |some (.ins _ _ _)=>True
 |some (.ext _)=>True
 |_=>False
section
variable{x e:Rl}{o':HO}
def OK.write(ok:OK P w H h)(Y:Mut (H x))(he:e=x\/H e=some (.own x))(k:∀b u,b≠e->h.get? b=some u->h'.get? b=some u)(Z:∃u,h'.get? e=some u)
  (new:N6 P w (upd H x o') h' x o'):OK P w (upd H x o') h':=λb u q=>by
 have O:∀c y,H c=some (.own y)->c≠x:=λc y r z=>by subst z;rw[r]at Y;exact Y
 have U:∀c xs,H c=some (.tup xs)->c≠x:=λc xs r z=>by subst z;rw[r]at Y;exact Y
 by_cases hb:b=x
 .subst hb;rw[A9]at q;cases q;exact new
 .rw[ag hb]at q;by_cases I:b=e
  .have q':H b=some (.own x):=by
    rcases he with z|z
    .exact VG (I.trans z) hb
    .rwa[I]
   rw[q]at q';cases q';let{v,hv}:=Z;exact{v,by rwa[I]}
  .refine(ok b u q).stay (λc v hc r=>k c v ?_ r) (λc r=>by rwa[ag (O c b r)]) λc xs r=>by rwa[ag (U c xs r)]
   rcases hc with rfl|hc
   .exact I
   .rintro rfl;rcases he with z|z
    .exact O c b hc z
    .rw[hc]at z;cases z;exact hb M
end
abbrev _root_.Rz:=List Addr
structure Un(fs ex:Rz)(H H':Hp)(h h':Heap):Prop where
 keep:∀b o,h.get? b=some o->H b=none->b∉fs->b∉ex->h'.get? b=some o
 slot:∀b o,h.get? b=some o->H b=none->b∈fs->b∉ex->∃sl,h'.get? b=some {o with slots:=sl}
 free:∀b o,h.get? b=some o->H b=none->b∉ex->H' b=none
 there:∀b o,h.get? b=some o->b∉ex->∃o',h'.get? b=some o'
 tups:∀b xs,H b=some (.tup xs)->H' b=some (.tup xs)
 frzs:∀b o u,H b=some (.frz o u)->H' b=some (.frz o u)
 tbls:∀b ps,H b=some (.tbl ps)->∃more,H' b=some (.tbl<|ps++more)
section
variable{fs fs' ex ex':Rz}{H1 H2:Hp}{h1 h2:Heap}{x e:Rl}
def Un.any(u:Un fs ex H H1 h h1){ob:Obj}(q:h.get? b=some ob)(n:H b=none)(hx:b∉ex):∃z,h1.get? b=some {ob with slots:=z}:=by
 by_cases hb:b∈fs
 .exact u.slot b ob q n hb hx
 .exact{ob.slots,u.keep b ob q n hb hx}
def Un.kept(k:∀b u,h.get? b=some u->h'.get? b=some u):Un fs ex H H h h':=
 {λb ob q _ _ _=>k b ob q,λb ob q _ _ _=>{ob.slots,k b ob q},λ_ _ _ n _=>n,λb ob q _=>{ob,k b ob q},λ_ _ q=>q,λ_ _ _ q=>q,λ_ ps q=>{#[],by rw[q];simp}}
def Un.refl:Un fs ex H H h h:=Un.kept λ_ _ q=>q
def Un.laid(k:∀b u,h.get? b=some u->h'.get? b=some u)(I:h.objs.size<=a)(z:H a=none):Un fs ex H (upd H a o) h h' where
 keep:=λb u q _ _ _=>k b u q
 slot:=λb u q _ _ _=>{u.slots,k b u q}
 free:=λb u q n _=>by rwa[ag (QH<|Qu (VM q) I)]
 there:=λb u q _=>{u,k b u q}
 tups:=λb xs q=>by rw[ag (am q z)];exact q
 frzs:=λb u xs q=>by rw[ag (am q z)];exact q
 tbls:=λb ps q=>{#[],by rw[ag (am q z),q];simp}
def Un.write(O:Mut (H x))(he:e=x\/H e=some (.own x))(k:∀b u,b≠e->h.get? b=some u->h'.get? b=some u)(U:∃u,h'.get? e=some u):Un fs ex H (upd H x o) h h':=by
 have hx:∀b,H b=none->b≠x:=λb n z=>by subst z;rw[n]at O;exact O
 have hb:∀b,H b=none->b≠e:=λb n z=>by
  subst z;rcases he with r|r
  .exact hx b n r
  .rw[n]at r;cases r
 have Y:∀b u,H b=some u->¬Mut (some u)->b≠x:=λb u q nm z=>by subst z;rw[q]at O;exact nm O
 refine{λb u q n _ _=>k b u (hb b n) q,λb u q n _ _=>{u.slots,k b u (hb b n) q},λb u q n _=>by rwa[ag (hx b n)],λb u q _=>?_,
  λb xs q=>by rw[ag (Y b _ q λz=>z)];exact q,λb u xs q=>by rw[ag (Y b _ q λz=>z)];exact q,λb ps q=>{#[],by rw[ag (Y b _ q λz=>z),q];simp}}
 by_cases I:b=e
 .subst I;exact U
 .exact{u,k b u I q}
end
def Pp(h:Heap)(H:Hp):List Addr:=(List.range h.objs.size).filter λa=>(H a).isSome
def zk(h:Heap)(H:Hp):Heap:=PySem.W.hideAll h (Pp h H)
def EK(h:Heap)(H:Hp):(zk h H).objs.size=h.objs.size:=PySem.W.hideAll_size _ _
def GJ{o:Obj}(e:h.get? b=some o)(n:H b=none):(zk h H).get? b=some o:=
 PySem.W.hideAll_get _ e λz=>by
  have q:(H b).isSome=true:=(QC.mp z).2;rw[n]at q;simp at q
def IV{o:Obj}(e:(zk h H).get? b=some o):h.get? b=some o/\H b=none:=by
 have I:h.get? b=some o:=PySem.W.of_hideAll (Pp h H) e;refine{I,?_};cases q:H b with
 |none=>rfl
 |some x=>
  have O:b∈Pp h H:=QC.mpr {Vq.mpr<|VM I,by simp[q]};have z:(zk h H).get? b=none:=PySem.W.hideAll_none (Pp h H) O;rw[z]at e;cases e
abbrev Wi:=PySem.W.Frag
abbrev _root_.Rx:=List (Addr×Obj)
abbrev _root_.RS:=Value->Shared->Prop
abbrev _root_.RU:=Around
abbrev _root_.Sa:=List Env
abbrev _root_.Sg:=List Expr
abbrev _root_.Sm:=List (Str×Value)
variable{C a b dx f it:Rl}{A:RU}{g':Array GenState}{CX:CXT}{op:CmpOp}{X:Cx}{d':Drawn}{c e l tg:Expr}{fd:R'}{base h h':Heap}{H H':Hp}{lo:Int}{g:Int->Int->Int}{W:Rx}{kw:Sm}{ch fp:Rz}{outer:Sa}{es:Sg}{body:List Stmt}{N ps:Ry}{vs xs:Rq}{us:Rr}{M':Model}{i j n t':Nat}{o:Option Value}{p pos pos':Pos}{P prog:Rv}{K:Wi}{r:R2}{R:Result->Shared->Prop}{scope:Scope}{s s':Rm}{sp:Sp}{B:St}{m name qual x:Str}{t ta te tl:TE}{tb:TS}{tc:TT}{v y:V}{u:Rp}{E Q:RS}{rd:V->V->Hp->VK->Prop}{w:Ru}
abbrev _root_.RT:=Str->Option Value
structure Mod(K:Wi)(mg:RT)(base:Heap):Prop where
 kin:K.In base
 glob:base.Ns mainGlobals mg
 blt:∃mb,base.Ns builtinsNs mb/\∀x:Str,x≠"__name__"->mb x=bootBuiltins x
 nolimit:base.NoLimit
set_option genInjectivity false in
structure Cx where
 prog:Program
 w:World
 K:Wi
 mg:Str->Option Value
 base:Heap
 A:Around
 N:List Str
 s₀:Shared
 H₀:Hp
 env:Env
 outer:List Env
 stack:List Env
 ex:List Addr
 fn:Str->Bool
 calm:Bool
 pn:List (Addr×Obj)
 xe:Value->Shared->Prop
noncomputable def Ou(l:Sa):List Addr:=l.filterMap (·.frame)
abbrev Cx.fs(X:Cx):List Addr:=Ou X.outer
def RL(sc:Scope)(x:Str):Prop:=sc.names.lookup x=some .local\/sc.names.lookup x=some .cell\/sc.names.lookup x=some .free
def Loc(sc:Scope)(x:Str):Prop:=sc.names.lookup x=some .local\/sc.names.lookup x=some .cell
def Look(env:Env)(h:Heap)(m:RT)(x:Str)(u:Rp):Prop:=
 (env.kindOf x=some .local/\m x=some u)\/((env.kindOf x=some .cell\/env.kindOf x=some .free)/\∃c,env.cells.lookup x=some c/\h.IsCell c (some u))
structure Cx.Ok(X:Cx):Prop where
 mod:Mod X.K X.mg X.base
 kind:X.env.scope.kind= .function
 glob:X.env.globals=mainGlobals
 blt:X.env.builtins=builtinsNs
 above:X.s₀.heap.objs.size<=X.env.locals
 inj:∀x y c,X.env.cells.lookup x=some c->X.env.cells.lookup y=some c->x=y
 has:∀x,(X.env.kindOf x=some .cell\/X.env.kindOf x=some .free)->∃c,X.env.cells.lookup x=some c
 cab:∀x c,X.fn x=true->X.env.cells.lookup x=some c->X.s₀.heap.objs.size<=c
 hd:X.calm=true->X.A.handled=none
 frames:X.A.frames=some X.stack
 stk:X.stack=X.outer\/(X.stack=X.env::X.outer/\X.env.frame=some X.env.locals)
 exf:∀b∈X.ex,b≠X.env.locals/\∀x c,X.env.cells.lookup x=some c->c≠b
 bs:∀b o,X.base.get? b=some o->X.s₀.heap.get? b=some o/\X.H₀ b=none
 bsz:X.base.objs.size<=X.s₀.heap.objs.size
 noex:∀b o,X.base.get? b=some o->b∉X.ex
 exfs:∀b∈X.ex,b∉X.fs
 funs:X.s₀.heap.FunFrames X.base X.outer
 frf:∀b∈X.fs,X.H₀ b=none
structure Inv(X:Cx)(W:Rx)(B:List (Option V))(H:Hp)(s:Rm):Prop where
 ok:X.Ok
 os:s.os=X.s₀.os
 bare:AllBare s.gens
 base:Un X.fs X.ex X.H₀ H X.s₀.heap s.heap
 loc:∃m,s.heap.Ns X.env.locals m/\∀(i:Nat)(x:Str)(v:V),X.N[i]?=some x->B[i]?=some (some v)->RL X.env.scope x->∃u,RelV v u/\Look X.env s.heap m x u
 cell:∀x c,X.env.cells.lookup x=some c->∃v,s.heap.IsCell c v
 free:H X.env.locals=none
 freeC:∀x c,X.env.cells.lookup x=some c->H c=none
 pin:∀p∈X.pn++W,s.heap.get? p.1=some p.2/\H p.1=none/\p.1≠X.env.locals/\p.1∉X.fs/\∀v,p.2.data≠ .cell v
 hok:OK X.prog X.w H s.heap
 len:B.length=X.N.length
section
variable{B:List (Option V)}
def Cx.Ok.nofr(ok:X.Ok){o:Obj}(e:X.base.get? b=some o):b∉X.fs:=λhb=>by
 have:=(ok.funs.mem hb).1;rw[e]at this;cases this
def Inv.bs(I:Inv X W B H s):∀b o,X.base.get? b=some o->s.heap.get? b=some o/\H b=none:=λb o e=>
 {I.base.keep b o (I.ok.bs b o e).1 (I.ok.bs b o e).2 (I.ok.nofr e)<|I.ok.noex b o e,I.base.free b o (I.ok.bs b o e).1 (I.ok.bs b o e).2<|I.ok.noex b o e}
def Inv.bk(I:Inv X W B H s):∀b o,X.base.get? b=some o->s.heap.get? b=some o:=λb o e=>(I.bs b o e).1
def Inv.mod(I:Inv X W B H s):Mod X.K X.mg X.base:=I.ok.mod
def Inv.kIn(I:Inv X W B H s):X.K.In s.heap:=I.ok.mod.kin.keeps I.bk
def Inv.lt(I:Inv X W B H s):X.env.locals<s.heap.objs.size:=by let{_,z,_}:=I.loc;exact z.lt
def Inv.sz(I:Inv X W B H s):X.s₀.heap.objs.size<=s.heap.objs.size:=Qr I.ok.above (QX I.lt)
def Inv.nofs(I:Inv X W B H s)(h:s.heap.objs.size<=a):a∉X.fs:=λhb=>by
 let{_,o,z,_}:=I.ok.funs.mem hb;exact VG (Qu (VM z)<|Qr I.sz h)<|ZD _
def Inv.cne(I:Inv X W B H s):∀x c,X.env.cells.lookup x=some c->c≠X.env.locals:=λx c e z=>by
 let{v,o,Y,hd}:=I.cell x c e;let{m,{o',es,ep,O,U,_},_}:=I.loc;rw[z,O]at Y;cases Y;rw[U]at hd;cases hd
def Inv.funs(I:Inv X W B H s):s.heap.FunFrames X.base X.outer:=by
 have all:∀(l:Sa),(∀b∈Ou l,b∈X.fs)->X.s₀.heap.FunFrames X.base l->s.heap.FunFrames X.base l:=by
  intro l
  induction l with
  |nil=>intro _ _;trivial
  |cons env r U=>
   intro hs hl;let{hk,{L,o,hf,Y,Z,hd},hr}:=hl;have O:L∈X.fs:=hs L (by unfold Ou;rw[XU,hf];exact Q6);let{sl,e}:=I.base.slot L o Z (I.ok.frf L O) O λz=>I.ok.exfs L z O;exact{hk,{L,_,hf,Y,e,hd},U (λb hb=>hs b<|by unfold Ou;rw[XU,hf];exact Qa _ hb) hr}
 exact all X.outer (λ_ hb=>hb) I.ok.funs
def Inv.stack(I:Inv X W B H s):s.heap.FunFrames X.base X.stack:=by
 rcases I.ok.stk with e|⟨e,hf⟩
 .rw[e];exact I.funs
 .rw[e];let{m,z,_}:=I.loc;refine .cons (by rw[I.ok.kind];decide) hf z ?_ I.funs;exact Wf<|Qr I.ok.bsz I.ok.above
def Inv.stkSub(I:Inv X W B H s):∀b∈Ou X.stack,b∈X.env.locals::X.fs:=λb hb=>by
 rcases I.ok.stk with e|⟨e,hf⟩
 .rw[e]at hb;exact Qa _ hb
 .rw[e]at hb;unfold Ou at hb;rw[XU,hf]at hb;exact hb
def Inv.stkFree(I:Inv X W B H s):∀b∈Ou X.stack,H b=none:=λb hb=>by
 rcases Qb.mp (I.stkSub b hb)with e|hb
 .rw[e];exact I.free
 .let{_,o,O,_}:=I.ok.funs.mem hb;exact I.base.free b o O (I.ok.frf b hb) λz=>I.ok.exfs b z hb
def Inv.step(I:Inv X W B H s)
  (O:∀b∈ch,(b∈X.ex\/X.s₀.heap.objs.size<=b)/\b≠X.env.locals/\(∀x c,X.env.cells.lookup x=some c->c≠b)/\∀p∈X.pn++W,p.1≠b)
  (keep:∀b o,b≠X.env.locals->b∉X.fs->b∉ch->s.heap.get? b=some o->H b=none->h'.get? b=some o)
  (slot:∀b o,b≠X.env.locals->b∈X.fs->b∉ch->s.heap.get? b=some o->H b=none->∃sl,h'.get? b=some {o with slots:=sl}) (free:∀b o,b∉ch->s.heap.get? b=some o->H b=none->H' b=none)
  (there:∀b o,b∉ch->s.heap.get? b=some o->∃o',h'.get? b=some o')
  (tups:∀b xs,H b=some (.tup xs)->H' b=some (.tup xs)) (frzs:∀b o u,H b=some (.frz o u)->H' b=some (.frz o u)) (tbls:∀b ps,H b=some (.tbl ps)->∃a0,H' b=some (.tbl<|ps++a0))
  (ns:∀m,s.heap.Ns X.env.locals m->h'.Ns X.env.locals m) (hok:OK X.prog X.w H' h') (hg:AllBare g'):
  Inv X W B H' {s with heap:=h',gens:=g',drawn:=d',toks:=t'}:=by
 have a1:∀b o,X.s₀.heap.get? b=some o->b≠X.env.locals:=λb o e=>QH (Qu (VM e) I.ok.above);have Z:∀b o,X.s₀.heap.get? b=some o->b∉X.ex->b∉ch:=λb o e hx hb=>by
  rcases(O b hb).1 with z|z
  .exact hx z
  .exact VG (Qu (VM e) z)<|ZD _
 have U:∀x c,X.env.cells.lookup x=some c->∀v,s.heap.IsCell c v->h'.IsCell c v:=λx c e v ⟨o,ho,hd⟩=>by
  have Y:c∉ch:=λz=>(O c z).2.2.1 x c e M;by_cases hc:c∈X.fs
  .let{sl,q}:=slot c o (I.cne x c e) hc Y ho (I.freeC x c e);exact{_,q,hd}
  .exact{o,keep c o (I.cne x c e) hc Y ho<|I.freeC x c e,hd}
 refine{I.ok,I.os,hg,{λb o e n hb hx=>?_,λb o e n hb hx=>?_,λb o e n hx=>?_,λb o e hx=>?_,λb xs e=>tups b xs<|I.base.tups b xs e,λb o xs e=>frzs b o xs<|I.base.frzs b o xs e,λb ps e=>?_},?_,λx c e=>?_,?_,λx c e=>?_,λp hp=>?_,hok,I.len}
 .exact keep b o (a1 b o e) hb (Z b o e hx) (I.base.keep b o e n hb hx)<|I.base.free b o e n hx
 .let{sl,e1}:=I.base.slot b o e n hb hx;let{a2,e2}:=slot b _ (a1 b o e) hb (Z b o e hx) e1 (I.base.free b o e n hx);exact⟨a2,e2⟩
 .let{o',e1}:=I.base.there b o e hx;exact free b o' (Z b o e hx) e1<|I.base.free b o e n hx
 .let{o',e1}:=I.base.there b o e hx;exact there b o' (Z b o e hx) e1
 .let{m1,e1}:=I.base.tbls b ps e;let{m2,e2}:=tbls b _ e1;exact{m1++m2,by rw[e2,Array.append_assoc]}
 .let{m,hn,hl}:=I.loc;refine{m,ns m hn,λi x v e1 e2 e3=>?_};let{u,r,l}:=hl i x v e1 e2 e3;refine{u,r,?_};rcases l with l|⟨k,c,e,z⟩
  .exact .inl l
  .exact .inr {k,c,e,U x c e _ z}
 .let{v,z}:=I.cell x c e;exact{v,U x c e v z}
 .let{m,{o,_,_,ho,_},_}:=I.loc;exact free _ o (λz=>(O _ z).2.1 rfl) ho I.free
 .let{v,o,ho,hd}:=I.cell x c e;exact free c o (λz=>(O c z).2.2.1 x c e M) ho<|I.freeC x c e
 .let{e,n,ne,nf,d}:=I.pin p hp;have Y:p.1∉ch:=λz=>(O p.1 z).2.2.2 p hp M;exact{keep p.1 p.2 ne nf Y e n,free p.1 p.2 Y e n,ne,nf,d}
def Inv.un(I:Inv X W B H s)(u:Un X.fs [] H H' s.heap h')(hok:OK X.prog X.w H' h'):Inv X W B H' {s with heap:=h',toks:=t'}:=by
 let{m,{o,es,ep,Z,r},_}:=id I.loc;let{sl,hL}:=u.any Z I.free (by simp);exact I.step (g':=s.gens) (d':=s.drawn) (ch:=[]) (λ_ z=>nomatch z) (λb o _ hb _ e n=>u.keep b o e n hb<|by simp) (λb o _ hb _ e n=>u.slot b o e n hb<|by simp) (λb o _ e n=>u.free b o e n<|by simp) (λb o _ e=>u.there b o e<|by simp) u.tups u.frzs u.tbls (λm' hm=>by
  let{o',U,Y,O,r'}:=hm;rw[Z]at O;cases O;exact{_,U,Y,hL,r'}) hok I.bare
def Inv.call(I:Inv X W B H s)(u:Un (Ou X.stack) ch H H' s.heap h')(hok:OK X.prog X.w H' h')(hg:AllBare g')
  (O:∀b∈ch,(b∈X.ex\/X.s₀.heap.objs.size<=b)/\b≠X.env.locals/\(∀x c,X.env.cells.lookup x=some c->c≠b)/\∀p∈X.pn++W,p.1≠b):
  Inv X W B H' {s with heap:=h',gens:=g',drawn:=d',toks:=t'}:=by
 let{m,{o,es,ep,ho,r},_}:=id I.loc;let{sl,Y}:=u.any ho I.free λz=>(O _ z).2.1 rfl;exact I.step (ch:=ch) O (λb o Y hb hc e n=>u.keep b o e n (λz=>(Qb.mp<|I.stkSub b z).elim Y hb) hc) (λb o _ _ hc e n=>u.any e n hc) (λb o hc e n=>u.free b o e n hc) (λb o hc e=>u.there b o e hc) u.tups u.frzs u.tbls (λm' hm=>by
  let{o',Z,a0,U,r'}:=hm;rw[ho]at U;cases U;exact{_,Z,a0,Y,r'}) hok hg
def Inv.turned(I:Inv X W B H s)(k:∀b o,b≠it->s.heap.get? b=some o->h'.get? b=some o)(Y:H it=none)(U:it≠X.env.locals)
  (h1:it∈X.ex\/X.s₀.heap.objs.size<=it) (h2:∀x c,X.env.cells.lookup x=some c->c≠it) (Z:∀p∈X.pn++W,p.1≠it):Inv X W B H {s with heap:=h',toks:=t'}:=by
 have O:∀b u,H b=some u->b≠it:=λb u e z=>by rw[z,Y]at e;cases e
 refine I.step (g':=s.gens) (d':=s.drawn) (ch:=[it]) (λb hb=>?_) (λb o _ _ hc e _=>k b o (λz=>hc<|by simp[z]) e) (λb o _ _ hc e _=>{o.slots,k b o (λz=>hc<|by simp[z]) e}) (λ_ _ _ _ n=>n)
  (λb o hc e=>{o,k b o (λz=>hc<|by simp[z]) e}) (λ_ _ e=>e) (λ_ _ _ e=>e) (λb ps e=>{#[],by rw[e];simp}) (λm hm=>?_) (λb u e=>?_) I.bare
 .have e:b=it:=by simpa using hb
  subst e;exact⟨h1,U,h2,Z⟩
 .let{o,es,ep,ho,r}:=hm;exact{o,es,ep,k _ o (Ne.symm U) ho,r}
 .refine(I.hok b u e).stay (λc v hc q=>k c v ?_ q) (λ_ q=>q) λ_ _ q=>q;rcases hc with z|z
  .rw[z];exact O b u e
  .exact O c _ z
def Inv.tok(I:Inv X W B H s)(t:Nat):Inv X W B H {s with toks:=t}:=I.un (h':=s.heap) (t':=t) Un.refl I.hok
def Inv.kept(I:Inv X W B H s)(k:∀b u,s.heap.get? b=some u->h'.get? b=some u):Inv X W B H {s with heap:=h',toks:=t'}:=I.un (Un.kept k) (I.hok.kept k)
def Inv.laid{o:HO}(I:Inv X W B H s)(k:∀b u,s.heap.get? b=some u->h'.get? b=some u)(z:s.heap.objs.size<=a)(new:N6 X.prog X.w (upd H a o) h' a o):
  Inv X W B (upd H a o) {s with heap:=h',toks:=t'}:=I.un (Un.laid k z<|I.hok.fresh z) (I.hok.laid k z new)
def Inv.write{x e:Rl}{o:HO}(I:Inv X W B H s)(O:Mut (H x))(he:e=x\/H e=some (.own x))(k:∀b u,b≠e->s.heap.get? b=some u->h'.get? b=some u)(z:∃u,h'.get? e=some u)
  (new:N6 X.prog X.w (upd H x o) h' x o):Inv X W B (upd H x o) {s with heap:=h',toks:=t'}:=I.un (Un.write O he k z) (I.hok.write O he k z new)
def Inv.pins_of{O:Rx}(I:Inv X W B H s)(h:∀p∈O,s.heap.get? p.1=some p.2/\H p.1=none/\p.1≠X.env.locals/\p.1∉X.fs/\∀v,p.2.data≠ .cell v):Inv X O B H s:=
 {I.ok,I.os,I.bare,I.base,I.loc,I.cell,I.free,I.freeC,λp U=>(Q5.mp U).elim (λz=>I.pin p<|X8 _ z)<|h p,I.hok,I.len}
def Av(hN:N.Nodup)(a:N[i]?=some x)(b:N[j]?=some x):i=j:=by
 let{h1,z}:=Q2.mp a;let{h2,e2}:=Q2.mp b;exact(List.getElem_inj hN).mp<|z.trans e2.symm
abbrev _root_.Sn:=Unit->Shared->Prop
def xE{Q:Sn}(I:Inv X W B H s)(hN:X.N.Nodup)(hi:X.N[i]?=some x)(hx:Loc X.env.scope x)(r:RelV v u)
  (h:∀s',Inv X W (B.set i<|some v) H s'->(∃a,Heap.SameBut a s.heap s'.heap/\(a=X.env.locals\/X.env.cells.lookup x=some a))->Q Unit.unit s') (hf:X.fn x=true\/X.env.scope.names.lookup x=some .local:=by ac_rfl):wpAny M' A (storeName X.env x u) Q E s:=by
 let{m,hn,hl}:=id I.loc;have a1:(X.env.scope.kind== .class||(X.env.scope.kind== .module&&X.env.locals !=X.env.globals))=false:=by rw[I.ok.kind];rfl
 have Z:i<B.length:=by rw[I.len];exact(Q2.mp hi).1
 have cne:=I.cne;have O:∀{a:Rl}{h':Heap},(∃o,s.heap.get? a=some o/\H a=none)->Heap.SameBut a s.heap h'->OK X.prog X.w H h':=λ{a h'} ha hs b ob e=>by
  let{_,_,Y}:=ha;refine(I.hok b ob e).stay (λc w' hc q=>(hs.2 c ?_).trans q) (λ_ q=>q) λ_ _ q=>q;rintro rfl;rcases hc with rfl|hc
  .rw[Y]at e;cases e
  .rw[Y]at hc;cases hc
 rcases hx with hk|hk
 .refine wpAny_storeName_local hk hn (λh' a6 hs=>?_) a1;let{oL,_,_,ac,_}:=id hn;refine h _ {I.ok,I.os,I.bare,{λb o e n hb hx=>?_,λb o e n hb hx=>?_,I.base.free,λb o e hx=>?_,I.base.tups,I.base.frzs,I.base.tbls},{_,a6,λj y v' U e2 e3=>?_},λy c e=>?_,I.free,I.freeC,λp hp=>?_,O ⟨oL,ac,I.free⟩ hs,by simpa using I.len} {_,hs,.inl M}
  .exact(hs.2 b<|QH<|Qu (VM e) I.ok.above).trans<|I.base.keep b o e n hb hx
  .let{sl,U}:=I.base.slot b o e n hb hx;exact{sl,(hs.2 b<|QH<|Qu (VM e) I.ok.above).trans U}
  .let{o',U}:=I.base.there b o e hx;exact{o',(hs.2 b<|QH<|Qu (VM e) I.ok.above).trans U}
  .by_cases hj:j=i
   .subst hj;rw[hi]at U;cases U;rw[Xx Z]at e2;cases e2;exact{u,r,.inl {hk,by simp}}
   .rw[List.getElem?_set_ne (Ne.symm hj)]at e2;let{u',r',q}:=hl j y v' U e2 e3;refine{u',r',?_};rcases q with⟨k,e⟩|⟨k,c,e,z⟩
    .refine .inl {k,?_};have:y≠x:=λe=>hj (Av hN U<|e▸hi);simp[this,e]
    .exact .inr {k,c,e,z.sameBut hs<|cne y c e}
  .let{w',z}:=I.cell y c e;exact{w',z.sameBut hs<|cne y c e}
  .let{e,n,ne,nf,d}:=I.pin p hp;exact{(hs.2 p.1 ne).trans e,n,ne,nf,d}
 .have a0:X.fn x=true:=by
   rcases hf with z|z
   .exact z
   .rw[z]at hk;cases hk
  let{c,hc}:=I.ok.has x (.inl hk);let{w',z}:=I.cell x c hc;refine wpAny_storeName_cell I.ok.kind hk hc z<|λh' a2 hs=>?_;let{oc,a3,a4}:=id z;refine h {s with heap:=h'} {I.ok,I.os,I.bare,{λb o e n hb hx=>?_,λb o e n hb hx=>?_,I.base.free,λb o e hx=>?_,I.base.tups,I.base.frzs,I.base.tbls},{m,hn.sameBut hs<|Ne.symm<|cne x c hc,λj y v' U e2 e3=>?_},λy c' e=>?_,I.free,I.freeC,λp hp=>?_,O {oc,a3,I.freeC x c hc} hs,by simpa using I.len} {c,hs,.inr hc}
  .exact(hs.2 b<|QH<|Qu (VM e)<|I.ok.cab x c a0 hc).trans<|I.base.keep b o e n hb hx
  .let{sl,U}:=I.base.slot b o e n hb hx;exact{sl,(hs.2 b<|QH<|Qu (VM e)<|I.ok.cab x c a0 hc).trans U}
  .let{o',U}:=I.base.there b o e hx;exact{o',(hs.2 b<|QH<|Qu (VM e)<|I.ok.cab x c a0 hc).trans U}
  .by_cases hj:j=i
   .subst hj;rw[hi]at U;cases U;rw[Xx Z]at e2;cases e2;exact{u,r,.inr {.inl hk,c,hc,a2}}
   .rw[List.getElem?_set_ne (Ne.symm hj)]at e2;let{u',r',q}:=hl j y v' U e2 e3;refine{u',r',?_};rcases q with q|⟨k,c',e,z'⟩
    .exact .inl q
    .refine .inr {k,c',e,z'.sameBut hs ?_};rintro rfl;exact hj<|Av hN U (I.ok.inj _ _ _ e hc▸hi)
  .by_cases a5:c'=c
   .subst a5;exact{_,a2}
   .let{w2,z2}:=I.cell y c' e;exact{w2,z2.sameBut hs a5}
  .let{e,n,ne,nf,d}:=I.pin p hp;refine{(hs.2 p.1 ?_).trans e,n,ne,nf,d};intro q;rw[q,a3]at e;have q':oc=p.2:=VL e;exact d w'<|by rwa[<-q']
def sW{Q:Sn}(I:Inv X W B H s)(hN:X.N.Nodup)(hi:X.N[i]?=some x)(hx:Loc X.env.scope x)(r:RelV v u)
  (h:∀s',Inv X W (B.set i<|some v) H s'->Q Unit.unit s') (hf:X.fn x=true\/X.env.scope.names.lookup x=some .local:=by ac_rfl):wpAny M' A (storeName X.env x u) Q E s:=
 xE I hN hi hx r (λs' z _=>h s' z) hf
def Inv.call'(I:Inv X W B H s)(O:s'.os=s.os)(u:Un (Ou X.stack) ch H H' s.heap s'.heap)(hok:OK X.prog X.w H' s'.heap)(U:AllBare s'.gens)
  (z:∀b∈ch,(b∈X.ex\/X.s₀.heap.objs.size<=b)/\b≠X.env.locals/\(∀x c,X.env.cells.lookup x=some c->c≠b)/\∀p∈X.pn++W,p.1≠b):Inv X W B H' s':=by
 let{h',g',d',t',o'}:=s';have e:o'=s.os:=O;subst e;exact I.call (g':=g') (t':=t') (d':=d') u hok U z
end
abbrev XK:=Value->Option Addr->Hp->Prop
abbrev St:=List (Option V)
abbrev VK:=V->Hp->Prop
abbrev TE:=St->Hp->VK->Prop
abbrev TT:=St->Hp->(Bool->Hp->Prop)->Prop
abbrev TA:=St->Hp->(List V->Hp->Prop)->Prop
structure kB where
 nx:St->Hp->Prop
 rt:VK
 bk:St->Hp->Prop:=λ_ _=>False
 ct:St->Hp->Prop:=λ_ _=>False
abbrev TS:=kB->St->Hp->Prop
def EP(X:Cx)(W:Rx)(B:St)(Q:VK)(u:Rp)(s':Rm):Prop:=∃v H',Inv X W B H' s'/\RelV v u/\Q v H'
def TP(X:Cx)(W:Rx)(B:St)(Q:Bool->Hp->Prop)(b:Bool)(s':Rm):Prop:=∃H',Inv X W B H' s'/\Q b H'
def AP(X:Cx)(W:Rx)(B:St)(Q:List V->Hp->Prop)(us:Rr)(s':Rm):Prop:=∃vs H',Inv X W B H' s'/\HV vs us/\Q vs H'
def SP(X:Cx)(W:Rx)(D:kB)(f:Flow)(s':Rm):Prop:=
 match f with
 | .next=>∃σ' H',Inv X W σ' H' s'/\D.nx σ' H'
 | .brk=>∃σ' H',Inv X W σ' H' s'/\D.bk σ' H'
 | .cont=>∃σ' H',Inv X W σ' H' s'/\D.ct σ' H'
 | .ret u=>∃v σ' H',Inv X W σ' H' s'/\RelV v u/\D.rt v H'
abbrev Wj(X:Cx){a}:=@wpAny a (model X.prog X.w) X.A
def PE(X:Cx)(e:Expr)(t:TE):Prop:=
 ∀(W:Rx)(s:Rm)(B:St)(H:Hp)(Q:VK),Inv X W B H s->t B H Q->Wj X (eval e X.env) (EP X W B Q) X.xe s
def PT(X:Cx)(e:Expr)(t:TT):Prop:=
 ∀(W:Rx)(s:Rm)(B:St)(H:Hp)(Q:Bool->Hp->Prop),Inv X W B H s->t B H Q->Wj X (isTrue e X.env<|eval e X.env) (TP X W B Q) X.xe s
def PW(X:Cx)(e:Expr)(t:TT):Prop:=
 ∀(whole:Sem Value)(W:Rx)(s:Rm)(B:St)(H:Hp)(Q:Bool->Hp->Prop),Inv X W B H s->t B H Q->Wj X (isTrue e X.env whole) (TP X W B Q) X.xe s
def PW.pt{t:TT}(h:PW X e t):PT X e t:=h _
def PA(X:Cx)(es:Sg)(t:TA):Prop:=
 ∀(pos:Pos)(W:Rx)(s:Rm)(B:St)(H:Hp)(Q:List V->Hp->Prop),Inv X W B H s->t B H Q->Wj X (spliced<|backTo pos<|starEach es X.env) (AP X W B Q) X.xe s
def PS(X:Cx)(st:Stmt)(t:TS):Prop:=
 ∀(W:Rx)(s:Rm)(B:St)(H:Hp)(D:kB),Inv X W B H s->t D B H->Wj X (exec st X.env) (SP X W D) X.xe s
def OV(X:Cx)(st:List Stmt)(t:TS):Prop:=
 ∀(W:Rx)(s:Rm)(B:St)(H:Hp)(D:kB),Inv X W B H s->t D B H->Wj X (execs st X.env) (SP X W D) X.xe s
def N3{α:Type}{t:Sem α}{Q Q':α->Shared->Prop}(h:wpAny M' A t Q E s)(z:∀a s,Q a s->Q' a s):wpAny M' A t Q' E s:=W2 h z λ_ _ x=>x
section
inductive Iq(i:Nat)(B:St)(H:Hp)(Q:VK):Prop
 |mk(v:_)(_:B[i]?=some (some v))(_:Q v H)
def tC(v:V):TE:=λ_ H Q=>Q v H
def LI{i:Nat}(hN:X.N[i]?=some x)(U:RL X.env.scope x)(hd:(x==(lg:Str))=false:=by decide)(O:(x==("__classdict__":Str))=false:=by decide):PE X (.Name x pos) (Iq i):=by
 intro W s B H Q I h;let{v,e,h}:=h;let{m,Y,hl}:=I.loc;let{u,r,l}:=hl i x v hN e U;have fin:EP X W B Q u s:=⟨v,H,I,r,h⟩;rcases l with⟨hk,Z⟩|⟨hk,c,hc,z⟩
 .exact wpAny_Name (wpAny_loadName_local I.ok.kind hk Y Z fin) hd
 .rcases hk with hk|hk
  .exact wpAny_Name (wpAny_loadName_cell I.ok.kind hk hc z fin) hd
  .exact wpAny_Name (wpAny_loadName_free I.ok.kind hk hc z fin O) hd
def ai{i j pos}:PE X (.Constant (.int i) j pos) (tC<|.int i):=λ_ _ _ H _ I h=>wpAny_Constant_int {.int i,H,I.tok _,{_,M},h}
def gW{b j pos}:PE X (.Constant (.bool b) j pos) (tC<|.bl b):=λ_ _ _ H _ I h=>Constant_bool {.bl b,H,I,M,h}
def cr{j pos}:PE X (.Constant .none j pos) (tC .non):=λ_ _ _ H _ I h=>Constant_none {.non,H,I,M,h}
def aR{x j pos}:PE X (.Constant (.str x) j pos) (tC<|.str x):=λ_ _ _ H _ I h=>Calls.Constant_str {.str x,H,I.tok _,{_,M},h}
def Gl(X:Cx)(x:Str):Prop:=X.env.kindOf x=some .globalImplicit
def g6{B:St}{H:Hp}{Q:RS}(I:Inv X W B H s)(z:Gl X x)(O:X.mg x=some u)(h:Q u s)
  (hd:(x==(lg:Str))=false:=by decide):Wj X (eval (.Name x pos) X.env) Q E s:=
 Calls.Name_function_global I.ok.kind z (Calls.loadGlobal_global (by rw[I.ok.glob];exact I.mod.glob.keeps I.bk) O h) hd
def oS{B:St}{H:Hp}{Q:RS}(I:Inv X W B H s)(z:Gl X x)(O:X.mg x=none)(U:bootBuiltins x=some u)(h:Q u s)
  (Y:x≠"__name__":=by decide) (hd:(x==(lg:Str))=false:=by decide):Wj X (eval (.Name x pos) X.env) Q E s:=by
 let{Z,h1,h2}:=I.mod.blt;exact Calls.Name_function_global I.ok.kind z (Calls.loadGlobal_builtin (by rw[I.ok.glob];exact I.mod.glob.keeps I.bk) O (by rw[I.ok.blt];exact h1.keeps I.bk) ((h2 x Y).trans U) h) hd
def bD{v:V}(z:Gl X x)(O:X.mg x=some u)(r:RelV v u)(hd:(x==(lg:Str))=false:=by decide):PE X (.Name x pos) (tC v):=
 λ_ _ _ H _ I h=>g6 I z O ⟨v,H,I,r,h⟩ hd
def pJ{v:V}(z:Gl X x)(O:X.mg x=none)(U:bootBuiltins x=some u)(r:RelV v u)(Y:x≠"__name__":=by decide)(hd:(x==(lg:Str))=false:=by decide):PE X (.Name x pos) (tC v):=
 λ_ _ _ H _ I h=>oS I z O U ⟨v,H,I,r,h⟩ Y hd
variable{a b:Expr}{tb:TE}
def PC(X:Cx)(op:CmpOp)(a b:Expr)(t:TE):Prop:=
 ∀(W:Rx)(s:Rm)(B:St)(H:Hp)(Q:VK),Inv X W B H s->t B H Q->
  Wj X (eval a X.env) (λv s₁=>Wj X (eval b X.env) (λu s₂=>Wj X (compareOp op v u) (EP X W B Q) X.xe s₂) X.xe s₁) X.xe s
inductive tBR(Q:Bool->Hp->Prop)(x:V)(H1:Hp):Prop
 |mk(c:_)(_:x= .bl c)(_:Q c H1)
def tB(t:TE):TT:=λB H Q=>t B H λx H1=>tBR Q x H1
def LL(h:PC X op a b t)(h1:behindInMarks op b=false:=by first|exact nobehind _ (_) (_)|rfl):PE X (.Compare a [op] [b] pos) t:=λW s B H Q I hw=>wpAny_Compare1 (h W s B H Q I hw) h1
def qM(h:PC X op a b t)(h1:behindInMarks op b=false:=by first|exact nobehind _ (_) (_)|rfl):PT X (.Compare a [op] [b] pos) (tB t):=by
 intro W s B H Q I hw;refine wpAny_isTrue_Compare1 (N3 (h W s B H _ I hw) λv s1 h1=>N3 h1 λu Y h2=>N3 h2 λc s3 z=>?_) h1;let{x,H1,O,r1,U}:=z;let{d,rfl,q}:=U;cases r1;exact VZ ⟨H1,O,q⟩
def br(h:PE X e t)(he:∀z,isTrue e X.env z=(do let v<-z;standAt e.pos;holding [v] (truthy v)):=by subst_eqs):PT X e (tB t):=by
 intro W s B H Q I hw;refine isTrue_plain (N3 (h W s B H _ I hw) λv s1 O=>?_)<|he _;let{x,H1,U,r1,Y}:=O;let{d,rfl,q}:=Y;cases r1;exact VZ ⟨H1,U,q⟩
variable{tA tB':TT}{rest:Sg}
def tAnd(t u:TT):TT:=λB H Q=>t B H λc H1=>if c=true then u B H1 Q else Q false H1
def tOr(t u:TT):TT:=λB H Q=>t B H λc H1=>if c=true then Q true H1 else u B H1 Q
def tNot(t:TT):TT:=λB H Q=>t B H λc H1=>Q (!c) H1
def cI(ha:PT X a tA):PW X (.BoolOp .And [a] pos) tA:=by
 intro z W s B H Q I h;refine isTrue_and<|N3 (ha W s B H Q I h) λc s1 e=>?_;cases c with
 |true=>exact isTrue_and_nil e
 |false=>exact e
def iD(ha:PT X a tA):PW X (.BoolOp .Or [a] pos) tA:=by
 intro z W s B H Q I h;refine isTrue_or<|N3 (ha W s B H Q I h) λc s1 e=>?_;cases c with
 |false=>exact isTrue_or_nil e
 |true=>exact e
def dG(ha:PT X a tA)(hb:PW X (.BoolOp .And (b::rest) pos) tB'):PW X (.BoolOp .And (a::b::rest) pos) (tAnd tA tB'):=by
 intro U W s B H Q I h;refine isTrue_and<|N3 (ha W s B H _ I h) λc s1 zz=>?_;let{H1,z,O}:=zz;cases c with
 |true=>exact hb U W s1 B H1 Q z O
 |false=>exact⟨H1,z,O⟩
def kW(ha:PT X a tA)(hb:PW X (.BoolOp .Or (b::rest) pos) tB'):PW X (.BoolOp .Or (a::b::rest) pos) (tOr tA tB'):=by
 intro U W s B H Q I h;refine isTrue_or<|N3 (ha W s B H _ I h) λc s1 zz=>?_;let{H1,z,O}:=zz;cases c with
 |true=>exact⟨H1,z,O⟩
 |false=>exact hb U W s1 B H1 Q z O
def cz(ha:PT X a tA):PT X (.UnaryOp .Not a pos) (tNot tA):=by
 intro W s B H Q I h;exact isTrue_not<|ha W s B H (λc H1=>Q (!c) H1) I h
def M0(ta tb:TE):TE:=λB H Q=>ta B H λx H1=>∃c,x= .bl c/\if c=true then tb B H1 Q else Q (.bl false) H1
def tOrV(ta tb:TE):TE:=λB H Q=>ta B H λx H1=>∃c,x= .bl c/\if c=true then Q (.bl true) H1 else tb B H1 Q
def MU(ta:TE):TE:=λB H Q=>ta B H λx H1=>∃c,x= .bl c/\Q (.bl<|!c) H1
def ft{op}(h:PE X a t):PE X (.BoolOp op [a] pos) t:=λW s B H Q I hw=>BoolOp_one (h W s B H Q I hw)
def lq(ha:PE X a ta)(hb:PE X (.BoolOp .And (b::rest) pos) tb):PE X (.BoolOp .And (a::b::rest) pos) (M0 ta tb):=by
 intro W s B H Q I h;refine BoolOp_and<|N3 (ha W s B H _ I h) λv s1 O=>?_;let{x,H1,U,r1,z}:=O;let{c,rfl,z}:=z;cases r1;refine VZ ?_;cases c with
 |true=>exact hb W s1 B H1 Q U z
 |false=>exact{.bl false,H1,U,M,z}
def C5(ha:PE X a ta)(hb:PE X (.BoolOp .Or (b::rest) pos) tb):PE X (.BoolOp .Or (a::b::rest) pos) (tOrV ta tb):=by
 intro W s B H Q I h;refine BoolOp_or<|N3 (ha W s B H _ I h) λv s1 O=>?_;let{x,H1,U,r1,z}:=O;let{c,rfl,z}:=z;cases r1;refine VZ ?_;cases c with
 |false=>exact hb W s1 B H1 Q U z
 |true=>exact{.bl true,H1,U,M,z}
def LJ(ha:PE X a ta):PE X (.UnaryOp .Not a pos) (MU ta):=by
 intro W s B H Q I h;refine UnaryOp_<|N3 (ha W s B H _ I h) λv s1 z=>?_;let{x,H1,U,r1,O}:=z;let{c,rfl,O}:=O;cases r1;exact not_of<|VZ {.bl<|!c,H1,U,M,O}
def tIf(t:TT)(ta tb:TE):TE:=λB H Q=>t B H λc H1=>if c=true then ta B H1 Q else tb B H1 Q
def pH(hc:PT X c tA)(ha:PE X a ta)(hb:PE X b tb):PE X (.IfExp c a b pos) (tIf tA ta tb):=by
 intro W s B H Q I h;refine wpAny_IfExp<|N3 (hc W s B H _ I h) λd s1 zz=>?_;let{H1,z,O}:=zz;cases d with
 |true=>exact ha W s1 B H1 Q z O
 |false=>exact hb W s1 B H1 Q z O
end
def Dz(K:Wi)(H:Hp)(a:Rl)(xs:Rq):Prop:=
 Rd H a (.lst xs)\/
  ∃(o:Obj)(its:Sd)(n:Nat),K.lookup a=some o/\o.cls= .type gt/\o.dict=none/\o.data= .seq its n/\its.size<=sizeLine/\HV xs its.toList
def OO(K:Wi)(H:Hp)(a:Rl)(xs:Rq):Prop:=
 Rd H a (.tup xs)\/
  ∃(o:Obj)(its:Sd)(n:Nat),K.lookup a=some o/\o.cls= .type l6/\o.data= .seq its n/\its.size<=sizeLine/\HV xs its.toList
noncomputable def absV:Value->Option V
 | .none=>some .non
 | .bool b=>some (.bl b)
 | .int i _=>some (.int i)
 | .str x _=>some (.str x)
 | .bytes b _=>some (.byt b)
 | .float b _=>some (.flt b)
 | .ref a=>some (.ref a)
 | .type n=>some (.ty n)
 |_=>none
def RelV.abs{x:V}(r:RelV x u):absV u=some x:=by
 cases x with
 |non=>cases r;rfl
 |bl _=>cases r;rfl
 |int _=>let{t,rfl}:=r;rfl
 |str _=>let{t,rfl}:=r;rfl
 |byt _=>let{t,rfl}:=r;rfl
 |flt _=>let{t,rfl}:=r;rfl
 |ref _=>cases r;rfl
 |ty _=>cases r;rfl
def RelV.inj{x:V}(r:RelV x u)(q:RelV y u):x=y:=VL (r.abs.symm.trans q.abs)
def HV.inj{ys:Rq}(h:HV xs us)(h':HV ys us):xs=ys:=by
 induction h generalizing ys with
 |nil=>cases h';rfl
 |cons r t z=>cases h' with
  |cons I t'=>rw[r.inj I,z t']
section
variable{ys:Rq}
def Dz.of(h:H a=some (.lst xs)):Dz K H a xs:= .inl (.inl h)
def OO.of(h:H a=some (.tup xs)):OO K H a xs:= .inl (.inl h)
def Inv.list(I:Inv X W B H s)(h:Dz X.K H a xs):∃its:List Value,HV xs its/\PlainL s.heap a its.toArray/\xs.length<=sizeLine:=by
 rcases h with h|⟨o,its,n,hk,hc,hd,hs,hz,r⟩
 .let{z,its,n,r,e}:=h.ok I.hok;exact{its,r,{_,n,e,M,M,M},z}
 .refine{its.toList,r,{o,n,I.kIn a o hk,hc,hd,by simpa using hs},?_};have e:=r.length;simp only[Qd]at e;lia
def Inv.tuple(I:Inv X W B H s)(h:OO X.K H a xs):∃its:List Value,HV xs its/\IsTup s.heap a its.toArray/\xs.length<=sizeLine:=by
 rcases h with h|⟨o,its,n,hk,hc,hs,hz,r⟩
 .let{z,its,r,p}:=h.ok I.hok;exact⟨its,r,p,z⟩
 .refine{its.toList,r,{o,I.kIn a o hk,hc,n,by simpa using hs},?_};have e:=r.length;simp only[Qd]at e;lia
def Inv.list_inj(I:Inv X W B H s)(h:Dz X.K H a xs)(h':Dz X.K H a ys):xs=ys:=by
 let{its,r,{o,n,e,_,_,d},_}:=I.list h;let{its',O,{o',n',z,_,_,d'},_}:=I.list h';rw[e]at z;cases z;rw[d]at d';injection d' with d1 _;have:its=its':=by simpa using VT Array.toList d1
 subst this;exact r.inj O
def Inv.tuple_inj(I:Inv X W B H s)(h:OO X.K H a xs)(h':OO X.K H a ys):xs=ys:=by
 let{its,r,{o,e,_,n,d},_}:=I.tuple h;let{its',O,{o',z,_,n',d'},_}:=I.tuple h';rw[e]at z;cases z;rw[d]at d';injection d' with d1 _;have:its=its':=by simpa using VT Array.toList d1
 subst this;exact r.inj O
end
abbrev Cx.wish(X:Cx)(E:RS):Cx:={X with xe:=E}
abbrev Cx.nox(X:Cx):Cx:=X.wish λ_ _=>False
def Cx.Ok.wish(ok:X.Ok)(E:RS):(X.wish E).Ok:=
 ⟨ok.mod,ok.kind,ok.glob,ok.blt,ok.above,ok.inj,ok.has,ok.cab,ok.hd,ok.frames,ok.stk,ok.exf,ok.bs,ok.bsz,ok.noex,ok.exfs,ok.funs,ok.frf⟩
def Cx.Ok.unwish(ok:(X.wish E).Ok):X.Ok:=
 ⟨ok.mod,ok.kind,ok.glob,ok.blt,ok.above,ok.inj,ok.has,ok.cab,ok.hd,ok.frames,ok.stk,ok.exf,ok.bs,ok.bsz,ok.noex,ok.exfs,ok.funs,ok.frf⟩
def Inv.wish(I:Inv X W B H s)(E:RS):Inv (X.wish E) W B H s:={I.ok.wish E,I.os,I.bare,I.base,I.loc,I.cell,I.free,I.freeC,I.pin,I.hok,I.len}
def Inv.unwish(I:Inv (X.wish E) W B H s):Inv X W B H s:=⟨I.ok.unwish,I.os,I.bare,I.base,I.loc,I.cell,I.free,I.freeC,I.pin,I.hok,I.len⟩
def SP.unwish{D:kB}{f:Flow}(h:SP (X.wish E) W D f s'):SP X W D f s':=by
 cases f with
 |next=>let{z,H',I,q}:=h;exact⟨z,H',I.unwish,q⟩
 |brk=>let{z,H',I,q}:=h;exact⟨z,H',I.unwish,q⟩
 |cont=>let{z,H',I,q}:=h;exact⟨z,H',I.unwish,q⟩
 |ret u=>let{v,z,H',I,r,q}:=h;exact⟨v,z,H',I.unwish,r,q⟩
def OV.nox{st:List Stmt}{t:TS}(h:OV X.nox st t):OV X st t:=λW s B H D I hw=>
 W2 (h W s B H D (I.wish _) hw) (λ_ _ q=>q.unwish) λ_ _ z=>False.elim z
section
variable{st:Stmt}{rest:List Stmt}{t u:TS}
def Kt:TS:=λD B H=>D.nx B H
def zW(t u:TS):TS:=λD B H=>t {D with nx:=u D} B H
def aA:OV X [] Kt:=λ_ _ B H _ I h=>wpAny_execs_nil ⟨B,H,I,h⟩
def gj(h1:PS X st t)(h2:OV X rest u):OV X (st::rest) (zW t u):=by
 intro W s B H D I h;refine wpAny_execs_cons<|N3 (h1 W s B H {D with nx:=u D} I h) λf s1 q=>?_;cases f with
 |next=>
  let{z,H',O,q}:=q;exact h2 W s1 z H' D O q
 |ret v=>exact q
 |brk=>exact q
 |cont=>exact q
def au(h1:PS X st t):OV X [st] t:=by
 intro W s B H D I h;refine wpAny_execs_cons<|N3 (h1 W s B H D I h) λf s1 q=>?_;cases f with
 |next=>exact wpAny_execs_nil q
 |ret v=>exact q
 |brk=>exact q
 |cont=>exact q
def Lr:TS:=λD B H=>D.bk B H
def FS:PS X (.Break pos) Lr:=λ_ _ B H _ I h=>wpAny_Break ⟨B,H,I,h⟩
def Inv.quiet(I:Inv X W B H s):interactive X.env=false:=by simp[interactive,I.ok.kind]
def MX(te:TE):TS:=λD B H=>te B H λ_ H1=>D.nx B H1
def aO(he:PE X e te)(hs:swapsWith e none pos.line X.env=pure false:=by rfl):PS X (.Expr e pos) (MX te):=by
 intro W s B H D I h;exact wpAny_Expr_any (N3 (he W s B H _ I h) λv s1 zz=>by let{x,H1,z,r1,O}:=zz;exact⟨B,H1,z,O⟩) I.quiet hs
def tRet(te:TE):TS:=λD B H=>te B H D.rt
def ay(he:PE X e te):PS X (.Return (some e) pos) (tRet te):=by
 intro W s B H D I h;exact wpAny_Return_some<|N3 (he W s B H _ I h) λv s1 zz=>by let{x,H1,z,r1,O}:=zz;exact⟨x,B,H1,z,r1,O⟩
def MS:TS:=λD _ H=>D.rt .non H
def pG:PS X (.Return none pos) MS:=λ_ _ B H _ I h=>wpAny_Return_none {.non,B,H,I,M,h}
def tIfS(c:TT)(t u:TS):TS:=λD B H=>c B H λb H1=>if b=true then t D B H1 else u D B H1
def aM{a b:List Stmt}(hc:PT X c tc)(ha:OV X a t)(hb:OV X b u):PS X (.If c a b pos) (tIfS tc t u):=by
 intro W s B H D I h;refine wpAny_If<|N3 (hc W s B H _ I h) λd s1 zz=>?_;let{H1,z,O}:=zz;cases d with
 |true=>exact ha W s1 B H1 D z O
 |false=>exact hb W s1 B H1 D z O
end
abbrev TG:=V->St->Hp->(St->Hp->Prop)->Prop
abbrev TGs:=List V->St->Hp->(St->Hp->Prop)->Prop
abbrev _root_.Sk:=St->Hp->Prop
def PG(X:Cx)(target:Expr)(t:TG):Prop:=
 ∀(W:Rx)(s:Rm)(B:St)(H:Hp)(v:V)(u:Rp)(Q:Sk),Inv X W B H s->RelV v u->t v B H Q->
  Wj X (assign target X.env u) (λ_ s'=>∃σ' H',Inv X W σ' H' s'/\Q σ' H') X.xe s
def PGs(X:Cx)(ts:Sg)(t:TGs):Prop:=
 ∀(W:Rx)(s:Rm)(B:St)(H:Hp)(vs:Rq)(us:Rr)(Q:Sk),Inv X W B H s->HV vs us->t vs B H Q->
  Wj X (assignInOrder ((assignEach ts X.env).map (·.2)) us) (λ_ s'=>∃σ' H',Inv X W σ' H' s'/\Q σ' H') X.xe s
abbrev MC:=V->V->V->Hp->(Hp->Prop)->Prop
def PSet(X:Cx)(t:MC):Prop:=
 ∀(W:Rx)(s:Rm)(B:St)(H:Hp)(o i v:V)(ov iv u:Rp)(Q:Hp->Prop),Inv X W B H s->RelV o ov->RelV i iv->RelV v u->t o i v H Q->
  Wj X (setItem ov iv u) (λ_ s'=>∃H',Inv X W B H' s'/\Q H') X.xe s
abbrev TIp:=V->V->Hp->VK->Prop
def PIp(X:Cx)(op:Operator)(t:TIp):Prop:=
 ∀(W:Rx)(s:Rm)(B:St)(H:Hp)(x y:V)(v u:Rp)(Q:VK),Inv X W B H s->RelV x v->RelV y u->t x y H Q->
  Wj X (inplaceOp op v u) (EP X W B Q) X.xe s
abbrev lL(i:Nat):TG:=λv B H Q=>Q (B.set i<|some v) H
def sK(hN:X.N.Nodup)(hi:X.N[i]?=some x)(hx:Loc X.env.scope x)(hf:X.fn x=true\/X.env.scope.names.lookup x=some .local:=by ac_rfl):PG X (.Name x pos) (lL i):=by
 intro W s B H v u Q I r h;exact wpAny_assign_Name<|sW I hN hi hx r (λs' z=>{_,H,z,h}) hf
def gNil:TGs:=λvs B H Q=>vs=[]/\Q B H
inductive ND(t:TG)(u:TGs)(vs:Rq)(B:St)(H:Hp)(Q:Sk):Prop
 |mk(v r:_)(_:vs=v::r)(_:t v B H λσ' H'=>u r σ' H' Q)
def sJ:PGs X [] gNil:=by
 intro W s B H vs us Q I r h;let{e,h}:=h;subst e;cases r;exact assignInOrder_nil ⟨B,H,I,h⟩
def eX{t:TG}{u:TGs}(h1:PG X e t)(h2:PGs X es u)
  (hs:(assignEach (e::es) X.env).map (·.2)=assign e X.env::(assignEach es X.env).map (·.2):=by rfl):PGs X (e::es) (ND t u):=by
 intro W s B H vs us Q I r h;let{v,vr,U,h}:=h;subst U;cases r with
 |cons r Y=>
  rw[hs];refine assignInOrder_cons<|N3 (h1 W s B H _ _ _ I r h) λ_ s1 z=>?_;let{O,H1,Z,q1}:=z;exact h2 W s1 O H1 _ _ Q Z Y q1
inductive gTup(K:Wi)(n:Nat)(t:TGs)(v:V)(B:St)(H:Hp)(Q:Sk):Prop
 |mk(a xs:_)(_:v= .ref a)(_:OO K H a xs)(_:xs.length=n)(_:t xs B H Q)
def yS{k:Nat}{t:TGs}(hc:X.calm=true)(h:PGs X es t)
  (O:(assignEach es X.env).length=n:=by rfl) (z:(assignEach es X.env).findIdx? (·.1)=none:=by rfl):PG X (.Tuple es k pos) (gTup X.K n t):=by
 intro W s B H v u Q I r hw;let{a,xs,U,hq,hl,hw}:=hw;subst U;cases r;let{its,rv,Y,hz}:=I.tuple hq;refine assign_Tuple_tuple (I.ok.hd hc) Y (by simp[O,<-hl,rv.length]) z λh' hx=>?_;have Z:Inv X W B H {s with heap:=h'}:=I.kept (t':=s.toks) λb o e=>hx b o (QH<|VM e) e;exact h W _ B H xs _ Q Z (by simpa using rv) hw
def gSub(to ti:TE)(t:MC):TG:=λv B H Q=>to B H λo H1=>ti B H1 λi H2=>t o i v H2 λH3=>Q B H3
def BR{o i:Expr}{to Y:TE}{t:MC}(Z:PE X o to)(hi:PE X i Y)(hs:PSet X t)
  (ha:∀v,assign (.Subscript o i pos) X.env v=(do
   let O<-holding [v] (eval o X.env)
   let U<-holding [v,O] (eval i X.env)
   standAt pos
   holding [v,O,U] (setItem O U v)
   release [v,O,U] []):=by subst_eqs):PG X (.Subscript o i pos) (gSub to Y t):=by
 intro W s B H v u Q I r h;rw[ha];refine VI<|Wd (N3 (Z W s B H _ I h) λO s1 z=>?_);let{x,H1,I1,r1,q1}:=z;refine VI<|Wd (N3 (hi W s1 B H1 _ I1 q1) λU s2 z=>?_);let{y,H2,I2,r2,q2}:=z;refine VI<|wpAny_standAt (VI<|Wd<|N3 (hs W s2 B H2 x y v O U u _ I2 r1 r2 r q2) λ_ s3 z=>?_);let{H3,I3,q3}:=z;exact wpAny_release ⟨B,H3,I3,q3⟩
def DR(te:TE)(g:TG):TS:=λD B H=>te B H λx H1=>g x B H1 D.nx
def yR{g:TG}(he:PE X e te)(O:PG X tg g)(hs:swapsWithSole [tg] e pos.line X.env=pure false:=by rfl)(hw:swappedStores [tg] e X.env=pure none:=by rfl)
  (h1:(assignEach [tg] X.env).map (·.2)=[assign tg X.env]:=by rfl):PS X (.Assign [tg] e pos) (DR te g):=by
 intro W s B H D I h;refine wpAny_Assign_stores (N3 (he W s B H _ I h) λv s1 z=>?_) hs hw;let{x,H1,U,r1,Y}:=z;rw[h1];exact N3 (O W s1 B H1 x v _ U r1 Y) λ_ Z q=>q
def yO(hN:X.N.Nodup)(hi:X.N[i]?=some x)(hx:Loc X.env.scope x)(he:PE X e te)(hs:swapsWith e (some<|.Name x pos') pos.line X.env=pure false:=by rfl)(hf:X.fn x=true\/X.env.scope.names.lookup x=some .local:=by ac_rfl):
  PS X (.Assign [.Name x pos'] e pos) (DR te<|lL i):=by
 intro W s B H D I h;refine wpAny_Assign_Name (N3 (he W s B H _ I h) λv s1 z=>?_) hs;let{y,H1,O,r1,U}:=z;exact sW O hN hi hx r1 (λZ Y=>{_,H1,Y,U}) hf
inductive tAug(i:Nat)(te:TE)(ti:TIp)(D:kB)(B:St)(H:Hp):Prop
 |mk(x:_)(_:B[i]?=some (some x))(_:te B H λy H1=>ti x y H1 λz H2=>D.nx (B.set i<|some z) H2)
def yQ{op:Operator}{ti:TIp}(hN:X.N.Nodup)(hi:X.N[i]?=some x)(hx:Loc X.env.scope x)(he:PE X e te)(ho:PIp X op ti)(hf:X.fn x=true\/X.env.scope.names.lookup x=some .local:=by ac_rfl):
  PS X (.AugAssign (.Name x pos') op e pos) (tAug i te ti):=by
 intro W s B H D I h;let{v,e1,h}:=h;let{m,hn,hl}:=I.loc;have Z:RL X.env.scope x:=by rcases hx with k|k;exact .inl k;exact .inr<|.inl k
 let{u,r,l}:=hl i x v hi e1 Z;refine wpAny_AugAssign_Name ?_;have go:Wj X (eval e X.env) (λw s₂=>Wj X (inplaceOp op u w) (λr Y=>Wj X (storeName X.env x r) (λ_=>SP X W D .next) X.xe Y) X.xe s₂) X.xe s:=by
  refine N3 (he W s B H _ I h) λw s1 O=>?_;let{y,H1,I1,r1,q1}:=O;refine N3 (ho W s1 B H1 v y u w _ I1 r r1 q1) λz s2 O=>?_;let{zv,H2,I2,r2,q2}:=O;exact sW I2 hN hi hx r2 (λs3 I3=>{_,H2,I3,q2}) hf
 rcases l with⟨hk,hm⟩|⟨hk,c,hc,U⟩
 .exact wpAny_loadName_local I.ok.kind hk hn hm go
 .rcases hk with hk|hk
  .exact wpAny_loadName_cell I.ok.kind hk hc U go
  .rcases hx with k|k
   .have:X.env.scope.names.lookup x=some .free:=hk;rw[k]at this;cases this
   .have:X.env.scope.names.lookup x=some .free:=hk;rw[k]at this;cases this
inductive ipI(f:Int->Int->Int)(x y:V)(H:Hp)(Q:VK):Prop
 |mk(i j:_)(_:x= .int i)(_:y= .int j)(_:Q (.int<|f i j) H)
def Cl:PIp X .Add (ipI λi j=>i+j):=by
 intro W s B H x y v u Q I r1 z h;let{i,j,O,e2,q}:=h;subst O;subst e2;let{t,rfl}:=r1;let{t',rfl}:=z;exact iadd_int {.int _,H,I.tok _,{_,M},q}
def Mf:PIp X .Sub (ipI λi j=>i-j):=by
 intro W s B H x y v u Q I r1 z h;let{i,j,O,e2,q}:=h;subst O;subst e2;let{t,rfl}:=r1;let{t',rfl}:=z;exact isub_int {.int _,H,I.tok _,{_,M},q}
def Fw(c:TT)(tb:TS):TS:=λD B H=>∃JM:Nat->St->Hp->Prop,(∃m,JM m B H)/\∀m B H,JM m B H->
 c B H λb H1=>if b=true then ∃N:St->Hp->Prop,(∀σ' H',N σ' H'->∃m',m'<m/\JM m' σ' H')/\tb {D with nx:=N,ct:=N,bk:=D.nx} B H1 else D.nx B H1
def kZ(hp:PassesOwn (model X.prog X.w) X.A X.env X.xe)(hc:PT X c tc)(hb:OV X body tb):PS X (.While c body [] pos) (Fw tc tb):=by
 intro W s B H D I h;let{JM,{m0,w0},turn}:=h;refine wpAny_While<|codeAny_whileLoop (λn s'=>∃U H',Inv X W U H' s'/\JM n U H') ?_ m0 ⟨B,H,I,w0⟩;rintro n s1 ⟨O,H1,I1,w1⟩;refine W8 hp<|N3 (hc W s1 O H1 _ I1<|turn n O H1 w1) λb s2 zz=>?_;let{H2,I2,Y}:=zz;cases b with
 |true=>
  let{N,hN,Y}:=Y;rw[VB M];refine W8 hp<|N3 (hb W s2 O H2 _ I2 Y) λf s3 Z=>?_;cases f with
  |next=>
   let{z,H3,I3,n3}:=Z;let{m',hm,w3}:=hN z H3 n3;exact⟨m',hm,z,H3,I3,w3⟩
  |cont=>
   let{z,H3,I3,n3}:=Z;let{m',hm,w3}:=hN z H3 n3;exact⟨m',hm,z,H3,I3,w3⟩
  |brk=>exact Z
  |ret v=>exact Z
 |false=>
  rw[VA Qg];exact wpAny_execs_nil ⟨O,H2,I2,Y⟩
set_option genInjectivity false in
structure It where
 go:Nat->Hp->Prop
 yld:Nat->Hp->V->Hp->Prop
 stop:Nat->Hp->Prop
def mS(X:Cx)(W:Rx)(H:Hp)(b:Rl):Prop:=
 H b=none/\b≠X.env.locals/\b∉X.fs/\(b∈X.ex\/X.s₀.heap.objs.size<=b)/\(∀x c,X.env.cells.lookup x=some c->c≠b)/\∀p∈X.pn++W,p.1≠b
def Inv.fpOk(I:Inv X W B H s)(hb:s.heap.objs.size<=b)(O:H' b=none):mS X W H' b:=by
 refine{O,ZU<|Qu I.lt hb,I.nofs hb,.inr<|Qr I.sz hb,λx c e z=>?_,λp U z=>?_}
 .let{v,q}:=I.cell x c e;exact VG (Qu q.lt<|by rwa[z])<|ZD _
 .exact VG (Qu (VM (I.pin p U).1)<|by rwa[z]) (ZD _)
structure vC(P:Rv)(w:Ru)(K:Wi)(tg:Expr)(J:It)(fp:Rz)(it:Rl)(tn:Nat->Heap->Prop):Prop where
 mem:it∈fp
 obj:∀i h,tn i h->∀b∈fp,∃o,h.get? b=some o/\∀v,o.data≠ .cell v
 keep:∀i h h',tn i h->(∀b∈fp,∀o,h.get? b=some o->h'.get? b=some o)->tn i h'
 item:∀(X:Cx),X.prog=P->X.w=w->X.K=K->X.calm=true->∀(i:Nat)(W:Rx)(s:Rm)(B:St)(H:Hp)(E:RS),Inv X W B H s->(∀b∈fp,mS X W H b)->tn i s.heap->J.go i H->
  wpAny (model P w) X.A (pyNext<|.ref it) (λr s1=>∃u,r=some u/\
   wpAny (model P w) X.A (letOwnedTupleGo tg (.ref it) u) (λ_ s2=>∃x H',Inv X W B H' s2/\RelV x u/\J.yld i H x H'/\tn (i+1) s2.heap/\∀b∈fp,H' b=none) E s1) E s
 done:∀(X:Cx),X.prog=P->X.w=w->X.K=K->X.calm=true->∀(i:Nat)(W:Rx)(s:Rm)(B:St)(H:Hp)(E:RS),Inv X W B H s->(∀b∈fp,mS X W H b)->tn i s.heap->J.stop i H->
  wpAny (model P w) X.A (pyNext<|.ref it) (λr s1=>r=none/\Inv X W B H s1) E s
 self:∀(A:RU)(i:Nat)(s:Rm)(Q:RS)(E:RS),tn i s.heap->Q (.ref it) s->wpAny (model P w) A (pyIter<|.ref it) Q E s
abbrev TI:=St->Hp->(It->Hp->Prop)->Prop
def PIE(X:Cx)(W:Rx)(B:St)(tg:Expr)(R:It->Hp->Prop)(itv:Rp)(s2:Rm):Prop:=
 ∃(it:Rl)(fp:Rz)(tn:Nat->Heap->Prop)(J:It)(H':Hp),itv= .ref it/\Inv X W B H' s2/\vC X.prog X.w X.K tg J fp it tn/\tn 0 s2.heap/\(∀b∈fp,mS X W H' b)/\R J H'
def PI(X:Cx)(tg iter:Expr)(wi:TI):Prop:=
 ∀(W:Rx)(s:Rm)(B:St)(H:Hp)(R:It->Hp->Prop),Inv X W B H s->wi B H R->
  Wj X (eval iter X.env) (λv s1=>Wj X (pyIter v) (PIE X W B tg R) X.xe s1) X.xe s
def rH{o:Obj}{n:String}{vs:Sd}{Q:Sn}(I:s.heap.get? it=some o)(hc:o.cls= .type n)(hd:o.data= .fields vs)
  (O:["enumerate","zip","dict_itemiterator","dict_reverseitemiterator","odict_iterator","itertools.zip_longest","itertools.pairwise"].contains n=false) (z:Q Unit.unit s):wpAny M' A (letOwnedTupleGo tg (.ref it) u) Q E s:=by
 unfold letOwnedTupleGo;cases tg<;>first
  |exact VR z
  |(cases u<;>first
    |exact VR z
    |(refine VI<|wpAny_load I ?_
      rw[hc,hd];show wpAny M' A (if(["enumerate","zip","dict_itemiterator","dict_reverseitemiterator","odict_iterator","itertools.zip_longest","itertools.pairwise"].contains n&&vs[0]?==some (rawInt _))=true then _ else _) Q E s;rw[VA (by intro h;rw[O,Zn]at h;cases h)];exact VR z))
def Pa(K:Wi)(a:Rl):It:=
 {λi H=>∃xs x,Dz K H a xs/\xs[i]?=some x,λi H x H'=>H'=H/\∀xs,Dz K H a xs->xs[i]?=some x,λi H=>∃xs,Dz K H a xs/\xs.length<=i}
def R6(K:Wi)(a:Rl):It:=
 {λi H=>∃xs x,OO K H a xs/\xs[i]?=some x,λi H x H'=>H'=H/\∀xs,OO K H a xs->xs[i]?=some x,λi H=>∃xs,OO K H a xs/\xs.length<=i}
def Po(lo:Int)(n:Nat):It:={λi _=>i<n,λi H x H'=>H'=H/\x= .int (lo+i),λi _=>n<=i}
def DN(a it:Rl):vC P w K tg (Pa K a) [it] it (λi h=>h.IsListIter it a i) where
 mem:=by simp
 obj:=λi h st b hb=>by
  have e:b=it:=by simpa using hb
  subst e;let{o,e,c,d}:=st;exact{o,e,λv z=>by rw[d]at z;cases z}
 keep:=λi h h' st k=>st.at λo e=>k it (by simp) o e
 item:=by
  intro X O hw hK hc i W s B H E I hf st U;subst O hw hK;let{xs,x,hq,hx}:=U;let{its,rv,p,hz}:=I.list hq;let{u,hu,ru}:=rv.get hx;let{Y,Z,f2,f3,f4,f5}:=hf it (by simp);refine wpAny_pyNext_list_item st p.isList (x:=u) (by simpa using hu) λh' st' sb=>?_;have I1:Inv X W B H {s with heap:=h'}:=I.turned (t':=s.toks) (λb o hb e=>(sb.2 b hb).trans e) Y Z f3 f4 f5;let{o,e,c,d}:=id st';exact{u,M,rH (s:={s with heap:=h'}) e c d (_) {x,H,I1,ru,{M,λys hy=>by rwa[I.list_inj hy hq]},st',λb hb=>(hf b hb).1}}
 done:=by
  intro X O hw hK hc i W s B H E I hf st U;subst O hw hK;let{xs,hq,hx}:=U;let{its,rv,p,hz}:=I.list hq;let{Y,Z,f2,f3,f4,f5}:=hf it (by simp);have hl:=rv.length;exact wpAny_pyNext_list_end (I.ok.hd hc) st p.isList (by simp;lia) λh' eb=>{M,I.turned (t':=s.toks) (λb o hb e=>eb b o hb e) Y Z f3 f4 f5}
 self:=λ_ _ _ _ _ st h=>wpAny_pyIter_listiter st h
def By(a it:Rl):vC P w K tg (R6 K a) [it] it (λi h=>h.IsTupleIter it a i) where
 mem:=by simp
 obj:=λi h st b hb=>by
  have e:b=it:=by simpa using hb
  subst e;let{o,e,c,d}:=st;exact{o,e,λv z=>by rw[d]at z;cases z}
 keep:=λi h h' st k=>st.at λo e=>k it (by simp) o e
 item:=by
  intro X O hw hK hc i W s B H E I hf st U;subst O hw hK;let{xs,x,hq,hx}:=U;let{its,rv,p,hz}:=I.tuple hq;let{u,hu,ru}:=rv.get hx;let{Y,Z,f2,f3,f4,f5}:=hf it (by simp);refine wpAny_pyNext_tuple_item st (show s.heap.IsTuple a its.toArray from p) (x:=u) (by simpa using hu) λh' st' sb=>?_;have I1:Inv X W B H {s with heap:=h'}:=I.turned (t':=s.toks) (λb o hb e=>(sb.2 b hb).trans e) Y Z f3 f4 f5;let{o,e,c,d}:=id st';exact{u,M,rH (s:={s with heap:=h'}) e c d (_) {x,H,I1,ru,{M,λys hy=>by rwa[I.tuple_inj hy hq]},st',λb hb=>(hf b hb).1}}
 done:=by
  intro X O hw hK hc i W s B H E I hf st U;subst O hw hK;let{xs,hq,hx}:=U;let{its,rv,p,hz}:=I.tuple hq;let{Y,Z,f2,f3,f4,f5}:=hf it (by simp);have hl:=rv.length;exact wpAny_pyNext_tuple_end (I.ok.hd hc) st (show s.heap.IsTuple a its.toArray from p) (by simp;lia) λh' eb=>{M,I.turned (t':=s.toks) (λb o hb e=>eb b o hb e) Y Z f3 f4 f5}
 self:=λ_ _ _ _ _ st h=>wpAny_pyIter_tupleiter st h
def Bz(it:Rl)(lo:Int)(n:Nat):vC P w K tg (Po lo n) [it] it (λi h=>IsRangeIter h it (lo+(i:Nat)*1) ((n:Int)-(i:Nat)) 1) where
 mem:=by simp
 obj:=λi h st b hb=>by
  have e:b=it:=by simpa using hb
  subst e;exact{_,st,λv z=>by
   have z':Data.fields _=Data.cell v:=z;cases z'}
 keep:=λi h h' st k=>k it (by simp) _ st
 item:=by
  intro X O hw hK hc i W s B H E I hf st U;subst O hw hK;let{Y,Z,f2,f3,f4,f5}:=hf it (by simp);have JM:=Walks.range (prog:=X.prog) (w:=X.w) (I.ok.hd hc) it lo 1 n;refine JM.item i s _ _ U st λv h' tk hv st' kk=>?_;let{t,rfl}:=hv;have I1:Inv X W B H {s with heap:=h',toks:=tk}:=I.turned (λb o hb e=>kk b o (by simpa using hb) e) Y Z f3 f4 f5;refine{_,M,rH (s:={s with heap:=h',toks:=tk}) (n:="range_iterator") st' M M (_) {.int<|lo+i,H,I1,{t,?_},⟨M,M⟩,st',λb hb=>(hf b hb).1}};rw[Int.mul_one]
 done:=by
  intro X O hw hK hc i W s B H E I hf st U;subst O hw hK;let{Y,Z,f2,f3,f4,f5}:=hf it (by simp);exact wpAny_pyNext_range_end (I.ok.hd hc) st (by have:n<=i:=U;lia) λh' eb=>{M,I.turned (t':=s.toks) (λb o hb e=>eb b o hb e) Y Z f3 f4 f5}
 self:=λ_ _ _ _ _ st h=>wpAny_pyIter_rangeiter st h
inductive Mi(K:Wi)(R:It->Hp->Prop)(x:V)(H1:Hp):Prop
 |mk(a:_)(_:x= .ref a)(_:(∃xs,Dz K H1 a xs))(_:R (Pa K a) H1)
def Nz(K:Wi)(tl:TE):TI:=λB H R=>tl B H λx H1=>Mi K R x H1
inductive Nv(K:Wi)(R:It->Hp->Prop)(x:V)(H1:Hp):Prop
 |mk(a:_)(_:x= .ref a)(_:(∃xs,OO K H1 a xs))(_:R (R6 K a) H1)
def iTup(K:Wi)(tl:TE):TI:=λB H R=>tl B H λx H1=>Nv K R x H1
def dZ(hl:PE X l tl):PI X tg l (Nz X.K tl):=by
 intro W s B H R I h;refine N3 (hl W s B H _ I h) λv s1 O=>?_;let{x,H1,z,r1,U}:=O;let{a,e,{xs,hq},q}:=U;subst e;cases r1;let{its,rv,p,hz}:=z.list hq;refine wpAny_pyIter_list p.isList ?_;refine{s1.heap.objs.size,[s1.heap.objs.size],_,_,H1,M,z.kept (t':=s1.toks) λb o e=>VC _ e,DN a _,{_,VN _ M,M,M},λb hb=>?_,q};have e:b=s1.heap.objs.size:=by simpa using hb
 subst e;exact z.fpOk (Q4 _)<|z.hok.fresh (Q4 _)
def LF(hl:PE X l tl):PI X tg l (iTup X.K tl):=by
 intro W s B H R I h;refine N3 (hl W s B H _ I h) λv s1 O=>?_;let{x,H1,z,r1,U}:=O;let{a,e,{xs,hq},q}:=U;subst e;cases r1;let{its,rv,p,hz}:=z.tuple hq;refine wpAny_pyIter_tuple (show s1.heap.IsTuple a its.toArray from p) ?_;refine{s1.heap.objs.size,[s1.heap.objs.size],_,_,H1,M,z.kept (t':=s1.toks) λb o e=>VC _ e,By a _,{_,VN _ M,M,M},λb hb=>?_,q};have e:b=s1.heap.objs.size:=by simpa using hb
 subst e;exact z.fpOk (Q4 _)<|z.hok.fresh (Q4 _)
def FP{R:It->Hp->Prop}{hi:Int}{t u v:Tok}{tk:Nat}(I:Inv X W B H s)(h1: -(2^62)<=lo)(h2:lo<2^62)(O: -(2^62)<=hi)(U:hi<2^62)
  (q:R (Po lo (hi-lo).toNat) H):Wj X (pyIter<|.ref s.heap.objs.size) (PIE X W B tg R) E {s with heap:=s.heap.push {cls:= .type vt,data:= .fields #[.int lo t,.int hi u,.int 1 v]},toks:=tk}:=by
 refine wpAny_pyIter_range (IsRange.new ..) (small_one h1 h2 O U) ?_;have z:Inv X W B H {s with heap:=s.heap.push {cls:= .type vt,data:= .fields #[.int lo t,.int hi u,.int 1 v]},toks:=tk}:=I.kept λb o e=>VC _ e;refine{(s.heap.push {cls:= .type vt,data:= .fields #[.int lo t,.int hi u,.int 1 v]}).objs.size,[(s.heap.push {cls:= .type vt,data:= .fields #[.int lo t,.int hi u,.int 1 v]}).objs.size],_,_,H,M,
  z.kept (t':=tk) λb o e=>VC _ e,Bz _ lo (hi-lo).toNat,?_,λb hb=>?_,q}
 .have Y:lo+((0:Nat):Int)*1=lo:=by simp
  have e2:(((hi-lo).toNat:Nat):Int)-((0:Nat):Int)=Builtin.Range.rangeSize lo hi 1:=by rw[rangeSize_one];split<;>lia
  show IsRangeIter _ _ (lo+((0:Nat):Int)*1) ((((hi-lo).toNat:Nat):Int)-((0:Nat):Int)) 1;rw[Y,e2];exact VN _ M
 .have e:b=(s.heap.push {cls:= .type vt,data:= .fields #[.int lo t,.int hi u,.int 1 v]}).objs.size:=by simpa using hb
  subst e;exact z.fpOk (Q4 _) (z.hok.fresh<|Q4 _)
inductive Mh(R:It->Hp->Prop)(vs:Rq)(H1:Hp):Prop
 |mk(j:Int)(_:vs=[.int j])(_: -(2^62)<=j)(_:j<2^62)(_:R (Po 0 j.toNat) H1)
def Nx(ta:TA):TI:=λB H R=>ta B H λvs H1=>Mh R vs H1
def fZ{a:Expr}{ta:TA}(U:Gl X vt)(Y:X.mg vt=none)(ha:PA X [a] ta)(hs:starEach [a] X.env=[(false,eval a X.env)]:=by rfl):PI X tg (.Call (.Name vt p) [a] [] pos) (Nx ta):=by
 intro W s B H R I h;refine Call_<|oS I U Y boot_range (PyProof.Rows.callWith_type1 (N3 (ha pos W s B H _ I h) λus s1 z=>?_) hs M);let{vs,H1,Z,r1,O}:=z;let{j,e,O,q2,q}:=O;subst e;cases r1 with
 |cons r rr=>
  cases rr;let{t,rfl}:=r;exact call_range_1<|FP Z () () O q2 (by simpa using q)
def tFor(wi:TI)(g:TG)(tb:TS):TS:=λD B H=>wi B H λJ H1=>∃JM:Nat->Nat->St->Hp->Prop,(∃m,JM 0 m B H1)/\∀i m B H,JM i m B H->
 (J.stop i H/\D.nx B H)\/(J.go i H/\∃N:St->Hp->Prop,(∀σ' H',N σ' H'->∃m',m'<m/\JM (i+1) m' σ' H')/\∀x H',J.yld i H x H'->g x B H' λσ2 H2=>tb {D with nx:=N,ct:=N,bk:=D.nx} σ2 H2)
def uu(fp:Rz)(h:Heap):List (Addr×Obj):=fp.filterMap λb=>(h.get? b).map λo=>(b,o)
def jQ{o:Obj}(hb:b∈fp)(e:h.get? b=some o):(b,o)∈uu fp h:=List.mem_filterMap.mpr {b,hb,by rw[e];rfl}
def El{p:Addr×Obj}(z:p∈uu fp h):p.1∈fp/\h.get? p.1=some p.2:=by
 let{b,hb,e}:=List.mem_filterMap.mp z;cases q:h.get? b with
 |none=>rw[q]at e;cases e
 |some o=>
  rw[q]at e;have I:(b,o)=p:=VL e;subst I;exact⟨hb,q⟩
def Inv.pinned(I:Inv X W B H s)(hf:∀b∈fp,mS X W H b)(U:∀b∈fp,∃o,s.heap.get? b=some o/\∀v,o.data≠ .cell v):Inv X (W++uu fp s.heap) B H s:=
 I.pins_of λp Y=>(Q5.mp Y).elim (λz=>I.pin p<|Qv _ z) λz=>by
  let{hb,e}:=El z;let{Z,f1,f2,_}:=hf p.1 hb;let{o,O,d}:=U p.1 hb;rw[e]at O;cases O;exact⟨e,Z,f1,f2,d⟩
def Inv.unpinned{pl:Rx}(I:Inv X (W++pl) B H s):Inv X W B H s:=I.pins_of λp z=>I.pin p (Qv _<|X8 _ z)
def gu{iter:Expr}{wi:TI}{g:TG}(hp:PassesOwn (model X.prog X.w) X.A X.env X.xe)(hc:X.calm=true)(hi:PI X tg iter wi)(hg:PG X tg g)(hb:OV X body tb)
  (hs:∀x,foldedSetIterable iter X.env x=pure x:=by subst_eqs):PS X (.For tg iter body [] pos) (tFor wi g tb):=by
 intro W s B H D I h;refine wpAny_For (N3 (hi W s B H _ I h) λv s1 h1=>N3 h1 λaf s2 h2=>?_) hs;let{it,fp,tn,J,H2,e,I2,T,st2,f2,JM,{m0,w0},turn}:=h2;subst e;have O:∀{H':Hp},(∀b∈fp,H' b=none)->∀b∈fp,mS X W H' b:=λhn b hb=>{hn b hb,(f2 b hb).2};refine codeAny_forLoop_any (λn s'=>∃i U H',Inv X W U H' s'/\tn i s'.heap/\(∀b∈fp,H' b=none)/\JM i n U H') ?_ m0 {0,B,H2,I2,st2,λb hb=>(f2 b hb).1,w0};rintro n s3 ⟨i,Y,H3,I3,a2,a3,w3⟩;rcases turn i n Y H3 w3 with⟨a4,qn⟩|⟨go,N,hN,step⟩
 .refine W8 hp<|N3 (T.done X M M M hc i W s3 Y H3 X.xe I3 (O a3) a2 a4) λr s4 zz=>?_;let{hr,I4}:=zz;subst hr;exact wpAny_execs_nil ⟨Y,H3,I4,qn⟩
 .refine W8 hp<|N3 (T.item X M M M hc i W s3 Y H3 X.xe I3 (O a3) a2 go) λr s4 zz=>?_;let{u,hr,h4}:=zz;subst hr;refine W8 hp<|N3 h4 λ_ s5 a0=>?_;let{x,H5,I5,r5,y5,a1,a5}:=a0;have a6:=I5.pinned (O a5) (T.obj _ _ a1);refine W8 hp<|N3 (hg _ s5 Y H5 x u _ a6 r5<|step x H5 y5) λ_ s6 a0=>?_;let{ac,H6,I6,q6}:=a0;refine W8 hp<|N3 (hb _ s6 ac H6 _ I6 q6) λf s7 q7=>?_;have again:∀{z:St}{Z:Hp},Inv X (W++uu fp s5.heap) z Z s7->N z Z->∃m,m<n/\∃i U H',Inv X W U H' s7/\tn i s7.heap/\(∀b∈fp,H' b=none)/\JM i m U H':=λ{z Z} I7 n7=>by
   let{m',hm,w7}:=hN z Z n7;refine{m',hm,i+1,z,Z,I7.unpinned,T.keep _ _ _ a1 λb hb o e=>(I7.pin (b,o)<|Qv _<|Qv _<|jQ hb e).1,λb hb=>?_,w7};let{o,e,d}:=T.obj _ _ a1 b hb;exact(I7.pin (b,o)<|Qv _<|Qv _<|jQ hb e).2.1
  cases f with
  |next=>let{z,Z,I7,n7}:=q7;exact again I7 n7
  |cont=>let{z,Z,I7,n7}:=q7;exact again I7 n7
  |brk=>let{z,Z,I7,q7}:=q7;exact⟨z,Z,I7.unpinned,q7⟩
  |ret v=>let{x7,z,Z,I7,r7,q7}:=q7;exact⟨x7,z,Z,I7.unpinned,r7,q7⟩
abbrev _root_.Sl:=Nat->St->Hp->Prop
def GP{g:TG}{D:kB}(Pv:Sl)(U:Pv 0 B H)(hl:∀i B H,i<=xs.length->Pv i B H->Dz K H a xs)
  (hs:∀i x B H,xs[i]?=some x->Pv i B H->g x B H λz H2=>tb {D with nx:=Pv (i+1),ct:=Pv (i+1),bk:=D.nx} z H2) (hd:∀B H,Pv xs.length B H->D.nx B H):
  ∃JM:Nat->Nat->St->Hp->Prop,(∃m,JM 0 m B H)/\∀i m B H,JM i m B H->
   ((Pa K a).stop i H/\D.nx B H)\/((Pa K a).go i H/\∃N:St->Hp->Prop,(∀I H',N I H'->∃m',m'<m/\JM (i+1) m' I H')/\∀x H',(Pa K a).yld i H x H'->g x B H' λz H2=>tb {D with nx:=N,ct:=N,bk:=D.nx} z H2):=by
 refine{λi m B H=>m=xs.length-i/\i<=xs.length/\Pv i B H,{xs.length,by simp,Qc _,U},?_};rintro i m B H ⟨rfl,hi,p⟩;have q:=hl i B H hi p;by_cases O:i<xs.length
 .refine .inr {{xs,xs[i],q,by simp[O]},Pv<|i+1,λI H' Y=>{xs.length-(i+1),(),M,O,Y},λx H' y=>?_};let{e,y}:=y;subst e;exact hs i x B _ (y xs q) p
 .have e:i=xs.length:=();subst e;exact .inl {{xs,q,Q4 _},hd B H p}
def JF{g:TG}{D:kB}(Pv:Sl)(U:Pv 0 B H)(hl:∀i B H,i<=xs.length->Pv i B H->OO K H a xs)
  (hs:∀i x B H,xs[i]?=some x->Pv i B H->g x B H λz H2=>tb {D with nx:=Pv (i+1),ct:=Pv (i+1),bk:=D.nx} z H2) (hd:∀B H,Pv xs.length B H->D.nx B H):
  ∃JM:Nat->Nat->St->Hp->Prop,(∃m,JM 0 m B H)/\∀i m B H,JM i m B H->
   ((R6 K a).stop i H/\D.nx B H)\/((R6 K a).go i H/\∃N:St->Hp->Prop,(∀I H',N I H'->∃m',m'<m/\JM (i+1) m' I H')/\∀x H',(R6 K a).yld i H x H'->g x B H' λz H2=>tb {D with nx:=N,ct:=N,bk:=D.nx} z H2):=by
 refine{λi m B H=>m=xs.length-i/\i<=xs.length/\Pv i B H,{xs.length,by simp,Qc _,U},?_};rintro i m B H ⟨rfl,hi,p⟩;have q:=hl i B H hi p;by_cases O:i<xs.length
 .refine .inr {{xs,xs[i],q,by simp[O]},Pv<|i+1,λI H' Y=>{xs.length-(i+1),(),M,O,Y},λx H' y=>?_};let{e,y}:=y;subst e;exact hs i x B _ (y xs q) p
 .have e:i=xs.length:=();subst e;exact .inl {{xs,q,Q4 _},hd B H p}
def qY{g:TG}{D:kB}(Pv:Sl)(U:Pv 0 B H)
  (hs:∀i B H,i<n->Pv i B H->g (.int<|lo+i) B H λz H2=>tb {D with nx:=Pv (i+1),ct:=Pv (i+1),bk:=D.nx} z H2) (hd:∀B H,Pv n B H->D.nx B H):
  ∃JM:Nat->Nat->St->Hp->Prop,(∃m,JM 0 m B H)/\∀i m B H,JM i m B H->
   ((Po lo n).stop i H/\D.nx B H)\/((Po lo n).go i H/\∃N:St->Hp->Prop,(∀I H',N I H'->∃m',m'<m/\JM (i+1) m' I H')/\∀x H',(Po lo n).yld i H x H'->g x B H' λz H2=>tb {D with nx:=N,ct:=N,bk:=D.nx} z H2):=by
 refine{λi m B H=>m=n-i/\i<=n/\Pv i B H,{n,by simp,Qc _,U},?_};rintro i m B H ⟨rfl,hi,p⟩;by_cases O:i<n
 .refine .inr {O,Pv<|i+1,λI H' Y=>{n-(i+1),(),M,O,Y},λx H' y=>?_};let{e,y}:=y;subst e y;exact hs i B _ O p
 .have e:i=n:=();subst e;exact .inl {Q4 _,hd B H p}
abbrev R2:=V->V->Hp->VK->Prop
abbrev _root_.Sr:=Value->Value->Sem Value
def Oc(X:Cx)(f:Sr)(r:R2):Prop:=
 ∀(W:Rx)(s:Rm)(B:St)(H:Hp)(x y:V)(v u:Rp)(Q:VK),Inv X W B H s->RelV x v->RelV y u->r x y H Q->
  Wj X (f v u) (EP X W B Q) X.xe s
def UnR(X:Cx)(f:Value->Sem Value)(r:V->Hp->VK->Prop):Prop:=
 ∀(W:Rx)(s:Rm)(B:St)(H:Hp)(x:V)(v:Rp)(Q:VK),Inv X W B H s->RelV x v->r x H Q->
  Wj X (f v) (EP X W B Q) X.xe s
def fg(X:Cx)(f:Rp)(r:List V->Hp->VK->Prop):Prop:=
 ∀(W:Rx)(s:Rm)(B:St)(H:Hp)(xs:Rq)(us:Rr)(Q:VK),Inv X W B H s->HV xs us->r xs H Q->
  Wj X (call f us) (EP X W B Q) X.xe s
def tOp(r:R2)(ta tb:TE):TE:=λB H Q=>ta B H λx H1=>tb B H1 λy H2=>r x y H2 Q
def tUn(r:V->Hp->VK->Prop)(ta:TE):TE:=λB H Q=>ta B H λx H1=>r x H1 Q
inductive rI(C:Int->Int->Prop)(g:Int->Int->V)(x y:V)(H:Hp)(Q:VK):Prop
 |mk(i j:_)(_:x= .int i)(_:y= .int j)(_:C i j)(_:Q (g i j) H)
inductive R8(g:Int->Int->V)(x y:V)(H:Hp)(Q:VK):Prop
 |mk(i j:_)(_:x= .int i)(_:y= .int j)(_:Q (g i j) H)
inductive rU(g:Int->V)(x:V)(H:Hp)(Q:VK):Prop
 |mk(i:_)(_:x= .int i)(_:Q (g i) H)
section
variable{a b:Expr}{tb tc:TE}
def Mw(ha:PE X a ta)(hb:PE X b tb){R:V->V->Hp->Prop}(I:Inv X W B H s)
  (h:ta B H λx H1=>tb B H1 λy H2=>R x y H2) {f:Sr}
  (hf:∀v u O x y H2,Inv X W B H2 O->RelV x v->RelV y u->R x y H2->Wj X (f v u) Q X.xe O):
  Wj X (eval a X.env) (λv s₁=>Wj X (eval b X.env) (λu s₂=>Wj X (f v u) Q X.xe s₂) X.xe s₁) X.xe s:=by
 refine N3 (ha W s B H _ I h) λv s1 z=>?_;let{x,H1,U,r1,Y}:=z;refine N3 (hb W s1 B H1 _ U Y) λu O z=>?_;let{y,H2,Z,r2,q2}:=z;exact hf v u O x y H2 Z r1 r2 q2
def aq{op:Operator}(z:Oc X (binaryOp op) r)(ha:PE X a ta)(hb:PE X b tb):PE X (.BinOp a op b pos) (tOp r ta tb):=by
 intro W s B H Q I h;exact wpAny_BinOp<|Mw ha hb I h λv u O x y H2 U Y Z q=>z W O B H2 x y v u Q U Y Z q
def uv{op:UnaryOp}{r:V->Hp->VK->Prop}(z:UnR X (unaryOp op) r)(ha:PE X a ta):PE X (.UnaryOp op a pos) (tUn r ta):=by
 intro W s B H Q I h;exact UnaryOp_<|N3 (ha W s B H _ I h) λv s1 zz=>by let{x,H1,O,r1,U}:=zz;exact z W s1 B H1 x v Q O r1 U
def opI{f:Sr}{C:Int->Int->Prop} 
  (rule:∀(i j:Int)(t u:Tok)(s:Rm)(Q:RS)(E:RS),C i j->Q (.int (g i j) s.toks) {s with toks:=s.toks+1}->Wj X (f (.int i t)<|.int j u) Q E s):
  Oc X f (rI C λi j=> .int<|g i j):=by
 intro W s B H x y v u Q I z O h;let{i,j,rfl,rfl,hc,q}:=h;let{t,rfl}:=z;let{t',rfl}:=O;exact rule i j t t' s _ _ hc {.int<|g i j,H,I.tok _,{_,M},q}
def opI0{f:Sr} 
  (rule:∀(i j:Int)(t u:Tok)(s:Rm)(Q:RS)(E:RS),Q (.int (g i j) s.toks) {s with toks:=s.toks+1}->Wj X (f (.int i t)<|.int j u) Q E s):
  Oc X f (R8 λi j=> .int<|g i j):=by
 intro W s B H x y v u Q I z O h;let{i,j,rfl,rfl,q}:=h;let{t,rfl}:=z;let{t',rfl}:=O;exact rule i j t t' s _ _ {.int<|g i j,H,I.tok _,{_,M},q}
def IT{f:Sr}{g:Int->Int->Bool}
  (rule:∀(i j:Int)(t u:Tok)(s:Rm)(Q:RS)(E:RS),Q (.bool<|g i j) s->Wj X (f (.int i t)<|.int j u) Q E s):
  Oc X f (R8 λi j=> .bl<|g i j):=by
 intro W s B H x y v u Q I z O h;let{i,j,rfl,rfl,q}:=h;let{t,rfl}:=z;let{t',rfl}:=O;exact rule i j t t' s _ _ {.bl<|g i j,H,I,M,q}
def CDiv(i j:Int):Prop:=0<j/\j<1073741824
def CPow(i j:Int):Prop:=0<=j/\j<=1000000/\i.natAbs<2^64
def RF(i j:Int):Prop:=(-(2^64)<i/\i<2^64)\/(-(2^64)<j/\j<2^64)
def RF.ok{i j:Int}(h:RF i j):IntMulOk i j:=by
 rcases h with⟨h1,h2⟩|⟨h1,h2⟩
 .exact .of_left<|intBits_le_64 h1 h2
 .exact .of_right<|intBits_le_64 h1 h2
def bN:Oc X (binaryOp .Add) (R8 λi j=> .int<|i+j):=opI0 λ_ _ _ _ _ _ _ q=>add_int q
def iE:Oc X (binaryOp .Sub) (R8 λi j=> .int<|i-j):=opI0 λ_ _ _ _ _ _ _ q=>sub_int q
def eI:Oc X (binaryOp .Mult) (rI RF λi j=> .int<|i*j):=opI λ_ _ _ _ _ _ _ hc q=>mul_int q hc.ok
def bf:Oc X (binaryOp .FloorDiv) (rI CDiv λi j=> .int<|i/j):=opI λi j _ _ _ _ _ hc q=>by
 have h1:(0:Int)<j:=hc.1;have h2:j<1073741824:=hc.2;exact floordiv_int () (by rw[Vr i ()];exact q)<|.inl (PyProof.noPylong_small ())
def aY:Oc X (binaryOp .Mod) (rI (λ_ j=>0<j) λi j=> .int<|i%j):=opI λi j _ _ _ _ _ hc q=>by
 have h1:(0:Int)<j:=hc;exact mod_int' ()<|by rw[Int.fmod_eq_emod_of_nonneg i ()];exact q
def lu:Oc X (binaryOp .Pow) (rI CPow λi j=> .int<|i^j.toNat):=opI λ_ _ _ _ _ _ _ hc q=>pow_int_small hc.1 hc.2.1 hc.2.2 q
def unI{f:Value->Sem Value}{g:Int->Int}
  (rule:∀(i:Int)(t:Tok)(s:Rm)(Q:RS)(E:RS),Q (.int (g i) s.toks) {s with toks:=s.toks+1}->Wj X (f<|.int i t) Q E s):
  UnR X f (rU λi=> .int<|g i):=by
 intro W s B H x v Q I z h;let{i,rfl,q}:=h;let{t,rfl}:=z;exact rule i t s _ _ {.int<|g i,H,I.tok _,{_,M},q}
def oi:UnR X (unaryOp .USub) (rU λi=> .int<|-i):=unI λ_ _ _ _ _ q=>neg_int q
end
noncomputable def scal:V->V->Bool
 | .non,.non=>true| .non,.int _=>true| .int _,.non=>true| .non,.bl _=>true| .bl _,.non=>true| .non,.str _=>true| .str _,.non=>true
 | .int _,.int _=>true| .bl _,.bl _=>true| .str _,.str _=>true| .byt _,.byt _=>true
 | .int _,.str _=>true| .str _,.int _=>true| .bl _,.str _=>true| .str _,.bl _=>true
 |_,_=>false
def rEq:R2:=λx y H Q=>scal x y=true/\Q (.bl<|decide (x=y)) H
def rNe:R2:=λx y H Q=>scal x y=true/\Q (.bl<|!decide (x=y)) H
def Dw{i j:Int}:decide (V.int i=V.int j)=(i==j):=by
 rw[Xc];simp
def G8{i j:Bool}:decide (V.bl i=V.bl j)=(i==j):=by
 rw[Xc];simp
def Dv{i j:Str}:decide (V.str i=V.str j)=(i==j):=by
 rw[Xc];simp
def Dx{i j:Array UInt8}:decide (V.byt i=V.byt j)=(i.toList==j.toList):=by
 rw[Xc];cases i;cases j;simp
section
variable{a b:Expr}{tb tc:TE}
def a8{Q:VK}{k k':Bool}(I:Inv X W B H s)(q:Q (.bl k) H)(e:k=k'):EP X W B Q (.bool k') s:=by
 subst e;exact{.bl k,H,I,M,q}
def bX:Oc X (compareOp .Eq) rEq:=by
 intro W s B H x y v u Q I O z h;let{hs,q}:=h;cases x with
 |non=>
  cases O;cases y with
  |non=>cases z;exact PySem.EqNone.eq_none_none<|a8 I q (by simp)
  |bl j=>cases z;exact PySem.EqNone.eq_none_bool<|a8 I q (by simp)
  |int j=>let{t',rfl}:=z;exact PySem.EqNone.eq_none_int<|a8 I q (by simp)
  |str j=>let{t',rfl}:=z;exact PySem.EqNone.eq_none_str<|a8 I q (by simp)
  |_=>exact VG (show false=true from hs) Qg
 |bl i=>
  cases O;cases y with
  |non=>cases z;exact PySem.EqNone.eq_bool_none<|a8 I q (by simp)
  |bl j=>cases z;exact eq_bool<|a8 I q G8
  |str j=>let{t',rfl}:=z;exact PySem.EqMixed.eq_bool_str<|a8 I q (by simp)
  |_=>exact VG (show false=true from hs) Qg
 |int i=>
  let{t,rfl}:=O;cases y with
  |non=>cases z;exact PySem.EqNone.eq_int_none<|a8 I q (by simp)
  |int j=>let{t',rfl}:=z;exact eq_int<|a8 I q Dw
  |str j=>let{t',rfl}:=z;exact PySem.EqMixed.eq_int_str<|a8 I q (by simp)
  |_=>exact VG (show false=true from hs) Qg
 |str i=>
  let{t,rfl}:=O;cases y with
  |non=>cases z;exact PySem.EqNone.eq_str_none<|a8 I q (by simp)
  |bl j=>cases z;exact PySem.EqMixed.eq_str_bool<|a8 I q (by simp)
  |int j=>let{t',rfl}:=z;exact PySem.EqMixed.eq_str_int<|a8 I q (by simp)
  |str j=>let{t',rfl}:=z;exact eq_str<|a8 I q Dv
  |_=>exact VG (show false=true from hs) Qg
 |byt i=>
  let{t,rfl}:=O;cases y with
  |byt j=>let{t',rfl}:=z;exact PySem.W.eq_bytes<|a8 I q Dx
  |_=>exact VG (show false=true from hs) Qg
 |_=>cases y<;>exact VG (show false=true from hs) Qg
def Ar:Oc X (compareOp .NotEq) rNe:=by
 intro W s B H x y v u Q I O z h;let{hs,q}:=h;cases x with
 |non=>
  cases O;cases y with
  |non=>cases z;exact PySem.EqNone.ne_none_none<|a8 I q (by simp)
  |bl j=>cases z;exact PySem.EqNone.ne_none_bool<|a8 I q (by simp)
  |int j=>let{t',rfl}:=z;exact PySem.EqNone.ne_none_int<|a8 I q (by simp)
  |str j=>let{t',rfl}:=z;exact PySem.EqNone.ne_none_str<|a8 I q (by simp)
  |_=>exact VG (show false=true from hs) Qg
 |bl i=>
  cases O;cases y with
  |non=>cases z;exact PySem.EqNone.ne_bool_none<|a8 I q (by simp)
  |bl j=>cases z;exact ne_bool<|a8 I q (VT not G8)
  |str j=>let{t',rfl}:=z;exact PySem.EqMixed.ne_bool_str<|a8 I q (by simp)
  |_=>exact VG (show false=true from hs) Qg
 |int i=>
  let{t,rfl}:=O;cases y with
  |non=>cases z;exact PySem.EqNone.ne_int_none<|a8 I q (by simp)
  |int j=>let{t',rfl}:=z;exact ne_int<|a8 I q (VT not Dw)
  |str j=>let{t',rfl}:=z;exact PySem.EqMixed.ne_int_str<|a8 I q (by simp)
  |_=>exact VG (show false=true from hs) Qg
 |str i=>
  let{t,rfl}:=O;cases y with
  |non=>cases z;exact PySem.EqNone.ne_str_none<|a8 I q (by simp)
  |bl j=>cases z;exact PySem.EqMixed.ne_str_bool<|a8 I q (by simp)
  |int j=>let{t',rfl}:=z;exact PySem.EqMixed.ne_str_int<|a8 I q (by simp)
  |str j=>let{t',rfl}:=z;exact ne_str<|a8 I q (VT not Dv)
  |_=>exact VG (show false=true from hs) Qg
 |byt i=>
  let{t,rfl}:=O;cases y with
  |byt j=>let{t',rfl}:=z;exact PySem.W.ne_bytes<|a8 I q (VT not Dx)
  |_=>exact VG (show false=true from hs) Qg
 |_=>cases y<;>exact VG (show false=true from hs) Qg
def dz:Oc X (compareOp .Lt) (R8 λi j=> .bl<|decide (i<j)):=IT λ_ _ _ _ _ _ _ q=>lt_int q
def gX:Oc X (compareOp .LtE) (R8 λi j=> .bl<|decide (i<=j)):=IT λ_ _ _ _ _ _ _ q=>le_int q
def C9:Oc X (compareOp .Gt) (R8 λi j=> .bl<|decide (j<i)):=IT λ_ _ _ _ _ _ _ q=>gt_int q
def ux:Oc X (compareOp .GtE) (R8 λi j=> .bl<|decide (j<=i)):=IT λ_ _ _ _ _ _ _ q=>ge_int q
def Eh:Oc X (compareOp .In) (λx y H Q=>∃i j,x= .str i/\y= .str j/\Q (.bl<|!(Builtin.Str.occurrences j i 0 j.length 1).isEmpty) H):=by
 intro W s B H x y v u Q I z O h;let{i,j,rfl,rfl,q}:=h;let{t,rfl}:=z;let{t',rfl}:=O;exact in_str<|a8 I q M
def gv:Oc X (compareOp .Is) (λx y H Q=>y= .non/\Q (.bl<|decide (x= .non)) H):=by
 intro W s B H x y v u Q I z O h;let{rfl,q}:=h;cases O;refine is_none_gen<|a8 I q ?_;cases x<;>first
  |(cases z;rfl)
  |(let{t,rfl}:=z;rfl)
def C8:Oc X (compareOp .IsNot) (λx y H Q=>y= .non/\Q (.bl<|!decide (x= .non)) H):=by
 intro W s B H x y v u Q I z O h;let{rfl,q}:=h;cases O;refine isnot_none_gen<|a8 I q ?_;cases x<;>first
  |(cases z;rfl)
  |(let{t,rfl}:=z;rfl)
def ax(b:Expr)(h:op≠ .In:=by decide)(h2:op≠ .NotIn:=by decide):behindInMarks op b=false:=by
 have z:(op==CmpOp.In)=false:=by cases op<;>first|rfl|exact VG M h
 have e2:(op==CmpOp.NotIn)=false:=by cases op<;>first|rfl|exact VG M h2
 cases b with
 |Set x k y=>
  show(k==0&&(op== .In||op== .NotIn)&&_)=false;rw[z,e2,Bool.or_false,Xj,Zn]
 |_=>rfl
def bK(z:Oc X (compareOp op) r)(ha:PE X a ta)(hb:PE X b tb)(O:behindInMarks op b=false):PE X (.Compare a [op] [b] pos) (tOp r ta tb):=by
 intro W s B H Q I h;exact wpAny_Compare1 (Mw ha hb I h λv u U x y H2 Y Z ry q=>z W U B H2 x y v u Q Y Z ry q) O
inductive Lk(Q:Bool->Hp->Prop)(x:V)(H':Hp):Prop
 |mk(k:_)(_:x= .bl k)(_:Q k H')
def Ks(t:TE):TT:=λB H Q=>t B H λx H'=>Lk Q x H'
def ar(O:Oc X (compareOp op) r)(ha:PE X a ta)(hb:PE X b tb)(U:behindInMarks op b=false):PT X (.Compare a [op] [b] pos) (Ks<|tOp r ta tb):=by
 intro W s B H Q I h;refine wpAny_isTrue_Compare1 (N3 (ha W s B H _ I h) λv s1 zz=>?_) U;let{x,H1,Y,r1,Z}:=zz;refine N3 (hb W s1 B H1 _ Y Z) λu s2 zz=>?_;let{y,H2,I2,r2,q2}:=zz;refine N3 (O W s2 B H2 x y v u _ I2 r1 r2 q2) λc s3 zz=>?_;let{z,H3,I3,r3,k,e,q3}:=zz
 subst e;cases r3;exact VZ ⟨H3,I3,q3⟩
def FA(r r':R2)(ta tb tc:TE):TE:=λB H Q=>ta B H λx H1=>tb B H1 λy H2=>r x y H2 λz H3=>∃k,z= .bl k/\
 (if k=true then tc B H3 λw' H4=>r' y w' H4 Q else Q (.bl false) H3)
def Aq{O:CmpOp}{Y:R2}(ho:Oc X (compareOp op) r)(U:Oc X (compareOp O) Y)(ha:PE X a ta)(hb:PE X b tb)(hc:PE X c tc)
  (hm:lastMarks [op,O] [b,c]=false:=by with_unfolding_all rfl):PE X (.Compare a [op,O] [b,c] pos) (FA r Y ta tb tc):=by
 intro W s B H Q I h;refine Compare_chain (N3 (ha W s B H _ I h) λv s1 zz=>?_) hm;let{x,H1,I1,r1,q1}:=zz;refine chain_link (N3 (hb W s1 B H1 _ I1 q1) λu s2 zz=>?_);let{y,H2,I2,Z,q2}:=zz;refine N3 (ho W s2 B H2 x y v u _ I2 r1 Z q2) λd s3 zz=>?_;let{z,H3,I3,r3,k,e,q3}:=zz
 subst e;cases r3;refine VZ ?_;cases k with
 |false=>exact ite_ff {.bl false,H3,I3,M,q3}
 |true=>exact ite_tt<|chain_last (N3 (hc W s3 B H3 _ I3 q3) λw' s4 zz=>by let{z',H4,I4,r4,q4}:=zz;exact U W s4 B H4 y z' u w' Q I4 Z r4 q4)
def Ak{O:CmpOp}{Z:R2}(ho:Oc X (compareOp op) r)(U:Oc X (compareOp O) Z)(ha:PE X a ta)(hb:PE X b tb)(hc:PE X c tc)
  (hm:lastMarks [op,O] [b,c]=false:=by with_unfolding_all rfl):PT X (.Compare a [op,O] [b,c] pos) (Ks<|FA r Z ta tb tc):=by
 intro W s B H Q I h;refine isTrue_chain (N3 (ha W s B H _ I h) λv s1 zz=>?_) hm;let{x,H1,I1,r1,q1}:=zz;refine test_link (N3 (hb W s1 B H1 _ I1 q1) λu s2 zz=>?_);let{y,H2,I2,r2,q2}:=zz;refine N3 (ho W s2 B H2 x y v u _ I2 r1 r2 q2) λd s3 zz=>?_;let{z,H3,I3,r3,k,e,q3}:=zz
 subst e;cases r3;refine VZ ?_;cases k with
 |false=>
  let{k',e',q'}:=q3;cases e';exact ite_ff ⟨H3,I3,q'⟩
 |true=>
  refine ite_tt<|test_last (N3 (hc W s3 B H3 _ I3 q3) λw' s4 zz=>?_);let{z',H4,I4,r4,q4}:=zz;refine N3 (U W s4 B H4 y z' u w' _ I4 r2 r4 q4) λd' s5 Y=>?_;let{z2,H5,I5,r5,k2,e2,q5}:=Y;subst e2;cases r5;exact VZ ⟨H5,I5,q5⟩
def qU:(sizeLine:Nat)<2^63:=by rw[sizeLine_eq];decide
def bu:Oc X (binaryOp .Add) (λx y H Q=>∃i j,x= .str i/\y= .str j/\i.length+j.length<=sizeLine/\Q (.str<|i++j) H):=by
 intro W s B H x y v u Q I z O h;let{i,j,rfl,rfl,hz,q}:=h;let{t,rfl}:=z;let{t',rfl}:=O;exact add_str (λt' tk=>{.str<|i++j,H,I.tok _,{_,M},q}) hz
def mT{x:V}(r:HV [x] us):∃u,us=[u]/\RelV x u:=by
 cases r with
 |cons r1 z=>cases z;exact{_,M,r1}
def xy{x:V}(r:HV [x,y] us):∃u w',us=[u,w']/\RelV x u/\RelV y w':=by
 cases r with
 |cons r1 z=>
  cases z with
  |cons I O=>cases O;exact{_,_,M,r1,I}
def rn(hc:X.calm=true):fg X (.builtin "max") (λxs H Q=>∃i j,xs=[.int i,.int j]/\Q (.int<|if j>i then j else i) H):=by
 intro W s B H xs us Q I r h;let{i,j,rfl,q}:=h;let{u,w',rfl,{t,rfl},{t',rfl}}:=xy r;refine max_two_ints (I.ok.hd hc) λh' tk k=>{_,H,I.kept k,?_,q};by_cases z:j>i
 .rw[VB z,VB z];exact{_,M}
 .rw[VA z,VA z];exact{_,M}
def mM(hc:X.calm=true):fg X (.builtin "min") (λxs H Q=>∃i j,xs=[.int i,.int j]/\Q (.int<|if j<i then j else i) H):=by
 intro W s B H xs us Q I r h;let{i,j,rfl,q}:=h;let{u,w',rfl,{t,rfl},{t',rfl}}:=xy r;refine min_two_ints (I.ok.hd hc) λh' tk k=>{_,H,I.kept k,?_,q};by_cases z:j<i
 .rw[VB z,VB z];exact{_,M}
 .rw[VA z,VA z];exact{_,M}
def bO:fg X (.type "str") (λxs H Q=>∃i,xs=[.int i]/\i.natAbs.log2<1920/\Q (.str<|toString i) H):=by
 intro W s B H xs us Q I r h;let{i,rfl,hz,q}:=h;let{u,rfl,t,rfl}:=mT r;exact PySem.P.str_of_int hz {.str _,H,I.tok _,{_,M},q}
end
structure PU(h:Heap)(x dx C:Rl)(mA:RT):Prop where
 obj:h.get? x=some (PySem.W.instObj C dx)
 ns:h.Ns1 dx mA
 ne:dx≠x
set_option tactic.hygienic true in
def Ez{mA:RT}(n:h.Ns1 dx mA):∃od,h.get? dx=some od/\∀name,PySem.W.lookIn name od=some (mA name):=by
 let{o,es,ep,O,hd,hk,_,U}:=n;refine{o,O,λname=>?_};have e:=U name;unfold nsFind findBy at e;rw[<-Array.find?_toList]at e;unfold PySem.W.lookIn;rw[hd];dsimp only;split
 .rename_i y q
  rw[q]at e;exact VT some e
 .rename_i q
  rw[q]at e;have a:es.toList.any (·.refKey)=false:=by
   rw[List.any_eq_false];intro y hy;let{z,t,I}:=hk y (Array.mem_toList_iff.mp hy);simp[DictEntry.refKey,I]
  have a':¬es.toList.any (·.refKey)=true:=by rw[a];exact Qg
  rw[VA a'];exact VT some e
def PU.look{x:Rl}{mA:RT}(I:PU h x dx C mA):∃od,PySem.W.InstAt h x (PySem.W.instObj C dx) C (some od)/\∀name,PySem.W.lookIn name od=some (mA name):=
 let⟨od,ho,hl⟩:=Ez I.ns
 {od,⟨I.obj,M,M,ho⟩,hl}
section
variable{x:Rl}{mA:RT}{v:Rp}
def JD{z:Bool}(X:K.In s.heap)(I:PU s.heap x dx C mA)(U:PySem.W.plainGet K C name=true)(Y:PySem.W.hasDictIn K C=true)
  (ha:PySem.W.findIn K (.ref C) name=some none) (Z:mA name=some v) (O:PySem.W.handedIn v=true) (h:Q v {s with toks:=s.toks+1}):
  wpAny (model prog w) A (getAttr (.ref x) name z) Q E s:=by
 let{od,J,hl}:=I.look;exact PySem.W.get_value X J (XV U).1 (PySem.W.findObj_own Y ha M<|by rw[hl,Z]) O h
def GL{pl:Sem Bool}{Q:Value×List Value->Shared->Prop}(X:K.In s.heap)(I:PU s.heap x dx C mA)(z:PySem.W.plainGet K C name=true)
  (hf:PySem.W.findIn K (.ref C) name=some (some<|.ref f)) (O:PySem.W.isFn K (.ref f)=true) (U:mA name=none) (h:Q (.ref f,[.ref x]) s):
  wpAny (model prog w) A (getMethod (.ref x) name pl) Q E s:=by
 let{od,J,hl}:=I.look;exact PySem.W.method_fn X J (XV z).1 (XV z).2 hf (VP.mp O) (by show(PySem.W.lookIn name od).map (·.isSome)=some false;rw[hl,U];rfl) h
def Ix{ns:Ry}{Q:Sn}(X:K.In s.heap)(I:PU s.heap x dx C mA)
  (hs:PySem.W.findIn K (.ref C) "__setattr__"=some (some<|.builtin "object.__setattr__")) (hp:PySem.W.plainOver K C=true) (ht:PySem.W.takerIn K C name=some none) (hh:PySem.W.hasDictIn K C=true)
  (hw:PySem.Within mA ns) (hsz:ns.length<=sizeLine)
  (h:∀h',PU h' x dx C (λy=>if y=name then some v else mA y)->Heap.SameBut dx s.heap h'->Q Unit.unit {s with heap:=h',toks:=s.toks+2}):
  wpAny (model prog w) A (setAttr (.ref x) name v) Q E s:=by
 let{od,J,hl}:=I.look;refine PySem.W.set_plain X J hs<|PySem.W.osa_open (s:={s with toks:=s.toks+1}) (r:=none) X J hp ht λb=>?_;let{cd,hc,U}:=PySem.W.any_some hh;have hx:s.heap.get? x=some {.ref C,some dx,.plain, #[]}:=I.obj;refine VI<|VR (VI<|VI<|wpAny_loadPart hx<|VI<|PySem.W.Looks.here (s:={s with toks:=s.toks+1}) (PySem.W.looks_clsIn X hc) ?_);rw[U];refine VR (a:=some dx)<|VI (VR<|VI ?_);refine wpAny_nsSet1 (s:={s with toks:=s.toks+1}) I.ns λh' z O=>?_;let{oD,a1,a2,Y,Z,a0}:=z.count (PySem.Within.cons name v hw);refine VI<|wpAny_lookBehind Y (by rw[Z];exact pastItsLine_dict<|Qr a0<|by rw[Qi];lia) ?_;exact VR<|h _ {(O.2 _<|Ne.symm I.ne).trans I.obj,z,I.ne} O
def Gn{vs:Rr}(X:K.In s.heap)(z:PySem.W.makesIn K C=true)
  (hi:PySem.W.findIn K (.ref C) lU=some (some<|.ref f)) (hf:PySem.W.typeIn K (.ref f)=some (.type "function"))
  (h:codeAny (model prog w) (A.under<|.builtin vo {.ref C::vs,kw}) (.call (.ref f) {.ref (s.heap.objs.size+1)::vs,kw}) (PySem.W.InitBack (s.heap.objs.size+1) R)
   {s with heap:=(s.heap.push PySem.W.emptyDict).push (PySem.W.instObj C s.heap.objs.size)}):
  codeAny (model prog w) A (.call (.ref C) ⟨vs,kw⟩) R s:=by
 let{I,g,d,t,os}:=s;exact PySem.W.make_core (PySem.W.makes_of X z) (PySem.W.looks_findIn X hi) (λself=>PySem.W.bind_fn X self hf) (.inl M) h
end
def b6(f:Str)(v:V):List (Str×V)->List (Str×V)
 | []=> [(f,v)]
 |(g,x)::r=>if g=f then(g,v)::r else(g,x)::b6 f v r
theorem a9(f g:Str)(v:V):∀fs:List (Str×V),(b6 f v fs).lookup g=if g=f then some v else fs.lookup g
 | []=>by
  show List.lookup g [(f,v)]=_;by_cases h:g=f
  .have hb:(g==f)=true:=VP.mpr h;simp only[List.lookup,hb,VB h]
  .have hb:(g==f)=false:=VQ.mpr h;simp only[List.lookup,hb,VA h]
 |(k,x)::r=>by
  have z:=a9 f g v r;rw[show b6 f v ((k,x)::r)=(if k=f then(k,v)::r else(k,x)::b6 f v r) from rfl];by_cases hk:k=f
  .rw[VB hk];by_cases h:g=k
   .have hb:(g==k)=true:=VP.mpr h;simp only[List.lookup,hb,VB (h.trans hk)]
   .have hb:(g==k)=false:=VQ.mpr h;simp only[List.lookup,hb,VA (λe:g=f=>h<|e.trans hk.symm)]
  .rw[VA hk];by_cases h:g=k
   .have hb:(g==k)=true:=VP.mpr h;simp only[List.lookup,hb,VA (λe:g=f=>hk<|h.symm.trans e)]
   .have hb:(g==k)=false:=VQ.mpr h;simp only[List.lookup,hb];exact z
theorem qW(f:Str)(v:V):∀fs:List (Str×V),f∈(b6 f v fs).map (·.1)/\∀g,g∈fs.map (·.1)->g∈(b6 f v fs).map (·.1)
 | []=>{by simp[b6],λg h=>by simp at h}
 |(k,x)::r=>by
  let{z,I}:=qW f v r;rw[show b6 f v ((k,x)::r)=(if k=f then(k,v)::r else(k,x)::b6 f v r) from rfl];by_cases hk:k=f
  .rw[VB hk];subst hk;exact{by simp,λg h=>by simpa using h}
  .rw[VA hk];refine{?_,λg h=>?_}
   .rw[Qt];exact Qa _ z
   .rw[Qt]at h⊢;rcases Qb.mp h with e|e
    .exact Qb.mpr<|.inl e
    .exact Qa _<|I g e
theorem rG(f:Str)(v:V):∀fs:List (Str×V),(b6 f v fs).length<=fs.length+1
 | []=>by simp[b6]
 |(k,x)::r=>by
  have z:=rG f v r;rw[show b6 f v ((k,x)::r)=(if k=f then(k,v)::r else(k,x)::b6 f v r) from rfl];by_cases hk:k=f
  .rw[VB hk,Qi,Qi];lia
  .rw[VA hk,Qi,Qi];lia
def OZ.some_of(r:OZ (some v) o):∃u,o=some u/\RelV v u:=by
 cases o with
 |none=>exact(show False from r).elim
 |some u=>exact⟨u,M,r⟩
def OZ.none_of(r:OZ none o):o=none:=by
 cases o with
 |none=>rfl
 |some u=>exact(show False from r).elim
def EL(r:RelV v u):PySem.W.handedIn u=true:=by
 cases v with
 |non=>cases (show u=Value.none from r);rfl
 |bl b=>cases (show u=Value.bool b from r);rfl
 |int i=>let{t,e}:=(show ∃t,u=Value.int i t from r);cases e;rfl
 |str x=>let{t,e}:=(show ∃t,u=Value.str x t from r);cases e;rfl
 |byt b=>let{t,e}:=(show ∃t,u=Value.bytes b t from r);cases e;rfl
 |flt b=>let{t,e}:=(show ∃t,u=Value.float b t from r);cases e;rfl
 |ref a=>cases (show u=Value.ref a from r);rfl
 |ty n=>cases (show u=Value.type n from r);rfl
section
variable{fs fs':RX}
def OL(hok:OK P w H h)(e:H a=some (.ins C dx fs)):∃mA,PU h a dx C mA/\(∀f,OZ (fs.lookup f) (mA f))/\PySem.Within mA (fs.map (·.1))/\fs.length<=1000/\H dx=some (.own a):=by
 let{d,z,I,ob,mA,n,r,q}:=(show N6 P w H h a (.ins C dx fs) from hok a _ e);exact{mA,⟨ob,n,I⟩,r,q,z,d}
end
structure Oz(K:Wi)(C:Rl):Prop where
 pg:PySem.W.plainGet K C Str.empty=true
 hd:PySem.W.hasDictIn K C=true
 po:PySem.W.plainOver K C=true
 sa:PySem.W.findIn K (.ref C) "__setattr__"=some (some<|.builtin "object.__setattr__")
def Oz.get(c:Oz K C)(f:Str):PySem.W.plainGet K C f=true:=c.pg
def Hk(K:Wi)(C:Rl)(f:Str):Prop:=PySem.W.findIn K (.ref C) f=some none
def Hk.taker{f:Str}(n:Hk K C f):PySem.W.takerIn K C f=some none:=by
 unfold PySem.W.takerIn;rw[show PySem.W.findIn K (.ref C) f=some none from n];rfl
structure cG(K:Wi)(C:Rl)(m:Str)(f:Rl):Prop where
 at_:PySem.W.findIn K (.ref C) m=some (some<|.ref f)
 fn:PySem.W.isFn K (.ref f)=true
 kp:PySem.W.keepIn K (.ref f)=true
section
variable{fs:RX}{f:Str}
def u8{b:Bool}(I:Inv X W B H s)(e:H a=some (.ins C dx fs))(c:Oz X.K C)(n:Hk X.K C f)(l:fs.lookup f=some v)
  (h:∀u s',Inv X W B H s'->RelV v u->Q u s'):wpAny (model X.prog X.w) A (getAttr (.ref a) f b) Q E s:=by
 let{mA,O,r,_,_,_}:=OL I.hok e;let{u,hu,z}:=OZ.some_of (v:=v) (o:=mA f) (by rw[<-l];exact r f);exact JD I.kIn O (c.get f) c.hd n hu (EL z)<|h u _ (I.tok _) z
def jV{g:Rl}{pl:Sem Bool}{Q:Value×List Value->Shared->Prop}(I:Inv X W B H s)(e:H a=some (.ins C dx fs))(c:Oz X.K C)(k:cG X.K C m g)(l:fs.lookup m=none)
  (h:Q (.ref g,[.ref a]) s):wpAny (model X.prog X.w) A (getMethod (.ref a) m pl) Q E s:=by
 let{mA,O,r,_,_,_}:=OL I.hok e;have z:mA m=none:=OZ.none_of (by rw[<-l];exact r m);exact GL I.kIn O (c.get m) k.at_ k.fn z h
def tQ{Q:Sn}(I:Inv X W B H s)(e:H a=some (.ins C dx fs))(c:Oz X.K C)(n:Hk X.K C f)(hl:fs.length<1000)(Z:RelV y u)
  (h:∀s',Inv X W B (upd H a<|.ins C dx<|b6 f y fs) s'->Q Unit.unit s'):wpAny (model X.prog X.w) A (setAttr (.ref a) f u) Q E s:=by
 let{mA,O,r,wi,_,Y}:=OL I.hok e;have hz:(fs.map (·.1)).length<=sizeLine:=by rw[Q0,sizeLine_eq];lia
 refine Ix I.kIn O c.sa c.po n.taker c.hd wi hz λh' U sb=>h _ ?_;have hd:∃o,h'.get? dx=some o:=by let{o,_,_,e',_}:=U.ns;exact⟨o,e'⟩
 refine I.write (x:=a) (e:=dx) (by rw[e];exact VW) (.inr Y) (λb q hb z=>(sb.2 b hb).trans z) hd ?_;refine{by rwa[ag O.ne],?_,O.ne,U.obj,_,U.ns,λg=>?_,λg hg=>?_}
 .have:=rG f y fs;lia
 .show OZ ((b6 f y fs).lookup g) (if g=f then some u else mA g);rw[a9];by_cases q:g=f
  .rwa[VB q,VB q]
  .rw[VA q,VA q];exact r g
 .by_cases q:g=f
  .rw[q];exact(qW f y fs).1
  .refine(qW f y fs).2 g<|wi g λz=>hg ?_;show(if g=f then some u else mA g)=none;rwa[VA q]
def Inv.made(I:Inv X W B H s):Inv X W B (upd (upd H s.heap.objs.size<|.own<|s.heap.objs.size+1) (s.heap.objs.size+1)<|.ins C s.heap.objs.size [])
  {s with heap:=(s.heap.push PySem.W.emptyDict).push (PySem.W.instObj C s.heap.objs.size)}:=by
 have z:(s.heap.push PySem.W.emptyDict).get? s.heap.objs.size=some PySem.W.emptyDict:=VN s.heap M;have e2:((s.heap.push PySem.W.emptyDict).push<|PySem.W.instObj C s.heap.objs.size).get? (s.heap.objs.size+1)=some (PySem.W.instObj C s.heap.objs.size):=by
  have:=VN (s.heap.push PySem.W.emptyDict) (o:=PySem.W.instObj C s.heap.objs.size) M;rwa [Heap.size_push]at this
 have U:(s.heap.push PySem.W.emptyDict).Ns s.heap.objs.size (λ_=>none):={PySem.W.emptyDict, #[],_,z,M,(λe he=>VG he<|by simp),λ_=>M};have Y:=I.laid (a:=s.heap.objs.size) (o:= .own<|s.heap.objs.size+1) (h':=s.heap.push PySem.W.emptyDict) (t':=s.toks) (λb u q=>VC _ q) (Q4 _) {_,z};refine Y.laid (a:=s.heap.objs.size+1) (o:= .ins C s.heap.objs.size []) (t':=s.toks) (λb u q=>VC _ q) (QY<|Heap.size_push _ _) ?_;have O:s.heap.objs.size≠s.heap.objs.size+1:=QH (ZH _);refine{by rw[ag O,A9],Qc _,O,e2,λ_=>none,(Heap.Ns1.of_empty U).at λo q=>VC _ q,λ_=>VW,λy hy=>VG M hy}
def Kc{env:Env}{f:Str}(hb:attributeBase e f env (eval e env)=eval e env)
  (h:wpAny (model prog w) A (eval e env) (λo s₁=>wpAny (model prog w) A (getAttr o f true) Q E s₁) E s):wpAny (model prog w) A (eval (.Attribute e f pos) env) Q E s:=
 Attribute_any_ h (by rw[arm_eval_Attribute,hb])
end
inductive MW(K:Wi)(f:Str)(Q:VK)(x:V)(H1:Hp):Prop
 |mk(a C dx fs v:_)(_:x= .ref a)(_:H1 a=some (.ins C dx fs))(_:Oz K C)(_:Hk K C f)(_:fs.lookup f=some v)(_:Q v H1)
def tFld(K:Wi)(ta:TE)(f:Str):TE:=λB H Q=>ta B H λx H1=>MW K f Q x H1
inductive M7(K:Wi)(f:Str)(D:kB)(B:St)(y x:V)(H2:Hp):Prop
 |mk(a C dx fs:_)(_:x= .ref a)(_:H2 a=some (.ins C dx fs))(_:Oz K C)(_:Hk K C f)(_:fs.length<1000)(_:D.nx B (upd H2 a<|.ins C dx<|b6 f y fs))
def sFld(K:Wi)(ta tv:TE)(f:Str):TS:=λD B H=>tv B H λy H1=>ta B H1 λx H2=>M7 K f D B y x H2
def MJ(X:Cx)(op:Operator)(rd:V->V->Hp->VK->Prop):Prop:=
 ∀(W:Rx)(s:Rm)(B:St)(H:Hp)(x y:V)(u v:Rp)(Q:VK),Inv X W B H s->RelV x u->RelV y v->rd x y H Q->Wj X (inplaceOp op u v) (EP X W B Q) X.xe s
inductive FL(K:Wi)(tv:TE)(rd:V->V->Hp->VK->Prop)(f:Str)(D:kB)(B:St)(x:V)(H1:Hp):Prop
 |mk(a C dx fs v:_)(_:x= .ref a)(_:H1 a=some (.ins C dx fs))(_:Oz K C)(_:Hk K C f)(_:fs.lookup f=some v)(_:tv B H1 λy H2=>rd v y H2 λz H3=>∃dx' fs',H3 a=some (.ins C dx' fs')/\fs'.length<1000/\D.nx B (upd H3 a<|.ins C dx'<|b6 f z fs'))
def IA(K:Wi)(ta tv:TE)(rd:V->V->Hp->VK->Prop)(f:Str):TS:=λD B H=>ta B H λx H1=>FL K tv rd f D B x H1
section
variable{o value:Expr}{f:Str}{tpos:Pos}{tv:TE}
def aH(he:PE X e ta)(hb:attributeBase e f X.env (eval e X.env)=eval e X.env):PE X (.Attribute e f pos) (tFld X.K ta f):=by
 intro W s B H Q I h;refine Kc hb<|N3 (he W s B H _ I h) λu s1 z=>?_;let{x,H1,O,U,a,C,dx,fs,v,ex,ea,c,n,l,q}:=z;subst ex;obtain rfl:u=Value.ref a:=U;exact u8 O ea c n l λu' s2 Y Z=>⟨v,H1,Y,Z,q⟩
def cm(ha:PE X o ta)(O:PE X value tv)(hs:swapsWith value (some<|.Attribute o f pos') pos.line X.env=pure false):PS X (.Assign [.Attribute o f pos'] value pos) (sFld X.K ta tv f):=by
 intro W s B H D I h;refine plainObj_wpAny_Assign_Attribute (N3 (O W s B H _ I h) λu s1 zz=>?_) hs;let{y,H1,U,Y,q}:=zz;refine N3 (ha W s1 B H1 _ U q) λZ s2 z=>?_;let{x,H2,I2,rx,a,C,dx,fs,ex,ea,c,n,l,q2}:=z;subst ex;obtain rfl:Z=Value.ref a:=rx;exact tQ I2 ea c n l Y λs3 I3=>{B,_,I3,q2}
def mE{op:Operator}(ha:PE X o ta)(Z:PE X value tv)(U:MJ X op rd):PS X (.AugAssign (.Attribute o f tpos) op value pos) (IA X.K ta tv rd f):=by
 intro W s B H D I h;refine wpAny_AugAssign_AttributeAny<|N3 (ha W s B H _ I h) λov s1 O=>?_;let{x,H1,I1,rx,a,C,dx,fs,v,ex,ea,c,n,l,q}:=O;subst ex;obtain rfl:ov=Value.ref a:=rx;refine u8 I1 ea c n l λu s2 I2 ru=>N3 (Z W s2 B H1 _ I2 q) λw3 s3 zz=>?_;let{y,H2,I3,ry,q3}:=zz;refine N3 (U W s3 B H2 v y u w3 _ I3 ru ry q3) λw4 s4 O=>?_;let{z,H3,I4,rz,a0,fs',Y,l',q4}:=O;exact tQ I4 Y c n l' rz λs5 I5=>{B,_,I5,q4}
inductive rAdd(x y:V)(H:Hp)(Q:VK):Prop
 |mk(i j:_)(_:x= .int i)(_:y= .int j)(_:Q (.int<|i+j) H)
inductive rSub(x y:V)(H:Hp)(Q:VK):Prop
 |mk(i j:_)(_:x= .int i)(_:y= .int j)(_:Q (.int<|i-j) H)
def Cn:MJ X .Add rAdd:=by
 rintro W s B H x y u v Q I z O ⟨i,j,rfl,rfl,q⟩;let{t,rfl}:=(show ∃t,u=Value.int i t from z);let{t',rfl}:=(show ∃t',v=Value.int j t' from O);exact PyProof.Rows.iadd_int {.int<|i+j,H,I.tok _,{_,M},q}
def Mg:MJ X .Sub rSub:=by
 rintro W s B H x y u v Q I z O ⟨i,j,rfl,rfl,q⟩;let{t,rfl}:=(show ∃t,u=Value.int i t from z);let{t',rfl}:=(show ∃t',v=Value.int j t' from O);exact PyProof.Rows.isub_int {.int<|i-j,H,I.tok _,{_,M},q}
end
section
variable{c:Rp}{b:Bool}
inductive OC(K:Wi)(H:Hp):V->Value->Prop where
 |non:OC K H .non (.type "NoneType")
 |bl(x:Bool):OC K H (.bl x) (.type "bool")
 |int(i:Int):OC K H (.int i) (.type "int")
 |str(x:Str):OC K H (.str x) (.type "str")
 |flt(x:UInt64):OC K H (.flt x) (.type "float")
 |lst{a:Rl}{xs:Rq}(e:H a=some (.lst xs)):OC K H (.ref a) (.type gt)
 |frz{a:Rl}{o:Obj}{xs:Rq}(e:H a=some (.frz o<|.lst xs)):OC K H (.ref a) (.type gt)
 |tup{a:Rl}{xs:Rq}(e:H a=some (.tup xs)):OC K H (.ref a) (.type l6)
 |dK{a:Rl}{kvs:RY}(e:H a=some (.dK kvs)):OC K H (.ref a) (.type "dict")
 |dT{a:Rl}{kvs:Sj}(e:H a=some (.dT kvs)):OC K H (.ref a) (.type "dict")
 |ins{a C dx:Rl}{fs:RX}(e:H a=some (.ins C dx fs))(cl:Oz K C)(ha:PySem.W.findIn K (.ref C) "__class__"=some (some<|.builtin pM))
   (hn:PySem.W.specialIn K (.builtin pM) "__get__"=some (some<|.builtin "getset_descriptor.__get__")) (htk:PySem.W.takesIn K (.builtin pM)=some true)
   (hm:PySem.W.mroIn K C (.type "object")=some true):OC K H (.ref a) (.ref C)
def xR{x:V}{t:Rp}(I:Inv X W B H s)(U:RelV x u)(ty:OC X.K H x t)(e:PySem.W.kitOne X.K t c=some b)(h:∀tk,Q (.bool b) {s with toks:=tk}):
  wpAny (model X.prog X.w) A (call (.builtin "isinstance") [u,c]) Q E s:=by
 cases ty with
 |non=>cases (show u=Value.none from U);exact Z5 PySem.W.kitx_none I.kIn VW e (λz=>nomatch z) h
 |bl y=>cases (show u=Value.bool y from U);exact Z5 PySem.W.kitx_bool I.kIn VW e (λz=>nomatch z) h
 |int i=>let{t,q}:=(show ∃t,u=Value.int i t from U);cases q;exact Z5 PySem.W.kitx_int I.kIn VW e (λz=>nomatch z) h
 |str y=>let{t,q}:=(show ∃t,u=Value.str y t from U);cases q;exact Z5 PySem.W.kitx_str I.kIn VW e (λz=>nomatch z) h
 |flt y=>let{t,q}:=(show ∃t,u=Value.float y t from U);cases q;exact Z5 PySem.W.kitx_float I.kIn VW e (λz=>nomatch z) h
 | @lst a xs ea=>
  cases (show u=Value.ref a from U);let{_,_,n,_,h1}:=(show N6 X.prog X.w H s.heap a (.lst xs) from I.hok a _ ea);exact Z5 PySem.W.kitx_list I.kIn {_,h1,M} e (λz=>nomatch z) h
 | @frz a ob xs ea=>
  cases (show u=Value.ref a from U);let{_,_,_,n,_,h1}:=(show N6 X.prog X.w H s.heap a (.frz ob<|.lst xs) from I.hok a _ ea);exact Z5 PySem.W.kitx_list I.kIn {_,h1,M} e (λz=>nomatch z) h
 | @tup a xs ea=>
  cases (show u=Value.ref a from U);let{_,_,_,p}:=(show N6 X.prog X.w H s.heap a (.tup xs) from I.hok a _ ea);let{o,h1,h2,_}:=p;exact Z5 PySem.W.kitx_tuple I.kIn ⟨o,h1,h2⟩ e (λz=>nomatch z) h
 | @dK a kvs ea=>
  cases (show u=Value.ref a from U);let{_,_,vs,_,p}:=(show N6 X.prog X.w H s.heap a (.dK kvs) from I.hok a _ ea);let{o,es,ep,h1,h2,_}:=p;exact Z5 PySem.W.kitx_dict I.kIn ⟨o,h1,h2.1⟩ e (λz=>nomatch z) h
 | @dT a kvs ea=>
  cases (show u=Value.ref a from U);let{_,_,xs,_,o,es,ep,h1,h2,_}:=(show N6 X.prog X.w H s.heap a (.dT kvs) from I.hok a _ ea);exact Z5 PySem.W.kitx_dict I.kIn ⟨o,h1,h2.1⟩ e (λz=>nomatch z) h
 | @ins a C dx fs ea cl ha Z Y hm=>
  cases (show u=Value.ref a from U);let{mA,O,_}:=OL I.hok ea;let{od,J,_}:=O.look;exact Z5 (PySem.W.kitx_own (cl.get _) cl.hd ha Z Y hm) I.kIn J e (λz=>nomatch z) h
end
structure O6(k:Nat)(A:RU):Prop where
 hd:A.handled=none
 dp:A.depth+3*k+5<recursionLimit
 un:A.units+16*k+200<cLine
def O6.mono{k:Nat}(r:O6 k A)(h:j<=k):O6 j A:={r.hd,by have:=r.dp;lia,by have:=r.un;lia}
def O6.deeper{k:Nat}(r:O6 (k+1) A)(env:Env):O6 k (A.deeper env):=
 {r.hd,by have:=r.dp;show A.depth+1+3*k+5<_;lia,by have:=r.un;show A.units+3+16*k+200<_;lia}
def Cf:(A.under<|.builtin vo {.ref C::us,kw}).depth=A.depth+1:=by
 first|rfl|simp[Around.under,Code.weight,Code.isCreation,Code.isGuard,Code.isCaller,Code.frames,Code.isFrame,guardIds]
def Ce:(A.under<|.builtin vo {.ref C::us,kw}).units=A.units+1:=by
 first|rfl|simp[Around.under,Code.cUnits,Code.frames,Code.isFrame]
def O6.make{k:Nat}(r:O6 (k+1) A)(C:Rl)(us:Rr)(kw:Sm):O6 k (A.under<|.builtin vo {.ref C::us,kw}):=
 {r.hd,by have:=r.dp;rw[Cf];lia,by have:=r.un;rw[Ce];lia}
def O6.depth{k:Nat}(r:O6 k A):A.depth<recursionLimit:=by have:=r.dp;lia
def O6.units{k:Nat}(r:O6 k A):A.units+64<cLine:=by have:=r.un;lia
def Fx:TA:=λ_ H Q=>Q [] H
def Kw(ta:TE)(tr:TA):TA:=λB H Q=>ta B H λx H1=>tr B H1 λxs H2=>Q (x::xs) H2
section
variable{t:TA}
def ae:PA X [] Fx:=λ_ _ _ _ H Q I h=>Calls.spliced_nil {[],H,I,.nil,h}
def aa(ha:PE X e te)(O:PA X es t)(hs:starEach (e::es) X.env=(false,eval e X.env)::starEach es X.env:=by rfl):PA X (e::es) (Kw te t):=by
 intro pos W s B H Q I h;rw[hs];show wpAny _ _ (spliced ((false,eval e X.env)::backTo pos (starEach es X.env))) _ _ s;refine Calls.spliced_cons<|N3 (ha W s B H _ I h) λu s1 z=>?_;let{x,H1,U,r1,Y}:=z;exact N3 (O pos W s1 B H1 _ U Y) λus s2 zz=>by let{xs,H2,Z,r2,q2}:=zz;exact{x::xs,H2,Z,.cons r1 r2,q2}
def tTup(t:TA):TE:=λB H Q=>t B H λxs H1=>xs.length<=sizeLine/\∀p,H1 p=none->Q (.ref p) (upd H1 p<|.tup xs)
def tLst(t:TA):TE:=λB H Q=>t B H λxs H1=>xs.length<=sizeLine/\∀p,H1 p=none->Q (.ref p) (upd H1 p<|.lst xs)
def cE{x1}(h:PA X es t):PE X (.Tuple es x1 pos) (tTup t):=by
 intro W s B H Q I hq;refine wpAny_Tuple_spliced<|N3 (h pos W s B H _ I hq) λus s1 zz=>?_;let{xs,H1,O,r,z,q}:=zz;refine{by rwa[<-r.length],?_};have hf:H1 s1.heap.objs.size=none:=O.hok.fresh (Q4 _);refine{.ref s1.heap.objs.size,upd H1 s1.heap.objs.size<|.tup xs,O.laid (t':=s1.toks) (λb u e=>VC _ e) (Q4 _) ?_,M,q _ hf};exact{z,us,r,{_,VN _ M,M,_,M}}
def bh(h:PA X es t):PE X (.List es pos) (tLst t):=by
 intro W s B H Q I hq;refine wpAny_List_spliced<|N3 (h pos W s B H _ I hq) λus s1 zz=>?_;let{xs,H1,O,r,z,q}:=zz;refine{by rwa[<-r.length],?_};have hf:H1 s1.heap.objs.size=none:=O.hok.fresh (Q4 _);refine{.ref s1.heap.objs.size,upd H1 s1.heap.objs.size<|.lst xs,O.laid (t':=s1.toks) (λb u e=>VC _ e) (Q4 _) ?_,M,q _ hf};exact{z,us,0,r,VN _ M}
end
abbrev Sp:=List V->Hp->VK->XK->Prop
abbrev CXT:=List Env->Hp->Shared->XK->Value->Shared->Prop
structure PX(P:Rv)(w:Ru)(K:Wi)(mg:RT)(base:Heap)(A:RU)(outer:Sa)(s:Rm)(H:Hp):Prop where
 frames:A.frames=some outer
 mod:Mod K mg base
 bs:∀b o,base.get? b=some o->s.heap.get? b=some o/\H b=none
 bsz:base.objs.size<=s.heap.objs.size
 funs:s.heap.FunFrames base outer
 frf:∀b∈Ou outer,H b=none
 hok:OK P w H s.heap
 bare:AllBare s.gens
def CE(outer:Sa)(P:Rv)(w:Ru)(H:Hp)(s:Rm)(Q:VK)(u:Rp)(s':Rm):Prop:=
 ∃v H',s'.os=s.os/\AllBare s'.gens/\Un (Ou outer) [] H H' s.heap s'.heap/\OK P w H' s'.heap/\RelV v u/\Q v H'
def CR(CX:CXT)(outer:Sa)(P:Rv)(w:Ru)(H:Hp)(s:Rm)(Q:VK)(E:XK)(r:Result)(s':Rm):Prop:=
 match r with
 | .ok (.ret u)=>CE outer P w H s Q u s'
 | .ok _=>False
 | .error e=>CX outer H s E e s'
structure E7(P:Rv)(w:Ru)(K:Wi)(mg:RT)(base:Heap)(CX:CXT)(k:Nat)(f:Rl)(fd:R')(ps:Ry)(sp:Sp):Prop where
 len:∀vs H Q E,sp vs H Q E->vs.length=ps.length
 run:∀(A:RU)(outer:Sa)(s:Rm)(H:Hp)(args:Args)(us:Rr)(vs:Rq)(Q:VK)(E:XK),O6 k A->PX P w K mg base A outer s H->BindsTo s fd args (ps.zip us)->HV vs us->sp vs H Q E->
  codeAny (model P w) A (.call (.ref f) args) (CR CX outer P w H s Q E) s
def E7.mono{mg:RT}{k:Nat}(F:E7 P w K mg base CX j f fd ps sp)(h:j<=k):
  E7 P w K mg base CX k f fd ps sp:={F.len,λA outer s H args us vs Q E z=>F.run A outer s H args us vs Q E<|z.mono h}
def PX.make{mg:RT}(e:PX P w K mg base A outer s H)(C:Rl)(us:Rr)(kw:Sm):
  PX P w K mg base (A.under<|.builtin vo {.ref C::us,kw}) outer s H:={by first|exact e.frames|(simpa[Around.under,Code.envs,Code.isFrame,pushEnvs]using e.frames),e.mod,e.bs,e.bsz,e.funs,e.frf,e.hok,e.bare}
def Inv.env0(I:Inv X W B H s):PX X.prog X.w X.K X.mg X.base X.A X.stack s H:=
 {I.ok.frames,I.ok.mod,I.bs,Qr I.ok.bsz I.sz,I.stack,I.stkFree,I.hok,I.bare}
def Inv.after{Q:VK}(I:Inv X W B H s)(h:CE X.stack X.prog X.w H s Q u s'):EP X W B Q u s':=by
 let{v,H',os,bare,un,hok,r,q}:=h;let{U,g,d,t,O}:=s';obtain rfl:O=s.os:=os;exact{v,H',I.call (h':=U) (g':=g) (d':=d) (t':=t) (ch:=[]) un hok bare<|λb z=>VG z (by simp),r,q}
def Ky(sp:Sp)(dvs:Rq)(E:XK)(t:TA):TE:=λB H Q=>t B H λvs H1=>sp (vs++dvs) H1 Q E
inductive Lm(C:Rl)(m:Str)(sp:Sp)(dvs:Rq)(E:XK)(t:TA)(B:St)(Q:VK)(x:V)(H1:Hp):Prop
 |mk(a dx fs:_)(_:x= .ref a)(_:H1 a=some (.ins C dx fs))(_:fs.lookup m=none)(_:t B H1 λvs H2=>sp (x::(vs++dvs)) H2 Q E)
def Ku(C:Rl)(m:Str)(sp:Sp)(dvs:Rq)(E:XK)(ta:TE)(t:TA):TE:=λB H Q=>ta B H λx H1=>Lm C m sp dvs E t B Q x H1
def Kv(C:Rl)(sp:Sp)(dvs:Rq)(E:XK)(t:TA):TE:=λB H Q=>t B H λvs H1=>∀x dx,H1 x=none->H1 dx=none->dx≠x->
 sp (.ref x::(vs++dvs)) (upd (upd H1 dx<|.own x) x<|.ins C dx []) (λv H2=>v= .non/\Q (.ref x) H2) E
def Binds(K:Wi)(fd:R')(ps:Ry)(ds:Rr):Prop:=
 ∀(s:Rm)(us:Rr),K.In s.heap->(us++ds).length=ps.length->BindsTo s fd {us,[]} (ps.zip<|us++ds)
def Binds.all(h:∀us:List Value,us.length=ps.length->bindArgs fd {us,[]}=pure (ps.zip us)):Binds K fd ps []:=λs us _ hl=>by
 rw[ZC]at hl⊢;exact .of_eq<|h us hl
def gQ(CX:CXT)(X:Cx)(E:XK):Prop:=∀(W:Rx)(B:St)(H:Hp)(s:Rm)(e:Rp)(s':Rm),Inv X W B H s->CX X.stack H s E e s'->X.xe e s'
section
variable{k:Nat}{dvs:Rq}{ds:Rr}{E:XK}{apos:Pos}{o:Expr}{t:TA}
def oH{Q:VK}(F:E7 X.prog X.w X.K X.mg X.base CX k f fd ps sp)(O:O6 k X.A)(hb:Binds X.K fd ps ds)(hd:HV dvs ds)(hx:gQ CX X E)
  (I:Inv X W B H s) (r:HV vs us) (h:sp (vs++dvs) H Q E):Wj X (call (.ref f) us) (EP X W B Q) X.xe s:=by
 have z:HV (vs++dvs) (us++ds):=r.append hd;have hl:(us++ds).length=ps.length:=by rw[<-z.length];exact F.len _ _ _ _ h
 refine wpAny_call<|codeAny_mono (F.run X.A X.stack s H {us,[]} (us++ds) (vs++dvs) Q E O I.env0 (hb s us I.kIn hl) z h) λr s' hq=>?_;cases r with
 |error e=>exact hx W B H s e s' I hq
 |ok fl=>
  cases fl with
  |ret u=>exact I.after hq
  |next=>exact False.elim hq
  |brk=>exact False.elim hq
  |cont=>exact False.elim hq
def aE(F:E7 X.prog X.w X.K X.mg X.base CX k f fd ps sp)(Y:O6 k X.A)(Z:Gl X x)(hm:X.mg x=some (.ref f))(hk:PySem.W.keepIn X.K (.ref f)=true)(hb:Binds X.K fd ps ds)(hd:HV dvs ds)(hx:gQ CX X E)
  (ha:PA X (e::es) t) (z:(x==(lg:Str))=false:=by decide) (he:starEach (e::es) X.env=(false,eval e X.env)::starEach es X.env:=by rfl) (O:(backTo pos<|starEach es X.env).any (·.1)=false:=by rfl):
  PE X (.Call (.Name x p) (e::es) [] pos) (Ky sp dvs E t):=by
 intro W s B H Q I h;refine W3<|g6 I Z hm ?_ z;refine Zo (h₀:=X.base) I.ok.mod.kin hk (N3 (ha pos W s B H _ I h) λus s1 zz=>?_) he O;let{vs,H1,U,r,q}:=zz;refine{U.kIn,?_};exact oH F Y hb hd hx U r q
def aT{pl:Sem Bool}(he:PE X o ta)(c:Oz X.K C)(Y:cG X.K C m f)(F:E7 X.prog X.w X.K X.mg X.base CX k f fd ps sp)(hr:O6 k X.A)(hb:Binds X.K fd ps ds)(hd:HV dvs ds)(hx:gQ CX X E)(ha:PA X (e::es) t)
  (z:starEach (e::es) X.env=(false,eval e X.env)::starEach es X.env:=by rfl) (O:(backTo pos<|starEach es X.env).any (·.1)=false:=by rfl)
  (ht:eval (.Call (.Attribute o m apos) (e::es) [] pos) X.env=(do
   let ov<-eval o X.env
   standAt apos.atName
   let(f,first)<-holding [ov] (getMethod ov m pl)
   callWith pos f first (backTo pos<|starEach (e::es) X.env) (backToKw pos<|keywordEach [] X.env)):=by rfl):
  PE X (.Call (.Attribute o m apos) (e::es) [] pos) (Ku C m sp dvs E ta t):=by
 intro W s B H Q I h;refine ZF (pl:=pl) (N3 (he W s B H _ I h) λu s1 U=>?_) ht;let{x,H1,Z,rx,a,dx,fs,ex,ea,l,q}:=U;subst ex;obtain rfl:u=Value.ref a:=rx;refine jV Z ea c Y l ?_;refine Zo (first:=[.ref a]) (h₀:=X.base) I.ok.mod.kin Y.kp (N3 (ha pos W s1 B H1 _ Z q) λus s2 zz=>?_) z O;let{vs,H2,I2,r,q2}:=zz;refine{I2.kIn,?_};exact oH (us:= .ref a::us) (vs:= .ref a::vs) F hr hb hd hx I2 (.cons M r) q2
def jc{pl:Sem Bool}(he:PE X o ta)(c:Oz X.K C)(U:cG X.K C m f)(F:E7 X.prog X.w X.K X.mg X.base CX k f fd ps sp)(Y:O6 k X.A)(hb:Binds X.K fd ps ds)(hd:HV dvs ds)(hx:gQ CX X E)
  (Z:eval (.Call (.Attribute o m apos) [] [] pos) X.env=(do
   let ov<-eval o X.env
   standAt apos.atName
   let(f,first)<-holding [ov] (getMethod ov m pl)
   callWith pos f first (backTo pos<|starEach [] X.env) (backToKw pos<|keywordEach [] X.env)):=by rfl):
  PE X (.Call (.Attribute o m apos) [] [] pos) (Ku C m sp dvs E ta Fx):=by
 intro W s B H Q I h;refine ZF (pl:=pl) (N3 (he W s B H _ I h) λu s1 z=>?_) Z;let{x,H1,O,rx,a,dx,fs,ex,ea,l,q}:=z;subst ex;obtain rfl:u=Value.ref a:=rx;refine jV O ea c U l ?_;exact XW (first:=[.ref a]) O.kIn U.kp (oH (us:=[.ref a]) (vs:=[.ref a]) F Y hb hd hx O (.cons M .nil) q)
structure Mk(K:Wi)(C f:Rl):Prop where
 makes:PySem.W.makesIn K C=true
 init:PySem.W.findIn K (.ref C) lU=some (some<|.ref f)
 fn:PySem.W.isFn K (.ref f)=true
 kp:PySem.W.keepIn K (.ref C)=true
def Ah{Q:VK}(M':Mk X.K C f)(F:E7 X.prog X.w X.K X.mg X.base CX k f fd ps sp)(Y:O6 (k+1) X.A)(hb:Binds X.K fd ps ds)(hd:HV dvs ds)
  (hx:gQ CX X E) (I:Inv X W B H s) (r:HV vs us)
  (h:∀x dx,H x=none->H dx=none->dx≠x->sp (.ref x::(vs++dvs)) (upd (upd H dx<|.own x) x<|.ins C dx []) (λv H2=>v= .non/\Q (.ref x) H2) E):
  Wj X (call (.ref C) us) (EP X W B Q) X.xe s:=by
 have hq:=h (s.heap.objs.size+1) s.heap.objs.size (I.hok.fresh<|Za _) (I.hok.fresh<|Q4 _) (QH<|ZH _);have O:=Inv.made (C:=C) I;have U:HV (V.ref (s.heap.objs.size+1)::(vs++dvs)) (Value.ref (s.heap.objs.size+1)::(us++ds)):= .cons M (r.append hd);have hl:(Value.ref (s.heap.objs.size+1)::us++ds).length=ps.length:=by
  have e:=U.length;rw[F.len _ _ _ _ hq]at e;exact e.symm
 refine wpAny_call (Gn (f:=f) I.kIn M'.makes M'.init (VP.mp M'.fn) (codeAny_mono (F.run _ X.stack _ _ {Value.ref (s.heap.objs.size+1)::us,[]} (Value.ref (s.heap.objs.size+1)::(us++ds)) _ _ E (Y.make C us [])
  (O.env0.make C us []) (hb _ (Value.ref (s.heap.objs.size+1)::us) O.kIn hl) U hq) λr s' z=>?_))
 cases r with
 |error e=>exact hx W B _ _ e s' O z
 |ok fl=>
  cases fl with
  |ret u=>
   let{v,H',Z,rv,ev,q3}:=O.after z;subst ev;exact{rv,{V.ref<|s.heap.objs.size+1,H',Z,M,q3}}
  |next=>exact False.elim z
  |brk=>exact False.elim z
  |cont=>exact False.elim z
def mF(M':Mk X.K C f)(F:E7 X.prog X.w X.K X.mg X.base CX k f fd ps sp)(Y:O6 (k+1) X.A)(Z:Gl X x)(hm:X.mg x=some (.ref C))(hb:Binds X.K fd ps ds)(hd:HV dvs ds)(hx:gQ CX X E)
  (ha:PA X (e::es) t) (z:(x==(lg:Str))=false:=by decide) (he:starEach (e::es) X.env=(false,eval e X.env)::starEach es X.env:=by rfl) (O:(backTo pos<|starEach es X.env).any (·.1)=false:=by rfl):
  PE X (.Call (.Name x p) (e::es) [] pos) (Kv C sp dvs E t):=by
 intro W s B H Q I h;refine W3<|g6 I Z hm ?_ z;refine Zo (h₀:=X.base) I.ok.mod.kin M'.kp (N3 (ha pos W s B H _ I h) λus s1 zz=>?_) he O;let{vs,H1,U,r,q}:=zz;refine{U.kIn,?_};exact Ah M' F Y hb hd hx U r q
def lf(M':Mk X.K C f)(F:E7 X.prog X.w X.K X.mg X.base CX k f fd ps sp)(O:O6 (k+1) X.A)(U:Gl X x)(Y:X.mg x=some (.ref C))(hb:Binds X.K fd ps ds)(hd:HV dvs ds)(hx:gQ CX X E)
  (z:(x==(lg:Str))=false:=by decide):PE X (.Call (.Name x p) [] [] pos) (Kv C sp dvs E Fx):=by
 intro W s B H Q I h;refine W3<|g6 I U Y ?_ z;exact XW I.kIn M'.kp<|Ah (us:=[]) M' F O hb hd hx I .nil h
end
structure ao(N P:Ry)(sc:Scope):Prop where
 kind:sc.kind= .function
 co:sc.isCoroutine=false
 gen:sc.isGenerator=false
 nd:N.Nodup
 pre:N.take P.length=P
 par:∀x∈P,sc.names.lookup x=some .local\/sc.names.lookup x=some .cell
 nofree:∀y∈sc.names,y.2≠ .free
theorem yb{kindOf:Str->Option NameKind}{x:Str}:∀{z:Sm}{m:RT},(∀v,(x,v)∉z)->bindL kindOf z m x=m x
 | [],_,_=>rfl
 |(n,v)::r,m,h=>by
  unfold bindL;rw[yb λw hw=>h w (Qa _ hw)];split
  .have:x≠n:=by rintro rfl;exact h v Q6
   simp[this]
  .rfl
theorem yd{kindOf:Str->Option NameKind}{x:Str}:∀{z:Sm}{m:RT},(∀v,(x,v)∉z)->bindC kindOf z m x=m x
 | [],_,_=>rfl
 |(n,v)::r,m,h=>by
  unfold bindC;rw[yd λw hw=>h w (Qa _ hw)];split
  .rfl
  .have:x≠n:=by rintro rfl;exact h v Q6
   simp[this]
theorem yc{kindOf:Str->Option NameKind}{x:Str}{v:Rp}:∀{P:Ry}{vs:Rr}{i:Nat}{m:RT},P.Nodup->P[i]?=some x->vs[i]?=some v->kindOf x=some .local->
  bindL kindOf (P.zip vs) m x=some v
 | [],_,_,_,_,h,_,_=>by simp at h
 |_::_,[],_,_,_,_,h,_=>by simp at h
 |p::P,w::vs,0,m,nd,h1,h2,hk=>by
  simp at h1 h2;subst h1;subst h2;show bindL kindOf ((p,w)::P.zip vs) m p=_;unfold bindL;rw[yb λv z=>(QQ.mp nd).1 (Vm z).1,VB hk];simp
 |p::P,w::vs,i+1,m,nd,h1,h2,hk=>by
  show bindL kindOf ((p,w)::P.zip vs) m x=_;unfold bindL;exact yc (i:=i) (QQ.mp nd).2 (by simpa using h1) (by simpa using h2) hk
theorem ye{kindOf:Str->Option NameKind}{x:Str}{v:Rp}:∀{P:Ry}{vs:Rr}{i:Nat}{m:RT},P.Nodup->P[i]?=some x->vs[i]?=some v->kindOf x≠some .local->
  bindC kindOf (P.zip vs) m x=some v
 | [],_,_,_,_,h,_,_=>by simp at h
 |_::_,[],_,_,_,_,h,_=>by simp at h
 |p::P,w::vs,0,m,nd,h1,h2,hk=>by
  simp at h1 h2;subst h1;subst h2;show bindC kindOf ((p,w)::P.zip vs) m p=_;unfold bindC;rw[yd λv z=>(QQ.mp nd).1 (Vm z).1,VA hk];simp
 |p::P,w::vs,i+1,m,nd,h1,h2,hk=>by
  show bindC kindOf ((p,w)::P.zip vs) m x=_;unfold bindC;exact ye (i:=i) (QQ.mp nd).2 (by simpa using h1) (by simpa using h2) hk
def start(N:Ry)(vs:Rq):St:=vs.map some++List.replicate (N.length-vs.length) none
def sE(CX:CXT)(P:Rv)(w:Ru)(K:Wi)(mg:RT)(base:Heap)(N:Ry)(qual:Str)(scope:Scope)(f:Rl)(cd:Rp)(A:RU)(outer:Sa)(s:Rm)(H:Hp)(E:XK):Cx where
 prog:=P
 w:=w
 K:=K
 mg:=mg
 base:=base
 A:=A.deeper (envOfC qual scope s.heap.objs.size f cd)
 N:=N
 s₀:=s
 H₀:=H
 env:=envOfC qual scope s.heap.objs.size f cd
 outer:=outer
 stack:=envOfC qual scope s.heap.objs.size f cd::outer
 ex:=[]
 calm:=true
 fn:=λ_=>true
 pn:=[]
 xe:=λe s'=>wpAny (model P w) (A.deeper<|envOfC qual scope s.heap.objs.size f cd) (leaving (envOfC qual scope s.heap.objs.size f cd) e) (λ_ s''=>CX outer H s E e s'') (λe' s''=>CX outer H s E e' s'') s'
def A8{sc:Scope}(h:sc.names.lookup x=some .cell):∃c,(cellsFrom n sc.names []).lookup x=some c:=by
 have q:=PySem.W.cellsFrom_some sc.names n [] (.inl h);exact Zw.mp q
def EH{mg:RT}{cd:Rp}{s1:Rm}{E:XK} 
  (S:ao N ps scope) (hd:A.handled=none) (e0:PX P w K mg base A outer s H) (hl:vs.length=ps.length) (r:HV vs us)
  (x:InCallC s s.heap.objs.size (bindL (envOfC qual scope s.heap.objs.size f cd).kindOf (ps.zip us) λ_=>none) (cellsFrom (s.heap.objs.size+1) scope.names []) (bindC (envOfC qual scope s.heap.objs.size f cd).kindOf (ps.zip us) λ_=>none) s1):
  Inv (sE CX P w K mg base N qual scope f cd A outer s H E) [] (start N vs) H s1:=by
 have Y:ps.length<=N.length:=by have:=VT List.length S.pre;rw[Qe]at this;lia
 let{h1,tk,rfl,hk}:=x.done;have I:∀b:Addr,b∉(sE CX P w K mg base N qual scope f cd A outer s H E).ex:=λb z=>VG (show b∈([]:Rz) from z) (by simp);refine{{e0.mod,S.kind,M,M,Q4 _,λy z c h1 h2=>?_,λy hy=>?_,λy c _ h=>?_,λ_=>hd,Around.frames_deeper e0.frames,.inr ⟨M,M⟩,λb z=>VG z<|I b,e0.bs,e0.bsz,λb _ _=>I b,λb z=>VG z<|I b,e0.funs,e0.frf},
  rfl,e0.bare,Un.kept hk,{_,x.toInCall.ns,λi y v h1 h2 Z=>?_},λy c h=>{_,x.cell y c h},e0.hok.fresh<|Q4 _,λy c h=>?_,λp O=>VG (show p∈([]:Rx) from O) (by simp),e0.hok.kept hk,?_}
 .exact name_of_addr x.apart (PySem.mem_of_lookup h1)<|PySem.mem_of_lookup h2
 .have hy:scope.names.lookup y=some .cell\/scope.names.lookup y=some .free:=hy;rcases hy with hy|hy
  .exact A8 hy
  .exact VG M<|S.nofree _ (PySem.mem_of_lookup hy)
 .exact QX<|x.above y c (PySem.mem_of_lookup h)
 .have hi:i<vs.length:=by
   unfold start at h2;by_cases hi:i<vs.length
   .exact hi
   .rw[Zp (by simpa using hi)]at h2;rw[List.getElem?_replicate]at h2;split at h2<;>cases h2
  have ha:vs[i]?=some v:=by
   unfold start at h2;rw[Zt (by simpa using hi),Qo]at h2;cases e:vs[i]? with
   |none=>rw[e]at h2;cases h2
   |some a=>rw[e]at h2;cases h2;rfl
  let{u,hu,rv}:=r.get ha;have O:ps[i]?=some y:=by
   rwa[<-S.pre,Xq ()]
  have U:ps.Nodup:=by rw[<-S.pre];exact S.nd.sublist<|ZV _ _
  refine{u,rv,?_};rcases S.par y (Q1 O)with k|k
  .exact .inl {k,yc U O hu k}
  .let{c,e}:=A8 (n:=s.heap.objs.size+1) k;refine .inr {.inl k,c,e,?_};have q:=x.cell y c e;rw[ye U O hu (by show scope.names.lookup y≠_;rw[k];decide)]at q;exact q
 .exact e0.hok.fresh<|QX (x.above y c<|PySem.mem_of_lookup h)
 .unfold start;show _=N.length;rw[Q7,Q0,Zr];lia
abbrev _root_.So:=Array (Option Value)
def GQ{mg:RT}{k:Nat}{O:Arguments}{dV kV a0 pm z ct oc:Rp}{an od:RV}
  {a2:So} (lk:K.lookup f=some {oc,od,.func<|PySem.W.fnOf name qual O body scope dV kV a0 pm an z ct,a2}) (a3:PySem.W.codeIn K z qual=true) (S:ao N ps scope)
  (len:∀vs H Q E,sp vs H Q E->vs.length=ps.length)
  (Y:∀(A:RU)(outer:Sa)(s:Rm)(H:Hp)(vs:Rq)(Q:VK)(E:XK),O6 k (A.deeper<|envOfC qual scope s.heap.objs.size f z)->sp vs H Q E->
   ∃t,OV (sE CX P w K mg base N qual scope f z A outer s H E) body t/\t {nx:=λ_ H'=>Q .non H',rt:=Q} (start N vs) H):
  E7 P w K mg base CX (k+1) f (PySem.W.fnOf name qual O body scope dV kV a0 pm an z ct) ps sp:=by
 refine{len,λA outer s H args us vs Q E hr e0 hb r a1=>?_};have hl:=len _ _ _ _ a1;have KX:K.In s.heap:=e0.mod.kin.keeps λb o e=>(e0.bs b o e).1;have a4:s.heap.NoLimit:=e0.mod.nolimit.keeps λb o e=>(e0.bs b o e).1;have Z:∀y∈ps.zip us,scope.names.lookup y.1=some .local\/(scope.names.lookup y.1=some .cell/\((cellsFrom (s.heap.objs.size+1) scope.names []).lookup y.1).isSome=true):=λ⟨n,v⟩ hy=>by
  rcases S.par n (Vm hy).1 with q|q
  .exact .inl q
  .exact .inr {q,PySem.W.cellsFrom_some _ _ _<|.inl q}
 refine codeAny_call_function hr.depth (KX _ _ lk) M S.co S.gen M (PySem.W.codeRec_of KX a3)<|hb _ _ _ _ ?_;refine wpAny_newFunctionEnv_cells S.kind Z λenv he s1 x=>?_;subst he;refine{a4.keeps x.toInCall.keep,codeAny_func ?_};let{t,ht,hq}:=Y A outer s H vs Q E (hr.deeper _) a1;have I:Inv (sE CX P w K mg base N qual scope f z A outer s H E) [] (start N vs) H s1:=EH S hr.hd e0 hl r x;refine W2 (ht [] s1 (start N vs) H _ I hq) (λfl s' hs=>?_) λe s' hs=>hs;have fin:∀{U:St}{H':Hp}{v:V}{u:Rp},Inv (sE CX P w K mg base N qual scope f z A outer s H E) [] U H' s'->RelV v u->Q v H'->CE outer P w H s Q u s':=
  λ{U H' v u} J rv q=>⟨v,H',J.os,J.bare,J.base,J.hok,rv,q⟩
 cases fl with
 |ret u=>
  let{v,U,H',J,rv,q}:=hs;exact fin J rv q
 |next=>
  let{U,H',J,q}:=hs;exact fin (v:=V.non) (u:=Value.none) J M q
 |brk=>
  let{_,_,_,q}:=hs;exact False.elim q
 |cont=>
  let{_,_,_,q}:=hs;exact False.elim q
section
variable{t:TA}{id T:String}{r:List V->Hp->VK->Prop}
def tCB(r:List V->Hp->VK->Prop)(t:TA):TE:=λB H Q=>t B H λvs H1=>r vs H1 Q
def aD(hc:fg X (.builtin id) r)(U:Gl X x)(Y:X.mg x=none)(Z:bootBuiltins x=some (.builtin id))(ha:PA X (e::es) t)(hn:x≠"__name__":=by decide)(z:(x==(lg:Str))=false:=by decide)
  (he:starEach (e::es) X.env=(false,eval e X.env)::starEach es X.env:=by rfl) (O:(backTo pos<|starEach es X.env).any (·.1)=false:=by rfl):PE X (.Call (.Name x p) (e::es) [] pos) (tCB r t):=by
 intro W s B H Q I h;refine W3<|oS I U Y Z ?_ hn z;exact PyProof.Rows.callWith_builtin1 (N3 (ha pos W s B H _ I h) λus s1 zz=>by let{vs,H1,I1,r1,q1}:=zz;exact hc W s1 B H1 vs us Q I1 r1 q1) he O
def bP(hc:fg X (.type T) r)(U:Gl X x)(Y:X.mg x=none)(Z:bootBuiltins x=some (.type T))(ha:PA X (e::es) t)(hn:x≠"__name__":=by decide)(z:(x==(lg:Str))=false:=by decide)
  (he:starEach (e::es) X.env=(false,eval e X.env)::starEach es X.env:=by rfl) (O:(backTo pos<|starEach es X.env).any (·.1)=false:=by rfl):PE X (.Call (.Name x p) (e::es) [] pos) (tCB r t):=by
 intro W s B H Q I h;refine W3<|oS I U Y Z ?_ hn z;exact PyProof.Rows.callWith_type1 (N3 (ha pos W s B H _ I h) λus s1 zz=>by let{vs,H1,I1,r1,q1}:=zz;exact hc W s1 B H1 vs us Q I1 r1 q1) he O
end
end L2
namespace HT
open PySem PyProof.Rows
variable{E Q:RS}
noncomputable def lexLt:List Int->List Int->Bool
 | [],[]=>false
 | [],_::_=>true
 |_::_,[]=>false
 |x::xs,y::ys=>if x=y then lexLt xs ys else decide (x<y)
abbrev _root_.Rn:=List Int
def lexLt_cons(x y:Int)(xs ys:Rn):lexLt (x::xs) (y::ys)=if x=y then lexLt xs ys else decide (x<y):=rfl
def lexLt_nil_nil:lexLt [] []=false:=rfl
def lexLt_nil_cons(y:Int)(ys:Rn):lexLt [] (y::ys)=true:=rfl
def lexLt_cons_nil(x:Int)(xs:Rn):lexLt (x::xs) []=false:=rfl
def GX(A:RU)(s:Rm)(a:Int)(t:Tok)(c:Int)(u:Tok):∃e,SeqAt.EqAt A s (.int a t) (.int c u) e/\(e=true↔a=c):=
 {(a==c),SeqAt.EqAt.int_int a t c u,by simp}
def FO(A:RU)(s:Rm)(a:Int)(t:Tok)(c:Int)(u:Tok)(prog:Rv)(w:Ru)(E:RS)(Q:RS)(h:Q (.bool<|decide (a<c)) s):
  wpAny (model prog w) A (richCompare .Lt (.int a t)<|.int c u) Q E s:=
 (PyProof.Rows.lt_int h:wpAny (model prog w) A (compareOp .Lt (.int a t)<|.int c u) Q E s)
section
open PySem.SeqAt
open PySem.AutoSeq1 (wpAny_loadPart')
open PySem.MeetsSeq PySem.MeetsSeq2 PySem.MeetsSeq3
def vI(l b:Rl)(I z:Sd)(n n2:Nat)(dd a5:RV)(sl a6:So)(ns ms:Rn)(hi:IntsAre I.toList ns)(hj:IntsAre z.toList ms):
  Meets (Builtin.«tuple.__lt__» {[.ref l,.ref b],[]})
   (λ_ R s=>s.heap.get? l=some {cls:= .type l6,dict:=dd,data:= .seq I n,slots:=sl}/\s.heap.get? b=some {cls:= .type l6,dict:=a5,data:= .seq z n2,slots:=a6}/\
    R (.ok<|.ret<|.bool<|lexLt ns ms) s):=
 .of_wp λprog w A R s h=>by
  let{hp,g,d,tk,os}:=s;let{hl,hb,h}:=h;have f2:=AutoSeq1.sub_tuple_tuple;have z1:I.size=ns.length:=by rw[<-hi.length];simp
  have z2:z.size=ms.length:=by rw[<-hj.length];simp
  wp_walk using wpAny_loadPart' hl,wpAny_loadPart' hb,wpAny_forIn_list _ (λrest b s'=>b.1=none/\s'=⟨hp,g,d,tk,os⟩/\∃(vs ws:Rr)(U Y:Rn),rest=vs.zip ws/\
   IntsAre vs U/\IntsAre ws Y/\U.length+z.size=Y.length+I.size/\R (.ok<|.ret<|.bool<|lexLt U Y) ⟨hp,g,d,tk,os⟩) _
  case turn=>
   rintro ⟨y,x⟩ rest b s' ⟨a1,rfl,vs,ws,U,Y,hz,a2,Z,O,hR⟩;cases a2 with
   |nil=>rw[List.zip_nil_left]at hz;cases hz
   |cons a t a3=>
    cases Z with
    |nil=>rw[List.zip_nil_right]at hz;cases hz
    |cons c u a4=>
     rw[List.zip_cons_cons]at hz;injection hz with hyx hrest;injection hyx with hy hx;subst hy hx;rw[lexLt_cons]at hR;simp only[Qi]at O;let{e,he,a0}:=GX A.in1 ⟨hp,g,d,tk,os⟩ a t c u;refine VI<|he prog w _ _ ?_;cases e with
     |true=>
      rw[VB (a0.mp M)]at hR
      wp_walk
      exact{M,M,_,_,_,_,hrest,a3,a4,(),hR}
     |false=>
      rw[VA (λq=>VG (a0.mpr q) Qg)]at hR;have ac:=FO A.in1 ⟨hp,g,d,tk,os⟩ a t c u prog w
      wp_walk using ac
      exact{_,M,by simpa using hR}
  case fin=>
   rintro ⟨b1,b2⟩ s' ⟨a1,rfl,vs,ws,U,Y,hz,a2,Z,O,hR⟩;simp only at a1;subst a1;have hv:lexLt U Y=decide (I.size<z.size):=by
    cases a2 with
    |nil=>
     cases Z with
     |nil=>
      simp only[ZP]at O;rw[lexLt_nil_nil];exact(VJ ()).symm
     |cons c u hw=>
      simp only[ZP,Qi]at O;rw[lexLt_nil_cons];exact(VD ()).symm
    |cons a t hv=>
     cases Z with
     |nil=>
      simp only[ZP,Qi]at O;rw[lexLt_cons_nil];exact(VJ ()).symm
     |cons c u hw=>
      rw[List.zip_cons_cons]at hz;cases hz
   rw[hv]at hR
   wp_walk
   exact{_,M,by simpa[Builtin.Tuple.tupleCompareSizes]using hR}
  case h=>
   exact{M,M,I.toList,z.toList,ns,ms,M,hi,hj,(),h}
end
section
variable{prog:Rv}{w:Ru}{A:RU}{s:Rm}
def lt_tupInts{l b:Rl}{I z:Sd}{ns ms:Rn}(hl:IsTup s.heap l I)(hb:IsTup s.heap b z)(hi:IntsAre I.toList ns)(hj:IntsAre z.toList ms)
  (hu:A.units<cLine) (h:Q (.bool<|lexLt ns ms) s):wpAny (model prog w) A (compareOp .Lt (.ref l)<|.ref b) Q E s:=by
 let{{cls,dd,data,sl},ho,hc,n,hd}:=id hl;let{{a2,Z,a0,a1},O,U,n2,Y}:=id hb;simp only at hc hd U Y;subst hc hd U Y;exact richCompare_meets_room (op:= .Lt) {_,ho,M} {_,O,M} PySem.F.slot_tuple_lt PySem.F.entry_tuple_lt (PySem.F.args_tuple_lt_2 _ _) (vI l b I z n n2 dd Z sl a1 ns ms hi hj)
  {ho,O,show Value.bool (lexLt ns ms)≠Value.notImplemented/\Q (.bool<|lexLt ns ms) s from{(λx=>nomatch x),h}} hu
noncomputable def sIx(n d:Nat):Option Int->Nat
 |none=>d
 |some v=>if v<0 then(v+(n:Int)).toNat else min v.toNat n
end
end HT
namespace L2
open PySem PySem.Spec PyProof.Rows
abbrev _root_.RW:=Option V
variable{a b:Rl}{A:RU}{X:Cx}{e:Expr}{h':Heap}{H H':Hp}{i:Int}{W:Rx}{kvs:RY}{vs:List (Key×Value)}{xs:Rq}{its its':Rr}{j n t':Nat}{o:RW}{pos:Pos}{P:Rv}{s:Rm}{B:St}{T:String}{α:Type}{x y:V}{u v:Rp}{E Q:RS}{w:Ru}
abbrev TO:=St->Hp->(Option Int->Hp->Prop)->Prop
def PO(X:Cx)(e:Option Expr)(t:TO):Prop:=
 ∀(W:Rx)(s:Rm)(B:St)(H:Hp)(Q:Option Int->Hp->Prop),Inv X W B H s->t B H Q->
  Wj X (evalPart e X.env) (λu s'=>∃o H',Inv X W B H' s'/\IsPart u o/\Q o H') X.xe s
def Ir:TO:=λ_ H Q=>Q none H
inductive Ll(Q:Option Int->Hp->Prop)(x:V)(H1:Hp):Prop
 |mk(i:_)(_:x= .int i)(_:Q (some i) H1)
def MT(t:TE):TO:=λB H Q=>t B H λx H1=>Ll Q x H1
def jU{ns:Rn}:∀{us:Rr},HV (ns.map V.int) us->IntsAre us ns:=by
 induction ns with
 |nil=>intro us r;rw[Xf]at r;cases r;exact .nil
 |cons n ns z=>
  intro us r;rw[Qt]at r;cases r with
  |cons r1 I=>
   let{t,e}:=r1;subst e;exact .cons n t<|z I
section
variable{te:TE}{lo hi:Option Expr}{tl th:TO}{p2:Pos}
def fP:PO X none Ir:=by
 intro W s B H Q I h;rw[evalPart_none];exact VR {none,H,I,.none,h}
def cZ(h:PE X e te):PO X (some e) (MT te):=by
 intro W s B H Q I hw;rw[evalPart_some];refine N3 (h W s B H _ I hw) λu s1 z=>?_;let{x,H1,O,r1,U}:=z;let{i,rfl,q}:=U;let{t,rfl}:=r1;exact{some i,H1,O,.int i t,q}
abbrev _root_.Se:=Option Int
def SlR(X:Cx)(r:V->Option Int->Option Int->Hp->VK->Prop):Prop:=
 ∀(W:Rx)(s:Rm)(B:St)(H:Hp)(x:V)(v vl vu:Rp)(lo hi:Se)(sl:Rl)(Q:VK),Inv X W B H s->RelV x v->s.heap.IsSliceOf sl vl vu .none->IsPart vl lo->IsPart vu hi->r x lo hi H Q->
  ∃T id,typeLookup (.type T) "__getitem__"=pure (some<|.builtin id)/\s.TypeIs v T/\Wj X (getItem v<|.ref sl) (EP X W B Q) X.xe s
def tSl(r:V->Option Int->Option Int->Hp->VK->Prop)(te:TE)(tl th:TO):TE:=λB H Q=>te B H λx H1=>tl B H1 λl H2=>th B H2 λu H3=>r x l u H3 Q
def cQ{r:V->Option Int->Option Int->Hp->VK->Prop}(Y:SlR X r)(he:PE X e te)(hl:PO X lo tl)(hu:PO X hi th):PE X (.Subscript e (.Slice lo hi none p2) pos) (tSl r te tl th):=by
 intro W s B H Q I h;refine Subscript_<|N3 (he W s B H _ I h) λv s1 z=>?_;let{x,H1,Z,r1,q1}:=z;refine wpAny_Slice<|N3 (hl W s1 B H1 _ Z q1) λO s2 zz=>?_;let{l,H2,I2,pl,q2}:=zz;refine N3 (hu W s2 B H2 _ I2 q2) λU s3 z=>?_;let{u,H3,I3,pu,q3}:=z;rw[evalPart_none];refine VR ?_;have I4:Inv X W B H3 {s3 with heap:=s3.heap.push {cls:= .type "slice",data:= .fields #[O,U,.none]}}:=I3.kept (t':=s3.toks) λb ob q=>VC _ q;let{T,id,hT,ht,hg}:=Y W {s3 with heap:=s3.heap.push {cls:= .type "slice",data:= .fields #[O,U,.none]}} B H3 x v O U l u s3.heap.objs.size Q I4 r1 (Heap.IsSliceOf.new ..) pl pu q3;show Wj X (subscriptTail e (.Slice lo hi none p2) v<|.ref s3.heap.objs.size) (EP X W B Q) X.xe {s3 with heap:=s3.heap.push {cls:= .type "slice",data:= .fields #[O,U,.none]}};exact tail_any (ops:=[.ref s3.heap.objs.size,v]) ht hT hg (by with_unfolding_all rfl)
def gM(xs:Rq)(lo hi:Se):List V:=(xs.drop<|HT.sIx xs.length 0 lo).take (HT.sIx xs.length xs.length hi-HT.sIx xs.length 0 lo)
def AZ(xs:Rq)(lo hi:Se):(gM xs lo hi).length<=xs.length:=by
 unfold gM;rw[Qe,Qz];lia
inductive rLtT(K:Wi)(x y:V)(H:Hp)(Q:VK):Prop
 |mk(a b ns ms:_)(_:x= .ref a)(_:y= .ref b)(_:OO K H a (ns.map V.int))(_:OO K H b (ms.map V.int))(_:Q (.bl<|HT.lexLt ns ms) H)
def LN(hu:X.A.units<cLine):Oc X (compareOp .Lt) (rLtT X.K):=by
 intro W s B H x y v u Q I O U h;let{a,b,ns,ms,rfl,rfl,ha,hb,q}:=h;cases O;cases U;let{its,r1,Y,_}:=I.tuple ha;let{z,Z,p2,_}:=I.tuple hb;have i1:IntsAre its.toArray.toList ns:=jU r1;have i2:IntsAre z.toArray.toList ms:=jU Z;exact HT.lt_tupInts Y p2 i1 i2 hu {.bl<|HT.lexLt ns ms,H,I,M,q}
end
noncomputable def Pe(n:Nat)(i:Int):Option Nat:=if 0<=i then(if i<n then some i.toNat else none)else if-(n:Int)<=i then some (i+n).toNat else none
def P4{α:Type}(xs:List α)(i:Int):Option α:=(Pe xs.length i).bind λj=>xs[j]?
def Do(h:Pe n i=some j):seqIndex? i n=some j/\j<n/\-(n:Int)<=i/\i<n:=by
 unfold Pe at h;by_cases z:0<=i
 .rw[VB z]at h;by_cases h1:i<n
  .rw[VB h1]at h;have e:i.toNat=j:=VL h;exact{by rw[seqIndex_of z h1,e],(),(),h1}
  .rw[VA h1]at h;cases h
 .rw[VA z]at h;by_cases h1: -(n:Int)<=i
  .rw[VB h1]at h;have e:(i+n).toNat=j:=VL h;exact{by rw[seqIndex_neg () h1,e],(),h1,()}
  .rw[VA h1]at h;cases h
def DF{xs:List α}{v:α}(h:P4 xs i=some v):∃j,seqIndex? i xs.length=some j/\xs[j]?=some v/\j<xs.length/\-(xs.length:Int)<=i/\i<xs.length:=by
 unfold P4 at h;cases e:Pe xs.length i with
 |none=>rw[e]at h;cases h
 |some j=>
  rw[e]at h;let{h1,h2,z,I}:=Do e;exact⟨j,h1,h,h2,z,I⟩
def dC{xs:List α}{v:α}(h:xs[j]?=some v):P4 xs (j:Int)=some v:=by
 have z:j<xs.length:=(Q2.mp h).1;have e:Pe xs.length (j:Int)=some j:=by
  unfold Pe;rw[VB (),VB ()];simp
 unfold P4;rwa[e]
def Kd(b:Expr):Prop:=∀o i,subscripted b false o i=operate [o,i] (getItem o i)
def IxR(X:Cx)(r:R2):Prop:=
 ∀(value slice:Expr)(W:Rx)(s:Rm)(B:St)(H:Hp)(x y:V)(v u:Rp)(Q:VK),Inv X W B H s->RelV x v->RelV y u->r x y H Q->
  subscripted slice false v u=operate [v,u] (getItem v u)->Wj X (subscriptTail value slice v u) (EP X W B Q) X.xe s
def RA(X:Cx)(id:String)(r:V->List V->Hp->VK->Prop):Prop:=
 ∀(W:Rx)(s:Rm)(B:St)(H:Hp)(x:V)(xs:Rq)(v:Rp)(us:Rr)(Q:VK),Inv X W B H s->RelV x v->HV xs us->r x xs H Q->
  Wj X (call (.builtin id) (v::us)) (EP X W B Q) X.xe s
section
variable{a b:Expr}{ta tb:TE}
def aP{r:R2}(z:IxR X r)(ha:PE X a ta)(hb:PE X b tb)(hs:Kd b):PE X (.Subscript a b pos) (tOp r ta tb):=by
 intro W s B H Q I h;exact Subscript_ (Mw ha hb I h λv u O x y H2 U Y Z q=>z a b W O B H2 x y v u Q U Y Z q<|hs _ _)
inductive rIxL(K:Wi)(x y:V)(H:Hp)(Q:VK):Prop
 |mk(p xs i v:_)(_:x= .ref p)(_:y= .int i)(_:Dz K H p xs)(_:P4 xs i=some v)(_:Q v H)
inductive rIxT(K:Wi)(x y:V)(H:Hp)(Q:VK):Prop
 |mk(p xs i v:_)(_:x= .ref p)(_:y= .int i)(_:OO K H p xs)(_:P4 xs i=some v)(_:Q v H)
def aK:IxR X (rIxL X.K):=by
 intro value O W s B H x y v u Q I rx ry h hs;let{p,xs,i,z,rfl,rfl,hq,he,q}:=h;cases rx;let{t,rfl}:=ry;let{its,r,pl,hz}:=I.list hq;let{j,h1,h2,h3,h4,h5}:=DF he;let{w,Z,U}:=r.get h2;have hl:=r.length;have hn:=qU;have fin:EP X W B Q w s:=⟨z,H,I,U,q⟩;by_cases h0:0<=i
 .have Y:i.toNat=j:=by
   rw[seqIndex_of h0 h5]at h1;exact VL h1
  exact item_listR pl.isList h0 () (by rw[Y];simpa using Z) fin hs
 .have Y:(i+(its.toArray.size:Int)).toNat=j:=by
   rw[seqIndex_neg () h4]at h1;rw[Qh,<-hl];exact VL h1
  exact subscriptTail_builtinR (x:=w) pl.isList.typeIs slot_list_getitem.lookup
   (wpAny_getItem_list_neg (Q:=λr s'=>r=w/\EP X W B Q r s') pl.isList () (by rw[Qh]<;>lia) () (by rw[Y];simpa using Z) ⟨M,fin⟩) hs
def jS:IxR X (rIxT X.K):=by
 intro value O W s B H x y v u Q I Y Z h hs;let{p,xs,i,z,rfl,rfl,hq,he,q}:=h;cases Y;let{t,rfl}:=Z;let{its,r,pl,hz}:=I.tuple hq;let{j,h1,h2,h3,h4,h5}:=DF he;let{w,ew,U}:=r.get h2;have hl:=r.length;have hn:=qU;have fin:EP X W B Q w s:=⟨z,H,I,U,q⟩;exact subscriptTail_builtinR (x:=w) pl.typeIs slot_tuple_getitem.lookup
  (getItem_tuple (j:=j) (Q:=λr s'=>r=w/\EP X W B Q r s') pl () () (by rwa[Qh,<-hl]) (by simpa using ew) ⟨M,fin⟩) hs
def Cd(its:Rr)(n j:Nat)(u:Rp):Obj.mapSeq (·.setIfInBounds j u) {cls:= .type gt,data:= .seq its.toArray n}={cls:= .type gt,data:= .seq (its.set j u).toArray n}:=by
 simp[Obj.mapSeq]
def Inv.lst{W:Rx}{B:St}{H:Hp}{s:Rm}{p:Rl}{xs:Rq}(I:Inv X W B H s)(h:H p=some (.lst xs)):
  ∃(its:Rr)(n:Nat),HV xs its/\s.heap.get? p=some {cls:= .type gt,data:= .seq its.toArray n}/\xs.length<=sizeLine:=by
 let{z,its,n,r,e}:=I.hok p _ h;exact⟨its,n,r,e,z⟩
def Inv.lstUpd{p:Rl}{ys:Rq}{n':Nat}{f:Obj->Obj}(I:Inv X W B H s)(h:H p=some (.lst xs))
  (z:s.heap.get? p=some {cls:= .type gt,data:= .seq its.toArray n}) (hf:f {cls:= .type gt,data:= .seq its.toArray n}={cls:= .type gt,data:= .seq its'.toArray n'}) (r:HV ys its') (hz:ys.length<=sizeLine) (t:Nat):
  Inv X W B (upd H p<|.lst ys) {s with heap:=s.heap.update p f,toks:=t}:=by
 have e:(s.heap.update p f).get? p=some {cls:= .type gt,data:= .seq its'.toArray n'}:=by
  rw[Heap.get?_update_self f z (by rw[hf]<;>rfl),hf]
 refine I.write (x:=p) (e:=p) (by rw[h];trivial) (.inl M) (λb u hb q=>(VS _ _<|Ne.symm hb).trans q) {_,e} ?_;exact⟨hz,its',n',r,e⟩
inductive Nb(o i v:V)(H:Hp)(Q:Hp->Prop):Prop
 |mk(p xs k j:_)(_:o= .ref p)(_:i= .int k)(_:H p=some (.lst xs))(_:Pe xs.length k=some j)(_:Q (upd H p<|.lst<|xs.set j v))
def tR:PSet X Nb:=by
 intro W s B H o i v ov iv u Q I ro ri rv h;let{p,xs,k,j,rfl,rfl,O,hj,q}:=h;cases ro;let{t,rfl}:=ri;let{its,n,r,z,hz}:=I.lst O;let{h1,h2,U,Y}:=Do hj;have hl:=r.length;have hn:=qU;have Z:Inv X W B (upd H p<|.lst<|xs.set j v) {s with heap:=s.heap.update p (Obj.mapSeq (·.setIfInBounds j u))}:=
  I.lstUpd O z (Cd its n j u) (r.set rv j) (by rwa[QN]) s.toks
 by_cases h0:0<=k
 .have hk:k.toNat=j:=by
   rw[seqIndex_of h0 Y]at h1;exact VL h1
  exact PySem.W.ki_setAt z h0 () (by rwa[Qh,<-hl])<|by rw[hk];exact{_,Z,q}
 .have hk:(k+(its.toArray.size:Int)).toNat=j:=by
   rw[seqIndex_neg () U]at h1;rw[Qh,<-hl];exact VL h1
  exact PySem.W.ki_setBack z () (by rwa[Qh,<-hl]) ()<|by rw[hk];exact{_,Z,q}
def yB(lo hi:Se)(n:Nat):(sliceBounds lo hi none n).1=((HT.sIx n 0 lo:Nat):Int)/\(sliceBounds lo hi none n).2.1=((HT.sIx n n hi:Nat):Int)/\(sliceBounds lo hi none n).2.2=1:=by
 refine{?_,?_,M}
 .cases lo with
  |none=>simp[sliceBounds,HT.sIx]
  |some i=>
   simp only[sliceBounds,HT.sIx,Option.getD_none,show(1:Int)>0 by decide,if_true];by_cases h:i<0
   .simp only[h,if_true]<;>lia
   .simp only[h,if_false]<;>lia
 .cases hi with
  |none=>simp[sliceBounds,HT.sIx]
  |some i=>
   simp only[sliceBounds,HT.sIx,Option.getD_none,show(1:Int)>0 by decide,if_true];by_cases h:i<0
   .simp only[h,if_true]<;>lia
   .simp only[h,if_false]<;>lia
def we(its:Rr)(lo hi:Se):slicePick its.toArray lo hi none=((its.drop<|HT.sIx its.length 0 lo).take<|HT.sIx its.length its.length hi-HT.sIx its.length 0 lo).toArray:=by
 let{h1,h2,z}:=yB lo hi its.toArray.size;unfold slicePick;rw[h1,h2,z];simp only[sliceRange_one,pick_run,Qh]<;>rfl
inductive rSlL(K:Wi)(x:V)(lo hi:Se)(H:Hp)(Q:VK):Prop
 |mk(a xs:_)(_:x= .ref a)(_:Dz K H a xs)(_:∀p,H p=none->Q (.ref p) (upd H p<|.lst<|gM xs lo hi))
def fO:SlR X (rSlL X.K):=by
 intro W s B H x v Z vu lo hi sl Q I U hs pl Y h;let{a,xs,rfl,hx,q}:=h;cases U;let{its,r,O,hz}:=I.list hx;have z:=r.length;refine{gt,_,slot_list_getitem.lookup,O.isList.typeIs,?_};refine wpAny_getItem_list_slice O.isList hs pl Y .none (by simp) ?_ (by rw[Qh]<;>lia);rw[we,<-z];refine{.ref s.heap.objs.size,_,I.laid (t':=s.toks) (o:= .lst<|gM xs lo hi) (λb ob q=>VC _ q) (Q4 _) ?_,M,q _<|I.hok.fresh (Q4 _)};exact{Qr (AZ xs lo hi) hz,_,0,(r.drop<|HT.sIx xs.length 0 lo).take<|HT.sIx xs.length xs.length hi-HT.sIx xs.length 0 lo,VN _ M}
noncomputable def nB:V->Bool
 | .non=>true
 | .bl _=>true
 | .int _=>true
 | .str _=>true
 |_=>false
noncomputable def Pc:V->V->Bool
 | .non,.non=>true
 | .bl a,.bl b=>a==b
 | .bl a,.int b=>(if a then 1 else 0)==b
 | .int a,.bl b=>a==(if b then 1 else 0)
 | .int a,.int b=>a==b
 | .str a,.str b=>a==b
 |_,_=>false
def Ms(I:RelV y u)(z:RelV x v)(U:nB y=true)(O:nB x=true):SeqAt.EqAt A s u v (Pc y x):=by
 cases y with
 |non=>
  cases I;cases x with
  |non=>cases z;exact SeqAt.EqAt.same _
  |bl b=>cases z;exact SeqAt.EqAt.none_bool b
  |int b=>let{t,rfl}:=z;exact SeqAt.EqAt.none_int b t
  |str b=>let{t,rfl}:=z;exact SeqAt.EqAt.none_str b t
  |_=>exact VG (show false=true from O) Qg
 |bl a=>
  cases I;cases x with
  |non=>cases z;exact SeqAt.EqAt.bool_none a
  |bl b=>cases z;exact SeqAt.EqAt.bool_bool a b
  |int b=>let{t,rfl}:=z;exact SeqAt.EqAt.bool_int a b t
  |str b=>let{t,rfl}:=z;exact SeqAt.EqAt.bool_str a b t
  |_=>exact VG (show false=true from O) Qg
 |int a=>
  let{t',rfl}:=I;cases x with
  |non=>cases z;exact SeqAt.EqAt.int_none a t'
  |bl b=>cases z;exact SeqAt.EqAt.int_bool a t' b
  |int b=>let{t,rfl}:=z;exact SeqAt.EqAt.int_int a t' b t
  |str b=>let{t,rfl}:=z;exact SeqAt.EqAt.int_str a t' b t
  |_=>exact VG (show false=true from O) Qg
 |str a=>
  let{t',rfl}:=I;cases x with
  |non=>cases z;exact SeqAt.EqAt.str_none a t'
  |bl b=>cases z;exact SeqAt.EqAt.str_bool a t' b
  |int b=>let{t,rfl}:=z;exact SeqAt.EqAt.str_int a t' b t
  |str b=>let{t,rfl}:=z;exact SeqAt.EqAt.str_str a t' b t
  |_=>exact VG (show false=true from O) Qg
 |_=>exact VG (show false=true from U) Qg
def PV(x:V)(u:Rp):Bool:=match u with
 | .none=>Pc .non x
 | .bool b=>Pc (.bl b) x
 | .int i _=>Pc (.int i) x
 | .str z _=>Pc (.str z) x
 |_=>false
def GW(r:RelV y u)(f:nB y=true):PV x u=Pc y x:=by
 cases y with
 |non=>cases r;rfl
 |bl b=>cases r;rfl
 |int i=>let{t,rfl}:=r;rfl
 |str z=>let{t,rfl}:=r;rfl
 |_=>exact VG (show false=true from f) Qg
def sS{us:Rr}(h:HV xs us)(f:xs.all nB=true):us.any (PV x)=xs.any λy=>Pc y x:=by
 induction h with
 |nil=>rfl
 |cons r t z=>
  rw[List.all_cons,Qq]at f;rw[X7,X7,GW r f.1,z f.2]
def pR(z:RelV x v)(I:nB x=true):∀{xs:Rq}{us:Rr},HV xs us->xs.all nB=true->∀u∈us,SeqAt.EqAt A s u v (PV x u):=λ{xs us} h=>by
 induction h with
 |nil=>exact λ_ u hu=>by cases hu
 |cons r t O=>
  intro f U hu;rw[List.all_cons,Qq]at f;rcases Qb.mp hu with rfl|hu
  .rw[GW r f.1];exact Ms r z f.1 I
  .exact O f.2 U hu
def Ps(x:V)(xs:Rq):Bool:=xs.any λy=>Pc y x
inductive rIn(K:Wi)(neg:Bool)(x y:V)(H:Hp)(Q:VK):Prop
 |mk(p xs:_)(_:y= .ref p)(_:(Dz K H p xs\/OO K H p xs))(_:nB x=true)(_:xs.all nB=true)(_:Q (.bl<|if neg then !Ps x xs else Ps x xs) H)
def xK:Oc X (compareOp .In) (rIn X.K false):=by
 intro W s B H x y v u Q I z U h;let{p,xs,rfl,hq,O,fs,q}:=h;cases U;rcases hq with hq|hq
 .let{its,r,pl,hz}:=I.list hq;refine SeqAt.in_listAt (PV x) pl.isList (λw hw=>pR z O r fs w<|by simpa using hw) {.bl _,H,I,M,?_};rw[show its.toArray.any (PV x)=its.any (PV x) by simp,sS r fs];exact q
 .let{its,r,pl,hz}:=I.tuple hq;refine SeqAt.in_tupleAt (PV x) pl (λw hw=>pR z O r fs w<|by simpa using hw) {.bl _,H,I,M,?_};rw[show its.toArray.any (PV x)=its.any (PV x) by simp,sS r fs];exact q
def yW:Oc X (compareOp .NotIn) (rIn X.K true):=by
 intro W s B H x y v u Q I z U h;let{p,xs,rfl,hq,O,fs,q}:=h;cases U;rcases hq with hq|hq
 .let{its,r,pl,hz}:=I.list hq;refine SeqAt.notIn_listAt (PV x) pl.isList (λw hw=>pR z O r fs w<|by simpa using hw) {.bl _,H,I,M,?_};rw[show its.toArray.any (PV x)=its.any (PV x) by simp,sS r fs];exact q
 .let{its,r,pl,hz}:=I.tuple hq;refine SeqAt.notIn_tupleAt (PV x) pl (λw hw=>pR z O r fs w<|by simpa using hw) {.bl _,H,I,M,?_};rw[show its.toArray.any (PV x)=its.any (PV x) by simp,sS r fs];exact q
def aC:fg X (.builtin "len") (λxs H Q=>∃p ys,xs=[.ref p]/\(Dz X.K H p ys\/OO X.K H p ys)/\Q (.int ys.length) H):=by
 intro W s B H xs us Q I r h;let{p,ys,rfl,hq,q}:=h;let{u,rfl,U}:=mT r;cases U;have Y:=qU;rcases hq with hq|hq
 .let{its,O,pl,hz}:=I.list hq;have z:=O.length;exact Calls.call_len_list pl.isList (by simp only[Qh]<;>lia) {.int ys.length,H,I.tok _,{s.toks+1,by rw[Qh,z]},q}
 .let{its,O,pl,hz}:=I.tuple hq;have z:=O.length;exact len_tuple pl (by simp only[Qh]<;>lia) {.int ys.length,H,I.tok _,{s.toks+1,by rw[Qh,z]},q}
def zo:fg X (.builtin "len") (λxs H Q=>∃z,xs=[.str z]/\z.length<=sizeLine/\Q (.int z.length) H):=by
 intro W s B H xs us Q I r h;let{z,rfl,hz,q}:=h;let{u,rfl,t,rfl}:=mT r;have O:=qU;exact len_str () {.int z.length,H,I.tok _,{_,M},q}
def tyV(K:Wi)(T:String)(x:V)(H:Hp):Prop:=match x with
 | .str _=>T="str"
 | .int _=>T="int"
 | .ref p=>(T=gt/\∃xs,Dz K H p xs)\/(T=l6/\∃o,K.lookup p=some o/\o.cls= .type l6/\o.dict=none)\/
   (T="dict"/\((∃kvs,H p=some (.dK kvs))\/∃kvs,H p=some (.dT kvs)))\/(T="set"/\∃S n,H p=some (.set S n))
 |_=>False
def Fo(I:Inv X W B H s)(r:RelV x v)(ty:tyV X.K T x H):
  s.TypeIs v T/\∀a,v= .ref a->∃ob,s.heap.get? a=some ob/\ob.dict=none:=by
 cases x with
 |str z=>
  let{t,rfl}:=r;cases (show T="str" from ty);exact{typeIs_str s z t,λ_ e=>nomatch e}
 |int i=>
  let{t,rfl}:=r;cases (show T="int" from ty);exact{typeIs_int s i t,λ_ e=>nomatch e}
 |ref p=>
  cases r;rcases ty with⟨rfl,xs,hq⟩|⟨rfl,o,hk,hc,hd⟩|⟨rfl,hk⟩|⟨rfl,S,n,hk⟩
  .let{its,_,pl,_}:=I.list hq;refine{pl.isList.typeIs,λa e=>?_};cases e;let{o,n,e,c,hd,_}:=pl;exact⟨o,e,hd⟩
  .refine{{o,I.kIn p o hk,hc},λa e=>?_};cases e;exact{o,I.kIn _ o hk,hd}
  .have z:∃o,s.heap.get? p=some o/\o.ExactDict:=by
    rcases hk with⟨kvs,hk⟩|⟨kvs,hk⟩
    .let{_,_,_,_,o,_,_,e,ex,_}:=I.hok p _ hk;exact⟨o,e,ex⟩
    .let{_,_,_,_,o,_,_,e,ex,_}:=I.hok p _ hk;exact⟨o,e,ex⟩
   let{o,e,ex}:=z;refine{⟨o,e,ex.1⟩,λa e2=>?_};cases e2;exact⟨o,e,ex.2.1⟩
  .let{o,_,_,_,e,ex,_}:=I.hok p _ hk;refine{⟨o,e,ex.1⟩,λa e2=>?_};cases e2;exact⟨o,e,ex.2.1⟩
 |_=>exact False.elim ty
def tBM0(K:Wi)(T:String)(r:V->List V->Hp->VK->Prop)(to:TE):TE:=λB H Q=>to B H λx H1=>tyV K T x H1/\r x [] H1 Q
def tBM(K:Wi)(T:String)(r:V->List V->Hp->VK->Prop)(to:TE)(t:TA):TE:=λB H Q=>to B H λx H1=>tyV K T x H1/\t B H1 λxs H2=>r x xs H2 Q
variable{o:Expr}{es:Sg}{to:TE}{t:TA}{name:Str}{apos cpos:Pos}{id:String}{r:V->List V->Hp->VK->Prop}
def FV(pa:PlainAttrs T)(slot:Slot T name id)(U:typeOf (.builtin id)=pure (.type "method_descriptor"))(hm:RA X id r)(ho:PE X o to)
  (z:attributeBase o name X.env (eval o X.env)=eval o X.env:=by rfl) (O:(apos.endLine==cpos.line)=true:=by rfl):PE X (.Call (.Attribute o name apos) [] [] cpos) (tBM0 X.K T r to):=by
 intro W s B H Q I h;refine wpAny_Call_method0_late z O<|N3 (ho W s B H _ I h) λv s1 Y=>?_;let{x,H1,Z,r1,ty,q1}:=Y;let{h1,h2}:=Fo Z r1 ty;exact{T,id,pa,slot,U,h1,h2,Calls.callWith_builtin M<|PySem.evalArgs_none (hm W s1 B H1 x [] v [] Q Z r1 .nil q1)}
def bR(pa:PlainAttrs T)(slot:Slot T name id)(Z:typeOf (.builtin id)=pure (.type "method_descriptor"))(hm:RA X id r)(ho:PE X o to)(ha:PA X (e::es) t)
  (O:attributeBase o name X.env (eval o X.env)=eval o X.env:=by rfl)
  (Y:((backTo cpos<|starEach (e::es) X.env).all (λx=>!x.1)&&(backToKw cpos<|keywordEach [] X.env).all (λx=>x.1.isSome)
   &&decide ((e::es).length+([]:List Keyword).length+(if([]:List Keyword).isEmpty then 0 else 1)<30))=true:=by rfl)
  (U:(apos.endLine==cpos.line)=true:=by rfl) (hs:starEach (e::es) X.env=(false,eval e X.env)::starEach es X.env:=by rfl) (z:(backTo cpos<|starEach es X.env).any (·.1)=false:=by rfl):
  PE X (.Call (.Attribute o name apos) (e::es) [] cpos) (tBM X.K T r to t):=by
 intro W s B H Q I h;refine wpAny_Call_method_late O Y U M<|N3 (ho W s B H _ I h) λv s1 a0=>?_;let{x,H1,I1,r1,ty,q1}:=a0;let{h1,h2}:=Fo I1 r1 ty;refine{T,id,pa,slot,Z,h1,h2,?_};have hA:=ha cpos W s1 B H1 _ I1 q1;rw[hs]at hA⊢;refine Calls.callWith_builtin (by show(false||(backTo cpos<|starEach es X.env).any (·.1))=false;rw[z]<;>rfl)<|Calls.evalArgs_plain ?_;exact N3 hA λus s2 zz=>by let{vs,H2,I2,r2,q2}:=zz;exact hm W s2 B H2 x vs v us Q I2 r1 r2 q2
end
def MtM(X:Cx)(id:String)(r:V->List V->Hp->VK->Prop):Prop:=
 ∀(W:Rx)(s:Rm)(B:St)(H:Hp)(x:V)(xs:Rq)(v:Rp)(us:Rr)(Q:VK),Inv X W B H s->RelV x v->HV xs us->r x xs H Q->
  Wj X (call (.builtin id) (v::us)) (EP X W B Q) X.xe s
def HV.one:∀{x:V}{us:Rr},HV [x] us->∃u,us=[u]/\RelV x u
 :=λh=>by
  cases h with
  |cons r h=>cases h;exact{_,M,r}
def HV.two:∀{x y:V}{us:Rr},HV [x,y] us->∃u v,us=[u,v]/\RelV x u/\RelV y v
 :=λh=>by
  cases h with
  |cons r h=>cases h with
   |cons q h=>cases h;exact{_,_,M,r,q}
theorem HV.eraseIdx:∀{xs:Rq}{us:Rr}(i:Nat),HV xs us->HV (xs.eraseIdx i) (us.eraseIdx i)
 |_,_,_,.nil=> .nil
 |_,_,0,.cons _ t=>t
 |_,_,i+1,.cons r t=> .cons r (HV.eraseIdx i t)
theorem qV{α:Type}:∀(l:List α)(i:Nat),(l.eraseIdx i).length<=l.length
 | [],_=>Q4 _
 |_::_,0=>Za _
 |_::r,i+1=>Nat.succ_le_succ (qV r i)
section
variable{l:Rl}{ys zs:Rq}
def Inv.lset{f:Array Value->Array Value}(I:Inv X W B H s)(z:H l=some (.lst xs))
  (e:s.heap.get? l=some {cls:= .type gt,data:= .seq its.toArray n}) (hf:f its.toArray=its'.toArray) (O:HV ys its') (hz:ys.length<=sizeLine):
  Inv X W B (upd H l<|.lst ys) {s with heap:=s.heap.update l (Obj.mapSeq f),toks:=t'}:=by
 have q:=PySem.IsL.update e f;rw[hf]at q;refine I.write (x:=l) (e:=l) (by rw[z];exact trivial) (.inl M) (λb' u hb hu=>(VS s.heap (Obj.mapSeq f)<|Ne.symm hb).trans hu) {_,q} ?_;exact{hz,its',_,O,q}
def Inv.lnew(I:Inv X W B H s)(z:HV ys its)(hz:ys.length<=sizeLine):
  Inv X W B (upd H s.heap.objs.size<|.lst ys) {s with heap:=s.heap.push {cls:= .type gt,data:= .seq its.toArray},toks:=t'}:=
 I.laid (λ_ _ q=>VC _ q) (Q4 _) {hz,its,0,z,VN _ M}
def Inv.fresh(I:Inv X W B H s):H s.heap.objs.size=none:=I.hok.fresh (Q4 _)
def Inv.lstM(I:Inv X W B H s)(O:H l=some (.lst xs)):xs.length<=sizeLine/\∃(its:Rr)(n:Nat),HV xs its/\xs.length=its.length/\s.heap.get? l=some {cls:= .type gt,data:= .seq its.toArray n}:=by
 let{z,its,n,r,e}:=I.hok l _ O;exact⟨z,its,n,r,r.length,e⟩
def F5(h:n<=sizeLine):Builtin.List.listTooLong n=false:=by
 unfold Builtin.List.listTooLong;exact VJ ()
end
inductive IL(x:V)(vs:Rq)(H:Hp)(Q:VK):Prop
 |mk(l xs y:_)(_:x= .ref l)(_:vs=[y])(_:H l=some (.lst xs))(_:xs.length<sizeLine)(_:Q .non (upd H l<|.lst<|xs++ [y]))
def cp:MtM X "list.append" IL:=by
 intro W s B H x vs v us Q I U rv h;let{l,xs,y,rfl,rfl,O,hz,q}:=h;cases U;let{u,rfl,Y}:=rv.one;let{z,its,n,r,hl,e}:=I.lstM O;refine call_meets F.slot_list_append {_,e,M} F.entry_list_append (F.args_list_append_2 _ _) (PySem.list_append l its.toArray n u<|by rw[Qh];lia) {e,?_};refine{.non,_,I.lset (its':=its++ [u]) O e (by simp) (r.append<|.cons Y .nil) ?_,M,q};rw[Q7,Zs];lia
inductive IK(x:V)(vs:Rq)(H:Hp)(Q:VK):Prop
 |mk(l b xs zs:_)(_:x= .ref l)(_:vs=[.ref b])(_:H l=some (.lst xs))(_:H b=some (.lst zs))(_:xs.length+zs.length<=sizeLine)(_:Q .non (upd H l<|.lst<|xs++zs))
def mH:MtM X "list.extend" IK:=by
 intro W s B H x vs v us Q I Z rv h;let{l,b,xs,zs,rfl,rfl,Y,hB,hz,q}:=h;cases Z;let{u,rfl,ru}:=rv.one;cases ru;let{z,its,n,r,hl,e}:=I.lstM Y;let{z2,O,n2,r2,a0,e2}:=I.lstM hB;have hsz:its.toArray.size+O.toArray.size<=sizeLine:=by rw[Qh,Qh];lia
 have U:¬(!its.toArray.isEmpty&&Builtin.List.listTooLong (its.toArray.size+O.toArray.size))=true:=by
  rw[F5 hsz,Xj];exact Qg
 refine call_meets F.slot_list_extend {_,e,M} F.entry_list_extend (F.args_list_extend_2 _ _)
  (AutoSeq1.list_extend_list_list_0 l its.toArray n b O.toArray n2 U (by rw[Qh];lia) ()) {e,e2,?_}
 refine{.non,_,I.lset (its':=its++O) Y e (by simp) (r.append r2) ?_,M,q};rw[Q7];lia
inductive LC(x:V)(vs:Rq)(H:Hp)(Q:VK):Prop
 |mk(l xs i k y:_)(_:x= .ref l)(_:vs=[.int i])(_:H l=some (.lst xs))(_: -(2^63)<=i)(_:i<2^63)(_:seqIndex? i xs.length=some k)(_:xs[k]?=some y)(_:Q y (upd H l<|.lst<|xs.eraseIdx k))
def Ax:MtM X "list.pop" LC:=by
 intro W s B H x vs v us Q I Y rv h;let{l,xs,i,k,y,rfl,rfl,U,h1,h2,hk,hy,q}:=h;cases Y;let{u,rfl,Z}:=rv.one;let{t,rfl}:=Z;let{z,its,n,r,hl,e}:=I.lstM U;let{w,hw,O}:=r.get hy;refine call_meets F.slot_list_pop {_,e,M} F.entry_list_pop (F.args_list_pop_2 _ _)
  (MeetsSeq.list_pop_at l its.toArray n i t k w (fitsIndex_both h1 h2) (by rwa[Qh,<-hl]) (by rwa[<-QA])<|by rw[Qh];lia) {e,?_}
 refine{y,_,I.lset (its':=its.eraseIdx k) U e ?_ (r.eraseIdx k) ?_,O,q}
 .show its.toArray.eraseIdxIfInBounds k=(its.eraseIdx k).toArray;rw[V9]
 .have:=qV xs k;lia
inductive rCat(x y:V)(H:Hp)(Q:VK):Prop
 |mk(l b xs zs:_)(_:x= .ref l)(_:y= .ref b)(_:H l=some (.lst xs))(_:H b=some (.lst zs))(_:xs.length+zs.length<=sizeLine)(_:∀p,H p=none->Q (.ref p) (upd H p<|.lst<|xs++zs))
def LO:Oc X (binaryOp .Add) rCat:=by
 intro W s B H x y v u Q I U Y h;let{l,b,xs,zs,rfl,rfl,Z,hB,hz,q}:=h;cases U;cases Y;let{z,its,n,r,hl,e}:=I.lstM Z;let{z2,O,n2,r2,a0,e2}:=I.lstM hB;refine PySem.P.add_list e e2 ?_ (by rw[Qh,Qh];lia);have ea:its.toArray++O.toArray=(its++O).toArray:=by simp
 rw[ea];exact{.ref _,_,I.lnew (t':=s.toks) (r.append r2) (by rw[Q7];lia),M,q _ I.fresh}
section
variable{κ:Type}[DecidableEq κ]
noncomputable def aI(kvs:List (κ×V))(k:κ):Option V:=(kvs.find? λkv=>decide (kv.1=k)).map (·.2)
noncomputable def bp(kvs:List (κ×V))(k:κ)(v:V):List (κ×V):=
 if(kvs.any λkv=>decide (kv.1=k))=true then kvs.map (λkv=>if kv.1=k then(kv.1,v)else kv)else kvs++ [(k,v)]
noncomputable def bB(kvs:List (κ×V))(k:κ):List (κ×V):=kvs.filter λkv=>decide (kv.1≠k)
def kK{k:κ}:aI ([]:List (κ×V)) k=none:=rfl
def bi{p:κ×V}{r:List (κ×V)}{k:κ}(e:p.1=k):aI (p::r) k=some p.2:=by simp[aI,ZQ,e]
def bc{p:κ×V}{r:List (κ×V)}{k:κ}(e:¬p.1=k):aI (p::r) k=aI r k:=by simp[aI,ZQ,e]
theorem cO(k:κ):∀kvs:List (κ×V),(kvs.any λkv=>decide (kv.1=k))=(aI kvs k).isSome
 | []=>rfl
 |p::r=>by
  rw[X7];by_cases e:p.1=k
  .simp only[bi e,VD e,Bool.true_or,Option.isSome_some]
  .rw[bc e,VJ e,Bool.false_or];exact cO k r
theorem zS(k j:κ)(y:V):∀kvs:List (κ×V),aI (kvs.map λkv=>if kv.1=k then(kv.1,y)else kv) j=(aI kvs j).map λx=>if j=k then y else x
 | []=>rfl
 |p::r=>by
  have I:=zS k j y r;rw[Qt];by_cases h:p.1=k
  .rw[VB h];by_cases e:p.1=j
   .rw[bi (p:=(p.1,y)) e,bi e,XE,VB (e.symm.trans h)]
   .rw[bc (p:=(p.1,y)) e,bc e,I]
  .rw[VA h];by_cases e:p.1=j
   .rw[bi (p:=p) e,bi e,XE,VA (λz=>h<|e.trans z)]
   .rw[bc (p:=p) e,bc e,I]
theorem xz(k j:κ)(y:V):∀kvs:List (κ×V),aI kvs k=none->aI (kvs++ [(k,y)]) j=if j=k then some y else aI kvs j
 | [],_=>by
  by_cases e:k=j
  .rw[VB e.symm];exact bi (p:=(k,y)) e
  .rw[VA (λz=>e z.symm)];exact bc (p:=(k,y)) e
 |p::r,hn=>by
  rw[Va];have hk:¬p.1=k:=λz=>by rw[bi z]at hn;cases hn
  rw[bc hk]at hn;have I:=xz k j y r hn;by_cases e:p.1=j
  .rw[bi e,bi e,VA (λz=>hk<|e.trans z)]
  .rw[bc e,bc e,I]
def du(kvs:List (κ×V))(k j:κ)(y:V):aI (bp kvs k y) j=if j=k then some y else aI kvs j:=by
 unfold bp;by_cases a:(kvs.any λkv=>decide (kv.1=k))=true
 .rw[VB a,zS];rw[cO]at a;by_cases e:j=k
  .let{x,hx}:=Zw.mp a;rw[VB e,e,hx,XE,VB M]
  .rw[VA e];cases aI kvs j with
   |none=>rfl
   |some x=>rw[XE,VA e]
 .rw[VA a];refine xz k j y kvs ?_;rw[cO]at a;cases q:aI kvs k with
  |none=>rfl
  |some x=>rw[q]at a;exact(a M).elim
def dN(kvs:List (κ×V))(k:κ)(v:V):(bp kvs k v).length<=kvs.length+1:=by
 unfold bp;split
 .rw[Q0];lia
 .rw[Q7,Qi,ZP];lia
def FQ{kvs:List (κ×V)}{k:κ}(v:V)(h:aI kvs k=none):bp kvs k v=kvs++ [(k,v)]:=by
 unfold bp;rw[cO,h];exact VA (_)
def OZ.isSome_eq{u:Option Value}(r:OZ o u):o.isSome=u.isSome:=by
 cases o with
 |none=>cases u with
  |none=>rfl
  |some _=>exact(show False from r).elim
 |some _=>cases u with
  |none=>exact(show False from r).elim
  |some _=>rfl
def KV.val{kvs:List (κ×V)}{vs:List (κ×Value)}(r:KV kvs vs)(k:κ):OZ (aI kvs k) (valueAt vs k):=by
 unfold KV at r
 induction r with
 |nil=>exact VW
 | @cons p q ps qs h t O=>
  let{h1,h2}:=h;by_cases e:p.1=k
  .have I:q.1=k:=h1.symm.trans e;have b:valueAt (q::qs) k=some q.2:=by simp[valueAt,ZQ,I]
   rwa[bi e,b]
  .have I:¬q.1=k:=λz=>e (h1.trans z);have b:valueAt (q::qs) k=valueAt qs k:=by simp[valueAt,ZQ,I]
   rwa[bc e,b]
def KV.any{kvs:List (κ×V)}{vs:List (κ×Value)}(r:KV kvs vs)(k:κ):(kvs.any λkv=>decide (kv.1=k))=vs.any λkv=>decide (kv.1=k):=by
 unfold KV at r
 induction r with
 |nil=>rfl
 |cons h t z=>rw[X7,X7,z,h.1]
def KV.repl{kvs:List (κ×V)}{vs:List (κ×Value)}(r:KV kvs vs)(k:κ)(I:RelV y u):
  KV (kvs.map λkv=>if kv.1=k then(kv.1,y)else kv) (vs.map λkv=>if kv.1=k then(kv.1,u)else kv):=by
 unfold KV at r⊢
 induction r with
 |nil=>exact .nil
 | @cons p q ps qs h t O=>
  rw[Qt,Qt];refine .cons ?_ O;let{h1,h2}:=h;by_cases e:p.1=k
  .rw[VB e,VB (h1.symm.trans e)];exact⟨h1,I⟩
  .rw[VA e,VA (λz=>e<|h1.trans z)];exact⟨h1,h2⟩
def KV.put{kvs:List (κ×V)}{vs:List (κ×Value)}(r:KV kvs vs)(k:κ)(z:RelV y u):KV (bp kvs k y) (stored vs k u):=by
 unfold bp stored;rw[r.any k];by_cases e:(vs.any λkv=>decide (kv.1=k))=true
 .rw[VB e,VB e];exact r.repl k z
 .rw[VA e,VA e];exact Paired.snoc r ⟨M,z⟩
def KV.drop{kvs:List (κ×V)}{vs:List (κ×Value)}(r:KV kvs vs)(k:κ):KV (bB kvs k) (without vs k):=by
 unfold KV at r⊢;unfold bB without
 induction r with
 |nil=>exact .nil
 | @cons p q ps qs h t I=>
  let{h1,h2}:=h;rw[X5,X5];by_cases e:p.1=k
  .have a:¬decide (p.1≠k)=true:=by simp[e]
   have b:¬decide (q.1≠k)=true:=by simp[h1.symm.trans e]
   rw[VA a,VA b];exact I
  .have O:¬q.1=k:=λz=>e (h1.trans z);have a:decide (p.1≠k)=true:=by simp[e]
   have b:decide (q.1≠k)=true:=by simp[O]
   rw[VB a,VB b];exact .cons ⟨h1,h2⟩ I
def KV.length{kvs:List (κ×V)}{vs:List (κ×Value)}(r:KV kvs vs):kvs.length=vs.length:=Paired.length r
def GY(kvs:List (κ×V))(k:κ):(bB kvs k).length<=kvs.length:=Qm _ _
end
def pU{k:Key}(r:RelV (kV k) u):(bx P w).is k u=true:=by
 cases k with
 |inl i=>let{t,e}:=(show ∃t,u=Value.int i t from r);subst e;exact AC P w i t
 |inr x=>let{t,e}:=(show ∃t,u=Value.str x t from r);subst e;exact lH P w x t
theorem xQ{P:Rv}{w:Ru}:∀{ks:List Key}{us:Rr},HV (ks.map kV) us->ItemsAre (bx P w) ks us
 | [],_,r=>by rw[Xf]at r;cases r;exact .nil
 |k::ks,_,r=>by
  rw[Qt]at r;cases r with
  |cons h t=>exact .cons (pU h)<|xQ t
abbrev KT(H:Hp):List (List Key×V)->List (List Key×Addr×Value)->Prop:=Paired λp q=>p.1=q.1/\H q.2.1=some (.tup<|p.1.map kV)/\RelV p.2 q.2.2
abbrev _root_.Ss:=List (List Key×Addr×Value)
def KT.val{kvs:Sj}{xs:Ss}(r:KT H kvs xs)(k:List Key):OZ (aI kvs k) ((atKey xs k).map (·.2)):=by
 induction r with
 |nil=>exact VW
 | @cons p q ps qs h t O=>
  let{h1,_,h2}:=h;by_cases e:p.1=k
  .have I:q.1=k:=h1.symm.trans e;have b:atKey (q::qs) k=some q.2:=by simp[atKey,ZQ,I]
   rwa[bi e,b]
  .have I:¬q.1=k:=λz=>e (h1.trans z);have b:atKey (q::qs) k=atKey qs k:=by simp[atKey,ZQ,I]
   rwa[bc e,b]
def KT.repl{kvs:Sj}{xs:Ss}(r:KT H kvs xs)(k:List Key)(I:RelV y u):
  KT H (kvs.map λkv=>if kv.1=k then(kv.1,y)else kv) (xs.map<|putAt k u):=by
 induction r with
 |nil=>exact .nil
 | @cons p q ps qs h t O=>
  rw[Qt,Qt];refine .cons ?_ O;let{h1,h2,U}:=h;unfold putAt;by_cases e:p.1=k
  .rw[VB e,VB (h1.symm.trans e)];exact⟨h1,h2,I⟩
  .rw[VA e,VA (λz=>e<|h1.trans z)];exact⟨h1,h2,U⟩
def KT.put{kvs:Sj}{xs:Ss}(r:KT H kvs xs)(k:List Key)(hb:H b=some (.tup<|k.map kV))(z:RelV y u):
  KT H (bp kvs k y) (storedH xs k b u):=by
 have e:(kvs.any λkv=>decide (kv.1=k))=(atKey xs k).isSome:=by
  rw[cO,(r.val k).isSome_eq,ZW]
 unfold bp storedH;rw[e];by_cases q:(atKey xs k).isSome=true
 .rw[VB q,VB q];exact r.repl k z
 .rw[VA q,VA q];exact Paired.snoc r ⟨M,hb,z⟩
def KT.keeps{kvs:Sj}{xs:Ss}(r:KT H kvs xs)(I:∀b ys,H b=some (.tup ys)->H' b=some (.tup ys)):KT H' kvs xs:=
 Paired.mapP r λ_ _ z=>{z.1,I _ _ z.2.1,z.2.2}
section
variable{h:Heap}
def KA{u:HO}(ok:OK P w H h)(e:Rd H a u):N6 P w H h a u:=e.ok ok
def ve(ok:OK P w H h)(e:Rd H a (.dK kvs)):kvs.length<=sizeLine/\(a==sysModules)=false/\∃vs,KV kvs vs/\h.DictOf (bx P w) a vs:=
 show N6 P w H h a (.dK kvs) from KA ok e
def vf(ok:OK P w H h)(e:H a=some (.dK kvs)):kvs.length<=sizeLine/\(a==sysModules)=false/\∃vs,KV kvs vs/\h.DictOf (bx P w) a vs:=ve ok (.inl e)
def uY{ks:List Key}(ok:OK P w H h)(e:H a=some (.tup<|ks.map kV)):(tupleKind<|bx P w).is h ks a:=by
 let{_,its,r,o,h1,h2,n,z}:=(show N6 P w H h a (.tup<|ks.map kV) from ok a _ e);exact{o,its.toArray,n,h1,h2,z,by simpa using xQ r}
def AS{kvs:Sj}(ok:OK P w H h)(e:Rd H a (.dT kvs)):kvs.length<=sizeLine/\(a==sysModules)=false/\
  ∃xs,KT H kvs xs/\h.DictOfH (tupleKind<|bx P w) a xs:=by
 let{z,y,xs,r,o,es,ep,h1,h2,I,O,U}:=(show N6 P w H h a (.dT kvs) from KA ok e);refine{z,y,xs,r,o,es,ep,h1,h2,I,O,λx hx=>?_,U};have all:∀{l:Sj}{m:Ss},KT H l m->∀x∈m,(tupleKind<|bx P w).is h x.1 x.2.1:=by
  intro l m q
  induction q with
  |nil=>intro x hx;exact nomatch hx
  | @cons p q ps qs hq t Y=>
   intro x hx;rcases Qb.mp hx with e|hx
   .subst e;exact uY ok<|by rw[<-hq.1];exact hq.2.1
   .exact Y x hx
 exact all r x hx
def NE{kvs:Sj}(ok:OK P w H h)(e:H a=some (.dT kvs)):kvs.length<=sizeLine/\(a==sysModules)=false/\
  ∃xs,KT H kvs xs/\h.DictOfH (tupleKind<|bx P w) a xs:=AS ok (.inl e)
end
def OS(H:Hp)(a:Rl)(y:V)(r:RW):Prop:=
 (∃kvs k,Rd H a (.dK kvs)/\y=kV k/\r=aI kvs k)\/∃kvs k b,Rd H a (.dT kvs)/\y= .ref b/\H b=some (.tup<|k.map kV)/\r=aI kvs k
def PD(H:Hp)(a:Rl)(y v:V)(H':Hp):Prop:=
 (∃kvs k,H a=some (.dK kvs)/\y=kV k/\kvs.length<sizeLine/\H'=upd H a (.dK<|bp kvs k v))\/
 ∃kvs k b,H a=some (.dT kvs)/\y= .ref b/\H b=some (.tup<|k.map kV)/\kvs.length<sizeLine/\H'=upd H a (.dT<|bp kvs k v)
def OS.k{k:Key}(e:H a=some (.dK kvs)):OS H a (kV k) (aI kvs k):= .inl {kvs,k,.inl e,M,M}
def PD.k{k:Key}{v:V}(e:H a=some (.dK kvs))(hl:kvs.length<sizeLine):PD H a (kV k) v (upd H a<|.dK<|bp kvs k v):= .inl ⟨kvs,k,e,M,hl,M⟩
section
variable{v:V}{r:Rp}
def Inv.big(I:Inv X W B H s):sysModules<s.heap.objs.size:=by
 have h:mainGlobals<s.heap.objs.size:=(I.mod.glob.keeps I.bk).lt;exact Nat.lt_trans (_) h
def EV(hu:A.units+1<cLine)(I:Inv X W B H s)(g:OS H a y (some v))(ry:RelV y u)(h:∀w' s',Inv X W B H s'->RelV v w'->Q w' s'):
  wpAny (model X.prog X.w) A (getItem (.ref a) u) Q E s:=by
 rcases g with⟨kvs,k,e,Y,l⟩|⟨kvs,k,b,e,Y,eb,l⟩
 .subst Y;let{z,hd,vs,O,dd}:=ve I.hok e;let{w',hw,U}:=OZ.some_of (v:=v) (o:=valueAt vs k) (by rw[l];exact O.val k);exact wpAny_getItem_of (pU ry) dd.mapOf hw<|h w' _ (I.tok _) U
 .subst Y;cases (show u=Value.ref b from ry);let{z,hd,xs,O,dd}:=AS I.hok e;let{w',hw,U}:=OZ.some_of (v:=v) (o:=(atKey xs k).map (·.2)) (by rw[l];exact O.val k);let{p,hp,Z}:=Zz.mp hw;refine wpAny_getItem_heap (tupleKind_room_in1 hu) (uY I.hok eb) dd hp ?_;rw[Z];exact h w' _ (I.tok _) U
def d_in(hu:A.units+1<cLine)(I:Inv X W B H s)(g:OS H a y o)(Y:RelV y u)(h:∀s',Inv X W B H s'->Q (.bool o.isSome) s'):
  wpAny (model X.prog X.w) A (compareOp .In u<|.ref a) Q E s:=by
 rcases g with⟨kvs,k,e,U,l⟩|⟨kvs,k,b,e,U,Z,l⟩
 .subst U;let{z,hd,vs,O,dd}:=ve I.hok e;refine wpAny_in_of (pU Y) hd dd.mapOf ?_;rw[<-(O.val k).isSome_eq,<-l];exact h _<|I.tok _
 .subst U;cases (show u=Value.ref b from Y);let{z,hd,xs,O,dd}:=AS I.hok e;refine wpAny_in_heap (tupleKind_room_in1 hu) (uY I.hok Z) hd dd ?_;have q:=(O.val k).isSome_eq;rw[ZW]at q;rw[<-q,<-l];exact h _<|I.tok _
def JJ(hu:A.units+1<cLine)(I:Inv X W B H s)(g:OS H a y o)(Y:RelV y u)(h:∀s',Inv X W B H s'->Q (.bool<|!o.isSome) s'):
  wpAny (model X.prog X.w) A (compareOp .NotIn u<|.ref a) Q E s:=by
 rcases g with⟨kvs,k,e,U,l⟩|⟨kvs,k,b,e,U,Z,l⟩
 .subst U;let{z,hd,vs,O,dd}:=ve I.hok e;refine wpAny_notIn_of (pU Y) hd dd.mapOf ?_;rw[<-(O.val k).isSome_eq,<-l];exact h _<|I.tok _
 .subst U;cases (show u=Value.ref b from Y);let{z,hd,xs,O,dd}:=AS I.hok e;refine wpAny_notIn_heap (tupleKind_room_in1 hu) (uY I.hok Z) hd dd ?_;have q:=(O.val k).isSome_eq;rw[ZW]at q;rw[<-q,<-l];exact h _<|I.tok _
def sQ{ob:HO}(I:Inv X W B H s)(O:Mut (H a))(hs:Heap.SameBut a s.heap h')(he:∃q,h'.get? a=some q)(new:N6 X.prog X.w (upd H a ob) h' a ob):
  Inv X W B (upd H a ob) {s with heap:=h',toks:=t'}:=
 I.write (x:=a) (e:=a) O (.inl M) (λb q hb z=>(hs.2 b hb).trans z) he new
def Ct(z:kvs.length<=sizeLine)(hd:(a==sysModules)=false)(I:KV kvs vs)(dd:h'.DictOf (bx P w) a vs):
  N6 P w H' h' a (.dK kvs):=⟨z,hd,vs,I,dd⟩
def EU{Q:Sn}(hu:A.units+1<cLine)(I:Inv X W B H s)(g:PD H a y v H')(ry:RelV y u)(rv:RelV v r)(h:∀s',Inv X W B H' s'->Q Unit.unit s'):
  wpAny (model X.prog X.w) A (setItem (.ref a) u r) Q E s:=by
 rcases g with⟨kvs,k,e,Y,l,Z⟩|⟨kvs,k,b,e,Y,eb,l,Z⟩
 .subst Y Z;let{z,hd,vs,O,dd}:=vf I.hok e;have hz:vs.length<=sizeLine:=by rwa[<-O.length]
  have hl:(bp kvs k v).length<=sizeLine:=by have:=dN kvs k v;lia
  refine wpAny_setItem_pairs (hsz:=hz) (pU ry) dd λh' U hs=>h _ ?_;have he:∃q,h'.get? a=some q:=by let{q,_,_,hq,_}:=U;exact⟨q,hq⟩
  exact sQ I (by rw[e];exact VW) hs he<|Ct hl hd (O.put k rv) U
 .subst Y Z;cases (show u=Value.ref b from ry);let{z,hd,xs,O,dd}:=NE I.hok e;have hz:xs.length<=sizeLine:=by rwa[<-Paired.length O]
  have hl:(bp kvs k v).length<=sizeLine:=by have:=dN kvs k v;lia
  refine wpAny_setItem_heap (hsz:=hz) (tupleKind_room_in1 hu) (uY I.hok eb) dd λh' U hs=>h _ ?_;let{q,es,ep,hq,h2,h3,h4,_,h5}:=U;refine sQ I (by rw[e];exact VW) hs ⟨q,hq⟩ {hl,hd,_,(O.put k eb rv).keeps λc ys ec=>?_,q,es,ep,hq,h2,h3,h4,h5};rwa[ag (cw ec e<|λz=>nomatch z)]
end
section
variable{k:Key}
def NH{v:V}{O:Rr}(I:Inv X W B H s)(e:H a=some (.dK kvs))(Z:RelV (kV k) u)(l:aI kvs k=some v)(hm:O=[]\/∃x,O=[x])
  (h:∀w' s',Inv X W B (upd H a<|.dK<|bB kvs k) s'->RelV v w'->Q w' s'):wpAny (model X.prog X.w) A (call (.builtin "dict.pop") (.ref a::u::O)) Q E s:=by
 let{z,hd,vs,U,dd}:=vf I.hok e;let{w',hw,a0}:=OZ.some_of (v:=v) (o:=valueAt vs k) (by rw[<-l];exact U.val k);have hp:(keyPart u).isSome=true:=by
  cases k with
  |inl i=>let{t,q}:=(show ∃t,u=Value.int i t from Z);subst q;rfl
  |inr x=>let{t,q}:=(show ∃t,u=Value.str x t from Z);subst q;rfl
 have ha:argsOk "dict.pop" {.ref a::u::O,[]}:=by
  rcases hm with q|⟨x,q⟩
  .subst q;exact PySem.F.args_dict_pop_2 _ _
  .subst q;exact PySem.F.args_dict_pop_3 _ _ _
 refine call_meetsIn X3 dd.typeIs PySem.F.entry_dict_pop ha (meets_dict_pop_there (bx X.prog X.w) a (pU Z) O hm hp)
  {vs,w',dd,by rwa[<-U.length],hw,λh' Y hs=>h w' _ ?_ a0}
 have he:∃q,h'.get? a=some q:=by let{q,_,_,hq,_}:=Y;exact⟨q,hq⟩
 exact sQ I (by rw[e];exact VW) hs he<|Ct (Qr (GY kvs k) z) hd (U.drop k) Y
def NI(I:Inv X W B H s)(e:Rd H a (.dK kvs))(h:∀t s',Inv X W B H s'->Q (.int kvs.length t) s'):wpAny (model X.prog X.w) A (call (.builtin "len") [.ref a]) Q E s:=by
 let{z,hd,vs,O,dd}:=ve I.hok e;refine call_len_dict hd dd (by rw[<-O.length];rw[sizeLine_eq]at z;lia) ?_;rw[<-O.length];exact h _ _<|I.tok _
end
def MI(i:Expr):Prop:=∀ov iv,subscripted i false ov iv=operate [ov,iv] (getItem ov iv)
def CT{prog:Rv}{env:Env}{value z:Expr}{id:String} 
  (hl:typeLookup (.type T) "__getitem__"=pure (some<|.builtin id)) (hs:MI z)
  (h:wpAny (model prog w) A (eval value env) (λo s₁=>wpAny (model prog w) A (eval z env) (λi s₂=>s₂.TypeIs o T/\wpAny (model prog w) A (getItem o i) Q E s₂) E s₁) E s):
  wpAny (model prog w) A (eval (.Subscript value z pos) env) Q E s:=by
 refine Subscript_<|W2 h (λo s₁ h₁=>W2 h₁ (λi s₂ I=>?_) λ_ _ x=>x) λ_ _ x=>x;let{Y,I}:=I;unfold subscriptTail;refine VI ?_;rw[getitemInPython_of_ne Y.not_modules];refine VI<|wpAny_specialOf Y hl ?_;have fin:wpAny (model prog w) A (subscripted z false o i) (λr O=>wpAny (model prog w) A (letTemporaryGo value o r>>=λ_=>pure r) Q E O) E s₂:=by
  rw[hs o i];exact wpAny_operating (W2 I (λr O U=>VI<|wpAny_letTemporaryGo<|VR U) λ_ _ x=>x)
 first
  |exact VR<|VI fin
  |exact VI<|VR (VI fin)
  |exact VI fin
def AW(I:Inv X W B H s)(g:OS H a y o):s.TypeIs (.ref a) "dict":=by
 rcases g with⟨kvs,k,e,_,_⟩|⟨kvs,k,b,e,_,_,_⟩
 .let{_,_,vs,_,dd}:=ve I.hok e;exact dd.typeIs
 .let{_,_,xs,_,dd}:=AS I.hok e;exact dd.typeIs
inductive Lp(Q:VK)(x y:V)(H2:Hp):Prop
 |mk(a v:_)(_:x= .ref a)(_:OS H2 a y (some v))(_:Q v H2)
def MZ(td ty:TE):TE:=λB H Q=>td B H λx H1=>ty B H1 λy H2=>Lp Q x y H2
inductive MY(Q:VK)(y x:V)(H2:Hp):Prop
 |mk(a o:_)(_:x= .ref a)(_:OS H2 a y o)(_:Q (.bl o.isSome) H2)
def tDIn(ty td:TE):TE:=λB H Q=>ty B H λy H1=>td B H1 λx H2=>MY Q y x H2
def Iw(ty td:TE):TE:=λB H Q=>ty B H λy H1=>td B H1 λx H2=>∃a o,x= .ref a/\OS H2 a y o/\Q (.bl<|!o.isSome) H2
inductive Lz(D:kB)(B:St)(v x y:V)(H3:Hp):Prop
 |mk(a H4:_)(_:x= .ref a)(_:PD H3 a y v H4)(_:D.nx B H4)
def M8(td ty tv:TE):TS:=λD B H=>tv B H λv H1=>td B H1 λx H2=>ty B H2 λy H3=>Lz D B v x y H3
section
variable{o i value:Expr}{pos' tpos:Pos}{td ty tv:TE}
def gV(hu:X.A.units+1<cLine)(Y:PE X o td)(hi:PE X i ty)(hs:MI i):PE X (.Subscript o i pos) (MZ td ty):=by
 intro W s B H Q I h;refine CT PySem.F.slot_dict_getitem.lookup hs<|N3 (Y W s B H _ I h) λu s1 zz=>?_;let{x,H1,Z,rx,q1}:=zz;refine N3 (hi W s1 B H1 _ Z q1) λiv s2 z=>?_;let{y,H2,U,ry,a,v,ex,g,q2}:=z;subst ex;obtain rfl:u=Value.ref a:=rx;exact{AW U g,EV hu U g ry λw' s3 I3 O=>⟨v,H2,I3,O,q2⟩}
def BS(hu:X.A.units+1<cLine)(hi:PE X i ty)(O:PE X o td):PC X .In i o (tDIn ty td):=by
 intro W s B H Q I h;refine N3 (hi W s B H _ I h) λiv s1 zz=>?_;let{y,H1,U,Y,Z}:=zz;refine N3 (O W s1 B H1 _ U Z) λu s2 z=>?_;let{x,H2,I2,rx,a,ov,ex,g,q2}:=z;subst ex;obtain rfl:u=Value.ref a:=rx;exact d_in hu I2 g Y λs3 I3=>{.bl ov.isSome,H2,I3,M,q2}
def qN(hu:X.A.units+1<cLine)(hi:PE X i ty)(O:PE X o td):PC X .NotIn i o (Iw ty td):=by
 intro W s B H Q I h;refine N3 (hi W s B H _ I h) λiv s1 zz=>?_;let{y,H1,U,Y,Z}:=zz;refine N3 (O W s1 B H1 _ U Z) λu s2 z=>?_;let{x,H2,I2,rx,a,ov,ex,g,q2}:=z;subst ex;obtain rfl:u=Value.ref a:=rx;exact JJ hu I2 g Y λs3 I3=>{.bl<|!ov.isSome,H2,I3,M,q2}
def sI(hu:X.A.units+1<cLine)(O:PE X o td)(hi:PE X i ty)(U:PE X value tv)(hs:swapsWith value (some<|.Subscript o i pos') pos.line X.env=pure false):
  PS X (.Assign [.Subscript o i pos'] value pos) (M8 td ty tv):=by
 intro W s B H D I h;refine wpAny_Assign_Subscript (N3 (U W s B H _ I h) λr s1 zz=>?_) hs;let{v,H1,Y,rv,Z}:=zz;refine N3 (O W s1 B H1 _ Y Z) λu s2 zz=>?_;let{x,H2,I2,rx,q2}:=zz;refine N3 (hi W s2 B H2 _ I2 q2) λiv s3 z=>?_;let{y,H3,I3,ry,a,H4,ex,g,q3}:=z;subst ex;obtain rfl:u=Value.ref a:=rx;exact EU hu I3 g ry rv λs4 I4=>⟨B,H4,I4,q3⟩
end
def AV(h:Heap)(hb:sysModules<h.objs.size):N6 P w H (h.push {cls:= .type "dict",data:= .dict #[]}) h.objs.size (.dK []):=
 {Qc _,VQ.mpr<|Ne.symm<|QH hb,[],.nil,Heap.DictOf.new h}
def Ln:TE:=λ_ H Q=>∀p,H p=none->Q (.ref p) (upd H p<|.dK [])
def jd:PE X (.Dict [] [] pos) Ln:=λW s B H Q I h=>
 wpAny_Dict_empty {.ref s.heap.objs.size,_,I.laid (a:=s.heap.objs.size) (o:= .dK []) (t':=s.toks) (λ_ _ q=>VC _ q) (Q4 _)<|AV s.heap I.big,M,h _<|I.hok.fresh (Q4 _)}
end L2
namespace Att
open PySem PySem.W PySem.Calls PyProof.Rows
variable{h:Heap}{n:Nat}{l:OpenLaw}{P:Params}{YP:World->Heap->Prop}
def sD:∀(ns:Rn)(vs:Rr),WellAll P h vs (ns.map WData.int)->IntsAre vs ns:=by
 intro ns
 induction ns with
 |nil=>
  intro vs w;rw[Xf]at w;cases w;exact .nil
 |cons n ns z=>
  intro vs w;rw[Qt]at w;cases w with
  |cons a b=>
   cases a;exact .cons _ _<|z _ b
def DZ(hn:l.most=some n){args:List WData}{z:Rr}
  (I:l.row.toRowW.claim.pre args=true) (a0:WellAll P h z args):
  ∃a vs ns,z=[Value.ref a]/\args=[WData.list (ns.map WData.int)]/\h.get? a=some {cls:= .type gt,data:= .seq vs.toArray}/\IntsAre vs ns/\ns.length<=n:=by
 have a1:WShape.hasAll [] args [.list .int]=true:=(pre_splitW I).1;have hc:l.pre.holds [] {args:=args}=true:=(pre_splitW I).2;let{d,r,rfl,h1,h2}:=hasAllW_cons a1;obtain rfl:=hasAllW_nil h2;let{xs,rfl,h3}:=hasW_list h1;let{ns,rfl}:=items_int h3;have O:ns.length<=n:=by
  unfold OpenLaw.pre at hc;have Y:(WTm.not<|.lt (.lit<|.int (n:Int))<|.len<|.arg 0).holds [] {args:=[.list (ns.map .int)]}=true:=by
   have Y:=(holds_andW hc).1;rw[hn]at Y;exact Y
  have Z:=condW_of Y (w_not<|w_lt w_lit<|w_len_list<|w_arg M);rw[Q0]at Z;refine Nat.le_of_not_lt λq=>?_;have q':(n:Int)<((ns.length:Nat):Int):=()
  first
   |(rw[VD q']at Z;exact VG Z (_))
   |(simp at Z;lia)
 cases a0 with
 |cons w1 w2=>
  cases w2;cases w1 with
  |list ho U=>exact{_,_,ns,M,M,ho,sD ns _ U,O}
def Ec(l:OpenLaw)(args:List WData):l.row.toRowW.claim.post args (.bool true) args=true:=
 postW_of (r:=l.row.toRowW) (X:=(true==true))
  (show WShape.has [] (.bool true) .bool=true by first|rfl|decide|simp[WShape.has,WShape.arms,WShape.armsAll])
  (show(WTm.eq .res<|.lit<|.bool true).value [] {args:=args,res:=some (.bool true),after:=args}=some (.bool<|true==true) from w_eq_bool (w_res M) w_lit) M
def attach_call{q:Rv}{loose:Ry}{XP:(Str->Option Value)->Heap->Prop}{d:DefRec}
  (hn:l.most=some n) (a1:d.params.defaults=[])
  (call:∀(w:Ru)(s₀ s₁:Rm)(mg mb:RT)(O:Rl)(o:Obj)(pm cd z:Rp)(a:Rl)(vs:Rr)(ns:Rn),
   Ground q loose [] XP w s₀ mg mb s₁.heap->YP w s₁.heap->
   s₁.heap.get? O=some o->o.data= .func (docDef d.name d.params d.body d.scope pm cd z)->s₁.heap.CodeRec cd d.name->mg d.name=some (.ref O)->
   s₁.heap.get? a=some {cls:= .type gt,data:= .seq vs.toArray}->IntsAre vs ns->ns.length<=n->s₁.gens= #[]->
   codeAny (model l.prog w) callerA (.call (.ref O) {[.ref a],[]}) (λr s'=>r= .ok (.ret<|.bool true)/\OldK s₁.heap s'.heap/\s'.os=s₁.os/\AllBare s'.gens) s₁):
  WalkO q loose XP YP l.row.toRowW d [] (λf vs=>PySem.call f vs):=by
 intro w s₀ s₁ mg mb G Y O o pm cd z dV kV ho hd a2 hD a3 hg args a5 as U a6 ac a4 af;obtain rfl:dV= .none:=Dflts.none hD a1;obtain rfl:kV= .none:=Dflts.noKw hD;let{a,vs,ns,rfl,rfl,Z,I,a0}:=DZ hn U a4;refine enter_call<|codeAny_mono (call w s₀ s₁ mg mb O o pm cd z a vs ns G Y ho (fd_plain hd) a2 a3 Z I a0 hg) λr s' hq=>?_;let{rfl,h2,h3,h4}:=hq;exact{.inl {.bool true,.bool true,[],M,λ_=>M,.bool true,Ec l _,λ_=>{VY,λ_ hm=>(nomatch hm)}},h2,h3,h4}
end Att
namespace L2
open PySem PySem.Spec PyProof.Rows
variable{a f:Rl}{X:Cx}{fd:R'}{base:Heap}{H:Hp}{ns:Rn}{N:Ry}{xs:Rq}{vs:Rr}{n:Nat}{P:Rv}{A Wh c:Prop}{K:Wi}{sp:Sp}{B:St}{st:Stmt}{qual x:Str}{nx:Sk}{g:TG}{tb:TS}{Φ:TS->Prop}{F:TS->TS->TS}{rt:VK}{w:Ru}{YP:World->Heap->Prop}
def DL(h:IntsAre vs ns):HV (ns.map V.int) vs:=by
 induction h with
 |nil=>exact .nil
 |cons n t h z=>exact .cons ⟨t,M⟩ z
def MH(H:Hp):Prop:=∀b,H b=none\/∃o xs,H b=some (.frz o<|.lst xs)
def Gy{mg mb:RT}{CX:CXT}{k:Nat}{fa:Rl}{s₁:Rm} 
  (KX:K.In s₁.heap) (Z:s₁.heap.Ns mainGlobals mg) (hb:s₁.heap.Ns builtinsNs mb) (a4:∀x:Str,x≠"__name__"->mb x=bootBuiltins x) (a0:s₁.heap.NoLimit) (hg:s₁.gens= #[])
  (ha:s₁.heap.get? a=some {cls:= .type gt,data:= .seq vs.toArray}) (hi:IntsAre vs ns) (hl:ns.length<=sizeLine) (hr:O6 k callerA)
  (F:∀base:Heap,K.In base->base.Ns mainGlobals mg->E7 P w K mg base CX k fa fd [x] sp) (Y:∀(s:Rm)(u:Rp),BindsTo s fd {[u],[]} [(x,u)])
  (a5:∀H:Hp,MH H->Dz K H a (ns.map V.int)->sp [.ref a] H (λv _=>v= .bl true) λ_ _ _=>False)
  (a6:∀H e s',CX [] H s₁ (λ_ _ _=>False) e s'->False):
  codeAny (model P w) callerA (.call (.ref fa) {[.ref a],[]}) (λr s'=>r= .ok (.ret<|.bool true)/\OldK s₁.heap s'.heap/\s'.os=s₁.os/\AllBare s'.gens) s₁:=by
 have rv:=DL hi;have a1:=hi.length;have U:∀H:Hp,MH H->Dz K H a (ns.map V.int)->OK P w H s₁.heap->(∀b,H b≠none->b=a)->(H a≠none->K.lookup a=none)->
   codeAny (model P w) callerA (.call (.ref fa) {[.ref a],[]}) (λr s'=>r= .ok (.ret<|.bool true)/\OldK s₁.heap s'.heap/\s'.os=s₁.os/\AllBare s'.gens) s₁:=by
  intro H hO hS hok hA hK;have I:∀{b:Rl}{o:Obj},s₁.heap.get? b=some o->H b=none->(zk s₁.heap H).get? b=some o:=λe n=>GJ e n;have ac:∀{b:Rl}{o:Obj}{es:Array DictEntry}{ep:Nat},s₁.heap.get? b=some o->o.data= .dict es ep->H b=none:=λ{b o es ep} e d=>by
   cases q:H b with
   |none=>rfl
   |some u=>
    have e':b=a:=hA b (by rw[q];simp);subst e';rw[ha]at e;cases e;have d':Data.seq vs.toArray _=Data.dict es ep:=d;cases d'
  have O:∀{b:Rl}{m:RT},s₁.heap.Ns b m->(zk s₁.heap H).Ns b m:=λ{b m} ⟨o,es,ep,e,d,r⟩=>{o,es,ep,I e<|ac e d,d,r};have a2:K.In (zk s₁.heap H):=λb o e=>I (KX b o e) (by
   cases q:H b with
   |none=>rfl
   |some u=>
    have e':b=a:=hA b (by rw[q];simp);subst e';rw[hK (by rw[q];simp)]at e;cases e)
  have hM:Mod K mg (zk s₁.heap H):={a2,O Z,{mb,O hb,a4},let⟨mc,h1,h2⟩:=a0;{mc,O h1,h2}};have e0:PX P w K mg (zk s₁.heap H) callerA [] s₁ H:={M,hM,λb o e=>IV e,QY<|EK _ _,trivial,λb hb=>VG (show b∈([]:Rz) from hb) (by simp),hok,.of_eq hg};refine codeAny_mono ((F _ a2<|O Z).run callerA [] s₁ H {[.ref a],[]} [.ref a] [.ref a] _ _ hr e0 (Y s₁<|.ref a) (.cons M .nil)<|a5 H hO hS) λr s' h=>?_;cases r with
  |error e=>exact(a6 H e s' h).elim
  |ok fl=>
   cases fl with
   |next=>exact False.elim h
   |brk=>exact False.elim h
   |cont=>exact False.elim h
   |ret u=>
    let{v,H',os,bare,un,a3,r',q}:=h;have q':v= .bl true:=q;subst q';obtain rfl:u=Value.bool true:=r';refine{M,OldK.of_keep λb o e=>?_,os,bare};cases q:H b with
    |none=>exact un.keep b o e q (by intro z;exact VG (show b∈([]:Rz) from z)<|by simp)<|by simp
    |some u=>
     rcases hO b with z|⟨ob,xs,z⟩
     .rw[q]at z;cases z
     .have z2:=un.frzs b ob _ z;let{e1,_}:=hok b _ z;let{e2,_}:=a3 b _ z2;rw[e]at e1;cases e1;exact e2
 cases hk:K.lookup a with
 |some o=>
  have e:=KX a o hk;rw[ha]at e;cases e;refine U (λ_=>none) (λ_=> .inl M) (.inr {_,vs.toArray,_,hk,M,M,M,by rwa[Qh,a1],by simpa using rv}) (λb u z=>by have z':(none:Option HO)=some u:=z;cases z') (λb z=>VG M z) λz=>VG M z
 |none=>
  refine U (λb=>if b=a then some (.frz {cls:= .type gt,data:= .seq vs.toArray} (.lst<|ns.map V.int))else none) (λb=>?_) (.inl<|.inr {{cls:= .type gt,data:= .seq vs.toArray},VB M}) (λb u z=>?_) (λb z=>?_) λ_=>hk
  .by_cases hb:b=a
   .exact .inr {_,_,VB hb}
   .exact .inl<|VA hb
  .by_cases hb:b=a
   .have z':=(VB hb).symm.trans z;cases z';subst hb;exact{ha,by rwa[Q0],vs,_,rv,ha}
   .have z':=(VA hb).symm.trans z;cases z'
  .by_cases hb:b=a
   .exact hb
   .exact VG (VA hb) z
def walk_of{l:PySem.W.OpenLaw}{k:Nat}{q:Rv}{loose:Ry}{XP:(Str->Option Value)->Heap->Prop}{d:DefRec}{K:Params->Wi}{CX:World->CXT}{sp:World->Sp} 
  (hn:l.most=some n) (Z:n<=sizeLine) (a0:d.params.defaults=[]) (hr:O6 k callerA)
  (hY:∀(w:World)(h:Heap),YP w h->(K w.params).In h)
  (F:∀(w:Ru)(mg:RT)(U:Rl)(h:Heap),(K w.params).In h->h.Ns mainGlobals mg->mg d.name=some (.ref U)->
   ∃fd:FuncData,(∀(s:Rm)(u:Rp),BindsTo s fd {[u],[]} [(x,u)])/\
    ∀base:Heap,(K w.params).In base->base.Ns mainGlobals mg->E7 l.prog w (K w.params) mg base (CX w) k U fd [x] (sp w))
  (a1:∀(w:Ru)(H:Hp)(a:Rl)(ns:Rn),ns.length<=n->MH H->Dz (K w.params) H a (ns.map V.int)->sp w [.ref a] H (λv _=>v= .bl true) λ_ _ _=>False)
  (a2:∀(w:Ru)(H:Hp)(s:Rm)(e:Rp)(s':Rm),CX w [] H s (λ_ _ _=>False) e s'->False):
  PySem.W.WalkO q loose XP YP l.row.toRowW d [] (λf vs=>PySem.call f vs):=by
 refine Att.attach_call hn a0 λw s₀ s₁ mg mb U o pm cd a4 a vs ns G Y ho hd a5 a3 O I z hg=>?_;have KX:=hY w _ Y;let{fd,hb,hF}:=F w mg U _ KX G.T.g a3;exact Gy KX G.T.g G.T.b G.T.builtins G.T.nolimit hg O I (Qr z Z) hr hF hb (λH hO hS=>a1 w H a ns z hO hS) λH e s'=>a2 w H s₁ e s'
abbrev NX:CXT:=λ_ _ _ _ _ _=>False
abbrev E0:XK:=λ_ _ _=>False
def az:gQ NX X E0:=λ_ _ _ _ _ _ _ h=>h.elim
structure NY(K:Wi)(x qual:Str)(st:Stmt)(f:Rl)(fd:R'):Prop where
 ex:∃(oc:Rp)(od:RV)(kV doc pm:Rp)(an:RV)(cdv ct:Rp)(osl:So),
  fd=PySem.W.fnOf x qual (fV st) (c7 st) (aj st) .none kV doc pm an cdv ct/\K.lookup f=some {oc,od,.func fd,osl}/\PySem.W.codeIn K cdv qual=true
 kp:PySem.W.keepIn K (.ref f)=true
section
variable{mg:RT}
def NY.ok{ps:Ry}{k:Nat}(F:NY K x qual st f fd)(S:ao N ps (aj st))(len:∀vs H Q E,sp vs H Q E->vs.length=ps.length)
  (I:∀(z:Rp)(A:RU)(outer:Sa)(s:Rm)(H:Hp)(vs:Rq)(Q:VK)(E:XK),O6 k (A.deeper<|envOfC qual (aj st) s.heap.objs.size f z)->sp vs H Q E->
   ∃t,OV (sE NX P w K mg base N qual (aj st) f z A outer s H E).nox (c7 st) t/\t {nx:=λ_ H'=>Q .non H',rt:=Q} (start N vs) H):E7 P w K mg base NX (k+1) f fd ps sp:=by
 let{oc,od,kV,Y,pm,an,z,ct,Z,rfl,lk,O}:=F.ex;refine GQ lk O S len λA outer s H vs Q E hr U=>?_;let{t,h,q}:=I z A outer s H vs Q E hr U;exact⟨t,h.nox,q⟩
def Mp{Z:Rp}{od U:RV}{O:So}{kV I Y z ct:Rp}(l:K.lookup f=some {Z,od,.func<|PySem.W.fnOf x qual (fV st) (c7 st) (aj st) .none kV I Y U z ct,O})
  (c:PySem.W.codeIn K z qual=true) (k:PySem.W.keepIn K (.ref f)=true):NY K x qual st f (PySem.W.fnOf x qual (fV st) (c7 st) (aj st) .none kV I Y U z ct):={⟨Z,od,kV,I,Y,U,z,ct,O,M,l,c⟩,k}
end
def eF{A:RU}{k:Nat}(z:O6 k A):A.units+1<cLine:=ZS (ZL (by decide:1<=64) _) z.units
def cy(h:n<=1000):n<sizeLine:=ZS h (_)
def pv(i:Nat){x:Str}{pos:Pos}(hN:X.N[i]?=some x:=by rfl)(I:RL X.env.scope x:=by and_intros)(hd:(x==(lg:Str))=false:=by decide)
  (z:(x==("__classdict__":Str))=false:=by decide):PE X (.Name x pos) (Iq i):=LI hN I hd z
def bL(h:Wh):if false=true then A else Wh:=by
 rwa[VA Qg]
def b7(h:A):if true=true then A else Wh:=by
 rwa[VB M]
def cu[Decidable c](h1:c->A)(h2:¬c->Wh):if c then A else Wh:=by
 by_cases h:c
 .rw[VB h];exact h1 h
 .rw[VA h];exact h2 h
def Ba(H H':Hp):Prop:=∀b o,H b=some o->H' b=some o
def Ba.refl(H:Hp):Ba H H:=λ_ _ h=>h
def Ba.trans{H1 H2:Hp}(a:Ba H H1)(b:Ba H1 H2):Ba H H2:=λc o h=>b c o (a c o h)
def EY:fg X (.builtin "len") (λxs H Q=>∃a kvs,xs=[V.ref a]/\H a=some (.dK kvs)/\Q (.int kvs.length) H):=by
 intro W s B H xs us Q I r h;let{a,kvs,rfl,ha,q}:=h;let{u,rfl,z}:=mT r;cases z;exact NI I (.inl ha) λt s' O=>{.int kvs.length,H,O,⟨t,M⟩,q}
section
variable{κ:Type}[DecidableEq κ]
def Fn{kvs:List (κ×V)}{k:κ}(h:aI kvs k=none):¬k∈kvs.map (·.1):=by
 intro m;let{p,z,e}:=Qf.mp m;have q:(kvs.any λkv=>decide (kv.1=k))=true:=Vb.mpr {p,z,VD e};rw[cO,h]at q;exact VG q<|by simp
def sH{kvs:List (κ×V)}{k:κ}{v:V}(h:aI kvs k=some v):k∈kvs.map (·.1):=by
 have q:(kvs.any λkv=>decide (kv.1=k))=true:=by
  rw[cO,h]
  all_goals rfl
 let{p,z,e}:=Vb.mp q;exact Qf.mpr {p,z,VF e}
theorem Dc:∀{l:List κ}{k:κ},l.Nodup->¬k∈l->(l++ [k]).Nodup
 | [],k,_,_=>by simp
 |a::r,k,h,hk=>by
  let{h1,h2}:=QQ.mp h;show(a::(r++ [k])).Nodup;refine QQ.mpr {λm=>?_,Dc h2 λm=>hk<|Qb.mpr (Or.inr m)};rcases Q5.mp m with q|q
  .exact h1 q
  .exact hk<|Qb.mpr (Or.inl (Q9.mp q).symm)
def IZ{kvs:List (κ×V)}{k:κ}(v:V)(z:(kvs.map (·.1)).Nodup)(h:aI kvs k=none):((bp kvs k v).map (·.1)).Nodup:=by
 rw[FQ v h,Q8];exact Dc z<|Fn h
def q9{p:κ×V}{r:List (κ×V)}{k:κ}(e:p.1=k):bB (p::r) k=bB r k:=by
 unfold bB;rw[X5,VA (by simp[e])]
def mL{p:κ×V}{r:List (κ×V)}{k:κ}(e:¬p.1=k):bB (p::r) k=p::bB r k:=by
 unfold bB;rw[X5,VB (by simp[e])]
theorem AU:∀{kvs:List (κ×V)}{k:κ},¬k∈kvs.map (·.1)->bB kvs k=kvs
 | [],_,_=>rfl
 |p::r,k,h=>by
  have h':¬k∈r.map (·.1):=λm=>by
   let{q,hq,e}:=Qf.mp m;exact h<|Qf.mpr {q,Qb.mpr<|Or.inr hq,e}
  rw[mL λe=>h (Qf.mpr {p,Qb.mpr<|Or.inl M,e}),AU h']
def xX{kvs:List (κ×V)}{k:κ}{p:κ×V}(h:p∈bB kvs k):p∈kvs:=(QC.mp h).1
theorem pN:∀{kvs:List (κ×V)}{k:κ},(kvs.map (·.1)).Nodup->((bB kvs k).map (·.1)).Nodup
 | [],_,_=>Zq
 |p::r,k,h=>by
  have h:(p.1::r.map (·.1)).Nodup:=h;let{h1,h2}:=QQ.mp h;by_cases e:p.1=k
  .rw[q9 e];exact pN h2
  .rw[mL e];show(p.1::(bB r k).map (·.1)).Nodup;refine QQ.mpr {λm=>h1 ?_,pN h2};let{q,hq,z}:=Qf.mp m;exact Qf.mpr {q,xX hq,z}
theorem xY:∀{kvs:List (κ×V)}{k:κ},(kvs.map (·.1)).Nodup->k∈kvs.map (·.1)->(bB kvs k).length+1=kvs.length
 | [],_,_,m=>by simp at m
 |p::r,k,h,m=>by
  have h:(p.1::r.map (·.1)).Nodup:=h;have m:k=p.1\/k∈r.map (·.1):=Qb.mp m;let{h1,h2}:=QQ.mp h;by_cases e:p.1=k
  .subst e;rw[q9 M,AU h1]
   all_goals rfl
  .have m':k∈r.map (·.1):=m.resolve_left λz=>e z.symm;have q:=xY h2 m';rw[mL e,Qi,Qi];lia
end
def a7:bootBuiltins "len"=some (.builtin "len"):=by decide+kernel
def bF:bootBuiltins "isinstance"=some (.builtin "isinstance"):=by decide+kernel
def rp:bootBuiltins "min"=some (.builtin "min"):=by decide+kernel
def E1:bootBuiltins "sorted"=some (.builtin "sorted"):=by decide+kernel
def Cz:bootBuiltins "int"=some (.type "int"):=by decide+kernel
def JP:bootBuiltins "bool"=some (.type "bool"):=by decide+kernel
def fF:bootBuiltins "str"=some (.type "str"):=by decide+kernel
def Cy:bootBuiltins "max"=some (.builtin "max"):=by decide+kernel
def JN:bootBuiltins gt=some (.type gt):=by decide+kernel
def JO:bootBuiltins "dict"=some (.type "dict"):=by decide+kernel
def L3:PySem.W.kitOne K (.type "int") (.type "int")=some true:=by kernel_rfl
def L4:PySem.W.kitOne K (.type "int") (.type "bool")=some false:=by kernel_rfl
def L7:PySem.W.kitOne K (.type "bool") (.type "int")=some true:=by kernel_rfl
def L8:PySem.W.kitOne K (.type "bool") (.type "bool")=some true:=by kernel_rfl
def LZ:PySem.W.kitOne K (.type "NoneType") (.type "int")=some false:=by kernel_rfl
def LY:PySem.W.kitOne K (.type "str") (.type "int")=some false:=by kernel_rfl
def jT[Decidable c](hc:c)(h:A):if decide c=true then A else Wh:=by
 rw[VD hc];exact b7 h
def aZ[Decidable c](hc:¬c)(h:Wh):if decide c=true then A else Wh:=by
 rw[VJ hc];exact bL h
def xT(Pv:Sl)(O:Pv 0 B H)(hl:∀i B H,i<=xs.length->Pv i B H->Dz K H a xs)
  (hs:∀i x B H,xs[i]?=some x->Pv i B H->g x B H λz H2=>tb {Pv<|i+1,rt,nx,Pv<|i+1} z H2) (hd:∀B H,Pv xs.length B H->nx B H):
  ∃JM:Nat->Nat->St->Hp->Prop,(∃m,JM 0 m B H)/\∀i m B H,JM i m B H->
   ((Pa K a).stop i H/\nx B H)\/((Pa K a).go i H/\∃N:St->Hp->Prop,(∀I H',N I H'->∃m',m'<m/\JM (i+1) m' I H')/\∀x H',(Pa K a).yld i H x H'->g x B H' λz H2=>tb ⟨N,rt,nx,N⟩ z H2):=
 GP (D:={nx,rt,λ_ _=>False,λ_ _=>False}) Pv O hl hs hd
def GO(Pv:Sl)(O:Pv 0 B H)(hl:∀i B H,i<=xs.length->Pv i B H->OO K H a xs)
  (hs:∀i x B H,xs[i]?=some x->Pv i B H->g x B H λz H2=>tb {Pv<|i+1,rt,nx,Pv<|i+1} z H2) (hd:∀B H,Pv xs.length B H->nx B H):
  ∃JM:Nat->Nat->St->Hp->Prop,(∃m,JM 0 m B H)/\∀i m B H,JM i m B H->
   ((R6 K a).stop i H/\nx B H)\/((R6 K a).go i H/\∃N:St->Hp->Prop,(∀I H',N I H'->∃m',m'<m/\JM (i+1) m' I H')/\∀x H',(R6 K a).yld i H x H'->g x B H' λz H2=>tb ⟨N,rt,nx,N⟩ z H2):=
 JF (D:={nx,rt,λ_ _=>False,λ_ _=>False}) Pv O hl hs hd
def u9{lo:Int}(Pv:Sl)(O:Pv 0 B H)
  (hs:∀i B H,i<n->Pv i B H->g (.int<|lo+i) B H λz H2=>tb {Pv<|i+1,rt,nx,Pv<|i+1} z H2) (hd:∀B H,Pv n B H->nx B H):
  ∃JM:Nat->Nat->St->Hp->Prop,(∃m,JM 0 m B H)/\∀i m B H,JM i m B H->
   ((Po lo n).stop i H/\nx B H)\/((Po lo n).go i H/\∃N:St->Hp->Prop,(∀I H',N I H'->∃m',m'<m/\JM (i+1) m' I H')/\∀x H',(Po lo n).yld i H x H'->g x B H' λz H2=>tb ⟨N,rt,nx,N⟩ z H2):=
 qY (D:={nx,rt,λ_ _=>False,λ_ _=>False}) Pv O hs hd
def vn{k:Int}(I:0<=k)(h:k<(ns.length:Int)):P4 (ns.map V.int) k=some (.int<|ns.getD k.toNat 0):=by
 let{j,rfl}:=QU I;refine dC ?_;have z:j<ns.length:=();rw[Qo,Q3 z,QR,Qn,Q3 z];rfl
def Hc{k:Int}(h:¬k<(ns.length:Int)):ns.getD k.toNat 0=0:=by
 rw[Qn,List.getElem?_eq_none ()];rfl
def e6:fg X (.builtin "isinstance") (λxs H Q=>∃x n t b,xs=[x,.ty n]/\OC X.K H x t/\PySem.W.kitOne X.K t (.type n)=some b/\Q (.bl b) H):=by
 intro W s B H xs us Q I r h;let{x,n,t,b,rfl,ty,e,q}:=h;let{u,w',rfl,O,z}:=xy r;cases (show w'=Value.type n from z);exact xR I O ty e λtk=>{.bl b,H,I.tok _,M,q}
def O1{P:Ry}{sc:Scope}(a:sc.kind= .function:=by rfl)(b:sc.isCoroutine=false:=by rfl)(c:sc.isGenerator=false:=by rfl)(d:N.Nodup:=by decide+kernel)(e:N.take P.length=P:=by rfl)(f:∀x∈P,sc.names.lookup x=some .local\/sc.names.lookup x=some .cell:=by decide+kernel)(g:∀y∈sc.names,y.2≠ .free:=by decide+kernel):ao N P sc:=⟨a,b,c,d,e,f,g⟩
def O6.mo{j k:Nat}{A:RU}(r:O6 k A)(h:j<=k:=by decide):O6 j A:=r.mono h
def NY.okl{mg:RT}{ps:Ry}{k:Nat}(F:NY K x qual st f fd)(S:ao N ps (aj st))
  (I:∀(z:Rp)(A:RU)(outer:Sa)(s:Rm)(H:Hp)(vs:Rq)(Q:VK)(E:XK),O6 k (A.deeper<|envOfC qual (aj st) s.heap.objs.size f z)->sp vs H Q E->
   N.Nodup->let X:=(sE NX P w K mg base N qual (aj st) f z A outer s H E).nox
   ∃t,OV X (c7 st) t/\t {nx:=λ_ H'=>Q .non H',rt:=Q} (start N vs) H)
  (len:∀vs H Q E,sp vs H Q E->vs.length=ps.length:=by intro _ _ _ _ h;repeat (first|(let{rfl,_}:=h;exact M)|let{_,h}:=h)):E7 P w K mg base NX (k+1) f fd ps sp:=F.ok S len λz A outer s H vs Q E O h=>I z A outer s H vs Q E O h S.nd
section
variable{pos:Pos}
abbrev DA{X:Cx}:= @pv X 0
abbrev HW{X:Cx}:= @pv X 1
abbrev M2{X:Cx}:= @pv X 2
abbrev O8{X:Cx}:= @pv X 3
abbrev OX{X:Cx}:= @pv X 4
abbrev PP{X:Cx}:= @pv X 5
abbrev Pg{X:Cx}:= @pv X 6
abbrev RH{X:Cx}:= @pv X 7
abbrev R9{X:Cx}:= @pv X 8
abbrev pv9{X:Cx}:= @pv X 9
abbrev pv10{X:Cx}:= @pv X 10
abbrev pv11{X:Cx}:= @pv X 11
abbrev pv12{X:Cx}:= @pv X 12
abbrev pv13{X:Cx}:= @pv X 13
abbrev pv14{X:Cx}:= @pv X 14
abbrev pv15{X:Cx}:= @pv X 15
def PZ(i:Nat)(hN:X.N.Nodup:=by assumption)(hi:X.N[i]?=some x:=by rfl)(hx:Loc X.env.scope x:=by exact Or.inl M)(hf:X.fn x=true\/X.env.scope.names.lookup x=some .local:=by ac_rfl):PG X (.Name x pos) (lL i):=sK hN hi hx hf
def N7(i:Nat){e:Expr}{te:TE}{pos':Pos}(he:PE X e te)(hN:X.N.Nodup:=by assumption)(hi:X.N[i]?=some x:=by rfl)(hx:Loc X.env.scope x:=by exact Or.inl M)(hs:swapsWith e (some<|.Name x pos') pos.line X.env=pure false:=by rfl)(hf:X.fn x=true\/X.env.scope.names.lookup x=some .local:=by ac_rfl):PS X (.Assign [.Name x pos'] e pos) (DR te<|lL i):=yO hN hi hx he hs hf
end
section
variable{rest A Wh:List Stmt}{t:TS}
def aw(h:PS X st t)(k:Φ t):∃v,OV X [st] v/\Φ v:={_,au h,k}
def ah(h:PS X st t)(k:∃u,OV X rest u/\(let Wh:=u;Φ (zW t Wh))):∃v,OV X (st::rest) v/\Φ v:=by
 let{u,hu,k}:=k;exact{_,gj h hu,k}
def Da{F:TS->TS}(z:∀{x},OV X A x->PS X st (F x))(k:∃a,OV X A a/\(let b:=a;Φ (F b))):∃v,OV X [st] v/\Φ v:=by
 let{a,ha,k}:=k;exact{_,au<|z ha,k}
def bU{F:TS->TS}(z:∀{x},OV X A x->PS X st (F x))(k:∃a,OV X A a/\(let b:=a;∃u,OV X rest u/\(let Wh:=u;Φ (zW (F b) Wh)))):∃v,OV X (st::rest) v/\Φ v:=by
 let{a,ha,u,hu,k}:=k;exact{_,gj (z ha) hu,k}
def KI(z:∀{x y},OV X A x->OV X Wh y->PS X st (F x y))(k:∃a,OV X A a/\(let b:=a;∃c,OV X Wh c/\(let d:=c;Φ (F b d)))):∃v,OV X [st] v/\Φ v:=by
 let{a,ha,c,hc,k}:=k;exact{_,au<|z ha hc,k}
def Ni(z:∀{x y},OV X A x->OV X Wh y->PS X st (F x y))(k:∃a,OV X A a/\(let b:=a;∃c,OV X Wh c/\(let d:=c;∃u,OV X rest u/\(let Wh:=u;Φ (zW (F b d) Wh))))):∃v,OV X (st::rest) v/\Φ v:=by
 let{a,ha,c,hc,u,hu,k}:=k;exact{_,gj (z ha hc) hu,k}
end
end L2
namespace SW
variable{m n:Int}{a b:Nat}
noncomputable def rv:Nat->Nat->Nat
 |0,_=>0
 |k+1,n=>(n%2)*2^k+rv k (n/2)
theorem CY:∀(k n:Nat),rv k n<2^k
 |0,_=>by simp[rv]
 |k+1,n=>by
  have h:=CY k (n/2);have m:n%2<2:=Nat.mod_lt _ (_);have e:rv (k+1) n=(n%2)*2^k+rv k (n/2):=M;have p:2^(k+1)=2*2^k:=by rw[ZX,Xg]
  rw[e,p];rcases Nat.mod_two_eq_zero_or_one n with z|z<;>rw[z]<;>lia
theorem yM:∀(k n:Nat),rv (k+1) n=rv k n*2+(n/2^k)%2
 |0,n=>by simp[rv]
 |k+1,n=>by
  have h:=yM k (n/2);have z:rv (k+2) n=(n%2)*2^(k+1)+rv (k+1) (n/2):=M;have e2:rv (k+1) n=(n%2)*2^k+rv k (n/2):=M;have d:n/2/2^k=n/2^(k+1):=by
   rw[Xy,ZX,Xg]
  rw[z,e2,h,d,ZX];rw[Vi,Nat.mul_assoc];lia
theorem FN:∀(k n:Nat),rv k (n%2^k)=rv k n
 |0,_=>rfl
 |k+1,n=>by
  have p:2^(k+1)=2*2^k:=by rw[ZX,Xg]
  have z:n%2^(k+1)%2=n%2:=by
   rw[p];exact Nat.mod_mul_right_mod n 2<|2^k
  have e2:n%2^(k+1)/2=n/2%2^k:=by
   rw[p];exact Nat.mod_mul_right_div_self n 2 (2^k)
  show(n%2^(k+1)%2)*2^k+rv k (n%2^(k+1)/2)=(n%2)*2^k+rv k (n/2);rw[z,e2,FN k (n/2)]
theorem CW:∀k,rv k 0=0
 |0=>rfl
 |k+1=>by show(0%2)*2^k+rv k (0/2)=0;rw[Nat.zero_div,CW k];simp
theorem ur:∀(a b n:Nat),rv (a+b) n=rv a n*2^b+rv b (n/2^a)
 |0,b,n=>by simp[rv]
 |a+1,b,n=>by
  have h:=ur a b (n/2);have e:a+1+b=(a+b)+1:=();have d:n/2/2^a=n/2^(a+1):=by
   rw[Xy,ZX,Xg]
  rw[e];show(n%2)*2^(a+b)+rv (a+b) (n/2)=((n%2)*2^a+rv a (n/2))*2^b+_;rw[h,d,Vi,Nat.mul_assoc,<-Nat.pow_add];lia
theorem FM:∀(k n:Nat),rv k (rv k n)=n%2^k
 |0,n=>by simp[rv,Nat.mod_one]
 |k+1,n=>by
  have e:rv (k+1) n=rv k n*2+(n/2^k)%2:=yM k n;have z:(rv k n*2+(n/2^k)%2)%2=(n/2^k)%2:=();have e2:(rv k n*2+(n/2^k)%2)/2=rv k n:=();rw[e];show(rv k n*2+(n/2^k)%2)%2*2^k+rv k ((rv k n*2+(n/2^k)%2)/2)=n%2^(k+1);rw[z,e2,FM k n,ZX,Nat.mod_mul,Xg (2^k)];lia
def LA{n:Nat}:rv (a+b) n/2^b=rv a n:=by
 have l:=CY b (n/2^a);rw[ur a b n,Xg,Nat.mul_add_div (Nat.two_pow_pos b),Nat.div_eq_of_lt l,ZY]
def IB{s:Nat}(h:s<2^a):rv (a+b) s=rv a s*2^b:=by
 rw[ur a b s,Nat.div_eq_of_lt h,CW,ZY]
@[irreducible] def tz(n:Int):Int:=((rv 16 n.toNat:Nat):Int)
@[irreducible] def rz(a:Nat)(n:Int):Int:=((rv a n.toNat:Nat):Int)
def qB(n:Int):0<=tz n:=by unfold tz;exact XZ _
def Kq(n:Int):tz n<65536:=by
 have h:=CY 16 n.toNat;have e:(2:Nat)^16=65536:=by decide
 unfold tz;lia
def CP(z:0<=n)(h1:n<65536):tz (tz n)=n:=by
 have h:=FM 16 n.toNat;have e:(2:Nat)^16=65536:=by decide
 unfold tz;rw[QR,h,e];lia
def Lf(z:0<=n)(h1:n<65536)(k0:0<=m)(k1:m<65536)(e:tz n=tz m):n=m:=by
 rw[<-CP z h1,<-CP k0 k1,e]
def xA(i:Nat)(m:Nat):((rv i m:Nat):Int)*2+((m/2^i:Nat):Int)%2=((rv (i+1) m:Nat):Int):=by
 rw[yM];lia
def xB(i:Nat)(m:Nat):((m/2^i:Nat):Int)/2=((m/2^(i+1):Nat):Int):=by
 have d:m/2^i/2=m/2^(i+1):=by rw[Xy,ZX]
 rw[<-d];lia
def D9(a:Nat)(n:Int):0<=rz a n:=by unfold rz;exact XZ _
def Na(a:Nat)(n:Int):rz a n<2^a:=by
 have h:=CY a n.toNat;unfold rz;have c:((rv a n.toNat:Nat):Int)<((2^a:Nat):Int):=by exact_mod_cast h
 simpa using c
def M9(a:Nat)(I:0<=n)(h1:n<2^a):rz a (rz a n)=n:=by
 let{m,rfl}:=QU I;have h:=FM a m;have z:m<2^a:=by exact_mod_cast h1
 unfold rz;rw[QR,QR,h,Nat.mod_eq_of_lt z]
def Ip(z:a+b=16){s:Int}(O:0<=s)(h1:s<2^a):tz s=rz a s*2^b:=by
 let{m,rfl}:=QU O;have I:m<2^a:=by exact_mod_cast h1
 have h:=IB (b:=b) I;rw[z]at h;unfold tz rz;rw[QR,h];simp
def Le(z:a+b=16)(I:0<=m):tz m/2^b=rz a (m%2^a):=by
 let{n,rfl}:=QU I;have h:=LA (a:=a) (b:=b) (n:=n);rw[z]at h;have e:((n:Int)%2^a).toNat=n%2^a:=by
  have c:((n:Int)%2^a)=((n%2^a:Nat):Int):=by simp
  rw[c,QR]
 unfold tz rz;rw[QR,e,FN,<-h];simp
structure Row(S:Int)(a b:Nat):Prop where
 ab:a+b=16
 lo:2<=a
 hi:a<=9
 eq:S=2^a
section
variable{S:Int}(R:Row S a b)
include R
theorem Row.mul:S*2^b=65536:=by
 rw[R.eq,<-Int.pow_add,R.ab];decide
theorem Row.wpos:(0:Int)<2^b:=Int.pow_pos (_)
theorem Row.pos:0<S:=by rw[R.eq];exact Int.pow_pos (_)
theorem Row.width:65536/S=2^b:=by
 rw[<-R.mul,Int.mul_ediv_cancel_left _ (QZ R.pos)]
theorem Row.wpos':0<65536/S:=by rw[R.width];exact R.wpos
theorem Row.slot{s:Int}(I:0<=s)(h1:s<S):tz s=2^b*rz a s/\0<=rz a s/\rz a s<S/\rz a (rz a s)=s:=by
 have z:s<2^a:=by rwa[<-R.eq]
 refine{by rw[Ip R.ab I z,Xz],D9 _ _,by rw[R.eq];exact Na _ _,M9 _ I z}
theorem Row.top(z:0<=m):2^b*rz a (m%S)<=tz m/\tz m<2^b*rz a (m%S)+2^b:=by
 have d:=Le R.ab z;rw[<-R.eq]at d;have e:=XH (tz m) (2^b);have p:=Qx (tz m) (QZ R.wpos);have q:=QD (tz m) R.wpos;rw[d]at e;lia
theorem Row.mod0(m:Int):0<=m%S:=Qx _ (QZ R.pos)
theorem Row.mod1(m:Int):m%S<S:=QD _ R.pos
theorem Row.between{JM x y p:Int}(z:0<JM)(I:JM*x<=p)(h1:p<JM*x+JM)(k0:JM*y<=p)(k1:p<JM*y+JM):x=y:=by
 rcases Int.lt_trichotomy x y with h|h|h
 .have:JM*(x+1)<=JM*y:=Vj () (XA z);rw[Int.mul_add]at this;lia
 .exact h
 .have:JM*(y+1)<=JM*x:=Vj () (XA z);rw[Int.mul_add]at this;lia
theorem Row.st_has(z:0<=m):tz (m%S)<=tz m/\tz m<tz (m%S)+65536/S:=by
 let{e,_}:=R.slot (R.mod0 m) (R.mod1 m);have t:=R.top z;rw[R.width,e];exact t
end
def oI{k:Nat}(h:k<=6):Row (4*2^k) (k+2) (14-k):=by
 refine{(),(),(),?_};rw[Int.pow_add];lia
end SW
namespace L2
open PySem PySem.Spec PyProof.Rows
abbrev _root_.Ro:=Addr->Prop
variable{C T e f:Rl}{old:Ro}{A:RU}{g:Array GenState}{vs:Sd}{ab:Bool}{d:Drawn}{base h:Heap}{φ:Heap->Prop}{H:Hp}{l:Rz}{outer:Sa}{N sn:Ry}{bm sub us:Rr}{M':Model}{t:Nat}{dd od:RV}{col:Option Bool}{os:OsState}{P prog:Rv}{K:Wi}{R:Result->Shared->Prop}{s:Rm}{qual:Str}{Q:Sn}{E JM:RS}{w:Ru}
abbrev bn(C:Rl)(od:RV)(vs:Sd):Obj:={cls:= .ref C,dict:=od,data:= .fields vs}
def Pd(h:Heap)(e:Rl)(vs:Sd)(T:Rl)(fl:Rp):Prop:=
 vs[1]?=some (.ref T)/\T≠e/\∃oT ts,h.get? T=some oT/\oT.data= .fields ts/\ts[3]?=some fl
structure OI(l:Rz)(e:Rl)(old:Ro)(h h':Heap):Prop where
 keep:∀b o,h.get? b=some o->b∉l->b≠e->¬old b->h'.get? b=some o
 slot:∀b o,h.get? b=some o->b∈l->b≠e->¬old b->∃sl,h'.get? b=some {o with slots:=sl}
 there:∀b o,h.get? b=some o->∃o',h'.get? b=some o'
section
variable{env:Env}{L:Rl}
def Mq(hl:s.heap.FunFrames base (env::outer))(he:s.heap.get? e=some (bn C od vs)):e∉Ou (env::outer):=λz=>by
 let{_,o,I,O}:=hl.mem z;cases he.symm.trans I;exact O vs M
def uS{I:Rp}{a0:Bool}(a1:A.frames=some (env::outer))(hl:s.heap.FunFrames base (env::outer))(hf:env.frame=some L)(he:s.heap.get? e=some (bn C od vs))(hsz:1<vs.size)
  (q:∀h' T O,OI (Ou (env::outer)) e (λ_=>False) s.heap h'->h'.get? e=some (bn C od O)->(O.size=vs.size/\O[2]?=vs[2]?)->s.heap.objs.size<=T->Pd h' e O T (rawInt L)->Q Unit.unit {s with heap:=h'}):
  wpAny M' A (do let a<-frameOf env;let pl<-entryPlaceOf L a0;let b<-EntryCells.newEntry I a .none (rawInt L) .none pl;setField (.ref e) 1 b) Q E s:=by
 have nf:e∉(env::outer).filterMap (·.frame):=Mq hl he;refine VI<|wpAny_frameOf_fun a1 hl hf λh1 U=>?_;refine VI<|wpAny_entryPlaceOf λpl ip=>?_;unfold EntryCells.newEntry newFields;refine VI<|wpAny_newObj_type ?_ (ip.sizeOk5 _ _ _ _ _);have e1:h1.get? e=some (bn C od vs):=(U.2.1 e nf).trans he;have big:3<([I,Value.ref L,.none,rawInt L,.none]++(if pl.isEmpty then List.replicate 6 Value.none else pl)).toArray.size:=by
  simp only[Qh,Q7,Qi,ZP];lia
 have Y:([I,Value.ref L,.none,rawInt L,.none]++(if pl.isEmpty then List.replicate 6 Value.none else pl)).toArray[3]?=some (rawInt L):=by simp
 generalize ([I,Value.ref L,.none,rawInt L,.none]++(if pl.isEmpty then List.replicate 6 Value.none else pl)).toArray=ts at big Y;generalize eo:({cls:= .type "traceback",dict:=none,data:= .fields ts}:Obj)=oT;have e2:(h1.push oT).get? e=some (bn C od vs):=VC _ e1;have ne:h1.objs.size≠e:=ZU (VM e1);refine wpAny_setField e2 M hsz<|q _ h1.objs.size (vs.setIfInBounds 1<|.ref h1.objs.size) {λb o Z g2 g3 _=>?_,λb o Z _ g3 _=>?_,λb o Z=>?_} ?_ {Array.size_setIfInBounds,by simp} (QY U.1.symm) {by simp[hsz],ne,oT,ts,?_,by rw[<-eo],Y}
 .rw[VS _ _ (Ne.symm g3)];exact VC _<|(U.2.1 b g2).trans Z
 .let{sl,r}:=U.2.2 b o Z;exact{sl,(VS _ _<|Ne.symm g3).trans<|VC _ r}
 .by_cases z:b=e
  .subst z;exact{_,Heap.get?_update_self _ e2 M}
  .let{sl,r}:=U.2.2 b o Z;exact{_,(VS _ _<|Ne.symm z).trans<|VC _ r}
 .exact Heap.get?_update_self _ e2 M
 .rw[VS _ _ (Ne.symm ne),<-eo];exact VN h1 M
def BW(I:A.frames=some (env::outer))(hl:s.heap.FunFrames base (env::outer))(hf:env.frame=some L)(he:s.heap.get? e=some (bn C od vs))(h1:vs[1]?=some .none)
  (q:∀h' T z,OI (Ou (env::outer)) e (λ_=>False) s.heap h'->h'.get? e=some (bn C od z)->(z.size=vs.size/\z[2]?=vs[2]?)->s.heap.objs.size<=T->Pd h' e z T (rawInt L)->Q Unit.unit {s with heap:=h'}):
  wpAny M' A (noteFrame (.ref e) env) Q E s:=by
 unfold noteFrame;simp only[hf];refine VI<|wpAny_field he M h1 ?_;rw[VA (_)];exact uS I hl hf he (ZG.mp h1).1 q
def Em(a0:A.frames=some (env::outer))(hl:s.heap.FunFrames base (env::outer))(hf:env.frame=some L)(he:s.heap.get? e=some (bn C od vs))(tr:Pd s.heap e vs T .none)
  (q:∀h' T' I,OI (Ou (env::outer)) e (· =T) s.heap h'->h'.get? e=some (bn C od I)->(I.size=vs.size/\I[2]?=vs[2]?)->s.heap.objs.size<=T'->Pd h' e I T' (rawInt L)->Q Unit.unit {s with heap:=h'}):
  wpAny M' A (noteFrame (.ref e) env) Q E s:=by
 let{h1,ne,oT,ts,Z,hd,h3}:=tr;unfold noteFrame;simp only[hf];refine VI<|wpAny_field he M h1 ?_;rw[VB (show(Value.ref T !=Value.none)=true by simp)];refine VI<|wpAny_field Z hd h3 ?_;rw[VA (show ¬(Value.none==rawInt L)=true by simp[rawInt])];have O:∀b,b≠T->(s.heap.update T (Obj.mapFields (·.setIfInBounds 3 Value.none))).get? b=s.heap.get? b:=λb z=>VS _ _ (Ne.symm z);have nofr:∀b o,s.heap.get? b=some o->(∀ws,o.data≠ .fields ws)->b≠T:=λb o U Y z=>by
  subst z;cases Z.symm.trans U;exact Y ts hd
 refine VI<|wpAny_setField Z hd (ZG.mp h3).1 ?_;refine uS a0 (hl.of_keeps λb o U Y=>{o,(O b<|nofr b o U Y).trans U,M}) hf ((O e<|Ne.symm ne).trans he) (ZG.mp h1).1 λh' T' I n U Y g3 g4=>?_;refine q h' T' I {λb o k1 k2 k3 k4=>n.keep b o ((O b k4).trans k1) k2 k3 id,λb o k1 k2 k3 k4=>n.slot b o ((O b k4).trans k1) k2 k3 id,λb o k1=>?_} U Y (by rw[Heap.size_after_update]at g3;exact g3) g4;by_cases z:b=T
 .subst z;exact n.there b _<|Heap.get?_update_self _ Z (Obj.isFreed_of_fields<|Obj.data_mapFields hd _)
 .exact n.there b o<|(O b z).trans k1
def vc{l:Rz}{fl:Rp}(he:s.heap.get? e=some (bn C od vs))(Y:Pd s.heap e vs T fl)
  (q:∀h',(∀b o,b≠T->s.heap.get? b=some o->h'.get? b=some o)->h'.get? e=some (bn C od vs)->(∃o,h'.get? T=some o)->h'.objs.size=s.heap.objs.size->Pd h' e vs T .none->Q Unit.unit {s with heap:=h'}):
  wpAny M' A (setFlight (.ref e) none) Q E s:=by
 let{h1,O,oT,ts,U,hd,Z}:=Y;have big:3<ts.size:=(ZG.mp Z).1;unfold setFlight;refine VI<|wpAny_field he M h1 ?_;rw[VB (show(Value.ref T !=Value.none)=true by simp)];have I:∀b,b≠T->(s.heap.update T (Obj.mapFields (·.setIfInBounds 3 ((none:RV).elim Value.none λf=>rawInt f)))).get? b=s.heap.get? b:=λb z=>VS _ _ (Ne.symm z);have new:=Heap.get?_update_self (Obj.mapFields (·.setIfInBounds 3 ((none:RV).elim Value.none λf=>rawInt f))) U (Obj.isFreed_of_fields<|Obj.data_mapFields hd _);exact wpAny_setField U hd big<|q _ (λb o z g=>(I b z).trans g) ((I e<|Ne.symm O).trans he) {_,new} (Heap.size_after_update ..) {h1,O,_,_,new,Obj.data_mapFields hd _,by simp[big]}
end
def XN(e C:Rl)(od:RV):HO:= .ext λh=>∃t,h.get? e=some (bn C od #[.ref t,.none,.none,.none,.bool false,.none])
noncomputable def XO(e C:Rl)(od:RV):HO:= .ext λh=>∃vs,h.get? e=some (bn C od vs)/\1<vs.size
section
variable{h':Heap}
def Kp{t:Rl}(k:h.get? e=some (bn C od #[.ref t,.none,.none,.none,.bool false,.none])):N6 P w H h e (XN e C od):=
 {⟨t,k⟩,{_,k},λ_ _ zz st=>by let{t,k}:=zz;exact{t,st _ k}}
def Ko(k:h.get? e=some (bn C od vs))(z:1<vs.size):N6 P w H h e (XO e C od):=
 {⟨vs,k,z⟩,{_,k},λ_ _ zz st=>by let{vs,k,z}:=zz;exact{vs,st _ k,z}}
def MP(ok:OK P w H h)(q:H e=some (XN e C od)):∃t,h.get? e=some (bn C od #[.ref t,.none,.none,.none,.bool false,.none]):=(ok e _ q).1
def OI.hok(n:OI l e old h h')(ok:OK P w H h)(hl:∀b∈l,H b=none)(O:∀b,old b->H b=none)(he:H e=some (.ext φ))
  (new:h'.get? e=some (bn C od vs)) (z:1<vs.size):OK P w (upd H e<|XO e C od) h':=λb u q=>by
 by_cases hb:b=e
 .subst hb;rw[A9]at q;cases q;exact Ko new z
 .rw[ag hb]at q;have I:∀c v,H c=some v->c≠e->∀o,h.get? c=some o->h'.get? c=some o:=λc v r U o g=>
   n.keep c o g (λm=>by rw[hl c m]at r;cases r) U λm=>by rw[O c m]at r;cases r
  refine(ok b u q).stay (λc v hc r=>?_) (λc r=>?_) λc xs r=>?_
  .rcases hc with rfl|hc
   .exact I _ _ q hb v r
   .exact I _ _ hc (λm=>by rw[m,he]at hc;cases hc) v r
  .rwa[ag (λm=>by rw[m,he]at r;cases r)]
  .rwa[ag (λm=>by rw[m,he]at r;cases r)]
def OI.un{ch:Rz}{o':HO}(n:OI l e old h h')(hc:∀b,old b->b∈ch)(he:H e=some (.ext φ)):Un l ch H (upd H e o') h h':=by
 have I:∀b,H b=none->b≠e:=λb r z=>by rw[z,he]at r;cases r
 refine{λb o g r m k=>n.keep b o g m (I b r) λz=>k<|hc b z,λb o g r m k=>n.slot b o g m (I b r) λz=>k<|hc b z,λb o _ r _=>by rwa[ag (I b r)],λb o g _=>n.there b o g,λb xs r=>?_,λb o u r=>?_,λb ps r=>{#[],?_}}
 .rwa[ag (λm=>by rw[m,he]at r;cases r)]
 .rwa[ag (λm=>by rw[m,he]at r;cases r)]
 .rw[ag (λm=>by rw[m,he]at r;cases r),r];simp
end
def RC(P:Rv)(w:Ru):CXT:=λouter H s E e s'=>∃(ea C:Rl)(od:RV)(vs:Sd)(T:Rl)(H':Hp),
 e= .ref ea/\s'.os=s.os/\AllBare s'.gens/\Un (Ou outer) [] H H' s.heap s'.heap/\OK P w H' s'.heap/\H' ea=some (XO ea C od)/\s'.heap.get? ea=some (bn C od vs)/\1<vs.size/\
 Pd s'.heap ea vs T .none/\H' T=none/\s.heap.objs.size<=T/\E (.ref ea) od H'
def K9(X:Cx)(E:St->XK)(e:Rp)(s:Rm):Prop:=∃(W:Rx)(B:St)(H:Hp)(ea C:Rl)(od:RV)(vs:Sd)(φ:Heap->Prop),
 e= .ref ea/\Inv X W B H s/\H ea=some (.ext φ)/\s.heap.get? ea=some (bn C od vs)/\1<vs.size/\(vs[1]?=some .none\/∃T,Pd s.heap ea vs T .none/\mS X W H T)/\E B (.ref ea) od (upd H ea<|XO ea C od)
section
variable{X:Cx}{W:Rx}{B:St}
def BV{ea:Rl}(I:Inv X W B H s)(U:X.stack=X.env::X.outer)(hf:X.env.frame=some X.env.locals)(hA:A.frames=some X.stack)
  (hx:H ea=some (.ext φ)) (hr:s.heap.get? ea=some (bn C od vs)) (hz:1<vs.size) (ht:vs[1]?=some .none\/(∃T,Pd s.heap ea vs T .none/\mS X W H T)\/∃T,Pd s.heap ea vs T (rawInt X.env.locals)/\mS X W H T)
  (q:∀s' O T,Inv X W B (upd H ea<|XO ea C od) s'->s'.heap.get? ea=some (bn C od O)->1<O.size->Pd s'.heap ea O T .none->mS X W (upd H ea<|XO ea C od) T->O[2]?=vs[2]?->Q Unit.unit s'):
  wpAny M' A (noteFrame (.ref ea) X.env) (λ_ s1=>wpAny M' A (setFlight (.ref ea) none) Q JM s1) JM s:=by
 rw[U]at hA;have hl:s.heap.FunFrames X.base (X.env::X.outer):=U▸I.stack;have Y:∀b∈Ou (X.env::X.outer),H b=none:=U▸I.stkFree;have fin:∀(old:Ro)(ch:Rz)(h1:Heap)(T':Rl)(O:Sd),(∀b,old b↔b∈ch)->(∀b∈ch,mS X W H b)->OI (Ou (X.env::X.outer)) ea old s.heap h1->h1.get? ea=some (bn C od O)->(O.size=vs.size/\O[2]?=vs[2]?)->
   s.heap.objs.size<=T'->Pd h1 ea O T' (rawInt X.env.locals)->wpAny M' A (setFlight (.ref ea) none) Q JM {s with heap:=h1}:=by
  intro old ch h1 T' O a0 a1 n g1 Z g3 g4;refine vc (l:=[]) (s:={s with heap:=h1}) g1 g4 λh2 k1 k2 k3 k4 k5=>?_;have nT:∀b o,s.heap.get? b=some o->b≠T':=λb o g z=>VG (VM g) (Vs.mpr<|z▸g3);have n2:OI (Ou (X.env::X.outer)) ea old s.heap h2:={λb o r1 r2 r3 r4=>k1 b o (nT b o r1)<|n.keep b o r1 r2 r3 r4,λb o r1 r2 r3 r4=>by
    let{sl,r}:=n.slot b o r1 r2 r3 r4;exact{sl,k1 b _ (nT b o r1) r},λb o r1=>by
    let{o',r}:=n.there b o r1;exact{o',k1 b _ (nT b o r1) r}}
  have a2:OK X.prog X.w (upd H ea<|XO ea C od) h2:=n2.hok I.hok Y (λb z=>(a1 b<|(a0 b).mp z).1) hx k2 (Z.1▸hz);have a3:Un (Ou X.stack) ch H (upd H ea<|XO ea C od) s.heap h2:=by
   rw[U];exact n2.un (λb z=>(a0 b).mp z) hx
  have I2:Inv X W B (upd H ea<|XO ea C od) {s with heap:=h2}:=I.call' (s':={s with heap:=h2}) M a3 a2 I.bare λb hb=>by
   let{z1,z2,z3,z4,z5,z6}:=a1 b hb;exact⟨z4,z2,z5,z6⟩
  refine q _ O T' I2 k2 (Z.1▸hz) k5 (I.fpOk g3 ?_) Z.2;have neT:T'≠ea:=Ne.symm (nT ea _ hr);rw[ag neT];exact I.hok.fresh g3
 rcases ht with h1|⟨T,tr,fp⟩|⟨T,tr,fp⟩
 .exact BW hA hl hf hr h1 λh1 T' O n g1 Z g3 g4=>fin (λ_=>False) [] h1 T' O (λb=>by simp) (λb z=>nomatch z) n g1 Z g3 g4
 .exact Em hA hl hf hr tr λh1 T' O n g1 Z g3 g4=>fin (· =T) [T] h1 T' O (λb=>by simp) (λb z=>by rwa[Q9.mp z]) n g1 Z g3 g4
 .let{h1,ne,oT,ts,hT,hd,h3}:=id tr;refine wpAny_noteFrame_inFlight hf hr M h1 hT hd h3 ?_;refine vc (l:=[]) hr tr λh' k1 k2 k3 k4 k5=>?_;have I1:Inv X W B H {s with heap:=h'}:=I.turned (t':=s.toks) (it:=T) k1 fp.1 fp.2.1 fp.2.2.2.1 fp.2.2.2.2.1 fp.2.2.2.2.2;have I2:Inv X W B (upd H ea<|XO ea C od) {s with heap:=h'}:=I1.write (x:=ea) (e:=ea) (t':=s.toks) (by rw[hx];exact VW) (.inl M) (λ_ _ _ e=>e) {_,k2} (Ko k2 hz);exact q _ vs T I2 k2 hz k5 {by rw[ag ne];exact fp.1,fp.2.1,fp.2.2.1,fp.2.2.2.1,fp.2.2.2.2.1,fp.2.2.2.2.2} M
def En{ea:Rl}(I:Inv X W B H s)(U:X.stack=X.env::X.outer)(hf:X.env.frame=some X.env.locals)(Y:A.frames=some X.stack)
  (hx:H ea=some (.ext φ)) (Z:s.heap.get? ea=some (bn C od vs)) (hz:1<vs.size) (ht:vs[1]?=some .none\/∃T,Pd s.heap ea vs T .none/\mS X W H T)
  (q:∀s' O T,Inv X W B (upd H ea<|XO ea C od) s'->s'.heap.get? ea=some (bn C od O)->1<O.size->Pd s'.heap ea O T .none->mS X W (upd H ea<|XO ea C od) T->Q Unit.unit s'):
  wpAny M' A (noteFrame (.ref ea) X.env) (λ_ s1=>wpAny M' A (setFlight (.ref ea) none) Q JM s1) JM s:=
 BV I U hf Y hx Z hz (ht.imp id .inl) λs' O T I' r z t f _=>q s' O T I' r z t f
end
section
variable{mg:RT}{scope:Scope}{cd:Rp}{E:XK}
def Gu{e:Rp}{s':Rm}(h:K9 (sE (RC P w) P w K mg base N qual scope f cd A outer s H E) (λ_=>E) e s'):(sE (RC P w) P w K mg base N qual scope f cd A outer s H E).xe e s':=by
 let{W,B,H1,ea,C,od,vs,φ,rfl,I,hx,Z,hz,ht,q}:=h;show wpAny _ _ (leaving _<|.ref ea) _ _ s';unfold leaving;refine VI<|En I M M I.ok.frames hx Z hz ht λs2 U T O r2 z2 t2 Y=>?_;refine{ea,C,od,U,T,_,M,O.os,O.bare,O.base,O.hok,A9,r2,z2,t2,Y.1,?_,q};rcases Y.2.2.2.1 with z|z
 .exact VG (show T∈([]:Rz) from z)<|by simp
 .exact z
def NY.okX{x:Str}{st:Stmt}{fd:R'}{ps:Ry}{k:Nat}{sp:Sp}(F:NY K x qual st f fd)(S:ao N ps (aj st))(len:∀vs H Q E,sp vs H Q E->vs.length=ps.length)
  (I:∀(z:Rp)(A:RU)(outer:Sa)(s:Rm)(H:Hp)(vs:Rq)(Q:VK)(E:XK),O6 k (A.deeper<|envOfC qual (aj st) s.heap.objs.size f z)->sp vs H Q E->
   ∃t,OV (sE (RC P w) P w K mg base N qual (aj st) f z A outer s H E) (c7 st) t/\t {nx:=λ_ H'=>Q .non H',rt:=Q} (start N vs) H):E7 P w K mg base (RC P w) (k+1) f fd ps sp:=by
 let{oc,od,kV,Y,pm,an,z,ct,Z,rfl,lk,O}:=F.ex;exact GQ lk O S len λA outer s H vs Q E hr U=>I z A outer s H vs Q E hr U
end
abbrev Px:List Value:=[.type "ValueError",.type "Exception",.type "BaseException",.type "object"]
def OD(bm:Rr):Prop:=∃ups:List Addr,bm=ups.map Value.ref++Px
def OD.typ(Wh:OD bm)(T:String):bm.contains (.type T)=Px.contains (.type T):=by
 let{z,rfl}:=Wh
 induction z with
 |nil=>rfl
 |cons a r I=>rw[Qt,Va,ZA,I];rfl
def OD.val(Wh:OD bm):bm.contains (.type "ValueError")=true:=(Wh.typ _).trans ∅
def OD.bas(Wh:OD bm):bm.contains (.type "BaseException")=true:=(Wh.typ _).trans ∅
def OD.att(Wh:OD bm):bm.contains (.type "AttributeError")=false:=(Wh.typ _).trans ∅
def OD.nam(Wh:OD bm):bm.contains (.type "NameError")=false:=(Wh.typ _).trans ∅
structure rq(K:Wi)(C:Rl)(bm:Rr):Prop where
 ob:∃nm q N bs sn sub ab col dd k0 k1 k2 k3 k5,K.lookup C=some (excClassObj nm q C N bs bm true sn sub ab col dd k0 k1 k2 k3 k5 vB)
 mro:OD bm
 kp:PySem.W.keepIn K (.ref C)=true
 ga:PySem.W.findIn K (.ref C) "__getattribute__"=some (some<|.builtin "BaseException.__getattribute__")
 gn:PySem.W.findIn K (.ref C) "__getattr__"=some none
 sa:PySem.W.findIn K (.ref C) "__setattr__"=some (some<|.builtin "object.__setattr__")
section
variable{nm q:Str}{N:Rl}{bs:Rr}{k0 k1 k2 k3 k5:Option Value}
abbrev c6(C t:Rl):Obj:=bn C none #[.ref t,.none,.none,.none,.bool false,.none]
abbrev jr(us:Rr):Obj:={cls:= .type l6,data:= .seq us.toArray}
def JH{rest:Rr}(Wh:OD bm)(z:h.get? C=some (excClassObj nm q C N bs bm true sn sub ab col dd k0 k1 k2 k3 k5 vB))(hz:rest.length<=sizeLine)
  (hq:R (.ok<|.ret<|.ref<|h.objs.size+1) {(h.push<|jr rest).push<|c6 C h.objs.size,g,d,t,os}):
  codeAny (model prog w) A (.call (.builtin vB) {.ref C::rest,[]}) R ⟨h,g,d,t,os⟩:=by
 have F:=Xk;have O:(Value.ref C::bm).contains (.type "ValueError")=true:=by rw[ZA,Wh.val,Bool.or_true]
 have U:(Value.ref C::bm).contains (.type "AttributeError")=false:=by rw[ZA,Wh.att];rfl
 have Y:(Value.ref C::bm).contains (.type "NameError")=false:=by rw[ZA,Wh.nam];rfl
 have st:=F.noStar;have Z:=F.ends;refine codeAny_call_builtin_code (Code.quiet_builtin _ F.quiet) ?_;simp only[checkBuiltinCall,F.newKind,F.newSplit,F.newRow]
 repeat (first|refine wpAny_loadPart_at z ?_|(refine wpAny_isSubtype_exc z ?_;rw[O])|refine wpAny_staticBase_exc z ?_|refine wpAny_madeBy_exc z ?_|simp only[bne_self_eq_false,Z6,if_false]|wp_step)
 refine codeAny_builtinAt F.entry ?_;unfold Builtin.«BaseException.__new__»;refine PySem.wpAt_bind ?_;show PySem.wpAt _ _ _ (stack>>=_) _ _ _;refine PySem.wpAt_bind (PySem.wpAt_stack λp I=>PySem.wpAt_of_wpAny ?_)
 wp_walk
 refine PySem.wpAt_of_wpAny ?_;rw[F.owner]
 repeat (first|with_reducible refine wpAny_madeHere_exc F.canon z ?_|with_reducible refine wpAny_loadPart_at z ?_|(with_reducible refine wpAny_isSubtype_exc z ?_;first|rw[O]|rw[U]|rw[Y])|wp_step)
 show R _ _;rwa[Heap.size_push]
open PySem.W in
def GT{O:Rp}(X:K.In h)(Y:rq K C bm)(hz:us.length<=sizeLine)(hi:findIn K (.ref C) lU=some (some O))(hf:∀self,Looks (model prog w) h (bindSpecial O self) (O,[self]))
  (hq:codeAny (model prog w) (A.under<|.builtin vo {.ref C::us,[]}) (.call O {.ref (h.objs.size+1)::us,[]}) (InitBack (h.objs.size+1) R) {(h.push<|jr us).push<|c6 C h.objs.size,g,d,t,os}):
  codeAny (model prog w) A (.call (.ref C) {us,[]}) R ⟨h,g,d,t,os⟩:=by
 let{nm,q,N,bs,sn,sub,ab,col,dd,k0,k1,k2,k3,k5,hK}:=Y.ob;have I:=X _ _ hK;have Wh:=Y.mro;have Z:(Value.ref C::bm).contains (.ref C)=true:=by simp
 have hl:=looks_findIn (M:=model prog w) X hi;have f1:=tc_lookup;have f2:=tc_bind (.ref C);have hT:(⟨h,g,d,t,os⟩:Rm).TypeIs (.ref C) "type":={_,I,M};refine codeAny_of_tree ?_;show wpAny _ _ (callAny (.ref C) _) _ _ _
 repeat (any_goals (first|assumption|with_reducible refine wpAny_loadPart_at I ?_|wp_step))
 refine{M,?_};refine codeAny_call_builtin_at (Code.quiet_builtin _ ∅) entry_typeCall (wpAny_check_type_call_sub I ?_)
 repeat (first|with_reducible refine wpAny_loadPart_at I ?_|with_reducible refine wpAny_madeBy_exc I ?_|wp_step)
 refine JH Wh I hz ?_;show wpAny _ (A.under<|.builtin vo {.ref C::us,[]}) _ _ _ {(h.push<|jr us).push<|c6 C h.objs.size,g,d,t,os};have k:∀b o,h.get? b=some o->((h.push<|jr us).push<|c6 C h.objs.size).get? b=some o:=λb o e=>VC _ (VC _ e);have he:((h.push<|jr us).push<|c6 C h.objs.size).get? (h.objs.size+1)=some (c6 C h.objs.size):=by heap_get
 have U:=k _ _ I;have a0:=hl.keeps k;have fb:=(hf<|.ref<|h.objs.size+1).keeps k;have t1:Looks (model prog w) ((h.push<|jr us).push<|c6 C h.objs.size) (typeOf<|.ref<|h.objs.size+1) (.ref C):=(Looks.ld he).andThen .now;have s1:Looks (model prog w) ((h.push<|jr us).push<|c6 C h.objs.size) (isSubtype (.ref C)<|.ref C) true:=λA' Q' E' s' kk z=>by
  let{hp,g',d',t',a1}:=s';exact wpAny_isSubtype_exc (kk _ _ U)<|by rwa[Z]
 unfold isInstance callSpecial? specialOf
 repeat (first|simp only[Z,Bool.not_true,Z6,if_false]|with_reducible refine wpAny_call ?_|lk)
 refine codeAny_mono hq λr s' z=>?_;rcases r with e|(v|_|_|_)<;>first|exact z|exact z.elim|skip
 let{rfl,z}:=z;exact VR<|VR z
end
section
variable{nm q:Str}{N:Rl}{bs:Rr}{k0 k1 k2 k3 k5:Option Value}
def GU{t0:Rl}(Wh:OD bm)(O:h.get? C=some (excClassObj nm q C N bs bm true sn sub ab col dd k0 k1 k2 k3 k5 vB))
  (he:h.get? e=some (bn C od #[.ref t0,.none,.none,.none,.bool false,.none])) (hz:us.length<=sizeLine)
  (hq:∀h',(∀b o,b≠e->h.get? b=some o->h'.get? b=some o)->h'.get? e=some (bn C od #[.ref h.objs.size,.none,.none,.none,.bool false,.none])->R (.ok<|.ret .none) ⟨h',g,d,t,os⟩):
  codeAny (model prog w) A (.call (.builtin "ValueError.__init__") {.ref e::us,[]}) R ⟨h,g,d,t,os⟩:=by
 have F:=Xk;have U:(Value.ref C::bm).contains (.type "ValueError")=true:=by rw[ZA,Wh.val,Bool.or_true]
 have st:=F.noStar;refine codeAny_call_builtin F.init.plain F.initEntry ?_;simp only[checkBuiltinCall,F.initKind,F.initSplit,F.initRow]
 repeat (first|with_reducible refine wpAny_loadPart_at he ?_|with_reducible refine wpAny_loadPart_at O ?_|(with_reducible refine wpAny_isSubtype_exc O ?_;rw[U])|wp_step)
 refine wpAny_onRaise ?_;rw[show ∀(a b:String)(n:Nat),Bind.check {.positional,"*","ValueError",.self,[{"args",.varPos,false}]} a b n (List.map (λx=>x.fst) ({pos:=Value.ref e::us}:Args).kw)=pure Unit.unit from λa b n=>check_star_args _ _ _ _ _ _];refine VR ?_
 wp_walk
 have I:(h.push<|jr us).get? e=some (bn C od #[.ref t0,.none,.none,.none,.bool false,.none]):=VC _ he;refine hq _ (λb o z k=>?_) ?_
 .rw[VS _ _ (Ne.symm z)];exact VC _ k
 .exact Heap.get?_update_self _ I M
end
open PySem.W
variable{E:RS}
section
variable{prog:Rv}{w:Ru}{A:RU}{s:Rm}{K:Wi}{e C:Rl}{bm:Rr}
structure XIs(K:Wi)(C:Rl):Prop where
 ha:findIn K (.ref C) "__class__"=some (some<|.builtin pM)
 hn:specialIn K (.builtin pM) "__get__"=some (some<|.builtin "getset_descriptor.__get__")
 tk:takesIn K (.builtin pM)=some true
 hm:mroIn K C (.type "object")=some true
end
def NN(H:Hp)(e:Rl)(od:RV)(C:Rl)(fs:RX):Prop:=H e=some (XO e C od)/\((fs=[]/\od=none)\/∃dx,od=some dx/\H dx=some (.xd fs))
section
variable{X:Cx}{W:Rx}{B:St}{H:Hp}{s:Rm}
def fW(K:Wi)(hK:X.K=K):fg X (.builtin "isinstance") (λxs H Q=>∃x D t b,xs=[x,.ref D]/\OC K H x t/\kitOne K t (.ref D)=some b/\Q (.bl b) H):=by
 subst hK;intro W s B H xs us Q I r h;let{x,D,t,b,rfl,ty,e,q}:=h;let{u,w',rfl,O,z}:=xy r;cases (show w'=Value.ref D from z);exact xR I O ty e λtk=>{.bl b,H,I.tok _,M,q}
end
variable{C:Rl}{φ:Heap->Prop}
section
variable{X:Cx}{W:Rx}{B:St}{H:Hp}{s:Rm}
def Inv.madeX{us:Rr}(I:Inv X W B H s):Inv X W B (upd H (s.heap.objs.size+1)<|XN (s.heap.objs.size+1) C none) {s with heap:=(s.heap.push<|jr us).push (c6 C s.heap.objs.size)}:=
 I.laid (t':=s.toks) (λb o e=>VC _<|VC _ e) (Za _) (Kp (t:=s.heap.objs.size)<|by heap_get)
def CS(C:Rl)(t:TA):TE:=λB H Q=>t B H λvs H1=>vs.length<=1000/\∀e,H1 e=none->Q (.ref e) (upd H1 e<|XN e C none)
variable{CX:CXT}{k:Nat}{f:Rl}{fd:R'}{ps:Ry}{sp:Sp}{dvs:Rq}{ds:Rr}{E:XK}{x m:Str}{p pos apos:Pos}{e o:Expr}{es:Sg}{ta:TE}{t:TA}{bm:Rr}
def Inv.rewrite{ea:Rl}{od:RV}{z:Rl}{h':Heap}{tk:Nat}(I:Inv X W B H s)(hx:H ea=some (.ext φ))(k:∀b o,b≠ea->s.heap.get? b=some o->h'.get? b=some o)
  (new:h'.get? ea=some (bn C od #[.ref z,.none,.none,.none,.bool false,.none])):Inv X W B (upd H ea<|XN ea C od) {s with heap:=h',toks:=tk}:=
 I.write (x:=ea) (e:=ea) (by rw[hx];exact VW) (.inl M) k {_,new} (Kp new)
def xI(Y:rq X.K C bm)(hi:findIn X.K (.ref C) lU=some (some<|.builtin "ValueError.__init__"))(hg:Gl X x)(hm:X.mg x=some (.ref C))
  (ha:PA X (e::es) t) (U:(x==(lg:Str))=false:=by decide) (he:starEach (e::es) X.env=(false,eval e X.env)::starEach es X.env:=by rfl) (Z:(backTo pos<|starEach es X.env).any (·.1)=false:=by rfl):
  PE X (.Call (.Name x p) (e::es) [] pos) (CS C t):=by
 intro W s B H Q I h;refine W3<|g6 I hg hm ?_ U;refine Zo (h₀:=X.base) I.ok.mod.kin Y.kp (N3 (ha pos W s B H _ I h) λus s1 zz=>?_) he Z;let{vs,H1,O,r,hz,q}:=zz;refine{O.kIn,?_};have z:us.length<=sizeLine:=by rw[<-r.length];exact QX<|cy hz
 have I2:=Inv.madeX (C:=C) (us:=us) O;have q2:=q (s1.heap.objs.size+1) (O.hok.fresh<|Za _);let{nm,q',N,bs,sn,sub,ab,col,dd,k0,k1,k2,k3,k5,hK}:=Y.ob;have hC:=I2.kIn _ _ hK;let{h0,g0,d0,t0,o0}:=s1;refine wpAny_call<|GT O.kIn Y z hi (λself=>Looks.of_pure<|Xk.init.bind self) ?_;refine GU Y.mro hC (t0:=h0.objs.size) (by heap_get) z λh' k' n'=>{M,?_};have I3:=I2.rewrite (C:=C) (od:=none) (tk:=t0) A9 k' n';rw[cY]at I3;exact{V.ref<|h0.objs.size+1,_,I3,M,q2}
end
variable{f:Rl}{A:RU}{Q:Flow->Shared->Prop}{H:Hp}{s:Rm}{JM:RS}{E:XK}
structure Hm(K:Wi)(C:Rl)(m:Str)(v:Rp):Prop where
 sp:specialIn K (.ref C) "__getattribute__"=some (some<|.builtin "type.__getattribute__")
 rd:readsIn K C (.type "type")=true
 at_:findCls K (.ref C) (.type "type") m=some (.val v)
section
variable{X:Cx}{W:Rx}{B:St}
variable{CX:CXT}{k:Nat}{C:Rl}{fd:R'}{ps:Ry}{sp:Sp}{dvs:Rq}{ds:Rr}{x m:Str}{p pos apos:Pos}{e o:Expr}{es:Sg}{ta:TE}{t:TA}{bm:Rr}
def yU{pl:Sem Bool}(Z:Gl X x)(hm:X.mg x=some (.ref C))(hc:Hm X.K C m (.ref f))(hk:PySem.W.keepIn X.K (.ref f)=true)(F:E7 X.prog X.w X.K X.mg X.base CX k f fd ps sp)(hr:O6 k X.A)(hb:Binds X.K fd ps ds)(hd:HV dvs ds)(hx:gQ CX X E)(ha:PA X (e::es) t)
  (z:(x==(lg:Str))=false:=by decide)
  (O:starEach (e::es) X.env=(false,eval e X.env)::starEach es X.env:=by rfl) (U:(backTo pos<|starEach es X.env).any (·.1)=false:=by rfl)
  (ht:eval (.Call (.Attribute (.Name x p) m apos) (e::es) [] pos) X.env=(do
   let ov<-eval (.Name x p) X.env
   standAt apos.atName
   let(f,first)<-holding [ov] (getMethod ov m pl)
   callWith pos f first (backTo pos<|starEach (e::es) X.env) (backToKw pos<|keywordEach [] X.env)):=by rfl):
  PE X (.Call (.Attribute (.Name x p) m apos) (e::es) [] pos) (Ky sp dvs E t):=by
 intro W s B H Q I h;refine ZF (pl:=pl) (g6 I Z hm ?_ z) ht;refine method_cls I.kIn hc.sp<|cls_value I.kIn hc.rd hc.at_ M ?_;refine Zo (first:=[]) (h₀:=X.base) I.ok.mod.kin hk (N3 (ha pos W _ B H _ (I.tok _) h) λus s2 zz=>?_) O U;let{vs,H2,Y,r,q2}:=zz;refine{Y.kIn,?_};exact oH F hr hb hd hx Y r q2
def Eb{env:Env}{y:Sem Value}{M':Model}(O:A.handled=none)
  (h:wpAny M' A y (λv s1=>∃ea C od t nm q N bs bm sn sub ab col dd k0 k1 k2 k3 k5,v= .ref ea/\s1.heap.get? C=some (excClassObj nm q C N bs bm true sn sub ab col dd k0 k1 k2 k3 k5 vB)/\OD bm/\
   s1.heap.get? ea=some (bn C od #[.ref t,.none,.none,.none,.bool false,.none])/\JM (.ref ea) s1) JM s):wpAny M' A (raiseStmt env (some y) none) Q JM s:=by
 unfold raiseStmt;refine VI<|W2 h (λv s1 z=>?_) λ_ _ z=>z;let{ea,C,od,t,nm,q,N,bs,bm,sn,sub,ab,col,dd,k0,k1,k2,k3,k5,rfl,I,Wh,he,U}:=z;have Y:(Value.ref C::bm).contains (.type "BaseException")=true:=by rw[ZA,Wh.bas,Bool.or_true]
 let{Z,g,d,tk,os}:=s1
 repeat (first|with_reducible refine wpAny_loadPart_at he ?_|with_reducible refine wpAny_loadPart_at I ?_|(with_reducible refine wpAny_isSubtype_exc I ?_;rw[Y])|wp_step)
 exact wpAny_raiseNew_none O U
def Hl(X:Cx)(E:XK):Prop:=∀e s,K9 X (λ_=>E) e s->X.xe e s
def FK(K:Wi)(te:TE)(E:XK):TS:=λ_ B H=>te B H λv H1=>∃ea C od bm,v= .ref ea/\H1 ea=some (XN ea C od)/\rq K C bm/\E (.ref ea) od (upd H1 ea<|XO ea C od)
def Al{ex:Expr}{te:TE}{pos:Pos}(hc:X.calm=true)(hx:Hl X E)(he:PE X ex te):PS X (.Raise (some ex) none pos) (FK X.K te E):=by
 intro W s B H D I h;rw[arm_exec_Raise];refine VI<|wpAny_standAt (Eb (I.ok.hd hc)<|VI<|N3 (he W s B H _ I h) λv s1 zz=>?_);let{y,H1,O,Z,ea,C,od,bm,ev,U,Y,q}:=zz;refine VI<|wpAny_standAt<|VR ?_;subst ev;cases (show v=Value.ref ea from Z);let{nm,q',N,bs,sn,sub,ab,col,dd,k0,k1,k2,k3,k5,hK}:=Y.ob;let{t,z}:=MP O.hok U;exact{ea,C,od,t,nm,q',N,bs,bm,sn,sub,ab,col,dd,k0,k1,k2,k3,k5,M,O.kIn _ _ hK,Y.mro,z,hx _ _ {W,B,H1,ea,C,od,_,_,M,O,U,z,(by show 1<6;decide),.inl M,q}}
end
def CQ{P:Rv}{w:Ru}{K:Wi}{mg:RT}{base:Heap}{N:Ry}{qual:Str}{scope:Scope}{cd:Rp}{outer:Sa}:
  Hl (sE (RC P w) P w K mg base N qual scope f cd A outer s H E) E:=λ_ _ h=>Gu h
variable{T:Rl}{P:Rv}{w:Ru}
def FW{X:Cx}:gQ (RC P w) X E0:=λ_ _ _ _ _ _ _ zz=>by let{_,_,_,_,_,_,_,_,_,_,_,_,_,_,_,_,_,z}:=zz;exact z.elim
def mw(K:Wi)(fd:R')(ps:Ry)(dvs:Rq):Prop:=∃ds,Binds K fd ps ds/\HV dvs ds
structure PN(K:Wi)(x qual:Str)(st:Stmt)(f:Rl)(fd:R'):Prop where
 ex:∃(oc:Rp)(od:RV)(dV kV doc pm:Rp)(an:RV)(cdv ct:Rp)(osl:So),
  fd=fnOf x qual (fV st) (c7 st) (aj st) dV kV doc pm an cdv ct/\K.lookup f=some {oc,od,.func fd,osl}/\codeIn K cdv qual=true
 kp:keepIn K (.ref f)=true
section
variable{K:Wi}{mg:RT}{base:Heap}{x qual:Str}{st:Stmt}{f:Rl}{fd:R'}{N ps:Ry}{k:Nat}{sp:Sp}
def PN.ok(F:PN K x qual st f fd)(S:ao N ps (aj st))(len:∀vs H Q E,sp vs H Q E->vs.length=ps.length)
  (I:∀(z:Rp)(A:RU)(outer:Sa)(s:Rm)(H:Hp)(vs:Rq)(Q:VK)(E:XK),O6 k (A.deeper<|envOfC qual (aj st) s.heap.objs.size f z)->sp vs H Q E->
   ∃t,OV (sE NX P w K mg base N qual (aj st) f z A outer s H E).nox (c7 st) t/\t {nx:=λ_ H'=>Q .non H',rt:=Q} (start N vs) H):E7 P w K mg base NX (k+1) f fd ps sp:=by
 let{oc,od,dV,kV,Y,pm,an,z,ct,Z,rfl,lk,O}:=F.ex;refine GQ lk O S len λA outer s H vs Q E hr U=>?_;let{t,h,q}:=I z A outer s H vs Q E hr U;exact⟨t,h.nox,q⟩
structure MK(K:Wi)(x qual:Str)(st:Stmt)(T f:Rl)(fd:R'):Prop where
 toD:PN K x qual st f fd
 ex:∃(kV doc pm:Rp)(an:RV)(cdv ct:Rp),fd=fnOf x qual (fV st) (c7 st) (aj st) (.ref T) kV doc pm an cdv ct
def Dp{Z:Rp}{od U:RV}{O:So}{kV I Y z ct:Rp}(l:K.lookup f=some {Z,od,.func<|fnOf x qual (fV st) (c7 st) (aj st) (.ref T) kV I Y U z ct,O})
  (c:codeIn K z qual=true) (k:keepIn K (.ref f)=true):MK K x qual st T f (fnOf x qual (fV st) (c7 st) (aj st) (.ref T) kV I Y U z ct):={{{Z,od,_,kV,I,Y,U,z,ct,O,M,l,c},k},⟨kV,I,Y,U,z,ct,M⟩}
def fG{dd:RV}{z:Sd}{n:Nat}{Z:So}{ds:Rr}(g:Nat)(hg:g+ds.length=ps.length)(F:MK K x qual st T f fd)(hT:K.lookup T=some {.type l6,dd,.seq z n,Z})
  (h:∀(kV I U:Rp)(Y:RV)(O ct:Rp)(us:Rr),us.length=g->∃k,bindArgs (fnOf x qual (fV st) (c7 st) (aj st) (.ref T) kV I U Y O ct) {us,[]}=seqItems? (.ref T)>>=k/\k (some z)=pure (ps.zip<|us++ds)):
  Binds K fd ps ds:=by
 let{kV,I,U,Y,O,ct,rfl}:=F.ex;intro s us X hl;let{k,h1,h2}:=h kV I U Y O ct us (by rw[Q7]at hl;lia);exact BindsTo.of_defaults M (X _ _ hT) M h1 h2
end
abbrev _root_.Sq:=List (Str×Nat×Addr)
variable{a:Rl}{ps:Sq}
def kdE(w:Ru)(x:Str×Nat×Addr):DictEntry:={PyData.keyHash w.params x.1,.str x.1 x.2.1,.ref x.2.2}
def KD(w:Ru)(K:Wi)(a:Rl)(ps:Sq):Prop:=(∃n,K.lookup a=some {.type "dict",none,.dict (ps.map<|kdE w).toArray n, #[]})/\(a==sysModules)=false/\(ps.map (·.1)).Nodup
noncomputable def Pm(ps:Sq)(x:Str):Option V:=(ps.find? λp=>decide (p.1=x)).map λp=>V.ref p.2.2
theorem AI{P:Rv}{w:Ru}:∀ps:List (Str×Nat×Addr),Pairs (bx P w) (ps.map<|kdE w) (ps.map λp=>((.inr p.1:Key),Value.ref p.2.2))
 | []=> .nil
 |p::ps=> .cons (lH P w p.1 p.2.1) M (AI ps)
def KQ{P:Rv}{w:Ru}{K:Wi}{h:Heap}(k:KD w K a ps)(hk:K.In h):h.DictOf (bx P w) a (ps.map λp=>((.inr p.1:Key),Value.ref p.2.2)):=by
 let{{n,k1},k2,k3}:=k;refine{_,_,_,hk _ _ k1,⟨M,M,M⟩,M,λe he=>?_,by simpa using AI ps,?_}
 .have he:e∈ps.map (kdE w):=by simpa using he
  let{p,_,rfl}:=Qf.mp he;exact{.inr p.1,lH P w p.1 p.2.1,M}
 .rw[QS,show((λkv:Key×Value=>kv.1)∘λp:Str×Nat×Addr=>((.inr p.1:Key),Value.ref p.2.2))=(Sum.inr∘λp:Str×Nat×Addr=>p.1) from rfl,<-QS];exact List.Pairwise.map _ (λ_ _ q z=>q<|Sum.inr.inj z) k3
def GD(ps:Sq)(x:Str):valueAt (ps.map λp=>((.inr p.1:Key),Value.ref p.2.2)) (.inr x)=(ps.find? λp=>decide (p.1=x)).map λp=>Value.ref p.2.2:=by
 unfold valueAt;rw[List.find?_map,Option.map_map];have:((λkv:Key×Value=>decide (kv.1=Sum.inr x))∘λp:Str×Nat×Addr=>((.inr p.1:Key),Value.ref p.2.2))=λp=>decide (p.1=x):=by
  funext p;show decide ((Sum.inr p.1:Key)=Sum.inr x)=decide (p.1=x);by_cases c:p.1=x
  .rw[VD c,VD (VT Sum.inr c)]
  .rw[VJ c,VJ λz=>c (Sum.inr.inj z)]
 rw[this];rfl
section
variable{X:Cx}{o i:Expr}{x:Str}{np pos:Pos}{ty:TE}
def MV(ps:Sq)(ty:TE):TE:=λB H Q=>ty B H λy H2=>∃z v,y= .str z/\Pm ps z=some v/\Q v H2
def Iv(ps:Sq)(ty:TE):TE:=λB H Q=>ty B H λy H2=>∃z,y= .str z/\Q (.bl<|!(Pm ps z).isSome) H2
def C6(Y:Gl X x)(Z:X.mg x=some (.ref a))(k:KD X.w X.K a ps)(hi:PE X i ty)(hs:MI i)(hd:(x==(lg:Str))=false:=by decide):PE X (.Subscript (.Name x np) i pos) (MV ps ty):=by
 intro W s B H Q I h;refine CT PySem.F.slot_dict_getitem.lookup hs<|g6 I Y Z (N3 (hi W s B H _ I h) λiv s2 O=>?_) hd;let{y,H2,U,ry,z,v,ey,e,q2}:=O;subst ey;have dd:=KQ (P:=X.prog) k (h:=s2.heap) λb o e=>U.kIn b o e;refine{dd.mapOf.typeIs,?_};unfold Pm at e;let{p,e1,e2}:=Zz.mp e;refine wpAny_getItem_of (pU (k:= .inr z) ry) dd.mapOf (by rw[GD,e1];rfl) {v,H2,U.tok _,?_,q2};rw[<-e2];rfl
def Eg(U:Gl X x)(Y:X.mg x=some (.ref a))(k:KD X.w X.K a ps)(hi:PE X i ty)(hd:(x==(lg:Str))=false:=by decide):PC X .NotIn i (.Name x np) (Iv ps ty):=by
 intro W s B H Q I h;refine N3 (hi W s B H _ I h) λiv s1 zz=>?_;let{y,H1,O,Z,z,ey,q2}:=zz;refine g6 O U Y ?_ hd;subst ey;have dd:=KQ (P:=X.prog) k (h:=s1.heap) λb o e=>O.kIn b o e;refine wpAny_notIn_of (pU (k:= .inr z) Z) k.2.1 dd.mapOf {.bl<|!(Pm ps z).isSome,H1,O.tok _,?_,q2};rw[GD];unfold Pm;rw[ZW,ZW];rfl
end
variable{D:Addr->Sp->Prop}{kk:Nat}
section
variable{X:Cx}{CX:CXT}{E:XK}{x:Str}{p pos:Pos}{e:Expr}{es:Sg}{t:TA}{ta:TE}{k:Nat}{f:Rl}{fd:R'}{ps:Ry}{sp:Sp}
def Bm(X:Cx)(CX:CXT)(kk:Nat)(f:Rl)(sp:Sp):Prop:=keepIn X.K (.ref f)=true/\∃fd ps,E7 X.prog X.w X.K X.mg X.base CX kk f fd ps sp/\Binds X.K fd ps []
def Cs(hk:keepIn X.K (.ref f)=true)(F:E7 X.prog X.w X.K X.mg X.base CX k f fd ps sp)(hb:Binds X.K fd ps [])(hl:k<=kk):∀z sp',(z=f/\sp'=sp)->Bm X CX kk z sp':=λz sp' h=>by
 let{rfl,rfl}:=h;exact{hk,fd,ps,F.mono hl,hb}
def KR{I:Addr->Sp->Prop}(h:∀f sp,D f sp->Bm X CX kk f sp)(h':∀f sp,I f sp->Bm X CX kk f sp):∀f sp,(D f sp\/I f sp)->Bm X CX kk f sp:=λf sp z=>z.elim (h f sp) (h' f sp)
def Lq(D:Addr->Sp->Prop)(ta:TE)(E:XK)(t:TA):TE:=λB H Q=>ta B H λy H1=>∃f sp,y= .ref f/\D f sp/\t B H1 λvs H2=>sp (vs++ []) H2 Q E
def FU(hD:∀f sp,D f sp->Bm X CX kk f sp)(Y:O6 kk X.A)(hf:PE X (.Name x p) ta)(hx:gQ CX X E)(ha:PA X (e::es) t)
  (he:starEach (e::es) X.env=(false,eval e X.env)::starEach es X.env:=by rfl) (z:(backTo pos<|starEach es X.env).any (·.1)=false:=by rfl):
  PE X (.Call (.Name x p) (e::es) [] pos) (Lq D ta E t):=by
 intro W s B H Q I h;refine W3<|N3 (hf W s B H _ I h) λu s1 O=>?_;let{y,H1,Z,ry,f,sp,ey,d,q1}:=O;subst ey;cases (show u=Value.ref f from ry);let{hk,fd,ps,F,hb}:=hD f sp d;refine Zo (h₀:=X.base) I.ok.mod.kin hk (N3 (ha pos W s1 B H1 _ Z q1) λus s2 zz=>?_) he z;let{vs,H2,U,r,q}:=zz;refine{U.kIn,?_};exact oH F Y hb .nil hx U r q
end
end L2
namespace L2
open PySem PySem.Spec PyProof.Rows SeqAt
section
variable{X:Cx}
def bW{st:Stmt}:PS X st (λ_ _ _=>False):=λ_ _ _ _ _ _ h=>h.elim
def PlainL.isL{h:Heap}{a:Rl}{xs:Sd}(p:PlainL h a xs):h.IsList a xs:=by
 let{o,n,e,c,_,d}:=p;exact⟨o,e,c,n,d⟩
inductive rEqN(K:Wi)(f:Bool)(x y:V)(H:Hp)(Q:VK):Prop
 |mk(a b xs:_)(_:x= .ref a)(_:y= .ref b)(_:Dz K H a xs)(_:Dz K H b [])(_:Q (.bl<|xs.isEmpty !=f) H)
def uy(K:Wi)(hK:X.K=K)(hu:X.A.units+20<cLine):Oc X (compareOp .Eq) (rEqN K false):=by
 subst hK;intro W s B H x y v u Q I U Y h;let{a,b,xs,rfl,rfl,h1,h2,q}:=h;cases U;cases Y;let{i1,r1,O,z1}:=I.list h1;let{i2,Z,p2,z2}:=I.list h2;have z:X.A.units<cLine:=();cases Z;cases r1 with
 |nil=>exact RcAt.lists (A:=X.A) (e:=λ_=>true) (PlainL.isL O) (PlainL.isL p2) M z (λj h1=>VG h1<|XF _) _ _ _ _ {.bl _,H,I,M,q}
 |cons r t=>exact RcAt.lists_lengths (PlainL.isL O) (PlainL.isL p2) (by simp) z _ _ _ _ {.bl _,H,I,M,q}
def FX(K:Wi)(hK:X.K=K)(hu:X.A.units+20<cLine):Oc X (compareOp .NotEq) (rEqN K true):=by
 subst hK;intro W s B H x y v u Q I U Y h;let{a,b,xs,rfl,rfl,h1,h2,q}:=h;cases U;cases Y;let{i1,r1,O,z1}:=I.list h1;let{i2,Z,p2,z2}:=I.list h2;have z:X.A.units<cLine:=();cases Z;cases r1 with
 |nil=>exact RcNeAt.lists (A:=X.A) (e:=λ_=>true) (PlainL.isL O) (PlainL.isL p2) M z (λj h1=>VG h1<|XF _) _ _ _ _ {.bl _,H,I,M,q}
 |cons r t=>exact RcNeAt.lists_lengths (PlainL.isL O) (PlainL.isL p2) (by simp) z _ _ _ _ {.bl _,H,I,M,q}
end
end L2
namespace L2
open PySem PySem.Spec PyProof.Rows
variable{D:Addr->Sp->Prop}{X:Cx}{o:HO}{H:Hp}{L:Rq}{kk:Nat}{A Wh:Prop}{x y:V}
def AL(e:x=y)(h:Wh):if(!decide (x=y))=true then A else Wh:=by
 rw[VD e];exact bL h
def Nu(e:¬x=y)(h:A):if(!decide (x=y))=true then A else Wh:=by
 rw[VJ e];exact b7 h
def dA(e:x=y)(h:A):if decide (x=y)=true then A else Wh:=by
 rw[VD e];exact b7 h
def ak{p:Rl}(h:H p=none):Ba H (upd H p o):=λb u e=>by
 rwa[ag (am e h)]
def Pt(P:Int->Prop):List V->Prop
 | []=>True
 | .int m::r=>P m/\Pt P r
 |_::_=>False
theorem Pt.ints{P:Int->Prop}:∀{L:Rq},Pt P L->∃ns:List Int,L=ns.map V.int/\∀m∈ns,P m
 | [],_=>{[],M,λ_ z=>nomatch z}
 | .int m::r,h=>by
  let{ns,e,q}:=Pt.ints h.2;refine{m::ns,by rw[e];rfl,λx hx=>?_};rcases Qb.mp hx with rfl|hx
  .exact h.1
  .exact q x hx
def An{P:Int->Prop}{c n:Int}(h:Pt P L)(O:(L.length:Int)=n)(I:0<n):∃m,P4 L (c%n)=some (.int m)/\P m:=by
 let{ns,e,q}:=h.ints;subst e;have a:=Qx c (QZ I);have b:=QD c I;rw[Q0]at O;have z:(c%n).toNat<ns.length:=();refine{_,vn a (),q _ ?_};rw[Qn,Q3 z];exact Zm z
def Nh{c n:Int}(O:(L.length:Int)=n)(I:0<n):∃v,P4 L (c%n)=some v/\v∈L:=by
 have a:=Qx c (QZ I);have b:=QD c I;have z:(c%n).toNat<L.length:=();refine{L[(c%n).toNat],?_,Zm z};unfold P4 Pe;rw[VB a,VB ()];exact Q3 z
def bH{H':Hp}{l:Rl}(s:Ba H H')(n:H l=none):Ba H (upd H' l o):=λb u e=>by
 rw[ag (am e n)];exact s b u e
def GA{K:Wi}{C D:Rl}{b:Bool}(h1:PySem.W.typeIn K (.ref D)=some (.type "type"))(h2:PySem.W.isClsIn K D=true)(O:PySem.W.subIn K (.ref C) (.ref D)=some b)(I:C=D->b=true):
  PySem.W.kitOne K (.ref C) (.ref D)=some b:=by
 unfold PySem.W.kitOne;by_cases z:((Value.ref C:Rp)== .ref D)=true
 .rw[VB z,I (Value.ref.inj<|VP.mp z)]
 .rw[VA z];show(if((PySem.W.clsIn K D).isSome&&PySem.W.typeIn K (.ref D)==some (.type "type"))=true then PySem.W.subIn K (.ref C) (.ref D)else none)=some b;have:(PySem.W.clsIn K D).isSome=true:=h2;rw[VB (by rw[this,h1];simp),O]
def NO(_ j:Int):Prop:=0<j/\j.natAbs.log2<9000
def FY:Oc X (binaryOp .FloorDiv) (rI NO λi j=> .int<|i/j):=opI λi j _ _ _ _ _ hc q=>by
 have h1:(0:Int)<j:=hc.1;exact floordiv_int () (by rw[Vr i ()];exact q)<|.inl (PyProof.noPylong_of_log2 hc.2)
def O6.u20{k:Nat}{A:RU}(r:O6 k A):A.units+20<cLine:=by have:=r.un;lia
section
variable{k:Nat}{f C:Rl}{fd:R'}{ps:Ry}{sp:Sp}{dvs:Rq}{ds:Rr}{E:XK}{x m:Str}{p pos apos:Pos}{e o:Expr}{es:Sg}{ta:TE}{t:TA}
def Fb(X:Cx)(kk:Nat)(m:Str)(C:Rl)(sp:Sp):Prop:=Oz X.K C/\∃f fd ps,cG X.K C m f/\E7 X.prog X.w X.K X.mg X.base NX kk f fd ps sp/\Binds X.K fd ps []
def D1(C:Rl)(sp:Sp):Addr->Sp->Prop:=λC' sp'=>C'=C/\sp'=sp
def DOr(D D':Addr->Sp->Prop):Addr->Sp->Prop:=λC sp=>D C sp\/D' C sp
def lM(c:Oz X.K C)(I:cG X.K C m f)(F:E7 X.prog X.w X.K X.mg X.base NX k f fd ps sp)(hb:Binds X.K fd ps [])(hk:k<=kk):∀z sp',D1 C sp z sp'->Fb X kk m z sp':=λz sp' h=>by
 let{rfl,rfl}:=h;exact{c,f,fd,ps,I,F.mono hk,hb}
def zn{I:Addr->Sp->Prop}(h:∀C sp,D C sp->Fb X kk m C sp)(h':∀C sp,I C sp->Fb X kk m C sp):∀C sp,DOr D I C sp->Fb X kk m C sp:=λC sp z=>z.elim (h C sp) (h' C sp)
inductive Iu(D:Addr->Sp->Prop)(m:Str)(t:TA)(B:St)(Q:VK)(x:V)(H1:Hp):Prop
 |mk(a C dx fs sp:_)(_:x= .ref a)(_:H1 a=some (.ins C dx fs))(_:fs.lookup m=none)(_:D C sp)(_:t B H1 λvs H2=>sp (x::vs) H2 Q E0)
def Fy(D:Addr->Sp->Prop)(m:Str)(ta:TE)(t:TA):TE:=λB H Q=>ta B H λx H1=>Iu D m t B Q x H1
def FT{pl:Sem Bool}(hD:∀C sp,D C sp->Fb X kk m C sp)(hr:O6 kk X.A)(he:PE X o ta)(ha:PA X (e::es) t)
  (z:starEach (e::es) X.env=(false,eval e X.env)::starEach es X.env:=by rfl) (O:(backTo pos<|starEach es X.env).any (·.1)=false:=by rfl)
  (ht:eval (.Call (.Attribute o m apos) (e::es) [] pos) X.env=(do
   let ov<-eval o X.env
   standAt apos.atName
   let(f,first)<-holding [ov] (getMethod ov m pl)
   callWith pos f first (backTo pos<|starEach (e::es) X.env) (backToKw pos<|keywordEach [] X.env)):=by rfl):
  PE X (.Call (.Attribute o m apos) (e::es) [] pos) (Fy D m ta t):=by
 intro W s B H Q I h;refine ZF (pl:=pl) (N3 (he W s B H _ I h) λu s1 U=>?_) ht;let{x,H1,Y,rx,a,C,dx,fs,sp,ex,ea,l,d,q}:=U;subst ex;obtain rfl:u=Value.ref a:=rx;let{c,f,fd,ps,Z,F,hb}:=hD C sp d;refine jV Y ea c Z l ?_;refine Zo (first:=[.ref a]) (h₀:=X.base) I.ok.mod.kin Z.kp (N3 (ha pos W s1 B H1 _ Y q) λus s2 zz=>?_) z O;let{vs,H2,I2,r,q2}:=zz;refine{I2.kIn,?_};exact oH (us:= .ref a::us) (vs:= .ref a::vs) (dvs:=[]) F hr hb .nil az I2 (.cons M r)<|by rwa[ZC]
def Ef{pl:Sem Bool}(hD:∀C sp,D C sp->Fb X kk m C sp)(Y:O6 kk X.A)(he:PE X o ta)
  (Z:eval (.Call (.Attribute o m apos) [] [] pos) X.env=(do
   let ov<-eval o X.env
   standAt apos.atName
   let(f,first)<-holding [ov] (getMethod ov m pl)
   callWith pos f first (backTo pos<|starEach [] X.env) (backToKw pos<|keywordEach [] X.env)):=by rfl):
  PE X (.Call (.Attribute o m apos) [] [] pos) (Fy D m ta Fx):=by
 intro W s B H Q I h;refine ZF (pl:=pl) (N3 (he W s B H _ I h) λu s1 z=>?_) Z;let{x,H1,O,rx,a,C,dx,fs,sp,ex,ea,l,d,q}:=z;subst ex;obtain rfl:u=Value.ref a:=rx;let{c,f,fd,ps,U,F,hb}:=hD C sp d;refine jV O ea c U l ?_;refine XW (first:=[.ref a]) O.kIn U.kp ?_;exact oH (us:=[.ref a]) (vs:=[.ref a]) (dvs:=[]) F Y hb .nil az O (.cons M .nil) q
end
end L2
namespace Srt
open PySem PyProof.Rows
abbrev _root_.Rt:=Array Keyed
abbrev _root_.RZ:=Keyed->Keyed->Bool
variable{xs ys:Rt}{blt:RZ}{e hi i j lo n nrem:Nat}{st:SortSt}{γ:Type}{Q:Unit->SortSt->Prop}{E:RS}
abbrev dk:Keyed:=(Value.none,Value.none)
noncomputable def g(xs:Rt)(i:Nat):Keyed:=xs[i]?.getD dk
theorem dH(h:i<xs.size):xs[i]?=some (g xs i):=by
 unfold g;rw[getElem?_pos xs i h];rfl
theorem pX(h:xs[i]?=ys[j]?):g xs i=g ys j:=by unfold g;rw[h]
theorem xS(h:i<xs.size):g xs i∈xs:=by
 have e:=dH h;exact Array.mem_of_getElem? e
structure PF(blt:RZ):Prop where
 asym:∀x y,blt x y=true->blt y x=false
 tr:∀x y z,blt y x=false->blt z y=false->blt z x=false
section
variable(C:PF blt)
abbrev le(blt:RZ)(x y:Keyed):Prop:=blt y x=false
include C
theorem PF.trans{x y z:Keyed}(h1:le blt x y)(h2:le blt y z):le blt x z:=C.tr x y z h1 h2
theorem PF.of_lt{x y:Keyed}(h:blt x y=true):le blt x y:=C.asym _ _ h
end
def On(blt:RZ)(xs:Rt)(lo hi:Nat):Prop:=∀i j,lo<=i->i<j->j<hi->le blt (g xs i) (g xs j)
def Off(blt:RZ)(xs:Rt)(lo hi:Nat):Prop:=∀i j,lo<=i->i<j->j<hi->le blt (g xs j) (g xs i)
theorem On.one:On blt xs lo (lo+1):=λi j h1 h2 z=>by lia
theorem Off.one:Off blt xs lo (lo+1):=λi j h1 h2 z=>by lia
theorem On.congr(h:On blt xs lo hi)(e:∀k,lo<=k->k<hi->g ys k=g xs k):On blt ys lo hi:=λi j h1 h2 z=>by
 rw[e i h1 (),e j () z];exact h i j h1 h2 z
theorem On.sub{z hi':Nat}(h:On blt xs lo hi)(h1:lo<=z)(h2:hi'<=hi):On blt xs z hi':=λi j a b c=>h i j () b ()
section
variable(C:PF blt)
include C
theorem On.snoc(h:On blt xs lo (lo+n))(I:1<=n)(e:le blt (g xs<|lo+n-1) (g xs<|lo+n)):On blt xs lo (lo+(n+1)):=λi j h1 h2 O=>by
 by_cases z:j<lo+n
 .exact h i j h1 h2 z
 .have ej:j=lo+n:=();subst ej;by_cases y:i=lo+n-1
  .subst y;exact e
  .exact C.trans (h i (lo+n-1) h1 () ()) e
theorem Off.snoc(h:Off blt xs lo (lo+n))(I:1<=n)(e:le blt (g xs<|lo+n) (g xs<|lo+n-1)):Off blt xs lo (lo+(n+1)):=λi j h1 h2 O=>by
 by_cases z:j<lo+n
 .exact h i j h1 h2 z
 .have ej:j=lo+n:=();subst ej;by_cases y:i=lo+n-1
  .subst y;exact e
  .exact C.trans e<|h i (lo+n-1) h1 () ()
end
theorem GM(z:j<=xs.size)(k:Nat):g (mirror xs i j<|(j-i)/2) k=if i<=k/\k<j then g xs (i+j-1-k)else g xs k:=by
 have e:=getElem?_mirror_all (i:=i) z k;by_cases h1:i<=k/\k<j
 .rw[VB h1]at e⊢;exact pX e
 .rw[VA h1]at e⊢;exact pX e
theorem GN{src d:Nat}(hs:src<xs.size)(hd:d<=src)(k:Nat):g (bubble xs src d) k=if k=src-d then g xs src else if src-d<k/\k<=src then g xs (k-1)else g xs k:=by
 have e:=getElem?_bubble hs d hd k;by_cases h1:k=src-d
 .rw[VB h1]at e⊢;exact pX e
 .rw[VA h1]at e⊢;by_cases h2:src-d<k/\k<=src
  .rw[VB h2]at e⊢;exact pX e
  .rw[VA h2]at e⊢;exact pX e
section
variable{prog:Rv}{w:Ru}{A:RU}{s:Rm}{a₀:Rt}{κ:SortKind}
def Bh(prog:Rv)(w:Ru)(A:RU)(E:RS)(s:Rm)(a₀:Rt)(κ:SortKind)(blt:RZ):Prop:=
 ∀(x y:Keyed)(st:SortSt)(Q:Option Bool->SortSt->Prop),x∈a₀->y∈a₀->kindOf st=κ->Q (some<|blt x y) st->wpS (model prog w) A E s (lt' x y) Q st
structure O7(a₀:Rt)(κ:SortKind)(st:SortSt):Prop where
 kind:kindOf st=κ
 fine:failedOf st=none
 perm:(arrOf st).Perm a₀
theorem O7.size(Wh:O7 a₀ κ st):(arrOf st).size=a₀.size:=Wh.perm.size_eq
theorem O7.mem(Wh:O7 a₀ κ st)(h:i<a₀.size):g (arrOf st) i∈a₀:=(Wh.perm.mem_iff).mp (xS<|by rwa[Wh.size])
variable(L:Bh prog w A E s a₀ κ blt)
include L
theorem pq{Q:Option Bool->SortSt->Prop}(Wh:O7 a₀ κ st)(hi:i<a₀.size)(z:j<a₀.size)(h:Q (some<|blt (g (arrOf st) i)<|g (arrOf st) j) st):
  wpS (model prog w) A E s (ltAt' i j) Q st:=by
 rw[ltAt'_eq];refine VE<|Wb ?_;show wpS _ _ _ _ (do let x<-elem' (arrOf st) i;let y<-elem' (arrOf st) j;lt' x y) Q st;rw[elem'_eq,elem'_eq,dH (by rwa[Wh.size]),dH (by rwa[Wh.size])];refine VE<|VH (VE<|VH ?_);exact L _ _ st Q (Wh.mem hi) (Wh.mem z) Wh.kind h
omit L in
theorem Fm{α:Type}{m m':StateT SortSt Sem α}{Q:α->SortSt->Prop}(e:m=m')(h:wpS (model prog w) A E s m' Q st):wpS (model prog w) A E s m Q st:=by rwa[e]
abbrev Oy(lo:Nat)(xs ys:Rt):Prop:=∀k,k<lo->g ys k=g xs k
theorem f9(Wh:O7 a₀ κ st)(z:j<=a₀.size)
  (h:∀st',O7 a₀ κ st'->pendingOf st'=pendingOf st->(∀k,g (arrOf st') k=if i<=k/\k<j then g (arrOf st) (i+j-1-k)else g (arrOf st) k)->Q Unit.unit st'):
  wpS (model prog w) A E s (reverseSlice' i j) Q st:=by
 rw[reverseSlice'_eq];refine W6<|h _ {Wh.kind,Wh.fine,(mirror_perm _ _ _ _).trans Wh.perm} M λk=>?_;exact GM (by rwa[Wh.size]) k
theorem Fk{a:Nat}{f:Nat->Option γ×Nat->StateT SortSt Sem (ForInStep<|Option γ×Nat)}{Q:Option γ×Nat->SortSt->Prop}(C:PF blt)(Wh:O7 a₀ κ st)(ha:1<=a)(O:a<=nrem)(hz:lo+nrem<=a₀.size)(hs:On blt (arrOf st) lo (lo+a))
  (hf:∀(i n:Nat)(R:ForInStep (Option γ×Nat)->SortSt->Prop),n<nrem->1<=n->(blt (g (arrOf st)<|lo+n) (g (arrOf st)<|lo+n-1)=true->R (.done (none,n)) st)->(blt (g (arrOf st)<|lo+n) (g (arrOf st)<|lo+n-1)=false->R (.yield (none,n+1)) st)->wpS (model prog w) A E s (f i (none,n)) R st)
  (h:∀n,a<=n->n<=nrem->On blt (arrOf st) lo (lo+n)->(n<nrem->blt (g (arrOf st)<|lo+n) (g (arrOf st)<|lo+n-1)=true)->Q (none,n) st):
  wpS (model prog w) A E s (forIn [a:nrem] (none,a) f) Q st:=by
 refine VX (I:=λi c st'=>st'=st/\c=(none,i)/\a<=i/\i<=nrem/\On blt (arrOf st) lo (lo+i)) ?_ ?_ {M,M,Q4 _,O,hs}
 .rintro i c st' h1 h2 ⟨rfl,rfl,Y,Z,U⟩;refine hf i i _ h2 () (λe=>?_)<|λe=>?_
  .exact h i Y Z U λ_=>e
  .exact{M,M,(),(),U.snoc C () e}
 .rintro c st' ⟨rfl,rfl,Y,Z,U⟩;have e:max a nrem=nrem:=QP O;rw[e]at U⊢;exact h nrem O (Q4 _) U λz=>VG z (ZD _)
omit L in
theorem qQ{b:Nat}(hb:lo<=b)(h:Off blt xs lo e)(o:On blt xs b e)(hy:∀k,g ys k=if b<=k/\k<e then g xs (b+e-1-k)else g xs k):Off blt ys lo e:=λi j h1 h2 z=>by
 rw[hy i,hy j];by_cases jb:b<=j
 .rw[VB ⟨jb,z⟩];by_cases I:b<=i
  .rw[VB {I,()}];exact o _ _ () () ()
  .rw[VA ()];exact h _ _ h1 () ()
 .rw[VA (),VA ()];exact h i j h1 h2 z
omit L in
theorem LP(h:Off blt xs lo e)(hy:∀k,g ys k=if lo<=k/\k<e then g xs (lo+e-1-k)else g xs k):On blt ys lo e:=λi j h1 h2 z=>by
 rw[hy i,hy j,VB {h1,()},VB {(),z}];exact h _ _ () () ()
omit L in
theorem IU(h:On blt xs lo e)(hy:∀k,g ys k=if lo<=k/\k<e then g xs (lo+e-1-k)else g xs k):Off blt ys lo e:=λi j h1 h2 z=>by
 rw[hy i,hy j,VB (show lo<=j/\j<e by lia),VB (show lo<=i/\i<e by lia)];exact h _ _ () () ()
noncomputable def Hj(lo:Nat):Nat->Option (Option Nat)×Nat->StateT SortSt Sem (ForInStep<|Option (Option Nat)×Nat):=λ_ __s=>do
 let __x<-ltAt' (lo+__s.snd) (lo+__s.snd-1)
 match __x with
 |some smaller=>if smaller=true then pure (ForInStep.done (none,__s.snd))else pure (ForInStep.yield (none,__s.snd+1))
 |_=>pure (ForInStep.done (some none,__s.snd))
def xD(lo n nrem:Nat):StateT SortSt Sem (Option Nat):=do
 reverseSlice' lo (lo+n)
 let __s<-forIn [n:nrem] (none,n) (Hj lo)
 match __s.fst with
 |some r=>pure r
 |none=>pure (some __s.snd)
noncomputable def Du(lo:Nat):Nat->Option (Option Nat)×Nat×Nat->StateT SortSt Sem (ForInStep<|Option (Option Nat)×Nat×Nat):=λ_ __s=>do
 let __x<-ltAt' (lo+__s.snd.fst) (lo+__s.snd.fst-1)
 match __x with
 |some smaller=>
  if smaller=true then
   if __s.snd.snd>0 then do
    reverseSlice' (lo+__s.snd.fst-(__s.snd.snd+1)) (lo+__s.snd.fst)
    pure (ForInStep.yield (none,__s.snd.fst+1,0))
   else pure (ForInStep.yield (none,__s.snd.fst+1,0))
  else do
   let __x<-ltAt' (lo+__s.snd.fst-1) (lo+__s.snd.fst)
   match __x with
   |some larger=>
    if larger=true then pure (ForInStep.done (none,__s.snd.fst,__s.snd.snd))
    else pure (ForInStep.yield (none,__s.snd.fst+1,__s.snd.snd+1))
   |_=>pure (ForInStep.done (some none,__s.snd.fst,__s.snd.snd))
 |_=>pure (ForInStep.done (some none,__s.snd.fst,__s.snd.snd))
def xZ(lo n nrem:Nat):StateT SortSt Sem (Option Nat):=do
 liftM (rule "list.sort.descending-run")
 let __s<-forIn [n+1:nrem] (none,n+1,0) (Du lo)
 match __s.fst with
 |some r=>pure r
 |none=>
  if __s.snd.snd>0 then do
   reverseSlice' (lo+__s.snd.fst-(__s.snd.snd+1)) (lo+__s.snd.fst)
   xD lo __s.snd.fst nrem
  else xD lo __s.snd.fst nrem
theorem CN{R:ForInStep (Option (Option Nat)×Nat)->SortSt->Prop}(Wh:O7 a₀ κ st)(hz:lo+nrem<=a₀.size)(I:n<nrem)(h1:1<=n)
  (z:blt (g (arrOf st)<|lo+n) (g (arrOf st)<|lo+n-1)=true->R (.done (none,n)) st) (hf:blt (g (arrOf st)<|lo+n) (g (arrOf st)<|lo+n-1)=false->R (.yield (none,n+1)) st):wpS (model prog w) A E s (Hj lo i (none,n)) R st:=by
 unfold Hj;refine VE<|pq L Wh (by dsimp only;lia) (by dsimp only;lia) ?_;dsimp only;cases e:blt (g (arrOf st)<|lo+n) (g (arrOf st)<|lo+n-1)with
 |true=>exact VH<|z e
 |false=>exact VH<|hf e
theorem pj{Q:Option Nat->SortSt->Prop}(C:PF blt)(Wh:O7 a₀ κ st)(h1:1<=n)(z:n<=nrem)(hz:lo+nrem<=a₀.size)(O:Off blt (arrOf st) lo (lo+n))
  (h:∀m st',O7 a₀ κ st'->pendingOf st'=pendingOf st->1<=m->m<=nrem->On blt (arrOf st') lo (lo+m)->Oy lo (arrOf st) (arrOf st')->Q (some m) st'):wpS (model prog w) A E s (xD lo n nrem) Q st:=by
 unfold xD;refine VE<|f9 L Wh () λst' I U hy=>?_;refine VE<|Fk L C I h1 z hz (LP O hy) (λi n R z h1 Y hf=>CN L I (i:=i) hz z h1 Y hf) (λm ha Z hs _=>?_);exact VH<|h m st' I U () Z hs λk hk=>by rw[hy k,VA ()]
theorem zR{Q:Option Nat->SortSt->Prop}(C:PF blt)(Wh:O7 a₀ κ st)(h1:1<=n)(hn:n+1<=nrem)(hz:lo+nrem<=a₀.size)(ho:Off blt (arrOf st) lo (lo+(n+1)))
  (h:∀m st',O7 a₀ κ st'->pendingOf st'=pendingOf st->1<=m->m<=nrem->On blt (arrOf st') lo (lo+m)->Oy lo (arrOf st) (arrOf st')->Q (some m) st'):wpS (model prog w) A E s (xZ lo n nrem) Q st:=by
 unfold xZ;refine VE<|wpS_lift (We {M,?_});refine VE (VX (I:=λi c st'=>∃q,c=(none,i,q)/\O7 a₀ κ st'/\pendingOf st'=pendingOf st/\Oy lo (arrOf st) (arrOf st')/\n+1<=i/\i<=nrem/\q+1<=i/\Off blt (arrOf st') lo (lo+i)/\On blt (arrOf st') (lo+i-(q+1)) (lo+i)) ?_ ?_
  {0,M,Wh,M,λ_ _=>M,Q4 _,hn,(),ho,λi j a b c=>()})
 .rintro i c st' a3 a4 ⟨q,rfl,B',hp,hk,h2,h3,h4,U,on⟩;unfold Du;refine VE<|pq L B' (by dsimp only;lia) (by dsimp only;lia) ?_;dsimp only;cases e:blt (g (arrOf st')<|lo+i) (g (arrOf st')<|lo+i-1)with
  |true=>
   by_cases q0:q>0
   .rw[VB M,VB q0];refine VE<|f9 L B' () λst2 B2 a0 hy=>?_;refine VH {0,M,B2,a0.trans hp,λk O=>by rw[hy k,VA ()];exact hk k O,(),(),(),?_,λi j a b c=>()};refine(qQ () U on hy).snoc C () ?_;rw[hy,hy,VA (),VB ()];have z:lo+i-(q+1)+(lo+i)-1-(lo+i-1)=lo+i-(q+1):=();rw[z];exact C.trans (C.of_lt e)<|U _ _ () () ()
   .rw[VB M,VA q0];exact VH {0,M,B',hp,hk,(),(),(),U.snoc C ()<|C.of_lt e,λi j a b c=>()}
  |false=>
   simp only[Z6,if_false];refine VE<|pq L B' () () ?_;dsimp only;cases e2:blt (g (arrOf st')<|lo+i-1) (g (arrOf st')<|lo+i)with
   |true=>
    simp only[if_true];refine VH ?_;dsimp only;by_cases q0:q>0
    .rw[VB q0];refine VE<|f9 L B' () λst2 B2 a0 hy=>?_;refine pj L C B2 () h3 hz (qQ () U on hy) λm Y B3 Z a b c d=>h m Y B3 (Z.trans<|a0.trans hp) a b c λk O=>?_;rw[d k O,hy k,VA ()];exact hk k O
    .rw[VA q0];exact pj L C B' () h3 hz U λm Y B3 Z a b c d=>h m Y B3 (Z.trans hp) a b c λk O=>(d k O).trans (hk k O)
   |false=>
    simp only[Z6,if_false];refine VH {q+1,M,B',hp,hk,(),(),(),U.snoc C () e2,?_};have z:lo+(i+1)-(q+1+1)=lo+i-(q+1):=();rw[z];intro x y hx hy a5;by_cases a1:y<lo+i
    .exact on x y hx hy a1
    .have ey:y=lo+i:=();subst ey;by_cases a2:x=lo+i-1
     .subst a2;exact e
     .exact C.trans (on x (lo+i-1) hx () ()) e
 .rintro c st' ⟨q,rfl,B',hp,hk,h2,h3,h4,U,on⟩;have em:max (n+1) nrem=nrem:=QP hn;rw[em]at h3 h4 U on⊢;dsimp only;by_cases q0:q>0
  .rw[VB q0];refine VE<|f9 L B' () λst2 B2 a0 hy=>?_;refine pj L C B2 () h3 hz (qQ () U on hy) λm Y B3 Z a b c d=>h m Y B3 (Z.trans<|a0.trans hp) a b c λk O=>?_;rw[d k O,hy k,VA ()];exact hk k O
  .rw[VA q0];exact pj L C B' () h3 hz U λm Y B3 Z a b c d=>h m Y B3 (Z.trans hp) a b c λk O=>(d k O).trans (hk k O)
theorem Fj{Q:Option Nat->SortSt->Prop}(C:PF blt)(Wh:O7 a₀ κ st)(h1:1<=nrem)(hz:lo+nrem<=a₀.size)
  (h:∀n st',O7 a₀ κ st'->pendingOf st'=pendingOf st->1<=n->n<=nrem->On blt (arrOf st') lo (lo+n)->Oy lo (arrOf st) (arrOf st')->Q (some n) st'):wpS (model prog w) A E s (countRun' lo nrem) Q st:=by
 rw[countRun'_eq];dsimp only;refine VE<|Fk L C Wh (Q4 1) h1 hz On.one (λi n R Y h1 ht hf=>CN L Wh (i:=i) hz Y h1 ht hf) (λn ha Y hs Z=>?_);dsimp only;by_cases en:n=nrem
 .subst en;simp only[Wg,if_true];exact VH<|h n st Wh M ha Y hs λ_ _=>M
 .have eb:(n==nrem)=false:=VQ.mpr en;simp only[eb,Z6,if_false];have I:=Z ();by_cases n1:n>1
  .rw[VB n1];refine VE<|pq L Wh () () ?_;dsimp only;cases e:blt (g (arrOf st) lo) (g (arrOf st)<|lo+n-1)with
   |true=>
    simp only[if_true];exact VH<|h n st Wh M ha Y hs λ_ _=>M
   |false=>
    simp only[Z6,if_false];refine VE<|f9 L Wh () λst2 B2 a0 hy=>?_;have a1:Off blt (arrOf st2) lo (lo+(n+1)):=by
     refine(IU hs hy).snoc C ha ?_;rw[hy,hy,VA (),VB ()];have z:lo+(lo+n)-1-(lo+n-1)=lo:=();rw[z];exact C.trans (C.of_lt I) e
    refine Fm (m':=xZ lo n nrem) (by
      unfold xZ xD Hj Du;congr 1;funext _u;congr 1;funext s2;let{U,n2,q2}:=s2;cases U with
      |some U=>rfl
      |none=>
       dsimp only;split
       .congr 1;funext _v;congr 1;funext _w;congr 1;funext s3;let{O,n3}:=s3;cases O<;>rfl
       .congr 1;funext _w;congr 1;funext s3;let{O,n3}:=s3;cases O<;>rfl)<|zR L C B2 ha () hz a1 λm a2 B3 a3 a b c d=>h m a2 B3 (a3.trans a0) a b c λk hk=>by rw[d k hk,hy k,VA ()]
  .rw[VA n1];have e1:n=1:=();subst e1;refine Fm (m':=xZ lo 1 nrem) (by
      unfold xZ xD Hj Du;congr 1;funext _u;congr 1;funext s2;let{U,n2,q2}:=s2;cases U with
      |some U=>rfl
      |none=>
       dsimp only;split
       .congr 1;funext _v;congr 1;funext _w;congr 1;funext s3;let{O,n3}:=s3;cases O<;>rfl
       .congr 1;funext _w;congr 1;funext s3;let{O,n3}:=s3;cases O<;>rfl) (zR L C Wh ha () hz (Off.one.snoc C (Q4 1)<|C.of_lt I) h)
omit L in
theorem CM{k l:Nat}(Wh:O7 a₀ κ st)(hk:k<a₀.size)(hl:l<=k)
  (h:∀st',O7 a₀ κ st'->pendingOf st'=pendingOf st->(∀j,g (arrOf st') j=if j=l then g (arrOf st) k else if l<j/\j<=k then g (arrOf st) (j-1)else g (arrOf st) j)->Q Unit.unit st'):
  wpS (model prog w) A E s (moveDown' k l) Q st:=by
 rw[moveDown'_eq];refine W6<|h _ {Wh.kind,Wh.fine,(bubble_perm _ _ _).trans Wh.perm} M λj=>?_;have e:=GN (xs:=arrOf st) (src:=k) (d:=k-l) (by rwa[Wh.size]) () j;have z:k-(k-l)=l:=();rw[z]at e;exact e
theorem DK{ok:Nat}{Q:Bool->SortSt->Prop}(C:PF blt)(Wh:O7 a₀ κ st)(h1:1<=ok)(hok:ok<=n)(hz:lo+n<=a₀.size)(hs:On blt (arrOf st) lo (lo+ok))
  (h:∀st',O7 a₀ κ st'->pendingOf st'=pendingOf st->On blt (arrOf st') lo (lo+n)->Oy lo (arrOf st) (arrOf st')->Q true st'):wpS (model prog w) A E s (binarySort' lo n ok) Q st:=by
 rw[binarySort'_eq];dsimp only;have em:max ok 1=ok:=Nat.max_eq_left h1;rw[em];refine VE (VX (I:=λi c st'=>c=(none,Unit.unit)/\O7 a₀ κ st'/\pendingOf st'=pendingOf st/\Oy lo (arrOf st) (arrOf st')/\ok<=i/\i<=n/\On blt (arrOf st') lo (lo+i)) ?_ ?_
  {M,Wh,M,λ_ _=>M,Q4 _,hok,hs})
 .rintro k c st' a6 ac ⟨rfl,Y,hp,hk,h2,h3,on⟩;refine VE (VX (I:=λi c st2=>st2=st'/\∃l r,c=(none,l,r)/\l<=r/\r<=k/\r-l<=k-i/\(∀j,j<l->le blt (g (arrOf st')<|lo+j) (g (arrOf st')<|lo+k))/\(∀j,r<=j->j<k->le blt (g (arrOf st')<|lo+k) (g (arrOf st')<|lo+j))) ?_ ?_
   {M,0,k,M,Qc _,Q4 _,Q4 _,λj hj=>VG hj<|XF _,λj a b=>()})
  .rintro i c st2 af al ⟨rfl,l,r,rfl,a0,a3,hm,z,above⟩;dsimp only;by_cases Z:l>=r
   .rw[VB Z];refine VH ?_;dsimp only;have a4:l=r:=();refine VE<|CM Y () () λa5 B3 O hy=>VH {M,B3,O.trans hp,λq hq=>?_,(),(),?_}
    .rw[hy q,VA (),VA ()];exact hk q hq
    .intro a b ha U hb;rw[hy a,hy b];by_cases b1:b=lo+l
     .rw[VB b1,VA (),VA ()];have:=z (a-lo) ();rwa [show lo+(a-lo)=a by lia]at this
     .rw[VA b1];by_cases b2:lo+l<b/\b<=lo+k
      .rw[VB b2];by_cases a1:a=lo+l
       .rw[VB a1];have:=above (b-1-lo) () ();rwa [show lo+(b-1-lo)=b-1 by lia]at this
       .rw[VA a1];by_cases a2:lo+l<a/\a<=lo+k
        .rw[VB a2];exact on _ _ () () ()
        .rw[VA a2];exact on _ _ () () ()
      .rw[VA b2,VA (),VA ()];exact on _ _ ha U ()
   .rw[VA Z];refine VE<|pq L Y () () ?_;dsimp only;cases e:blt (g (arrOf st2)<|lo+k) (g (arrOf st2)<|lo+(l+r)/2)with
    |true=>
     rw[VB M];refine VH {M,l,(l+r)/2,M,(),(),(),z,λj a b=>?_};by_cases ej:j=(l+r)/2
     .subst ej;exact C.of_lt e
     .exact C.trans (C.of_lt e)<|on _ _ () () ()
    |false=>
     rw[VA (_)];refine VH {M,(l+r)/2+1,r,M,(),(),(),λj a=>?_,above};by_cases ej:j=(l+r)/2
     .subst ej;exact e
     .exact C.trans (on _ _ () () ()) e
  .rintro c st2 ⟨rfl,l,r,rfl,a0,a3,hm,z,above⟩;have ek:max 0 k=k:=QP (Qc _);rw[ek]at hm;have a4:l=r:=();dsimp only;refine VE<|CM Y () () λa5 B3 O hy=>VH {M,B3,O.trans hp,λq hq=>?_,(),(),?_}
   .rw[hy q,VA (),VA ()];exact hk q hq
   .intro a b ha U hb;rw[hy a,hy b];by_cases b1:b=lo+l
    .rw[VB b1,VA (),VA ()];have:=z (a-lo) ();rwa [show lo+(a-lo)=a by lia]at this
    .rw[VA b1];by_cases b2:lo+l<b/\b<=lo+k
     .rw[VB b2];by_cases a1:a=lo+l
      .rw[VB a1];have:=above (b-1-lo) () ();rwa [show lo+(b-1-lo)=b-1 by lia]at this
      .rw[VA a1];by_cases a2:lo+l<a/\a<=lo+k
       .rw[VB a2];exact on _ _ () () ()
       .rw[VA a2];exact on _ _ () () ()
     .rw[VA b2,VA (),VA ()];exact on _ _ ha U ()
 .rintro c st' ⟨rfl,Y,hp,hk,h2,h3,on⟩;have e:max ok n=n:=QP hok;rw[e]at on;exact VH (h st' Y hp on hk)
noncomputable def JE:Bool->Keyed->Array Keyed->Nat->Nat->Nat->StateT SortSt Sem (Option Nat):=sortPriv%PySem.Builtin.gallop
omit L in
theorem xw{f:Nat->Option γ×Nat×Nat->StateT SortSt Sem (ForInStep<|Option γ×Nat×Nat)}{Q:Option γ×Nat×Nat->SortSt->Prop}(O:Nat->Bool)(mono:∀i j,i<=j->j<n->O j=true->O i=true)
  (hf:∀(i lo hi:Nat)(R:ForInStep (Option γ×Nat×Nat)->SortSt->Prop),hi<=n->(lo>=hi->R (.done (none,lo,hi)) st)->(lo<hi->O (lo+(hi-lo)/2)=true->R (.yield (none,lo+(hi-lo)/2+1,hi)) st)->(lo<hi->O (lo+(hi-lo)/2)=false->R (.yield (none,lo,lo+(hi-lo)/2)) st)->wpS (model prog w) A E s (f i (none,lo,hi)) R st)
  (h1:lo<=hi) (h2:hi<=n) (ht:∀i,i<lo->O i=true) (hF:∀i,hi<=i->i<n->O i=false)
  (h:∀k,k<=n->(∀i,i<k->O i=true)->(∀i,k<=i->i<n->O i=false)->Q (none,k,k) st):wpS (model prog w) A E s (forIn [0:n] (none,lo,hi) f) Q st:=by
 refine VX (I:=λi c st'=>st'=st/\∃lo hi,c=(none,lo,hi)/\lo<=hi/\hi<=n/\hi-lo<=n-i/\(∀i,i<lo->O i=true)/\(∀i,hi<=i->i<n->O i=false)) ?_ ?_
  {M,lo,hi,M,h1,h2,(),ht,hF}
 .rintro i c st' a0 a1 ⟨rfl,lo,hi,rfl,g1,U,g3,Y,Z⟩;refine hf i lo hi _ U (λz=>?_) (λz e=>?_)<|λz e=>?_
  .have e:lo=hi:=();subst e;exact h lo U Y Z
  .exact{M,_,_,M,(),U,(),λj hj=>mono j _ () () e,Z}
  .refine{M,_,_,M,(),(),(),Y,λj a b=>?_};cases q:O j with
   |false=>rfl
   |true=>rw[mono _ j a b q]at e;cases e
 .rintro c st' ⟨rfl,lo,hi,rfl,g1,U,g3,Y,Z⟩;have em:max 0 n=n:=QP (Qc _);rw[em]at g3;have e:lo=hi:=();subst e;exact h lo U Y Z
theorem fX{left:Bool}{key:Keyed}{arr:Rt}{base hint:Nat}{Q:Option Nat->SortSt->Prop}(hK:kindOf st=κ)(hk:key∈a₀)(ha:∀i,i<n->base+i<arr.size/\g arr (base+i)∈a₀)(hh:hint<n)
  (Y:Nat->Bool) (a6:∀i,i<n->Y i=if left=true then blt (g arr<|base+i) key else !blt key (g arr<|base+i)) (mono:∀i j,i<=j->j<n->Y j=true->Y i=true)
  (h:∀k,k<=n->(∀i,i<k->Y i=true)->(∀i,k<=i->i<n->Y i=false)->Q (some k) st):wpS (model prog w) A E s (JE left key arr base n hint) Q st:=by
 have a0:∀(i:Nat)(R:Option Bool->SortSt->Prop),i<n->R (some<|Y i) st->wpS (model prog w) A E s (elem' arr (base+i)>>=λx=>if left=true then lt' x key else lt' key x>>=λr=>pure<|r.map λx=>!x) R st:=by
  intro i R hi q;let{h1,h2}:=ha i hi;rw[elem'_eq,dH h1];refine VE<|VH ?_;have e:=a6 i hi;cases left with
  |true=>
   rw[VB M]at e⊢;exact L _ _ st R h2 hk hK<|by rw[<-e];exact q
  |false=>
   rw[VA (_)]at e⊢;refine VE<|L _ _ st _ hk h2 hK (VH ?_);show R (some<|!blt key (g arr<|base+i)) st;rw[<-e];exact q
 refine VE ?_;dsimp only;refine a0 hint _ hh ?_;dsimp only;cases e0:Y hint with
 |true=>
  rw[VB M];refine VE (Wa (VX (I:=λi c st'=>st'=st/\∃U O,c=(none,U,O)/\U<O/\i+1<=O/\hint+U<n/\Y (hint+U)=true)
   (Q:=λc st'=>st'=st/\∃U O,c=(none,U,O)/\U<O/\hint+U<n/\Y (hint+U)=true/\(n-hint<=O\/(hint+O<n/\Y (hint+O)=false))) ?_ ?_ {M,0,1,M,(),(),(),e0}) ?_)
  .rintro i c st' ac af ⟨rfl,U,O,rfl,a1,a2,a3,Z⟩;dsimp only;by_cases z:O>=n-hint
   .rw[VB z];exact VH {M,U,O,M,a1,a3,Z,.inl z}
   .rw[VA z];refine VE<|a0 (hint+O) _ () ?_;dsimp only;cases e:Y (hint+O)with
    |false=>
     rw[VB (_)];exact VH {M,U,O,M,a1,a3,Z,.inr {(),e}}
    |true=>
     rw[VA (_)];exact VH {M,O,2*O+1,M,(),(),(),e}
  .rintro c st' ⟨rfl,U,O,rfl,a1,a2,a3,Z⟩;have em:max 0 n=n:=QP (Qc _);rw[em]at a2;exact{M,U,O,M,a1,a3,Z,.inl ()}
  .rintro c st' ⟨rfl,U,O,rfl,a1,a3,Z,a5⟩;dsimp only;refine VE<|xw Y mono (λi lo hi R hn c1 c2 c3=>?_) () () (λi hi=>mono i (hint+U) () a3 Z) (λi h1 h2=>?_) λk h1 h2 h3=>?_
   .dsimp only;by_cases z:lo>=hi
    .rw[VB z];exact VH<|c1 z
    .rw[VA z];refine VE<|a0 _ _ () ?_;dsimp only;cases e:Y (lo+(hi-lo)/2)with
     |true=>rw[VB M];exact VH<|c2 () e
     |false=>rw[VA (_)];exact VH<|c3 () e
   .rcases a5 with z|⟨z1,z2⟩
    .lia
    .cases q:Y i with
     |false=>rfl
     |true=>rw[mono (hint+O) i () h2 q]at z2;cases z2
   .exact VH<|h k h1 h2 h3
 |false=>
  rw[VA (_)];refine VE (Wa (VX (I:=λi c st'=>st'=st/\∃U O,c=(none,U,O)/\U<O/\i+1<=O/\U<=hint/\Y (hint-U)=false)
   (Q:=λc st'=>st'=st/\∃U O,c=(none,U,O)/\U<O/\U<=hint/\Y (hint-U)=false/\(hint+1<=O\/(O<=hint/\Y (hint-O)=true))) ?_ ?_ {M,0,1,M,(),(),(),e0}) ?_)
  .rintro i c st' ac af ⟨rfl,U,O,rfl,a1,a2,a3,Z⟩;dsimp only;by_cases z:O>=hint+1
   .rw[VB z];exact VH {M,U,O,M,a1,a3,Z,.inl z}
   .rw[VA z];refine VE<|a0 (hint-O) _ () ?_;dsimp only;cases e:Y (hint-O)with
    |true=>
     rw[VB M];exact VH {M,U,O,M,a1,a3,Z,.inr {(),e}}
    |false=>
     rw[VA (_)];exact VH {M,O,2*O+1,M,(),(),(),e}
  .rintro c st' ⟨rfl,U,O,rfl,a1,a2,a3,Z⟩;have em:max 0 n=n:=QP (Qc _);rw[em]at a2;exact{M,U,O,M,a1,a3,Z,.inl ()}
  .rintro c st' ⟨rfl,U,O,rfl,a1,a3,Z,a5⟩;dsimp only;refine VE<|xw Y mono (λi lo hi R hn c1 c2 c3=>?_) () () (λi hi=>?_) (λi h1 h2=>?_) λk h1 h2 h3=>?_
   .dsimp only;by_cases z:lo>=hi
    .rw[VB z];exact VH<|c1 z
    .rw[VA z];refine VE<|a0 _ _ () ?_;dsimp only;cases e:Y (lo+(hi-lo)/2)with
     |true=>rw[VB M];exact VH<|c2 () e
     |false=>rw[VA (_)];exact VH<|c3 () e
   .rcases a5 with z|⟨z1,z2⟩
    .lia
    .exact mono i (hint-O) () () z2
   .cases q:Y i with
    |false=>rfl
    |true=>rw[mono (hint-U) i () h2 q]at Z;cases Z
   .exact VH<|h k h1 h2 h3
end
abbrev _root_.Sf:=List Keyed
variable{A:RU}{a₀:Rt}{x:Keyed}{blt:RZ}{R:Keyed->SortSt->Prop}{all o ra rb:Sf}{i n:Nat}{prog:Rv}{Wh:Prop}{s:Rm}{κ:SortKind}{st:SortSt}{r:Std.Legacy.Range}{α β:Type}{Q:Unit->SortSt->Prop}{E:RS}{w:Ru}
noncomputable def Gi:Array Keyed->Array Keyed->StateT SortSt Sem (Array Keyed):=sortPriv%PySem.Builtin.mergeLo
noncomputable def Gj:Array Keyed->Array Keyed->StateT SortSt Sem (Array Keyed):=sortPriv%PySem.Builtin.mergeHi
abbrev PW(blt:RZ)(l:Sf):Prop:=l.Pairwise (le blt)
structure Lo(blt:RZ)(all o ra rb:Sf):Prop where
 perm:(o++(ra++rb)).Perm all
 srt:PW blt o
 low:∀x∈o,∀y∈ra++rb,le blt x y
theorem Lo.a{I:Sf}(h:Lo blt all o (I++ra) rb)(hs:PW blt (I++ra))(hc:∀x∈I,∀y∈rb,le blt x y):Lo blt all (o++I) ra rb where
 perm:=by
  refine W5 ?_ h.perm;rw[Ql,Ql]
 srt:=Qj.mpr {h.srt,(Qj.mp hs).1,λx hx y hy=>h.low x hx y<|by simp[hy]}
 low:=λx hx y hy=>by
  rcases Q5.mp hx with q|q
  .exact h.low x q y<|by rcases Q5.mp hy with z|z<;>simp[z]
  .rcases Q5.mp hy with z|z
   .exact(Qj.mp hs).2.2 x q y z
   .exact hc x q y z
theorem Lo.b{I:Sf}(h:Lo blt all o ra (I++rb))(hs:PW blt (I++rb))(hc:∀x∈I,∀y∈ra,le blt x y):Lo blt all (o++I) ra rb where
 perm:=by
  refine W5 ?_ h.perm;rw[Ql];refine W9 o ?_;rw[<-Ql,<-Ql];exact W4 rb X4
 srt:=Qj.mpr {h.srt,(Qj.mp hs).1,λx hx y hy=>h.low x hx y<|by simp[hy]}
 low:=λx hx y hy=>by
  rcases Q5.mp hx with q|q
  .exact h.low x q y<|by rcases Q5.mp hy with z|z<;>simp[z]
  .rcases Q5.mp hy with z|z
   .exact hc x q y z
   .exact(Qj.mp hs).2.2 x q y z
theorem Lo.endA(h:Lo blt all o ra [])(hs:PW blt ra):(o++ra).Perm all/\PW blt (o++ra):=
 {by simpa using h.perm,Qj.mpr {h.srt,hs,λx hx y hy=>h.low x hx y<|by simp[hy]}}
theorem Lo.endB{z:Keyed}(h:Lo blt all o [z] rb)(hs:PW blt rb)(hz:∀x∈rb,le blt x z):(o++(rb++ [z])).Perm all/\PW blt (o++(rb++ [z])):=by
 refine{W5 (W9 o X4) h.perm,Qj.mpr {h.srt,Qj.mpr {hs,Zh _ _,λx hx y hy=>?_},λx hx y hy=>h.low x hx y ?_}}
 .rw[Q9.mp hy];exact hz x hx
 .rcases Q5.mp hy with q|q<;>simp_all
theorem vd{a:Rt}(h:i<a.size):a.toList.drop i=g a i::a.toList.drop (i+1):=by
 have e:=dH h;rw[<-QA]at e;let{h1,h2}:=Q2.mp e;rw[Z2 h1,h2]
theorem jR{a:Rt}(h:x∈a.toList.drop i):∃j,i<=j/\j<a.size/\x=g a j:=by
 let{k,hk,e}:=X9.mp h;rw[Qz]at hk;have hs:i+k<a.size:=by rw[<-Qd];lia
 refine{i+k,(),hs,?_};have e2:=dH hs;rw[<-QA]at e2;rw[ZZ]at e;rw[Q3 (by rwa[Qd])]at e2;rw[<-e];exact VL e2
theorem gi{a:Rt}(h:On blt a 0 a.size)(i:Nat):PW blt (a.toList.drop i):=by
 refine Zb.mpr λj k I hk O=>?_;rw[Qz,Qd]at I hk;have z:=dH (xs:=a) (i:=i+j) ();have e2:=dH (xs:=a) (i:=i+k) ();rw[<-QA,Q3 (by rw[Qd];lia)]at z e2;rw[ZZ,ZZ,VL z,VL e2];exact h _ _ (Qc _) () ()
theorem FZ{a:Rt}(h:PW blt a.toList):On blt a 0 a.size:=λi j _ z O=>by
 have I:=dH (xs:=a) (i:=i) ();have e2:=dH (xs:=a) (i:=j) O;rw[<-QA,Q3 (by rw[Qd];lia)]at I e2;rw[<-VL I,<-VL e2];exact Zb.mp h i j _ _ z
theorem p6(a:Rt)(i k:Nat):(a.extract i<|i+k).toList=(a.toList.drop i).take k:=by
 rw[Ze,Z3];congr 1;lia
theorem fY(a:Rt)(i:Nat):(a.extract i).toList=a.toList.drop i:=by
 rw[Ze,Z3,Qs];rw[Qz,Qd];exact Q4 _
theorem Gk{a:Rt}{k:Nat}(h:x∈(a.toList.drop i).take k):∃j,j<k/\x=g a (i+j):=by
 let{j,z,e}:=X9.mp h;rw[Qe,Qz,Qd]at z;refine{j,(),?_};have e2:=dH (xs:=a) (i:=i+j) ();rw[<-QA,Q3 (by rw[Qd];lia)]at e2;rw[X0,ZZ]at e;rw[<-e];exact VL e2
theorem AT(l:Sf)(i k:Nat):l.drop i=(l.drop i).take k++l.drop (i+k):=by
 rw[<-Vt,QB]
theorem Dm{P H:α->Prop}(body:(∀x,H x->P x)->Wh)(last:∀x,H x->P x):Wh:=body last
theorem pS{P H:α->β->Prop}(body:(∀x y,H x y->P x y)->Wh)(last:∀x y,H x y->P x y):Wh:=body last
structure OF(st st':SortSt):Prop where
 kind:kindOf st'=kindOf st
 arr:arrOf st'=arrOf st
 pend:pendingOf st'=pendingOf st
 fail:failedOf st'=failedOf st
theorem OF.refl(st:SortSt):OF st st:=⟨M,M,M,M⟩
section
theorem bJ{arr:Rt}(h:i<arr.size)(q:R (g arr i) st):wpS (model prog w) A E s (elem' arr i) R st:=by
 rw[elem'_eq,dH h];exact VH q
noncomputable def BJ:Nat->StateT SortSt Sem Unit:=sortPriv%PySem.Builtin.setMinGallop
theorem Fi{m:Nat}(h:∀st',OF st st'->Q Unit.unit st'):wpS (model prog w) A E s (BJ m) Q st:=W6 (h _ ⟨M,M,M,M⟩)
theorem nmK{m:StateT SortSt Sem α}{k:α->StateT SortSt Sem β}{Q:β->SortSt->Prop}(h:let k':=k;wpS (model prog w) A E s (m>>=k') Q st):wpS (model prog w) A E s (m>>=k) Q st:=h
theorem nmF{γ:Type}{c:β}{f:Nat->β->StateT SortSt Sem (ForInStep β)}{k:β->StateT SortSt Sem γ}{Q:γ->SortSt->Prop}(h:let z:=f;let k':=k;wpS (model prog w) A E s (forIn r c z>>=k') Q st):wpS (model prog w) A E s (forIn r c f>>=k) Q st:=h
inductive MQ{δ:Type}(Q:Array Keyed->Prop)(I:Option (Array Keyed)×δ->Prop):Option (Array Keyed)×δ->Prop
 |ret{res x}(q:Q res):MQ Q I (some res,x)
 |go{c}(h:I c):MQ Q I c
inductive RP(blt:RZ)(a b:Rt){τ:Type}(n:Nat):Option (Array Keyed)×Array Keyed×Nat×Nat×τ->Prop
 |mk{out ia ib x}(ha:ia+1<a.size)(hb:ib<b.size)(hn:n<=ia+ib)(lo:Lo blt (a.toList++b.toList) out.toList (a.toList.drop ia) (b.toList.drop ib)):RP blt a b n (none,out,ia,ib,x)
theorem OF.trans{st' st2:SortSt}(h:OF st st')(k:OF st' st2):OF st st2:={k.kind.trans h.kind,k.arr.trans h.arr,k.pend.trans h.pend,k.fail.trans h.fail}
theorem Gf{a:Rt}(C:PF blt)(I:On blt a 0 a.size)(ka:Nat)(x:Keyed)(i j:Nat)(h1:i<=j)(h2:ka+j<a.size)(z:(!blt x (g a<|ka+j))=true):(!blt x (g a<|ka+i))=true:=by
 have z:blt x (g a<|ka+j)=false:=by simpa using z
 by_cases e:i=j
 .subst e;simpa using z
 .have:=C.trans (I (ka+i) (ka+j) (Qc _) () h2) z;simpa using this
theorem Ge{b:Rt}(C:PF blt)(ob:On blt b 0 b.size)(I:Nat)(x:Keyed)(i j:Nat)(h1:i<=j)(h2:I+j<b.size)(O:blt (g b<|I+j) x=true):blt (g b<|I+i) x=true:=by
 by_cases e:i=j
 .subst e;exact O
 .have q:=ob (I+i) (I+j) (Qc _) () h2;cases z:blt (g b<|I+i) x with
  |true=>rfl
  |false=>
   have f:blt (g b<|I+j) x=false:=C.trans z q;rw[O]at f;cases f
variable(L:Bh prog w A E s a₀ κ blt)
include L
theorem Bu{a b:Rt}{Q:Array Keyed->SortSt->Prop}(C:PF blt)(hK:kindOf st=κ)(hm:∀x,x∈a.toList++b.toList->x∈a₀)(oa:On blt a 0 a.size)(ob:On blt b 0 b.size)(ha:0<a.size)(hb:0<b.size)
  (a6:blt (g b 0) (g a 0)=true) (ap:∀j,j<b.size->blt (g b j) (g a<|a.size-1)=true)
  (h:∀res st',OF st st'->res.toList.Perm (a.toList++b.toList)->PW blt res.toList->Q res st'):wpS (model prog w) A E s (Gi a b) Q st:=by
 have ma:∀i,i<a.size->g a i∈a₀:=λi hi=>hm _ (by have:=xS hi;simp[this]);have mb:∀i,i<b.size->g b i∈a₀:=λi hi=>hm _ (by have:=xS hi;simp[this]);have b2:∀(o:Sf)(O:Nat)(st':SortSt)(res:Rt),OF st st'->Lo blt (a.toList++b.toList) o (a.toList.drop O) []->res.toList=o++a.toList.drop O->Q res st':=λo O st' res lk lo e=>by
  let{p1,p2}:=lo.endA (gi oa O);exact h res st' lk (by rwa[e])<|by rwa[e]
 have b3:∀(o:Sf)(U:Nat)(st':SortSt)(res:Rt),OF st st'->Lo blt (a.toList++b.toList) o (a.toList.drop<|a.size-1) (b.toList.drop U)->res.toList=o++(b.toList.drop U++a.toList.drop (a.size-1))->Q res st':=λo U st' res lk lo e=>by
  have ez:a.toList.drop (a.size-1)=[g a (a.size-1)]:=by
   rw[vd (),Zl (by rw[Qd];lia)]
  rw[ez]at lo e;let{p1,p2}:=lo.endB (gi ob U) (λx hx=>by
   let{j,_,hj,rfl}:=jR hx;exact C.of_lt<|ap j hj)
  exact h res st' lk (by rwa[e])<|by rwa[e]
 have ac:∀(out:Rt)(O U k:Nat),Lo blt (a.toList++b.toList) out.toList (a.toList.drop O) (b.toList.drop U)->(∀i,i<k->blt (g b U) (g a<|O+i)=false)->
   Lo blt (a.toList++b.toList) (out++a.extract O (O+k)).toList (a.toList.drop<|O+k) (b.toList.drop U):=λout O U k lo hk=>by
  rw[QF,p6];have pa:=gi oa O;rw[AT a.toList O k]at lo pa;refine lo.a pa λx hx y hy=>?_;let{i,hi,rfl}:=Gk hx;let{j,be,bj,rfl}:=jR hy;rcases Nat.eq_or_lt_of_le be with ej|ej
  .rw[<-ej];exact hk i hi
  .exact C.trans (hk i hi)<|ob U j (Qc _) ej bj
 have af:∀(out:Rt)(O U k:Nat),Lo blt (a.toList++b.toList) out.toList (a.toList.drop O) (b.toList.drop U)->(∀i,i<k->blt (g b<|U+i) (g a O)=true)->
   Lo blt (a.toList++b.toList) (out++b.extract U (U+k)).toList (a.toList.drop O) (b.toList.drop<|U+k):=λout O U k lo hk=>by
  rw[QF,p6];have pb:=gi ob U;rw[AT b.toList U k]at lo pb;refine lo.b pb λx hx y hy=>?_;let{i,hi,rfl}:=Gk hx;let{j,be,bj,rfl}:=jR hy;have l1:=C.of_lt (hk i hi);rcases Nat.eq_or_lt_of_le be with ej|ej
  .rwa[<-ej]
  .exact C.trans l1<|oa O j (Qc _) ej bj
 have one:∀(x:Rt)(i:Nat),i<x.size->(x.extract i<|i+1)= #[g x i]:=λx i hi=>by
  apply Array.ext';rw[p6,vd hi];rfl
 have b4:∀(out:Rt)(O U:Nat),O<a.size->U<b.size->Lo blt (a.toList++b.toList) out.toList (a.toList.drop O) (b.toList.drop U)->blt (g b U) (g a O)=true->
   Lo blt (a.toList++b.toList) (out.push<|g b U).toList (a.toList.drop O) (b.toList.drop<|U+1):=λout O U h1 h2 lo hk=>by
  have:=af out O U 1 lo λi hi=>by rwa[Nat.lt_one_iff.mp hi]
  rwa [one b U h2,<-Xa]at this
 have b5:∀(out:Rt)(O U:Nat),O<a.size->U<b.size->Lo blt (a.toList++b.toList) out.toList (a.toList.drop O) (b.toList.drop U)->blt (g b U) (g a O)=false->
   Lo blt (a.toList++b.toList) (out.push<|g a O).toList (a.toList.drop<|O+1) (b.toList.drop U):=λout O U h1 h2 lo hk=>by
  have:=ac out O U 1 lo λi hi=>by rwa[Nat.lt_one_iff.mp hi]
  rwa [one a O h1,<-Xa]at this
 have endA:∀(out:Rt)(O U:Nat)(st':SortSt),OF st st'->b.size<=U->Lo blt (a.toList++b.toList) out.toList (a.toList.drop O) (b.toList.drop U)->Q (out++a.extract O++b.extract U) st':=λout O U st' lk hb lo=>by
  have en:b.toList.drop U=[]:=Zl (by rwa[Qd]);rw[en]at lo;refine b2 _ O st' _ lk lo ?_;rw[QF,QF,fY,fY,en,ZC]
 have endB:∀(out:Rt)(O U:Nat)(st':SortSt),OF st st'->O+1=a.size->Lo blt (a.toList++b.toList) out.toList (a.toList.drop O) (b.toList.drop U)->Q (out++b.extract U++a.extract O) st':=λout O U st' lk ha lo=>by
  have en:O=a.size-1:=by rw[<-ha,Nat.add_sub_cancel]
  refine b3 out.toList U st' _ lk (by rwa[<-en]) ?_;rw[QF,QF,fY,fY,<-en,Ql]
 refine VE ?_;dsimp only;refine wpS_lift<|We {M,?_};refine nmK ?_;intro k0;refine VE<|bJ hb ?_;have start:Lo blt (a.toList++b.toList) [g b 0] (a.toList.drop 0) (b.toList.drop 1):=by
  have l0:Lo blt (a.toList++b.toList) [] (a.toList.drop 0) ([g b 0]++b.toList.drop 1):=by
   refine{?_,VY,λx hx=>VG hx Z7};have e:=vd hb;rw[Zf]at e;rw[Zf,List.nil_append,List.singleton_append,<-e]
  have:=l0.b (by have:=gi ob 0;rw[vd hb]at this;exact this) (λx hx y hy=>by
   rw[Q9.mp hx];let{j,_,hj,rfl}:=jR hy;by_cases j0:j=0
   .rw[j0];exact C.of_lt a6
   .exact C.trans (C.of_lt a6)<|oa 0 j (Q4 _) (Xl j0) hj)
  simpa using this
 dsimp only[k0];by_cases b1:1=b.size
 .have eb:(1==b.size)=true:=VP.mpr b1;rw[VB eb];refine VH ?_;have en:b.toList.drop 1=[]:=Zl (by rw[Qd];exact QY b1.symm);rw[en]at start;refine b2 _ 0 st _ (OF.refl _) start ?_;simp[b1]
 .have eb:¬(1==b.size)=true:=by simpa using b1
  rw[VA eb];by_cases a1:0+1=a.size
  .have ea:(0+1==a.size)=true:=VP.mpr a1;rw[VB ea];refine VH ?_;have e0:a.size-1=0:=by rw[<-a1]
   refine b3 [g b 0] 1 st _ (OF.refl _) (by rw[e0];exact start) ?_;rw[e0,QF,QF,fY,fY,Ql]
  .have ea:¬(0+1==a.size)=true:=by simpa using a1
   rw[VA ea];refine nmK ?_;intro k1;refine VE<|Wb ?_;dsimp only[k1];refine nmF ?_;intro f1 k2;refine VE (Wa (VX (I:=λi c st'=>OF st st'/\RP blt a b i c) (Q:=λc st'=>MQ (Q · st') (λ_=>False) c) ?_ ?_ {OF.refl _,QV ha a1,QV hb b1,Qc _,start}) ?_)
   .rintro i c st'- -⟨lk,@⟨out,O,U,mg,c8,hb1,hi,lo⟩⟩;have c9:kindOf st'=κ:=lk.kind.trans hK;dsimp only[f1];refine nmF ?_;intro f2 k3;refine VE (Wa (VX (I:=λ_ c st2=>st2=st'/\RP blt a b i c) (Q:=λc st2=>st2=st'/\MQ (Q · st') (RP blt a b i) c) ?_ (λc st2 h=>{h.1,.go h.2}) ⟨M,c8,hb1,hi,lo⟩) ?_)
    .rintro j c st2- -⟨rfl,@⟨out,ja,jb,x,al,a0,Y,lo⟩⟩;dsimp only[f2];have b8:=V2 al;refine VE<|bJ a0 (VE<|bJ b8<|VE<|L _ _ _ _ (mb jb a0) (ma ja b8) c9 ?_);dsimp only;cases e:blt (g b jb) (g a ja)with
     |true=>
      rw[VB M];have a3:=b4 out ja jb b8 a0 lo e;refine VE<|bJ a0 ?_;by_cases z:jb+1=b.size
      .rw[VB (VP.mpr z)];exact VH {M,.ret<|endA _ ja (jb+1) _ lk (QY z.symm) a3}
      .rw[VA (by simpa using z)];have hz:jb+1<b.size:=QV a0 z;have Y:=Nat.le_succ_of_le Y;split
       .exact VH {M,.go ⟨al,hz,Y,a3⟩}
       .exact VH ⟨M,al,hz,Y,a3⟩
     |false=>
      rw[VA (_)];have a3:=b5 out ja jb b8 a0 lo e;refine VE<|bJ b8 ?_;by_cases z:ja+1+1=a.size
      .rw[VB (VP.mpr z)];exact VH {M,.ret<|endB _ (ja+1) jb _ lk z a3}
      .rw[VA (by simpa using z)];have hz:ja+1+1<a.size:=QV al z;have Y:i<=ja+1+jb:=by rw[Nat.add_right_comm];exact Nat.le_succ_of_le Y
       split
       .exact VH {M,.go ⟨hz,a0,Y,a3⟩}
       .exact VH ⟨M,hz,a0,Y,a3⟩
    .rintro c st2 ⟨rfl,⟨q⟩| @⟨_,@⟨out,ja,jb,x,al,a0,Y,lo⟩⟩⟩
     .exact VH<|.ret q
     .dsimp only[k3];refine nmK ?_;intro k5;refine VE<|wpS_lift (We {M,?_});dsimp only[k5];refine nmF ?_;intro f3 k6;refine VE (Wa (VX (I:=λj c a4=>OF st a4/\RP blt a b (i+j) c) (Q:=λc a4=>OF st a4/\MQ (Q · a4) (RP blt a b<|i+1) c) ?_ ?_ ⟨lk,al,a0,Y,lo⟩) ?_)
      .rintro j c a4- -⟨a5,@⟨out,ka,Z,⟨m',x⟩,bb,a2,Y,lo⟩⟩;dsimp only[f3];apply Dm (α:=Nat) (H:=λ_=>True)
       .intro key;by_cases m1:m'>1
        .rw[VB m1];generalize m'-1=mm;exact key mm trivial
        .rw[VA m1];exact key m' trivial
       intro mm _;refine nmK ?_;intro k7;refine VE<|Fi λca lk4=>?_;replace lk4:=a5.trans lk4;have c0:kindOf ca=κ:=lk4.kind.trans hK;dsimp only[k7];refine nmK ?_;intro k8;refine VE<|bJ a2 ?_;refine nmK ?_;intro k9;have cb:=V2 bb;refine VE<|fX L c0 (mb Z a2) (λi hi=>{Zc hi,ma _<|Zc hi}) (V3 cb) (λi=>!blt (g b Z) (g a<|ka+i)) (λi hi=>M) (λi j h1 h2 h3=>Gf C oa ka _ i j h1 (Zc h2) h3) λk cc bl c3=>?_;have c4:k<a.size-ka:=by
        rcases V4 k (a.size-ka)with z|z
        .exact z
        .have f:=bl (a.size-1-ka) ();rw[show ka+(a.size-1-ka)=a.size-1 by lia,ap Z a2]at f;cases f
       have c5:∀i,i<k->blt (g b Z) (g a<|ka+i)=false:=λi hi=>by have:=bl i hi;simpa using this
       have bw:blt (g b Z) (g a<|ka+k)=true:=by have:=c3 k (Q4 _) c4;simpa using this
       clear cc bl c3;dsimp only[k9];apply pS (H:=λ(kc:Nat)(o':Array Keyed)=>ka<=kc/\kc+1<a.size/\Lo blt (a.toList++b.toList) o'.toList (a.toList.drop kc) (b.toList.drop Z)/\blt (g b Z) (g a kc)=true)
       .intro key;by_cases k0:k>0
        .rw[VB k0];have lo1:=ac out ka Z k lo c5;by_cases z:ka+k+1=a.size
         .rw[VB (VP.mpr z)];exact VH {lk4,.ret<|endB _ (ka+k) Z _ lk4 z lo1}
         have kk:=Zc c4;have zz:¬ka+k=a.size:=QH kk;rw[VA (by simpa using z),VA (by simpa using zz)];have k5:ka<=ka+k/\ka+k+1<a.size:={Nat.le_add_right _ _,QV kk z};have bv:=bw;generalize out++a.extract ka (ka+k)=o' at lo1⊢;generalize ka+k=kc at lo1 bv k5⊢;exact key kc o' ⟨k5.1,k5.2,lo1,bv⟩
        .rw[VA k0];have bv:=bw;rw[Nat.eq_zero_of_not_pos k0,ZY]at bv;exact key ka out {Q4 _,bb,lo,bv}
       intro kc o' hc;let{c1,c2,lo1,bw}:=hc;refine nmK ?_;intro cg;refine VE<|bJ a2 ?_;have ba:=V2 c2;have bo:=b4 _ kc Z ba a2 lo1 bw;dsimp only[cg];by_cases z2:Z+1=b.size
       .rw[VB (VP.mpr z2)];exact VH {lk4,.ret<|endA _ kc (Z+1) _ lk4 (QY z2.symm) bo}
       rw[VA (by simpa using z2)];refine nmK ?_;intro cj;refine VE<|bJ ba ?_;refine nmK ?_;intro ci;have bt:Z+1<b.size:=QV a2 z2;refine VE<|fX L c0 (ma _ ba) (λi hi=>{Zc hi,mb _<|Zc hi}) (V3 bt) (λi=>blt (g b<|Z+1+i)<|g a kc) (λi hi=>M) (λi j h1 h2 h3=>Ge C ob (Z+1) _ i j h1 (Zc h2) h3) λk2 h1 h2 h3=>?_;dsimp only[ci];apply pS (H:=λ(kd:Nat)(o2:Array Keyed)=>Z+1<=kd/\kd<b.size/\Lo blt (a.toList++b.toList) o2.toList (a.toList.drop kc) (b.toList.drop kd)/\blt (g b kd) (g a kc)=false)
       .intro key;by_cases q0:k2>0
        .rw[VB q0];have an:=af _ kc (Z+1) k2 bo h2;by_cases z3:Z+1+k2=b.size
         .rw[VB (VP.mpr z3)];exact VH {lk4,.ret<|endA _ kc (Z+1+k2) _ lk4 (QY z3.symm) an}
         rw[VA (by simpa using z3)];have w3:=h3 k2 (Q4 _) ();have k5:Z+1<=Z+1+k2/\Z+1+k2<b.size:=();generalize o'.push (g b Z)++b.extract (Z+1) (Z+1+k2)=o2 at an⊢;generalize Z+1+k2=kd at an w3 k5⊢;exact key kd o2 ⟨k5.1,k5.2,an,w3⟩
        .rw[VA q0];have w3:blt (g b<|Z+1) (g a kc)=false:=h3 0 (Nat.le_of_not_lt q0) (V3 bt);exact key (Z+1) _ {Q4 _,bt,bo,w3}
       intro kd o2 hd;let{d1,d2,an,w3}:=hd;refine VE<|bJ ba ?_;have bz:=b5 _ kc kd ba d2 an w3;have Y:i+(j+1)<=kc+1+kd:=();by_cases z4:kc+1+1=a.size
       .rw[VB (VP.mpr z4)];exact VH {lk4,.ret<|endB _ (kc+1) kd _ lk4 z4 bz}
       rw[VA (by simpa using z4)];have hz:kc+1+1<a.size:=QV c2 z4;split
       .exact VH {lk4,.go {hz,d2,Qr (ZL (Nat.le_add_left 1 j) i) Y,bz}}
       .exact VH ⟨lk4,hz,d2,Y,bz⟩
      .rintro c a4 ⟨a5,@⟨_,ka,Z,_,_,_,Y,_⟩⟩;have em:max 0 (a.size+b.size)=a.size+b.size:=QP (Qc _);rw[em]at Y;lia
      .rintro c a4 ⟨a5,⟨q⟩| @⟨_,⟨bb,a2,Y,lo⟩⟩⟩
       .exact VH<|.ret q
       .dsimp only[k6];exact VE<|W6 (VH {⟨a5.kind,a5.arr,a5.pend,a5.fail⟩,bb,a2,Y,lo})
   .rintro c st' ⟨lk,@⟨_,O,U,_,_,_,hi,_⟩⟩;have em:max 0 (a.size+b.size)=a.size+b.size:=QP (Qc _);rw[em]at hi;lia
   .rintro c st' (⟨q⟩|⟨⟨⟩⟩);exact VH q
end
structure Hi(blt:RZ)(all o ra rb:Sf):Prop where
 perm:((ra++rb)++o).Perm all
 srt:PW blt o
 high:∀x∈ra++rb,∀y∈o,le blt x y
theorem Hi.a{I:Sf}(h:Hi blt all o (ra++I) rb)(hs:PW blt (ra++I))(hc:∀x∈rb,∀y∈I,le blt x y):Hi blt all (I++o) ra rb where
 perm:=by
  refine W5 ?_ h.perm;rw[<-Ql];refine W4 o ?_;rw[Ql,Ql];exact W9 ra X4
 srt:=Qj.mpr {(Qj.mp hs).2.1,h.srt,λx hx y hy=>h.high x (by simp[hx]) y hy}
 high:=λx hx y hy=>by
  rcases Q5.mp hy with q|q
  .rcases Q5.mp hx with z|z
   .exact(Qj.mp hs).2.2 x z y q
   .exact hc x z y q
  .exact h.high x (by rcases Q5.mp hx with z|z<;>simp[z]) y q
theorem Hi.b{I:Sf}(h:Hi blt all o ra (rb++I))(hs:PW blt (rb++I))(hc:∀x∈ra,∀y∈I,le blt x y):Hi blt all (I++o) ra rb where
 perm:=by
  refine W5 ?_ h.perm;rw[<-Ql];refine W4 o ?_;rw[Ql]
 srt:=Qj.mpr {(Qj.mp hs).2.1,h.srt,λx hx y hy=>h.high x (by simp[hx]) y hy}
 high:=λx hx y hy=>by
  rcases Q5.mp hy with q|q
  .rcases Q5.mp hx with z|z
   .exact hc x z y q
   .exact(Qj.mp hs).2.2 x z y q
  .exact h.high x (by rcases Q5.mp hx with z|z<;>simp[z]) y q
theorem Fv{a:Rt}(h:i<a.size):a.toList.take (i+1)=a.toList.take i++ [g a i]:=by
 have e:=dH h;rw[<-QA]at e;rw[Qp,e];rfl
theorem gy{a:Rt}(h:x∈a.toList.take n):∃j,j<n/\j<a.size/\x=g a j:=by
 let{k,hk,e}:=X9.mp h;rw[Qe,Qd]at hk;refine{k,(),(),?_};have e2:=dH (xs:=a) (i:=k) ();rw[<-QA,Q3 (by rw[Qd];lia)]at e2;rw[X0]at e;rw[<-e];exact VL e2
theorem dL{a:Rt}(h:x∈(a.extract i n).toList):∃j,i<=j/\j<n/\j<a.size/\x=g a j:=by
 rw[Ze,Z3]at h;let{k,hk,e}:=X9.mp h;rw[Qe,Qz,Qd]at hk;refine{i+k,(),(),(),?_};have e2:=dH (xs:=a) (i:=i+k) ();rw[<-QA,Q3 (by rw[Qd];lia)]at e2;rw[X0,ZZ]at e;rw[<-e];exact VL e2
theorem mD{a:Rt}(h:On blt a 0 a.size)(n:Nat):PW blt (a.toList.take n):=by
 have:=gi h 0;rw[Zf]at this;exact List.Pairwise.sublist (ZV _ _) this
theorem zV{a:Rt}(h:i<=n):a.toList.take n=a.toList.take i++(a.extract i n).toList:=by
 rw[Ze,Z3];obtain⟨k,rfl⟩:∃k,n=i+k:={n-i,()};rw[List.take_add,show i+k-i=k by lia]
theorem JL(a:Rt)(n:Nat):(a.extract 0 n).toList=a.toList.take n:=by
 rw[Ze,Z3,Zf,Nat.sub_zero]
section
inductive RQ(blt:RZ)(a b:Rt){τ:Type}(n:Nat):Option (Array Keyed)×Nat×Nat×Array Keyed×τ->Prop
 |mk{na nb out x}(h1:1<=na)(h2:na<=a.size)(h3:2<=nb)(h4:nb<=b.size)(hn:na+nb+n<=a.size+b.size)(lo:Hi blt (a.toList++b.toList) out.reverse.toList (a.toList.take na) (b.toList.take nb)):RQ blt a b n (none,na,nb,out,x)
variable(L:Bh prog w A E s a₀ κ blt)
include L
theorem Bv{a b:Rt}{Q:Array Keyed->SortSt->Prop}(C:PF blt)(hK:kindOf st=κ)(hm:∀x,x∈a.toList++b.toList->x∈a₀)(oa:On blt a 0 a.size)(ob:On blt b 0 b.size)(ha:0<a.size)(hb:0<b.size)
  (af:blt (g b 0) (g a 0)=true) (c0:∀j,j<b.size->blt (g b j) (g a<|a.size-1)=true)
  (h:∀res st',OF st st'->res.toList.Perm (a.toList++b.toList)->PW blt res.toList->Q res st'):wpS (model prog w) A E s (Gj a b) Q st:=by
 have ma:∀i,i<a.size->g a i∈a₀:=λi hi=>hm _ (by have:=xS hi;simp[this]);have mb:∀i,i<b.size->g b i∈a₀:=λi hi=>hm _ (by have:=xS hi;simp[this]);have al:∀i,i<a.size->blt (g b 0) (g a i)=true:=λi hi=>by
  by_cases i0:i=0
  .rwa[i0]
  .cases z:blt (g b 0) (g a i)with
   |true=>rfl
   |false=>
    have f:blt (g b 0) (g a 0)=false:=C.trans (oa 0 i (Q4 _) () hi) z;rw[af]at f;cases f
 have an:∀(out:Rt)(O U k:Nat),k<=O->O<=a.size->1<=U->U<=b.size->Hi blt (a.toList++b.toList) out.reverse.toList (a.toList.take O) (b.toList.take U)->(∀i,k<=i->i<O->blt (g b<|U-1) (g a i)=true)->
   Hi blt (a.toList++b.toList) (out++(a.extract k O).reverse).reverse.toList (a.toList.take k) (b.toList.take U):=λout O U k h1 h2 h3 h4 lo hk=>by
  have er:(out++(a.extract k O).reverse).reverse.toList=(a.extract k O).toList++out.reverse.toList:=by simp
  have pa:=mD oa O;rw[zV h1]at lo pa;rw[er];refine lo.a pa λx hx y hy=>?_;let{i,be,bj,d4,rfl}:=dL hy;let{j,bl,c4,rfl}:=gy hx;have l1:=C.of_lt (hk i be bj);by_cases ej:j=U-1
  .rwa[ej]
  .exact C.trans (ob j (U-1) (Qc _) (QV (Xo bl) ej)<|QI h3 h4) l1
 have ap:∀(out:Rt)(O U k:Nat),k<=U->U<=b.size->1<=O->O<=a.size->Hi blt (a.toList++b.toList) out.reverse.toList (a.toList.take O) (b.toList.take U)->(∀i,k<=i->i<U->blt (g b i) (g a<|O-1)=false)->
   Hi blt (a.toList++b.toList) (out++(b.extract k U).reverse).reverse.toList (a.toList.take O) (b.toList.take k):=λout O U k h1 h2 h3 h4 lo hk=>by
  have er:(out++(b.extract k U).reverse).reverse.toList=(b.extract k U).toList++out.reverse.toList:=by simp
  have pb:=mD ob U;rw[zV h1]at lo pb;rw[er];refine lo.b pb λx hx y hy=>?_;let{i,be,bj,d4,rfl}:=dL hy;let{j,bl,c4,rfl}:=gy hx;have l1:le blt (g a<|O-1) (g b i):=hk i be bj;by_cases ej:j=O-1
  .rwa[ej]
  .exact C.trans (oa j (O-1) (Qc _) (QV (Xo bl) ej)<|QI h3 h4) l1
 have one:∀(x:Rt)(i:Nat),i<x.size->(x.extract i<|i+1).reverse= #[g x i]:=λx i hi=>by
  have:x.extract i (i+1)= #[g x i]:=by
   apply Array.ext';rw[p6,vd hi];rfl
  rw[this];rfl
 have b5:∀(out:Rt)(O U:Nat),1<=O->O<=a.size->1<=U->U<=b.size->Hi blt (a.toList++b.toList) out.reverse.toList (a.toList.take O) (b.toList.take U)->blt (g b<|U-1) (g a<|O-1)=true->
   Hi blt (a.toList++b.toList) (out.push<|g a<|O-1).reverse.toList (a.toList.take<|O-1) (b.toList.take U):=λout O U h1 h2 h3 h4 lo hk=>by
  have:=an out O U (O-1) (Vu _ _) h2 h3 h4 lo λi hi hj=>by rwa[Nat.le_antisymm (Xo hj) hi]
  rwa [show a.extract (O-1) O=a.extract (O-1) (O-1+1) by rw[Nat.sub_add_cancel h1],one a (O-1) (QI h1 h2),<-Xa]at this
 have b8:∀(out:Rt)(O U:Nat),1<=O->O<=a.size->1<=U->U<=b.size->Hi blt (a.toList++b.toList) out.reverse.toList (a.toList.take O) (b.toList.take U)->blt (g b<|U-1) (g a<|O-1)=false->
   Hi blt (a.toList++b.toList) (out.push<|g b<|U-1).reverse.toList (a.toList.take O) (b.toList.take<|U-1):=λout O U h1 h2 h3 h4 lo hk=>by
  have:=ap out O U (U-1) (Vu _ _) h4 h1 h2 lo λi hi hj=>by rwa[Nat.le_antisymm (Xo hj) hi]
  rwa [show b.extract (U-1) U=b.extract (U-1) (U-1+1) by rw[Nat.sub_add_cancel h3],one b (U-1) (QI h3 h4),<-Xa]at this
 have endA:∀(out:Rt)(O U:Nat)(st':SortSt),OF st st'->O=0->U<=b.size->Hi blt (a.toList++b.toList) out.reverse.toList (a.toList.take O) (b.toList.take U)->Q (a.extract 0 O++b.extract 0 U++out.reverse) st':=λout O U st' lk hn cg lo=>by
  subst hn;have e:(a.extract 0 0++b.extract 0 U++out.reverse).toList=b.toList.take U++out.reverse.toList:=by
   rw[QF,QF,JL,JL];rfl
  refine h _ st' lk ?_ ?_
  .rw[e];exact lo.perm
  .rw[e];exact Qj.mpr {mD ob U,lo.srt,λx hx y hy=>lo.high x (by simp[hx]) y hy}
 have endB:∀(out:Rt)(O U:Nat)(st':SortSt),OF st st'->U=1->O<=a.size->Hi blt (a.toList++b.toList) out.reverse.toList (a.toList.take O) (b.toList.take U)->Q (b.extract 0 U++a.extract 0 O++out.reverse) st':=λout O U st' lk hn ci lo=>by
  subst hn;have e:(b.extract 0 1++a.extract 0 O++out.reverse).toList=(b.toList.take 1++a.toList.take O)++out.reverse.toList:=by
   rw[QF,QF,JL,JL]
  refine h _ st' lk ?_ ?_
  .rw[e];exact W5 (W4 _ X4) lo.perm
  .rw[e];refine Qj.mpr {Qj.mpr {mD ob 1,mD oa O,λx hx y hy=>?_},lo.srt,λx hx y hy=>lo.high x ?_ y hy}
   .let{i,be,bj,rfl}:=gy hx;let{j,bl,c4,rfl}:=gy hy;rw[show i=0 by lia];exact C.of_lt<|al j c4
   .rcases Q5.mp hx with z|z
    .exact Q5.mpr<|.inr z
    .exact Q5.mpr<|.inl z
 refine VE ?_;dsimp only;refine wpS_lift<|We {M,?_};refine nmK ?_;intro k0;refine VE<|bJ () ?_;have start:Hi blt (a.toList++b.toList) (#[g a (a.size-1)]:Rt).reverse.toList (a.toList.take<|a.size-1) (b.toList.take b.size):=by
  have l0:Hi blt (a.toList++b.toList) [] (a.toList.take (a.size-1)++ [g a (a.size-1)]) (b.toList.take b.size):=by
   refine{?_,VY,λx _ y hy=>VG hy Z7};rw[<-Fv (),show a.size-1+1=a.size by lia,ZC];have e1:a.toList.take a.size=a.toList:=Qs (by rw[Qd];exact Q4 _);have e2:b.toList.take b.size=b.toList:=Qs (by rw[Qd];exact Q4 _);rw[e1,e2]
  have:=l0.a (by rw[<-Fv ()];exact mD oa _) (λx hx y hy=>by
   rw[Q9.mp hy];let{j,_,hj,rfl}:=gy hx;exact C.of_lt<|c0 j hj)
  exact this
 dsimp only[k0];by_cases a1:a.size-1=0
 .rw[VB (VP.mpr a1)];exact VH<|endA _ (a.size-1) b.size st (OF.refl _) a1 (Q4 _) start
 .rw[VA (by simpa using a1)];by_cases b1:b.size=1
  .rw[VB (VP.mpr b1)];exact VH<|endB _ (a.size-1) b.size st (OF.refl _) b1 () start
  .rw[VA (by simpa using b1)];refine nmK ?_;intro k1;refine VE<|Wb ?_;dsimp only[k1];refine nmF ?_;intro f1 k2;refine VE (Wa (VX (I:=λi c st'=>OF st st'/\RQ blt a b i c) (Q:=λc st'=>MQ (Q · st') (λ_=>False) c) ?_ ?_ {OF.refl _,(),(),(),Q4 _,(),start}) ?_)
   .rintro i c st'- -⟨lk,@⟨O,U,out,mg,d5,ci,hb1,cg,hi,lo⟩⟩;have d7:kindOf st'=κ:=lk.kind.trans hK;dsimp only[f1];refine nmF ?_;intro f2 k3;refine VE (Wa (VX (I:=λ_ c st2=>st2=st'/\RQ blt a b i c) (Q:=λc st2=>st2=st'/\MQ (Q · st') (RQ blt a b i) c) ?_ (λc st2 h=>{h.1,.go h.2}) ⟨M,d5,ci,hb1,cg,hi,lo⟩) ?_)
    .rintro j c st2- -⟨rfl,@⟨ja,jb,out,x,a4,Y,ba,Z,a0,lo⟩⟩;dsimp only[f2];have c5:=X1 ba;have bo:=QI c5 Z;have bt:=QI a4 Y;refine VE<|bJ bo (VE<|bJ bt<|VE<|L _ _ _ _ (mb (jb-1) bo) (ma (ja-1) bt) d7 ?_);dsimp only;cases e:blt (g b<|jb-1) (g a<|ja-1)with
     |true=>
      rw[VB M];have a5:=b5 out ja jb a4 Y c5 Z lo e;refine VE<|bJ bt ?_;by_cases z:ja-1=0
      .rw[VB (VP.mpr z)];exact VH {M,.ret<|endA _ (ja-1) jb _ lk z Z a5}
      .rw[VA (by simpa using z)];have h1:=Xl z;have h2:=QX bt;have h3:ja-1+jb+i<=a.size+b.size:=Qr (XR (XR (Vu _ _) _) _) a0;split
       .exact VH {M,.go ⟨h1,h2,ba,Z,h3,a5⟩}
       .exact VH ⟨M,h1,h2,ba,Z,h3,a5⟩
     |false=>
      rw[VA (_)];have a5:=b8 out ja jb a4 Y c5 Z lo e;refine VE<|bJ bo ?_;by_cases z:jb-1=1
      .rw[VB (VP.mpr z)];exact VH {M,.ret<|endB _ ja (jb-1) _ lk z Y a5}
      .rw[VA (by simpa using z)];have h1:2<=jb-1:=();have h2:=QX bo;have h3:ja+(jb-1)+i<=a.size+b.size:=Qr (XR (ZL (Vu _ _) _) _) a0;split
       .exact VH {M,.go ⟨a4,Y,h1,h2,h3,a5⟩}
       .exact VH ⟨M,a4,Y,h1,h2,h3,a5⟩
    .rintro c st2 ⟨rfl,⟨q⟩| @⟨_,@⟨ja,jb,out,x,a4,Y,ba,Z,a0,lo⟩⟩⟩
     .exact VH<|.ret q
     .dsimp only[k3];refine nmK ?_;intro k5;refine VE<|wpS_lift (We {M,?_});dsimp only[k5];refine nmF ?_;intro f3 k6;refine VE (Wa (VX (I:=λj c a6=>OF st a6/\RQ blt a b (i+j) c) (Q:=λc a6=>OF st a6/\MQ (Q · a6) (RQ blt a b<|i+1) c) ?_ ?_ ⟨lk,a4,Y,ba,Z,a0,lo⟩) ?_)
      .rintro j c a6- -⟨ac,@⟨ka,kb,out,⟨m',x⟩,bv,a2,c8,a3,a0,lo⟩⟩;dsimp only[f3];apply Dm (α:=Nat) (H:=λ_=>True)
       .intro key;by_cases m1:m'>1
        .rw[VB m1];generalize m'-1=mm;exact key mm trivial
        .rw[VA m1];exact key m' trivial
       intro mm _;refine nmK ?_;intro k7;refine VE<|Fi λd8 lk4=>?_;replace lk4:=ac.trans lk4;have cj:kindOf d8=κ:=lk4.kind.trans hK;dsimp only[k7];refine nmK ?_;intro k8;have c9:=X1 c8;have bw:=QI c9 a3;have up:∀{i m n},i<m->m<=n->0+i<n:=λh1 h2=>by rw[XB];exact Qu h1 h2
       refine VE<|bJ bw ?_;refine nmK ?_;intro k9;refine VE<|fX L cj (mb (kb-1) bw) (λi hi=>{up hi a2,ma _<|up hi a2}) (QI bv<|Q4 _) (λi=>!blt (g b<|kb-1) (g a<|0+i)) (λi hi=>M) (λi j h1 h2 h3=>Gf C oa 0 _ i j h1 (up h2 a2) h3) λk ck cn co=>?_;have b2:∀i,i<k->blt (g b<|kb-1) (g a i)=false:=λi hi=>by have f:=cn i hi;rw[XB]at f;simpa using f
       have ct:∀i,k<=i->i<ka->blt (g b<|kb-1) (g a i)=true:=λi hi hj=>by have f:=co i hi hj;rw[XB]at f;simpa using f
       clear cn co;dsimp only[k9];apply pS (H:=λ(kc:Nat)(o':Rt)=>0<kc/\kc<=ka/\(∀i,i<kc->blt (g b<|kb-1) (g a i)=false)/\Hi blt (a.toList++b.toList) o'.reverse.toList (a.toList.take kc) (b.toList.take kb))
       .intro key;by_cases k0:ka-k>0
        .rw[VB k0];have lo1:=an out ka kb k ck a2 c9 a3 lo ct;by_cases z:k=0
         .rw[VB (VP.mpr z)];exact VH {lk4,.ret<|endA _ k kb _ lk4 z a3 lo1}
         rw[VA (by simpa using z)];generalize out++(a.extract k ka).reverse=o' at lo1⊢;obtain⟨kc,ek⟩:∃kc,kc=k:={_,M};rw[<-ek]at lo1⊢;exact key kc o' {by rw[ek];exact Xl z,by rwa[ek],by rwa[ek],lo1}
        .rw[VA k0];have e0:k=ka:=();rw[e0];exact key ka out {bv,Q4 _,by rwa[<-e0],lo}
       intro kc o' hc;let{c1,c2,b2,lo1}:=hc;refine nmK ?_;intro d9;refine VE<|bJ bw ?_;have c3:=Qr c2 a2;have b3:=QI c1 c3;have ca:=b8 _ kc kb c1 c3 c9 a3 lo1 (b2 (kc-1)<|QI c1<|Q4 _);dsimp only[d9];by_cases z2:kb-1=1
       .rw[VB (VP.mpr z2)];exact VH {lk4,.ret<|endB _ kc (kb-1) _ lk4 z2 c3 ca}
       rw[VA (by simpa using z2)];refine nmK ?_;intro df;have cb:1<kb-1:=();have bb:=QX bw;refine VE<|bJ b3 ?_;refine nmK ?_;intro da;refine VE<|fX L cj (ma _ b3) (λi hi=>{up hi bb,mb _<|up hi bb}) (QI (X1 cb)<|Q4 _) (λi=>blt (g b<|0+i)<|g a<|kc-1) (λi hi=>M) (λi j h1 h2 h3=>Ge C ob 0 _ i j h1 (up h2 bb) h3) λk2 h1 h2 h3=>?_;have cx:0<k2:=by
        rcases QW k2 with z|z
        .have f:blt (g b<|0+0) (g a<|kc-1)=false:=h3 0 (QY z) (X1 cb);rw[ZY,al (kc-1) b3]at f;cases f
        .exact z
       have bz:∀i,i<k2->blt (g b i) (g a<|kc-1)=true:=λi hi=>by have f:=h2 i hi;rwa [XB]at f
       have dc:∀i,k2<=i->i<kb-1->blt (g b i) (g a<|kc-1)=false:=λi hi hj=>by have f:=h3 i hi hj;rwa [XB]at f
       clear h2 h3;dsimp only[da];apply pS (H:=λ(kd:Nat)(o2:Rt)=>1<kd/\kd<=kb-1/\(∀i,i<kd->blt (g b i) (g a<|kc-1)=true)/\Hi blt (a.toList++b.toList) o2.reverse.toList (a.toList.take kc) (b.toList.take kd))
       .intro key;by_cases q0:kb-1-k2>0
        .rw[VB q0];have b4:=ap _ kc (kb-1) k2 h1 bb c1 c3 ca dc;by_cases z3:k2=1
         .rw[VB (VP.mpr z3)];exact VH {lk4,.ret<|endB _ kc k2 _ lk4 z3 c3 b4}
         have zz:¬k2=0:=ZU cx;rw[VA (by simpa using z3),VA (by simpa using zz)];generalize o'.push (g b<|kb-1)++(b.extract k2<|kb-1).reverse=o2 at b4⊢;obtain⟨kd,ed⟩:∃kd,kd=k2:={_,M};rw[<-ed]at b4⊢;exact key kd o2 {by rw[ed];exact QV cx<|Ne.symm z3,by rwa[ed],by rwa[ed],b4}
        .rw[VA q0];have e2:k2=kb-1:=();rw[e2];exact key (kb-1) _ {cb,Q4 _,by rwa[<-e2],ca}
       intro kd o2 hd;let{d1,d2,bz,b4}:=hd;refine VE<|bJ b3 ?_;have d0:=X1 d1;have d3:=Qr d2 bb;have cc:=b5 _ kc kd c1 c3 d0 d3 b4 (bz (kd-1)<|QI d0<|Q4 _);by_cases z4:kc-1=0
       .rw[VB (VP.mpr z4)];exact VH {lk4,.ret<|endA _ (kc-1) kd _ lk4 z4 d3 cc}
       rw[VA (by simpa using z4)];have hz:=Xl z4;have a0:kc-1+kd+(i+(j+1))<=a.size+b.size:=();split
       .exact VH {lk4,.go {hz,QX b3,d1,d3,Qr (ZL (ZL (Nat.le_add_left 1 j) i) _) a0,cc}}
       .exact VH {lk4,hz,QX b3,d1,d3,a0,cc}
      .rintro c a6 ⟨ac,@⟨ka,kb,_,_,_,_,_,_,a0,_⟩⟩;have em:max 0 (a.size+b.size)=a.size+b.size:=QP (Qc _);rw[em]at a0;lia
      .rintro c a6 ⟨ac,⟨q⟩| @⟨_,⟨bv,a2,c8,a3,a0,lo⟩⟩⟩
       .exact VH<|.ret q
       .dsimp only[k6];exact VE<|W6 (VH {⟨ac.kind,ac.arr,ac.pend,ac.fail⟩,bv,a2,c8,a3,a0,lo})
   .rintro c st' ⟨lk,@⟨_,_,_,_,_,_,_,_,hi,_⟩⟩;have em:max 0 (a.size+b.size)=a.size+b.size:=QP (Qc _);rw[em]at hi;lia
   .rintro c st' (⟨q⟩|⟨⟨⟩⟩);exact VH q
end
variable{A:RU}{p:Array (Nat×Nat×Nat)}{arr a₀ m xs:Rt}{Q:Bool->SortSt->Prop}{blt:RZ}{l:List (Nat×Nat×Nat)}{at_ i lo n:Nat}{prog:Rv}{s:Rm}{κ:SortKind}{st:SortSt}{α:Type}{E:RS}{w:Ru}
def R3(arr:Rt)(at_:Nat)(m:Rt):Array Keyed:=m.toList.zipIdx.foldl (λa p=>a.setIfInBounds (at_+p.2) p.1) arr
theorem Gw:∀(l:Sf)(j:Nat)(arr:Rt)(at_:Nat),at_+j+l.length<=arr.size->
  ((l.zipIdx j).foldl (λa p=>a.setIfInBounds (at_+p.2) p.1) arr).toList=arr.toList.take (at_+j)++l++arr.toList.drop (at_+j+l.length)
 | [],j,arr,at_,h=>by simp
 |x::l,j,arr,at_,h=>by
  rw[List.zipIdx_cons,List.foldl_cons];have hl:at_+j<arr.size:=by simp at h;lia
  have z:=Gw l (j+1) (arr.setIfInBounds (at_+j) x) at_ (by simp at h⊢;lia)
  rw[z,Vv];have I:(arr.toList.set (at_+j) x).take (at_+(j+1))=arr.toList.take (at_+j)++ [x]:=by
   rw[show at_+(j+1)=at_+j+1 by lia,Qp,List.take_set_of_le (Q4 _),Xx (by rwa[Qd])];rfl
  have e2:(arr.toList.set (at_+j) x).drop (at_+(j+1)+l.length)=arr.toList.drop (at_+j+(x::l).length):=by
   rw[List.drop_set_of_lt ()];congr 1;simp;lia
  rw[I,e2,Ql,Ql,Ql];rfl
theorem AH(h:at_+m.size<=arr.size):(R3 arr at_ m).toList=arr.toList.take at_++m.toList++arr.toList.drop (at_+m.size):=by
 have:=Gw m.toList 0 arr at_ (by simpa using h)
 simpa[R3]using this
theorem zm(xs:Rt)(k:Nat):g xs k=(xs.toList[k]?).getD dk:=by unfold g;rw[QA]
theorem NC(h:at_+m.size<=arr.size)(k:Nat):g (R3 arr at_ m) k=if at_<=k/\k<at_+m.size then g m (k-at_)else g arr k:=by
 rw[zm,AH h];have l1:(arr.toList.take at_).length=at_:=by rw[Qe,Qd];lia
 by_cases a:k<at_
 .rw[VA (),Ql,Zt (),Xq a,<-zm]
 .by_cases b:k<at_+m.size
  .rw[VB {(),b},Ql,Zp (),l1,Zt (by rw[Qd];lia),<-zm]
  .rw[VA (),Zp (by rw[Q7,l1,Qd];lia),Q7,l1,Qd,Xm,show at_+m.size+(k-(at_+m.size))=k by lia,<-zm]
theorem Gv(h:at_+m.size<=arr.size)(p:m.toList.Perm ((arr.toList.drop at_).take m.size)):(R3 arr at_ m).Perm arr:=by
 rw[Vw,AH h];have e:arr.toList=arr.toList.take at_++((arr.toList.drop at_).take m.size++arr.toList.drop (at_+m.size)):=by
  rw[<-Vt,QB,QB]
 refine W5 ?_<|Wc e.symm;rw[Ql];exact W9 _<|W4 _ p
theorem ni(h:n<=arr.size){k:Nat}(hk:k<n-i):g (arr.extract i n) k=g arr (i+k):=by
 unfold g;rw[Array.getElem?_extract,VB ()]
theorem tP(h:n<=arr.size):(arr.extract i n).size=n-i:=by rw[Array.size_extract];lia
theorem yX(h:n<=arr.size)(o:On blt arr i n):On blt (arr.extract i n) 0 (arr.extract i n).size:=λa b _ z hb=>by
 rw[tP h]at hb;rw[ni h (),ni h hb];exact o _ _ () () ()
section
theorem Im{x:SortSt}{Q:PUnit->SortSt->Prop}(h:Q ⟨⟩ x):wpS (model prog w) A E s (set x:StateT SortSt Sem PUnit) Q st:=by
 unfold wpS;rw[StateT.run_set];exact VR ⟨M,h⟩
variable(L:Bh prog w A E s a₀ κ blt)
include L
theorem Bw{I O pa sb Y pb:Nat}(C:PF blt)(Wh:O7 a₀ κ st)(hi:(pendingOf st)[i]?=some (I,O,pa))(U:(pendingOf st)[i+1]?=some (sb,Y,pb))(hb:sb=I+O)(h1:1<=O)(h2:1<=Y)(hz:sb+Y<=a₀.size)
  (oa:On blt (arrOf st) I (I+O)) (ob:On blt (arrOf st) sb (sb+Y))
  (h:∀st',O7 a₀ κ st'->pendingOf st'=((pendingOf st).setIfInBounds i (I,O+Y,pa)).eraseIdxIfInBounds (i+1)->On blt (arrOf st') I (I+(O+Y))->(∀k,k<I\/I+(O+Y)<=k->g (arrOf st') k=g (arrOf st) k)->Q true st'):
  wpS (model prog w) A E s (mergeAt' i) Q st:=by
 subst hb;have hsz:=Wh.size;have b3:((sortPriv%PySem.Builtin.SortState.a) st).size=a₀.size:=Wh.size;refine VE<|Wb ?_;dsimp only;rw[hi,U];dsimp only;refine VE<|Im ?_;have B1:O7 a₀ κ (SortSt.mk' (kindOf st) (arrOf st) (((pendingOf st).setIfInBounds i (I,O+Y,pa)).eraseIdxIfInBounds<|i+1) (gallopOf st)<|failedOf st):=⟨Wh.kind,Wh.fine,Wh.perm⟩;refine VE<|bJ () ?_;refine VE<|fX L B1.kind (Wh.mem ()) (λj U=>{(),Wh.mem ()}) () (λj=>!blt (g (arrOf st)<|I+O) (g (arrOf st)<|I+j)) (λj U=>M) (λx y h3 h4 h5=>?_) λk b4 an ap=>?_
 .have h5:blt (g (arrOf st)<|I+O) (g (arrOf st)<|I+y)=false:=by simpa using h5
  by_cases e:x=y
  .subst e;simpa using h5
  .have:=C.trans (oa (I+x) (I+y) () () ()) h5;simpa using this
 .dsimp only;have low:∀j,j<k->le blt (g (arrOf st)<|I+j) (g (arrOf st)<|I+O):=λj U=>by have:=an j U;simpa using this
  have up:∀j,k<=j->j<O->blt (g (arrOf st)<|I+O) (g (arrOf st)<|I+j)=true:=λj U b1=>by have:=ap j U b1;simpa using this
  have a2:∀j x,j<k->I+O<=x->x<I+O+Y->le blt (g (arrOf st)<|I+j) (g (arrOf st) x):=λj x U hx Z=>by
   by_cases e:x=I+O
   .rw[e];exact low j U
   .exact C.trans (low j U)<|ob (I+O) x (Q4 _) () Z
  by_cases n0:O-k=0
  .rw[VB (VP.mpr n0)];refine VH<|h _ B1 M (λx y hx a0 hy=>?_) λ_ _=>M;by_cases c:y<I+O
   .exact oa x y hx a0 c
   .by_cases d:x<I+O
    .have:=a2 (x-I) y () () ();rwa [show I+(x-I)=x by lia]at this
    .exact ob x y () a0 ()
  .rw[VA (by simpa using n0)];refine VE<|bJ () ?_;rw[show I+k+(O-k)-1=I+O-1 by lia];refine VE<|fX L B1.kind (Wh.mem ()) (λj U=>{(),Wh.mem ()}) () (λj=>blt (g (arrOf st)<|I+O+j)<|g (arrOf st)<|I+O-1) (λj U=>M) (λx y h3 h4 h5=>?_) λm b5 b2 a6=>?_
   .by_cases e:x=y
    .subst e;exact h5
    .cases z:blt (g (arrOf st)<|I+O+x) (g (arrOf st)<|I+O-1)with
     |true=>rfl
     |false=>
      have f:blt (g (arrOf st)<|I+O+y) (g (arrOf st)<|I+O-1)=false:=C.trans z (ob (I+O+x) (I+O+y) () () ());rw[h5]at f;cases f
   .dsimp only;have a3:∀j,j<m->blt (g (arrOf st)<|I+O+j) (g (arrOf st)<|I+O-1)=true:=b2;have first:blt (g (arrOf st)<|I+O+0) (g (arrOf st)<|I+k+0)=true:=by
     rw[ZY,ZY];exact up k (Q4 _) ()
    have mp:0<m:=by
     rcases QW m with z|z
     .have f:blt (g (arrOf st)<|I+O+0) (g (arrOf st)<|I+O-1)=false:=a6 0 () ();have q:=up (O-1) () ();rw[show I+(O-1)=I+O-1 by lia]at q;rw[ZY,q]at f;cases f
     .exact z
    have high:∀x,I+O+m<=x->x<I+O+Y->le blt (g (arrOf st)<|I+O-1) (g (arrOf st) x):=λx hx Z=>by
     have f:blt (g (arrOf st)<|I+O+(x-(I+O))) (g (arrOf st)<|I+O-1)=false:=a6 (x-(I+O)) () ();rwa [show I+O+(x-(I+O))=x by lia]at f
    have a1:∀y x,I<=y->y<I+O->I+O+m<=x->x<I+O+Y->le blt (g (arrOf st) y) (g (arrOf st) x):=λy x hy b8 hx Z=>by
     by_cases e:y=I+O-1
     .rw[e];exact high x hx Z
     .exact C.trans (oa y (I+O-1) hy () ())<|high x hx Z
    have m0:¬m=0:=();rw[VA (by simpa using m0)];have sx:((arrOf st).extract (I+k)<|I+O).size=I+O-(I+k):=tP ();have sy:((arrOf st).extract (I+O)<|I+O+m).size=I+O+m-(I+O):=tP ();have ac:On blt (arrOf st) (I+k) (I+O):=oa.sub () ();have af:On blt (arrOf st) (I+O) (I+O+m):=ob.sub () ();have a4:∀(res:Rt)(st2:SortSt),OF (SortSt.mk' (kindOf st) (arrOf st) (((pendingOf st).setIfInBounds i (I,O+Y,pa)).eraseIdxIfInBounds<|i+1) (gallopOf st)<|failedOf st) st2->res.toList.Perm (((arrOf st).extract (I+k)<|I+O).toList++((arrOf st).extract (I+O)<|I+O+m).toList)->PW blt res.toList->
      wpS (model prog w) A E s (modify (λs=>SortSt.mk' (kindOf s) (R3 (arrOf s) (I+k) res) (pendingOf s) (gallopOf s)<|failedOf s)>>=λ_=>get>>=λx=>pure (failedOf x).isNone) Q st2:=λres st2 lk pm pw=>by
     have rs:res.size=O-k+m:=by
      have:=pm.length_eq;rw[Q7,Qd,Qd,Qd,sx,sy]at this;lia
     have rm:∀j,j<res.size->∃x,I+k<=x/\x<I+O+m/\g res j=g (arrOf st) x:=λj U=>by
      have mem:g res j∈res.toList:=by have:=xS U;simpa using this
      rcases Q5.mp (pm.mem_iff.mp mem)with q|q
      .let{x,x1,x2,_,x4}:=dL q;exact{x,(),(),x4}
      .let{x,x1,x2,_,x4}:=dL q;exact{x,(),(),x4}
     have al:I+k+res.size<=(arrOf st2).size:=by rw[lk.arr];show I+k+res.size<=(arrOf st).size;lia
     refine VE<|W6 ?_;refine VE<|Wb (VH ?_);have hg:∀x,g (R3 (arrOf st2) (I+k) res) x=if I+k<=x/\x<I+k+res.size then g res (x-(I+k))else g (arrOf st) x:=λx=>by
      rw[NC al,lk.arr]
     have ef:(failedOf st2).isNone=true:=by
      rw[lk.fail];show(failedOf st).isNone=true;rw[Wh.fine];rfl
     show Q (failedOf st2).isNone _;rw[ef];have on:=FZ pw;refine h _ {lk.kind.trans Wh.kind,lk.fail.trans Wh.fine,?_} lk.pend ?_ ?_
     .refine(Gv al ?_).trans (by rw[lk.arr];exact Wh.perm);rw[lk.arr];show res.toList.Perm (((arrOf st).toList.drop<|I+k).take res.size);refine pm.trans<|Wc ?_;rw[Ze,Ze,Z3,Z3,rs,show I+O-(I+k)=O-k by lia,show I+O+m-(I+O)=m by lia,List.take_add,Vt,show I+k+(O-k)=I+O by lia]
     .intro x y hx a0 hy;show le blt (g (R3 (arrOf st2) (I+k) res) x) (g (R3 (arrOf st2) (I+k) res) y);rw[hg x,hg y];by_cases y1:I+k<=y/\y<I+k+res.size
      .rw[VB y1];by_cases x1:I+k<=x/\x<I+k+res.size
       .rw[VB x1];exact on _ _ (Qc _) () ()
       .rw[VA x1];let{z,z1,z2,z3}:=rm (y-(I+k)) ();rw[z3];by_cases zz:z<I+O
        .exact oa x z hx () zz
        .have:=a2 (x-I) z () () ();rwa [show I+(x-I)=x by lia]at this
      .rw[VA y1];by_cases x1:I+k<=x/\x<I+k+res.size
       .rw[VB x1];let{z,z1,z2,z3}:=rm (x-(I+k)) ();rw[z3];by_cases zz:z<I+O
        .exact a1 z y () zz () ()
        .exact ob z y () () ()
       .rw[VA x1];by_cases yy:y<I+O
        .exact oa x y hx a0 yy
        .by_cases xx:x<I+O
         .exact a1 x y hx xx () ()
         .exact ob x y () a0 ()
     .intro x hx;show g (R3 (arrOf st2) (I+k) res) x=g (arrOf st) x;rw[hg x,VA ()]
    by_cases c:O-k<=m
    .rw[VB c];refine VE<|Bu L C B1.kind (λx hx=>?_) (yX () ac) (yX () af) (by rw[sx];lia) (by rw[sy];lia) ?_ ?_ λres st2 lk pm pw=>?_
     .rcases Q5.mp hx with q|q
      .let{j,_,_,a5,rfl}:=dL q;exact Wh.mem ()
      .let{j,_,_,a5,rfl}:=dL q;exact Wh.mem ()
     .rwa[ni () (),ni () ()]
     .intro j U;rw[sy]at U;rw[sx,ni () (),ni () (),show I+k+(I+O-(I+k)-1)=I+O-1 by lia];exact a3 j ()
     .exact a4 res st2 lk pm pw
    .rw[VA c];refine VE<|Bv L C B1.kind (λx hx=>?_) (yX () ac) (yX () af) (by rw[sx];lia) (by rw[sy];lia) ?_ ?_ λres st2 lk pm pw=>?_
     .rcases Q5.mp hx with q|q
      .let{j,_,_,a5,rfl}:=dL q;exact Wh.mem ()
      .let{j,_,_,a5,rfl}:=dL q;exact Wh.mem ()
     .rwa[ni () (),ni () ()]
     .intro j U;rw[sy]at U;rw[sx,ni () (),ni () (),show I+k+(I+O-(I+k)-1)=I+O-1 by lia];exact a3 j ()
     .exact a4 res st2 lk pm pw
end
def N0(blt:RZ)(xs:Rt):List (Nat×Nat×Nat)->Nat->Nat->Prop
 | [],f,t=>f=t
 |(st,len,_)::r,f,t=>st=f/\1<=len/\On blt xs st (st+len)/\N0 blt xs r (st+len) t
theorem N0.le{xs:Rt}:∀{l:List (Nat×Nat×Nat)}{f t:Nat},N0 blt xs l f t->f+l.length<=t
 | [],f,t,h=>by cases h;simp
 |(st,len,p)::r,f,t,h=>by
  let{rfl,h1,_,z}:=h;have:=N0.le z;simp;lia
theorem N0.app{xs:Rt}:∀{l r:List (Nat×Nat×Nat)}{f t:Nat},N0 blt xs (l++r) f t↔∃m,N0 blt xs l f m/\N0 blt xs r m t
 | [],r,f,t=>{λh=>⟨f,M,h⟩,λzz=>by let{m,e,h}:=zz;cases e;exact h}
 |(st,len,p)::l,r,f,t=>by
  constructor
  .rintro ⟨h1,h2,z,I⟩;let{m,a,b}:=N0.app.mp I;exact{m,⟨h1,h2,z,a⟩,b}
  .rintro ⟨m,⟨h1,h2,z,a⟩,b⟩;exact{h1,h2,z,N0.app.mpr ⟨m,a,b⟩}
theorem N0.congr{ys:Rt}:∀{l:List (Nat×Nat×Nat)}{f t:Nat},N0 blt xs l f t->(∀k,f<=k->k<t->g ys k=g xs k)->N0 blt ys l f t
 | [],f,t,h,_=>h
 |(st,len,p)::r,f,t,h,e=>by
  let{rfl,h1,h2,z}:=h;have:=z.le;exact{M,h1,h2.congr λk a b=>e k a (),z.congr λk a b=>e k () b}
theorem N0.pw{a b p q:Nat}{f t:Nat}(h:N0 blt xs (l++ [(a,b,p)]) f t):N0 blt xs (l++ [(a,b,q)]) f t:=by
 let{m,h1,h2}:=N0.app.mp h;exact N0.app.mpr ⟨m,h1,h2⟩
theorem jN{q:Nat}(S:N0 blt xs p.toList 0 lo)(h:1<=n)(o:On blt xs lo (lo+n)):N0 blt xs (p.push (lo,n,q)).toList 0 (lo+n):=by
 rw[V5];exact N0.app.mpr ⟨lo,S,M,h,o,M⟩
theorem AB(q:Array α)(x:α)(f:α->α):(q.push x).modify ((q.push x).size-1) f=q.push (f x):=by
 have e:(q.push x).size-1=q.size:=by simp
 rw[e];apply Array.ext
 .simp
 .intro i h1 h2;rw[Array.getElem_modify];by_cases hi:q.size=i
  .subst hi;simp
  .rw[VA hi];have:i<q.size:=by simp at h2;lia
   rw[XI this,XI this]
theorem pP{pw:Nat}(z:1<=p.size)(S:N0 blt xs p.toList 0 lo):N0 blt xs (p.modify (p.size-1) λx=>(x.1,x.2.1,pw)).toList 0 lo:=by
 obtain⟨q,x,rfl⟩:∃q x,p=q.push x:={p.pop,p[p.size-1],by
  apply Array.ext
  .simp;lia
  .intro i h1 h2;by_cases hi:i<p.pop.size
   .rw[XI hi];simp
   .have:i=p.size-1:=by simp at h2 hi;lia
    subst this;rw[Array.getElem_push];rw[dif_neg (by simp)]}
 rw[AB,V5];rw[V5]at S;let{a,b,c}:=x;exact S.pw
theorem P1{l:List α}{x y:α}(h1:l[i]?=some x)(h2:l[i+1]?=some y):∃p r,l=p++x::y::r/\p.length=i:=by
 let{O,U}:=Q2.mp h1;let{Y,e2}:=Q2.mp h2;refine{l.take i,l.drop<|i+2,?_,by rw[Qe];lia};have z:=Z2 O;have I:=Z2 Y;rw[U]at z;rw[e2]at I
 calc l=l.take i++l.drop i:=(QB _ _).symm
  _=_:=by rw[z,I]
theorem GV{p r:List α}{x y v:α}:((p++x::y::r).set p.length v).eraseIdx (p.length+1)=p++v::r:=by
 rw[List.set_append_right _ _ (Q4 _),Nat.sub_self];rw[V1 (),show p.length+1-p.length=1 by lia];rfl
section
variable(L:Bh prog w A E s a₀ κ blt)
include L
theorem qA(C:PF blt)(Wh:O7 a₀ κ st)(S:N0 blt (arrOf st) (pendingOf st).toList 0 lo)(a0:lo<=a₀.size)(hi:i+1<(pendingOf st).size)
  (h:∀st',O7 a₀ κ st'->N0 blt (arrOf st') (pendingOf st').toList 0 lo->(pendingOf st').size+1=(pendingOf st).size->(∀k,lo<=k->g (arrOf st') k=g (arrOf st) k)->Q true st'):
  wpS (model prog w) A E s (mergeAt' i) Q st:=by
 have U:(pendingOf st)[i]?=some ((pendingOf st)[i]'()):=getElem?_pos _ _ _;have Y:(pendingOf st)[i+1]?=some ((pendingOf st)[i+1]'hi):=getElem?_pos _ _ _;obtain⟨⟨z,I,pa⟩,e1⟩:∃x,x=(pendingOf st)[i]'():={_,M};obtain⟨⟨sb,O,pb⟩,e2⟩:∃x,x=(pendingOf st)[i+1]'hi:={_,M};rw[<-e1]at U;rw[<-e2]at Y;have t1:=U;have t2:=Y;rw[<-QA]at t1 t2;let{p,r,Z,pl}:=P1 t1 t2;rw[Z]at S;let{m,S1,S2}:=N0.app.mp S;let{rfl,n1,o1,rfl,n2,o2,S3}:=S2;have l3:=S3.le;have l1:=S1.le;refine Bw L C Wh U Y M n1 n2 () o1 o2 λst' B' hp on keep=>?_;have ep:(pendingOf st').toList=p++(z,I+O,pa)::r:=by
  rw[hp,Array.toList_eraseIdxIfInBounds,Vv,Z,<-pl,GV]
 have kz:∀k,k<z\/z+I+O<=k->g (arrOf st') k=g (arrOf st) k:=λk hk=>keep k ();refine h st' B' ?_ ?_ λk hk=>kz k ()
 .rw[ep];refine N0.app.mpr {z,S1.congr λk a b=>kz k<|.inl b,M,(),on,?_};rw[show z+(I+O)=z+I+O by lia];exact S3.congr λk a b=>kz k (.inr a)
 .have a:=VT List.length ep;have b:=VT List.length Z;simp at a b;lia
theorem zQ{Q:Unit->SortSt->Prop}(C:PF blt)(Wh:O7 a₀ κ st)(hp:pendingOf st= #[])(h2:1<=a₀.size)
  (h:∀st',O7 a₀ κ st'->On blt (arrOf st') 0 a₀.size->Q Unit.unit st'):wpS (model prog w) A E s sortRuns' Q st:=by
 rw[sortRuns'_eq];refine VE<|Wb ?_;dsimp only;have hsz:=Wh.size;rw[hsz];refine VE (Wa (VX
  (I:=λi c st'=>∃lo,c=(none,lo)/\i<=lo/\lo<=a₀.size/\O7 a₀ κ st'/\N0 blt (arrOf st') (pendingOf st').toList 0 lo)
  (Q:=λc st'=>c=(none,a₀.size)/\O7 a₀ κ st'/\N0 blt (arrOf st') (pendingOf st').toList 0 a₀.size) ?step ?fin {0,M,Q4 _,Qc _,Wh,by rw[hp];exact M}) ?post)
 case fin=>
  rintro c st' ⟨lo,rfl,h1,h3,B',S⟩;have em:max 0 a₀.size=a₀.size:=QP (Qc _);rw[em]at h1;have e:lo=a₀.size:=();subst e;exact⟨M,B',S⟩
 case step=>
  rintro i c st' _ hi ⟨lo,rfl,h1,h3,B',S⟩;dsimp only;by_cases z:lo>=a₀.size
  .rw[VB z];have e:lo=a₀.size:=();subst e;exact VH ⟨M,B',S⟩
  .rw[VA z];refine VE<|Fj L C B' () () λn st2 B2 p2 m1 m2 O2 k2=>?_;dsimp only;have S2:N0 blt (arrOf st2) (pendingOf st2).toList 0 lo:=by
    rw[p2];exact S.congr λk _ b=>k2 k b
   by_cases Y:n<minRun' a₀.size a₀.size 0
   .rw[VB Y];refine VE<|wpS_lift (We {M,?_});refine VE<|DK L C B2 m1 () () O2 λU B3 p3 O3 k3=>?_;rw[VA (_)];have S3:N0 blt (arrOf U) (pendingOf U).toList 0 lo:=by
     rw[p3];exact S2.congr λk _ b=>k3 k b
    generalize hn:min (a₀.size-lo) (minRun' a₀.size a₀.size 0)=n' at O3;have a3:1<=n':=();have a4:lo+n'<=a₀.size:=();refine VE<|Wb ?_;cases eb:(pendingOf U).back? with
    |none=>
     dsimp only;exact VE<|W6 (VH {lo+n',M,(),(),⟨B3.kind,B3.fine,B3.perm⟩,jN S3 () O3})
    |some tt=>
     let{s1,n1,p1}:=tt;dsimp only;have a0:1<=(pendingOf U).size:=by
      rcases QW (pendingOf U).size with q|q
      .rw[Array.size_eq_zero_iff.mp q]at eb;cases eb
      .exact q
     refine VE (Wa (VX (I:=λ_ c O=>c=(none,Unit.unit)/\O7 a₀ κ O/\N0 blt (arrOf O) (pendingOf O).toList 0 lo/\On blt (arrOf O) lo (lo+n')/\1<=(pendingOf O).size)
      (Q:=λc O=>c=(none,Unit.unit)/\O7 a₀ κ O/\N0 blt (arrOf O) (pendingOf O).toList 0 lo/\On blt (arrOf O) lo (lo+n')/\1<=(pendingOf O).size) ?_ (λ_ _ q=>q) ⟨M,B3,S3,O3,a0⟩) ?_)
     .rintro j c O _ _ ⟨rfl,Z,S4,O4,z4⟩;refine VE<|Wb ?_;by_cases big:(pendingOf O).size>1
      .rw[VB big,getElem?_pos (pendingOf O) ((pendingOf O).size-2) ()];obtain⟨⟨u1,u2,a1⟩,eu⟩:∃x,x=(pendingOf O)[(pendingOf O).size-2]'(by(clear big a0 eb a4 a3 hn p3 Y m2 m1 p2 z h3 h1 hi hsz h2 hp;omega (config:={}))):={_,M};rw[<-eu];dsimp only;split
       .exact VH ⟨M,Z,S4,O4,z4⟩
       .refine VE<|qA L C Z S4 () () λa5 B5 S5 z5 k5=>?_;rw[VA (_)];exact VH {M,B5,S5,O4.congr λk a b=>k5 k a,()}
      .rw[VA big];exact VH ⟨M,Z,S4,O4,z4⟩
     .rintro c O ⟨rfl,Z,S4,O4,z4⟩;dsimp only;refine VE<|W6 (VE<|W6<|VH {lo+n',M,(),(),⟨Z.kind,Z.fine,Z.perm⟩,?_});exact jN (pP z4 S4) () O4
   .rw[VA Y];have B3:=B2;have S3:=S2;have O3:=O2;obtain⟨U,e3⟩:∃x,x=st2:={_,M};rw[<-e3]at B3 S3 O3⊢;refine VE<|Wb ?_;cases eb:(pendingOf U).back? with
    |none=>
     dsimp only;exact VE<|W6 (VH {lo+n,M,(),(),⟨B3.kind,B3.fine,B3.perm⟩,jN S3 () O3})
    |some tt=>
     let{s1,n1,p1}:=tt;dsimp only;have a0:1<=(pendingOf U).size:=by
      rcases QW (pendingOf U).size with q|q
      .rw[Array.size_eq_zero_iff.mp q]at eb;cases eb
      .exact q
     refine VE (Wa (VX (I:=λ_ c O=>c=(none,Unit.unit)/\O7 a₀ κ O/\N0 blt (arrOf O) (pendingOf O).toList 0 lo/\On blt (arrOf O) lo (lo+n)/\1<=(pendingOf O).size)
      (Q:=λc O=>c=(none,Unit.unit)/\O7 a₀ κ O/\N0 blt (arrOf O) (pendingOf O).toList 0 lo/\On blt (arrOf O) lo (lo+n)/\1<=(pendingOf O).size) ?_ (λ_ _ q=>q) ⟨M,B3,S3,O3,a0⟩) ?_)
     .rintro j c O _ _ ⟨rfl,Z,S4,O4,z4⟩;refine VE<|Wb ?_;by_cases big:(pendingOf O).size>1
      .rw[VB big,getElem?_pos (pendingOf O) ((pendingOf O).size-2) ()];obtain⟨⟨u1,u2,a1⟩,eu⟩:∃x,x=(pendingOf O)[(pendingOf O).size-2]'(by omega (config:={})):={_,M};rw[<-eu];dsimp only;split
       .exact VH ⟨M,Z,S4,O4,z4⟩
       .refine VE<|qA L C Z S4 () () λa5 B5 S5 z5 k5=>?_;rw[VA (_)];exact VH {M,B5,S5,O4.congr λk a b=>k5 k a,()}
      .rw[VA big];exact VH ⟨M,Z,S4,O4,z4⟩
     .rintro c O ⟨rfl,Z,S4,O4,z4⟩;dsimp only;refine VE<|W6 (VE<|W6<|VH {lo+n,M,(),(),⟨Z.kind,Z.fine,Z.perm⟩,?_});exact jN (pP z4 S4) () O4
 case post=>
  rintro c st' ⟨rfl,B',S⟩;dsimp only;have a2:=S.le;refine VE (Wa (VX (I:=λi c st2=>c=(none,Unit.unit)/\O7 a₀ κ st2/\N0 blt (arrOf st2) (pendingOf st2).toList 0 a₀.size/\(pendingOf st2).size+i<=a₀.size+1)
   (Q:=λc st2=>c=(none,Unit.unit)/\O7 a₀ κ st2/\N0 blt (arrOf st2) (pendingOf st2).toList 0 a₀.size/\(pendingOf st2).size<=1) ?_ ?_ {M,B',S,by rw[Qd]at a2;lia}) ?_)
  .rintro i c st2 _ hi ⟨rfl,B2,S2,z2⟩;refine VE<|Wb ?_;by_cases one:(pendingOf st2).size<=1
   .rw[VB one];exact VH ⟨M,B2,S2,one⟩
   .rw[VA one];generalize a6:(if Option.any _ _=true then(pendingOf st2).size-2-1 else(pendingOf st2).size-2)=ix;have ac:∀bb:Bool,(if bb=true then(pendingOf st2).size-2-1 else(pendingOf st2).size-2)+1<(pendingOf st2).size:=λbb=>by
     cases bb with
     |true=>rw[VB M];lia
     |false=>rw[VA (_)];lia
    have hx:ix+1<(pendingOf st2).size:=by
     rw[<-a6];exact ac _
    refine VE<|qA L C B2 S2 (Q4 _) hx λU B3 S3 z3 k3=>?_;rw[VA (_)];exact VH {M,B3,S3,()}
  .rintro c st2 ⟨rfl,B2,S2,z2⟩;have em:max 0 a₀.size=a₀.size:=QP (Qc _);rw[em]at z2;exact{M,B2,S2,()}
  .rintro c st2 ⟨rfl,B2,S2,z2⟩;dsimp only;refine VH (h st2 B2 ?_)
   match hl:(pendingOf st2).toList,S2 with
   | [],S2=>
    have e:0=a₀.size:=S2;lia
   | [(a,b,p)],S2=>
    let{rfl,_,o,e}:=S2;have e:0+b=a₀.size:=e;rw[e]at o;exact o
   |_::_::_,_=>
    have:=VT List.length hl;simp at this;lia
end
variable{blt:RZ}{vs:Rr}{E Q:RS}
section
variable{prog:Rv}{w:Ru}{A:RU}{s:Rm}{κ:SortKind}
abbrev But(a:Rl)(s s':Rm):Prop:=∀b o,b≠a->s.heap.get? b=some o->s'.heap.get? b=some o
theorem DX{a:Rl}{n:Nat}{P:PySem.Fin->Shared->Prop}(Y:s.heap.get? a=some (seqObj gt vs.toArray n))(hz:vs.length<=sizeLine)(C:PF blt)
  (Z:∀h':Heap,But a s {s with heap:=h'}->2<=vs.length->∀Q':SortKind->Shared->Prop,Q' κ {s with heap:=h'}->wpAny (model prog w) A (keyKind' vs.toArray) Q' E {s with heap:=h'})
  (L:∀h':Heap,But a s {s with heap:=h'}->Bh prog w A E {s with heap:=h'} (pairsOf vs) κ blt)
  (h:∀out:Array Keyed,out.Perm (pairsOf vs)->PW blt out.toList->P (.done<|.ret .none) {s with heap:=sortedHeap s.heap a vs (out.map (·.2))}):wpAny (model prog w) A (Builtin.«list.sort» {[.ref a],[]}) P E s:=by
 have hv:vs.toArray.size=vs.length:=Qh;have ha:=VM Y;rw[list_sort_plain];refine VI<|listItems_at Y M (VI<|listUpdate_at Y M ?_ (hsz:=by rwa[hv]));obtain⟨e1,I⟩:∃k,(s.heap.update a<|Obj.mapSeq λ_=> #[]).get? a=some (seqObj gt #[] k):={_,get?_update_seq Y<|λ_=> #[]};refine VI<|seqEpoch_at I M (VI<|wpAny_newTuple ?_ (hsz:=hz));refine VI<|wpAny_newList (Wd ?_);generalize hh:((s.heap.update a<|Obj.mapSeq λ_=> #[]).push<|seqObj l6 vs.toArray 0).push (seqObj gt #[] 0)=h6;have up:∀b o,(s.heap.update a<|Obj.mapSeq λ_=> #[]).get? b=some o->h6.get? b=some o:=λb o e=>by
  rw[<-hh];exact VC _<|VC _ e
 have z:=up a _ I;have U:But a s {s with heap:=h6}:=λb o hb e=>up b o (by exact(VS _ _<|Ne.symm hb).trans e);have fin:∀out:Array Keyed,out.Perm (pairsOf vs)->PW blt out.toList->P (.done<|.ret .none) {s with heap:=h6.update a (Obj.mapSeq λ_=>out.map (·.2))}:=λout p q=>by
  have:=h out p q;unfold sortedHeap at this;rw[hh]at this;exact this
 have hsz2:∀out:Array Keyed,out.Perm (pairsOf vs)->(out.map (·.2)).size<=sizeLine+1:=λout p=>by
  have:=p.size_eq;rw[pairsOf_size]at this;rw[Array.size_map];lia
 dsimp only;by_cases h2:vs.toArray.size<2
 .rw[VB h2,VB h2];refine VI<|VR ?_;rw[StateT.run_pure];refine VI<|VR ?_;dsimp only;have pr:(SortSt.mk' general' (vs.toArray.zip vs.toArray) #[] 7 none|>arrOf).Perm (pairsOf vs):=Array.Perm.refl _;refine VI<|seqEpoch_at z M (VI<|listUpdate_at z M ?_ (hsz:=Qc _) (hsz2:=hsz2 _ pr));simp only[bne_self_eq_false,Z6,if_false];refine VR<|fin _ pr ?_;have l1:(vs.toArray.zip vs.toArray).toList.length<=1:=by simp at h2⊢;lia
  show PW blt (vs.toArray.zip vs.toArray).toList;revert l1;generalize (vs.toArray.zip vs.toArray).toList=l;rcases l with _|⟨x,_|⟨y,t⟩⟩<;>intro l1<;>first|exact VY|exact Zh _ _|exact VG l1<|Nat.not_le_of_lt (Nat.succ_lt_succ<|Nat.succ_pos _)
 .rw[VA h2,VA h2];refine VI<|Z h6 U () _ ?_;refine VI (W2 (zQ (L h6 U) (st:=SortSt.mk' κ (vs.toArray.zip vs.toArray) #[] 7 none) (Q:=λ_ st'=>O7 (pairsOf vs) κ st'/\On blt (arrOf st') 0 (pairsOf vs).size) C
   {M,M,Array.Perm.refl _} M (by rw[pairsOf_size];lia) λst' Wh O=>⟨Wh,O⟩) ?_ λ_ _ e=>e)
  rintro ⟨⟨⟩,st'⟩ s' ⟨rfl,Wh,O⟩;dsimp only;refine VI<|seqEpoch_at z M (VI<|listUpdate_at z M ?_ (hsz:=Qc _) (hsz2:=hsz2 _ Wh.perm));rw[Wh.fine];simp only[bne_self_eq_false,Z6,if_false];refine VR<|fin _ Wh.perm ?_;have:=gi (a:=arrOf st') (blt:=blt) (by rwa[Wh.size]) 0;rwa [Zf]at this
theorem sorted_any{l:Rl}(hl:s.heap.IsList l vs.toArray)(hz:vs.length<=sizeLine)(C:PF blt)
  (I:∀h':Heap,(∀b o,s.heap.get? b=some o->h'.get? b=some o)->2<=vs.length->∀Q':SortKind->Shared->Prop,Q' κ {s with heap:=h'}->wpAny (model prog w) A.in1.in1 (keyKind' vs.toArray) Q' (λ_ _=>False) {s with heap:=h'})
  (L:∀h':Heap,(∀b o,s.heap.get? b=some o->h'.get? b=some o)->Bh prog w A.in1.in1 (λ_ _=>False) {s with heap:=h'} (pairsOf vs) κ blt)
  (h:∀out:Array Keyed,out.Perm (pairsOf vs)->PW blt out.toList->Q (.ref<|s.heap.objs.size+1) {s with heap:=sortedAll s.heap vs (out.map (·.2))}):wpAny (model prog w) A (call (.builtin "sorted") [.ref l]) Q E s:=by
 refine Calls.call_function_entry kind_sorted plain_sorted entry_sorted (args_sorted1 _) ?_;unfold Builtin.«sorted»;refine VI (m:=checkCount "sorted" 1 1 _)<|VR (VI<|collect_list hl ?_ (hsz:=hz));refine VI<|wpAny_newList ?_ (hsz:=hz);generalize O:(s.heap.push<|seqObj gt #[] 0).update s.heap.objs.size (Obj.mapSeq (· ++vs.toArray))=h1;have z:h1.objs.size=s.heap.objs.size+1:=by rw[<-O,Heap.size_update,size_push']
 have old:∀b o,s.heap.get? b=some o->(h1.push<|seqObj gt vs.toArray 0).get? b=some o:=λb o e=>by
  refine VC _ ?_;rw[<-O];exact(VS _ _<|Ne.symm<|QH<|VM e).trans<|VC _ e
 have new:(h1.push<|seqObj gt vs.toArray 0).get? (s.heap.objs.size+1)=some (seqObj gt vs.toArray 0):=by
  rw[<-z];exact VN _ M
 have keep:∀h':Heap,But (s.heap.objs.size+1) {s with heap:=h1.push (seqObj gt vs.toArray 0)} {s with heap:=h'}->∀b o,s.heap.get? b=some o->h'.get? b=some o:=λh' k b o e=>
  k b o (QH<|Nat.lt_succ_of_lt<|VM e) (old b o e)
 show wpAny _ _ _ _ _ {s with heap:=h1.push (seqObj gt vs.toArray 0)};rw[z];refine VI<|Wd (W2 (wpAny_call_entry (E:=λ_ _=>False) slot_list_sort {_,new,M} entry_list_sort (DX (κ:=κ) (blt:=blt) new hz C (λh' k=>I h'<|keep h' k) (λh' k=>L h'<|keep h' k) λout p q=>{_,M,?_})<|args_list_sort _) (λ_ _ q=>q) λ_ _ f=>f.elim);refine VR {_,M,?_};have:=h out p q;unfold sortedAll at this;rw[O]at this;exact this
end
variable{blt:RZ}{E:RS}
theorem AG:∀(a b:Rn),HT.lexLt a b=true->HT.lexLt b a=false
 | [],[],h=>rfl
 | [],_::_,_=>rfl
 |_::_,[],h=>by rw[HT.lexLt_cons_nil]at h;cases h
 |x::xs,y::ys,h=>by
  rw[HT.lexLt_cons]at h⊢;by_cases e:x=y
  .rw[VB e]at h;rw[VB e.symm];exact AG xs ys h
  .rw[VA e]at h;rw[VA (Ne.symm e)];have:=VF h;exact VJ ()
theorem Gs:∀(a b c:Rn),HT.lexLt b a=false->HT.lexLt c b=false->HT.lexLt c a=false
 | [],b,[],_,_=>rfl
 |x::xs,[],c,h,_=>by rw[HT.lexLt_nil_cons]at h;cases h
 |a,y::ys,[],_,h=>by rw[HT.lexLt_nil_cons]at h;cases h
 | [],_,_::_,_,_=>HT.lexLt_cons_nil _ _
 |x::xs,y::ys,z::zs,h1,h2=>by
  rw[HT.lexLt_cons]at h1 h2⊢;by_cases I:y=x
  .rw[VB I]at h1;by_cases e2:z=y
   .rw[VB e2]at h2;rw[VB (e2.trans I)];exact Gs xs ys zs h1 h2
   .rw[VA e2]at h2;rw[VA (by rwa[<-I])];have:=VV h2;exact VJ ()
  .rw[VA I]at h1;have U:=VV h1;by_cases e2:z=y
   .rw[VB e2]at h2;rw[VA ()];exact VJ ()
   .rw[VA e2]at h2;have Y:=VV h2;by_cases O:z=x
    .lia
    .rw[VA O];exact VJ ()
theorem cmp_of(k:Keyed->List Int):PF λp q=>HT.lexLt (k p) (k q):={λx y h=>AG _ _ h,λx y z h1 h2=>Gs _ _ _ h1 h2}
theorem runs_of{prog:Rv}{w:Ru}{A:RU}{s:Rm}{a₀:Rt}{κ:SortKind} 
  (h:∀(x y:Keyed)(E':Value->Shared->Prop)(Q:Bool->Shared->Prop),x∈a₀->y∈a₀->Q (blt x y) s->wpAny (model prog w) A (keyLt' κ x.1 y.1) Q E' s):Bh prog w A E s a₀ κ blt:=by
 intro x y st Q hx hy hk q;rw[lt'_eq];refine VE<|Wb ?_;rw[hk];refine VE<|wpS_lift (wpAny_attempt<|h x y _ _ hx hy {M,?_});exact VH q
end Srt
namespace L2
open PySem PySem.Spec PyProof.Rows
variable{H:Hp}{W:Rx}{xs:Rq}{us:Rr}{s:Rm}{B:St}{u:Rp}
def Pj(u:Rp):V:=(absV u).getD .non
def yq{x:V}(r:RelV x u):Pj u=x:=by unfold Pj;rw[r.abs];rfl
def Io(h:HV xs us):us.map Pj=xs:=by
 induction h with
 |nil=>rfl
 |cons r t z=>rw[Qt,yq r,z]
def sU(h:HV xs us)(hu:u∈us):∃x∈xs,RelV x u:=by
 induction h with
 |nil=>exact VG hu Z7
 |cons r t z=>
  rcases Qb.mp hu with e|e
  .subst e;exact{_,Q6,r}
  .let{x,h1,h2}:=z e;exact{x,Qa _ h1,h2}
theorem CO:∀{us:Rr},(∀u∈us,RelV (Pj u) u)->HV (us.map Pj) us
 | [],_=> .nil
 |u::r,h=> .cons (h u Q6) (CO λv z=>h v<|Qa _ z)
section
variable{X:Cx}
def DW{Q:VK}{p:Rl}{its:Rr}{κ:SortKind}{ky:V->List Int}(I:Inv X W B H s)(hz:xs.length<=sizeLine)(rv:HV xs its)(hl:s.heap.IsList p its.toArray)
  (a0:∀h':Heap,(∀b o,s.heap.get? b=some o->h'.get? b=some o)->2<=its.length->∀Q':SortKind->Shared->Prop,Q' κ {s with heap:=h'}->wpAny (model X.prog X.w) X.A.in1.in1 (keyKind' its.toArray) Q' (λ_ _=>False) {s with heap:=h'})
  (a1:∀h':Heap,(∀b o,s.heap.get? b=some o->h'.get? b=some o)->∀(x y:V)(u v:Rp)(E':RS)(Q':Bool->Shared->Prop),x∈xs->y∈xs->RelV x u->RelV y v->Q' (HT.lexLt (ky x)<|ky y) {s with heap:=h'}->wpAny (model X.prog X.w) X.A.in1.in1 (keyLt' κ u v) Q' E' {s with heap:=h'})
  (q:∀l ys,H l=none->ys.Perm xs->ys.Pairwise (λa b=>HT.lexLt (ky b) (ky a)=false)->Q (.ref l) (upd H l<|.lst ys)):
  Wj X (call (.builtin "sorted") [.ref p]) (EP X W B Q) X.xe s:=by
 have hi:its.length<=sizeLine:=by rwa[<-rv.length]
 have mem:∀z:Keyed,z∈pairsOf its->z.1=z.2/\z.1∈its:=λz hz=>by
  have:z∈(pairsOf its).toList:=by simpa using hz
  rw[pairsOf_toList]at this;exact mem_zip_self this
 refine Srt.sorted_any (κ:=κ) (blt:=λa b=>HT.lexLt (ky<|Pj a.1)<|ky<|Pj b.1) hl hi (Srt.cmp_of λa=>ky<|Pj a.1) a0 (λh' k=>Srt.runs_of λx y E' Q' hx hy q'=>?_) λout pm pw=>?_
 .let{x',a2,O}:=sU rv (mem x hx).2;let{y',a3,U}:=sU rv (mem y hy).2;rw[yq O,yq U]at q';exact a1 h' k x' y' x.1 y.1 E' Q' a2 a3 O U q'
 .have Y:out.toList.Perm (its.zip its):=by
   have:=Vw.mp pm;rwa [pairsOf_toList]at this
  have Z:∀z∈out.toList,z.1=z.2/\z.1∈its:=λz hz=>mem_zip_self (Y.mem_iff.mp hz);have e2:(out.map (·.2)).toList=out.toList.map (·.2):=Array.toList_map;have pv:((out.map (·.2)).toList).Perm its:=by
   rw[e2];refine(Y.map _).trans<|Wc ?_;exact List.map_snd_zip<|Q4 _
  have hu:∀u∈(out.map (·.2)).toList,RelV (Pj u) u:=λu hu=>by
   let{x,_,r}:=sU rv (pv.mem_iff.mp hu);rwa[yq r]
  have vy:=CO hu;have fresh:H (s.heap.objs.size+1)=none:=I.hok.fresh (Za _);have py:((out.map (·.2)).toList.map Pj).Perm xs:=by
   rw[<-Io rv];exact pv.map _
  let{e,at_}:=sortedAll_at s.heap its (out.map (·.2));refine{.ref<|s.heap.objs.size+1,upd H (s.heap.objs.size+1) (.lst ((out.map (·.2)).toList.map Pj)),I.laid (t':=s.toks) (λb o q=>sortedAll_old q) (Za _) {?_,_,e,vy,?_},M,q _ _ fresh py ?_}
  .rwa[py.length_eq]
  .rw[at_,XQ]
  .rw[e2,QS];refine QM.mpr<|pw.imp_of_mem λ{a b} ha hb h=>?_;show HT.lexLt (ky<|Pj b.2) (ky<|Pj a.2)=false;rwa[<-(Z a ha).1,<-(Z b hb).1]
noncomputable def kRef(ky:Addr->List Int):V->List Int
 | .ref a=>ky a
 |_=> []
def Ee{as:Rz}{ys:Rq}(h:ys.Perm (as.map V.ref)):∃bs:List Addr,ys=bs.map V.ref/\bs.Perm as:=by
 have e:ys=(ys.map λy=>match y with| .ref i=>i|_=>0).map V.ref:=by
  rw[QS];refine(List.map_id' ys).symm.trans<|ZM λy hy=>?_;let{i,_,rfl}:=Qf.mp (h.mem_iff.mp hy);rfl
 refine{_,e,?_};refine(h.map λy=>match y with| .ref i=>i|_=>0).trans<|Wc ?_;rw[QS];exact List.map_id' as
def BC{a:Rl}(I:Inv X W B H s)(h:H a=some (.tup xs)){h':Heap}(k:∀b o,s.heap.get? b=some o->h'.get? b=some o):
  ∃(o:Obj)(its:Rr)(n:Nat),HV xs its/\h'.get? a=some o/\o.cls= .type l6/\o.data= .seq its.toArray n:=by
 let{_,its,rv,o,e,c,n,d}:=(show N6 X.prog X.w H s.heap a (.tup xs) from I.hok a _ h);exact{o,its,n,rv,k _ _ e,c,d}
end
end L2
namespace Srt
open PySem PyProof.Rows
end Srt
namespace L2
open PySem PySem.Spec PyProof.Rows
variable{C D a d:Rl}{X:Cx}{c elt iter l tg:Expr}{H H1 H4:Hp}{Fin:Hp->Prop}{hi lo st:Int}{J:It}{R:It->Hp->Prop}{W:Rx}{kvs:RY}{vs:List (Key×Value)}{cl:List (Str×Addr)}{elts ifs:Sg}{M' N':Ry}{xs ys:Rq}{ep i n:Nat}{ob:Obj}{pos px spos:Pos}{P:Rv}{K:Wi}{scope:Scope}{s:Rm}{B:St}{x y:Str}{nx:Sk}{Wh:St->VK->It->Hp->Prop}{ta:TA}{te:TE}{g:TG}{wi:TI}{tb:TS}{tc:TT}{Q rt:VK}{RR:Value->Addr->Result->Shared->Prop}{E:RS}{w:Ru}
def zj{k:Key}{v:Rp}(h:(bx P w).is k v=true):RelV (kV k) v:=by
 rw[Cc]at h;cases k with
 |inl i=>
  cases v with
  |int j t=>exact{t,by simp[lJ,Value.isInt]at h;rw[h]}
  |_=>simp[lJ,Value.isInt]at h
 |inr x=>
  cases v with
  |str y t=>exact{t,by simp[lJ,Value.isStrOf]at h;rw[h]}
  |_=>simp[lJ,Value.isStrOf]at h
def uX(kvs:RY):List V:=kvs.map λp=>kV p.1
set_option tactic.hygienic true in
def Bx{acc:Rr}(z:KV kvs vs)(hl:acc.length=vs.length)
  (I:∀(j:Nat)(v:Rp),acc[j]?=some v->∃k x,vs[j]?=some (k,x)/\(bx P w).is k v=true):HV (uX kvs) acc:=by
 induction z generalizing acc with
 |nil=>cases acc with
  |nil=>exact .nil
  |cons a b=>simp at hl
 |cons r t U=>
  rename_i p q ps qs
  cases acc with
  |nil=>simp at hl
  |cons a b=>
   refine .cons ?_<|U (by simpa using hl) λj v e=>?_
   .let{k,x,O,e2}:=I 0 a M;simp at O;subst O;show RelV (kV p.1) a;rw[r.1];exact zj e2
   .exact I (j+1) v<|by simpa using e
def Cv(hh:X.A.handled=none):fg X (.type gt) (λxs H Q=>∃a kvs,xs=[.ref a]/\Rd H a (.dK kvs)/\∀l,H l=none->Q (.ref l) (upd H l<|.lst<|uX kvs)):=by
 intro W s B H xs us Q I r h;let{a,kvs,rfl,hd,q}:=h;let{u,rfl,ru}:=mT r;cases ru;let{z,lo,vs,Y,dd}:=ve I.hok hd;let{ep,Z}:=dd.dictAt;have a0:kvs.length=vs.length:=Y.length;refine PySem.W.kdl_call (PySem.W.kdl_dict (knd:=bx X.prog X.w) (kvs:=vs) (ep:=ep) lo) hh Z () λh' tk O c' hk hS U=>?_;have hv:HV (uX kvs) O.toList:=Bx Y (by rw[Qd];exact U.1) λj v e=>U.2 j v (by rwa[<-QA]);refine{.ref s.heap.objs.size,_,I.laid (t':=tk) hk (Q4 _) (show N6 X.prog X.w _ h' _ (.lst<|uX kvs) from{?_,O.toList,c',hv,?_}),M,q _<|I.hok.fresh (Q4 _)}
 .unfold uX;rwa[Q0]
 .rw[XQ];exact hS
inductive Nd(x:V)(vs:Rq)(H:Hp)(Q:VK):Prop
 |mk(a kvs k v:_)(_:x= .ref a)(_:vs=[kV k])(_:H a=some (.dK kvs))(_:aI kvs k=some v)(_:Q v (upd H a<|.dK<|bB kvs k))
def za:RA X "dict.pop" Nd:=by
 intro W s B H x vs v us Q I z rv h;let{a,kvs,k,y,rfl,rfl,O,hl,q}:=h;cases z;let{u,rfl,U}:=rv.one;exact NH I O U hl (.inl M) λw' s' Y Z=>{y,_,Y,Z,q}
inductive Nc(K:Wi)(x:V)(vs:Rq)(H:Hp)(Q:VK):Prop
 |mk(sep:Str)(a:Rl)(ys:Ry)(_:x= .str sep)(_:vs=[.ref a])(_:Dz K H a (ys.map V.str))(_:sep.length<=16)(_:(ys.map (·.length)).sum+ys.length<=1048576)(_:Q (.str<|Txt.join sep ys) H)
theorem zX:∀{ys:Ry}{its:Rr},HV (ys.map V.str) its->StrsAre its ys
 | [],_,.nil=> .nil
 |_::_,_,.cons ⟨t,e⟩ r=>by subst e;exact .cons _ _<|zX r
def Dd:RA X "str.join" (Nc X.K):=by
 intro W s B H x vs v us Q I z rv h;let{O,a,ys,rfl,rfl,hS,h1,h2,q}:=h;let{t,rfl}:=z;let{u,rfl,U}:=rv.one;cases U;let{its,r,pl,_}:=I.list hS;exact join_listW pl.isList (by simpa using zX r) h1 h2 λt' k=>{.str _,H,I.tok _,⟨t',M⟩,q}
set_option tactic.hygienic true in
theorem pc{env:Env}:∀(l:List (Str×NameKind))(cs:List (Str×Addr)),(∀p∈l,p.2= .free->∃c,env.cells.lookup p.1=some c)->
  ∃cl,(forIn l cs (λp cs=>if(p.2==NameKind.free)=true then cellOf env p.1>>=λa=>pure (ForInStep.yield ((p.1,a)::cs))else pure (ForInStep.yield cs)):Sem _)=pure cl/\
   (∀y c,cl.lookup y=some c->cs.lookup y=some c\/env.cells.lookup y=some c)/\(∀y c,cs.lookup y=some c->∃I,cl.lookup y=some I)/\(∀y,(y,NameKind.free)∈l->∃c,cl.lookup y=some c)
 | [],cs,_=>{cs,by rw[List.forIn_nil],λy c h=> .inl h,λy c h=>⟨c,h⟩,λy h=>nomatch h}
 |(n,k)::r,cs,h=>by
  rw[List.forIn_cons];by_cases hk:k= .free
  .subst hk;let{c,hc}:=h (n,.free) Q6 M;have hc:env.cells.lookup n=some c:=hc;have e:cellOf env n=pure c:=by unfold cellOf;rw[hc]
   let{cl,h1,h2,O,U}:=pc r ((n,c)::cs) λp Y=>h p (Qa _ Y);refine{cl,?_,λy I hy=>?_,λy I hy=>?_,λy hy=>?_}
   .simp only[Wg,if_true,e,pure_bind];exact h1
   .rcases h2 y I hy with q|q
    .rw[ZI]at q;split at q
     .rename_i z
      cases q;rw[VP]at z;subst z;exact .inr hc
     .exact .inl q
    .exact .inr q
   .by_cases z:y=n
    .exact O y c<|by rw[ZI,z];simp
    .exact O y I<|by rwa[ZI,VQ.mpr z]
   .rcases Qb.mp hy with q|q
    .have Z:y=n:=(W7 q).1;exact O y c<|by rw[ZI,Z];simp
    .exact U y q
  .have hb:(k==NameKind.free)=false:=by simpa using hk
   let{cl,h1,h2,O,U}:=pc r cs λp Y=>h p (Qa _ Y);refine{cl,?_,h2,O,λy hy=>?_}
   .simp only[hb,Z6,if_false,pure_bind];exact h1
   .rcases Qb.mp hy with q|q
    .exact VG (W7 q).2.symm hk
    .exact U y q
def vm{env:Env}(h:∀p∈scope.names,p.2= .free->∃c,env.cells.lookup p.1=some c):
  ∃cl,closureFor scope env=pure cl/\(∀y c,cl.lookup y=some c->env.cells.lookup y=some c)/\(∀y,(y,NameKind.free)∈scope.names->∃c,cl.lookup y=some c):=by
 let{cl,h1,h2,_,I}:=pc scope.names [] h;refine{cl,?_,λy c hy=>(h2 y c hy).resolve_left λz=>by simp at z,I};unfold closureFor;simp only[bind_pure];exact h1
def Ot(X:Cx)(M' N':Ry)(scope:Scope)(cl:List (Str×Addr))(C:Rl)(s₂:Rm)(H₂:Hp)(fp:Rz):Cx:=
 {X with N:=M'++N',s₀:=s₂,H₀:=H₂,env:=compEnvC scope cl C X.env,outer:=X.stack,stack:=X.stack,ex:=fp,fn:=λ_=>false,pn:=[],xe:=λ_ _=>False}
structure N5(X:Cx)(M' N':Ry)(scope:Scope):Prop where
 kind:scope.kind= .function
 nd:(M'++N').Nodup
 ln:N'.length=X.N.length
 own:∀x∈M',scope.names.lookup x=some .local
 nocell:∀y∈scope.names,y.2≠ .cell
 names:∀y∈scope.names,y.2= .local->scope.names.lookup y.1=some .local
 free:∀y∈scope.names,y.2= .free->X.env.kindOf y.1=some .cell
 vis:∀(j:Nat)(y:Str),N'[j]?=some y->RL (relabel scope X.env) y->X.N[j]?=some y/\(y,NameKind.free)∈scope.names/\(relabel scope X.env).names.lookup y=some .cell
 cells:∀y,((relabel scope X.env).names.lookup y=some .cell\/(relabel scope X.env).names.lookup y=some .free)->(y,NameKind.free)∈scope.names
def Bb(n:Nat)(g:TG)(tc:TT)(te:TE)(B:St)(Q:VK)(J:It)(H1:Hp):Prop:=∀D,H1 D=none->∃JM:Nat->Nat->St->List V->Hp->Prop,(∃m,JM 0 m (List.replicate n none++B) [] (upd H1 D<|.lst []))/\∀i m τ ys H2,JM i m τ ys H2->H2 D=some (.lst ys)->
 (J.stop i H2/\Q (.ref D) H2)\/(J.go i H2/\∀x H3,J.yld i H2 x H3->∃G:St->Hp->Prop,(∀τ2 H4,G τ2 H4->∃(Ny:VK)(Ns:Hp->Prop),(∀y H6,Ny y H6->H6 D=some (.lst ys)/\ys.length<sizeLine/\∃m',m'<m/\JM (i+1) m' τ2 (ys++ [y]) (upd H6 D<|.lst<|ys++ [y]))/\
  (∀H5,Ns H5->H5 D=some (.lst ys)/\∃m',m'<m/\JM (i+1) m' τ2 ys H5)/\tc τ2 H4 λb H5=>if b=true then te τ2 H5 Ny else Ns H5)/\g x τ H3 G)
def Kr:TT:=λ_ H Q=>Q true H
def PTs(X:Cx)(ifs:Sg)(tc:TT):Prop:=∀(W:Rx)(s:Rm)(B:St)(H:Hp)(Q:Bool->Hp->Prop),Inv X W B H s->tc B H Q->
 Wj X (forIn ifs true λc r=>if r=true then do let ok<-isTrue c X.env (eval c X.env);pure (ForInStep.yield ok)else pure (ForInStep.yield r)) (λb s'=>∃H',Inv X W B H' s'/\Q b H') X.xe s
def C2:PTs X [] Kr:=λ_ _ _ H _ I h=>wpAny_tests_nil ⟨H,I,h⟩
def CZ(h:PT X c tc):PTs X [c] tc:=λW s B H Q I q=>wpAny_tests_one (h W s B H Q I q)
def N5.pg{s₂:Rm}{z:Hp}{fp:Rz}(S:N5 X M' N' scope)(h:M'[i]?=some x):PG (Ot X M' N' scope cl C s₂ z fp) (.Name x px) (lL i):=
 sK S.nd (by show(M'++N')[i]?=_;rwa[Zt (Q2.mp h).1]) (.inl<|lookup_relabel_local<|S.own x<|Q1 h) (.inr<|lookup_relabel_local<|S.own x<|Q1 h)
structure K8(X:Cx)(W:Rx)(H:Hp)(C:Rl):Prop where
 no:H C=none
 fr:C≠X.env.locals
 ab:X.s₀.heap.objs.size<=C
 ce:∀x c,X.env.cells.lookup x=some c->c≠C
 pi:∀p∈X.pn++W,p.1≠C
def x9(hc:X.calm=true)(S:N5 X M' N' scope)(hi:PI X tg iter wi)
  (hg:∀cl C s₂ a0 fp,PG (Ot X M' N' scope cl C s₂ a0 fp) tg g) (bb:∀cl C s₂ a0 fp,PTs (Ot X M' N' scope cl C s₂ a0 fp) ifs tc) (he:∀cl C s₂ a0 fp,PE (Ot X M' N' scope cl C s₂ a0 fp) elt te)
  (a1:∀y c,cl.lookup y=some c->X.env.cells.lookup y=some c) (b1:∀y,(y,NameKind.free)∈scope.names->∃c,cl.lookup y=some c) (I:Inv X W B H s) (h:wi B H R) (hB:∀J H,R J H->Bb M'.length g tc te B Q J H)
  (hR:∀D C s4 H',Inv X W B H' s4->(∃m,s4.heap.Ns C m)->K8 X W H' C->Q (.ref D) H'->RR (.ref D) C (.ok .next) s4):
  Wj X (eval iter X.env) (λv s1=>Wj X (pyIter v) (λb2 U=>Wj X (newList []) (λacc s3=>
   Wj X (newFunctionEnv scope X.env.globals cl [] X.env.qual none .none<|some X.env) (λa6 s4=>
    codeAny (model X.prog X.w) X.A (.compStart (.ListComp elt [{tg,iter,ifs,0}] scope pos) 0 b2 acc {a6 with scope:=relabel scope X.env}) (RR acc a6.locals) s4) X.xe s3) X.xe U) X.xe s1) X.xe s:=by
 refine N3 (hi W s B H _ I h) λv s1 h1=>N3 h1 λb2 U h2=>?_;let{it,fp,tn,J,H2,e,O,T,st2,f2,h}:=h2;subst e;refine wpAny_newObj_type<|wpAny_newFunctionEnv S.nocell (by intro y hy;simp at hy) (λh₁ Y Z=>?_) S.kind;dsimp only at Y Z⊢;generalize hD:U.heap.objs.size=D at*;generalize al:U.heap.push {cls:= .type gt,dict:=none,data:= .seq ([]:List Value).toArray}=h3 at Y Z⊢;have a3:h3.objs.size=D+1:=by rw[<-al,Heap.size_push,hD]
 have fD:H2 D=none:=O.hok.fresh (QY hD);let{JM,{m0,w0},turn}:=hB _ _ h D fD;generalize hC:h3.objs.size=C at*;have gD:U.heap.get? D=none:=Wf (QY hD);have gC:U.heap.get? C=none:=Wf (by rw[hD,a3];exact Za _);have DC:D≠C:=by rw[a3];exact QH<|ZH _
 have be:∀b o,U.heap.get? b=some o->h3.get? b=some o:=λb o e=>by rw[<-al];exact VC _ e
 have ac:∀b o,h3.get? b=some o->h₁.get? b=some o:=λb o e=>Z.extBut b o (by intro z;have:=VM e;rw[z,hC]at this;exact VG this<|ZD _) (VC _ e);have up:∀b o,U.heap.get? b=some o->h₁.get? b=some o:=λb o e=>ac b o (be b o e);have oD:h₁.get? D=some {cls:= .type gt,dict:=none,data:= .seq ([]:List Value).toArray}:=ac _ _ (by rw[<-al,<-hD];exact VN _ M);have a5:∀b∈fp,b≠C/\b∉Ou X.stack:=λb hb=>by
  let{o,e,_}:=T.obj _ _ st2 b hb;refine{λz=>(by rw[z,gC]at e;cases e),λz=>?_};rcases Qb.mp (O.stkSub b z)with q|q
  .exact(f2 b hb).2.1 q
  .exact(f2 b hb).2.2.1 q
 have fC:H2 C=none:=O.hok.fresh (by rw[hD,a3];exact Za _);have ok:(Ot X M' N' scope cl C U H2 fp).Ok:=
  {mod:=O.ok.mod,kind:=S.kind,glob:=O.ok.glob,blt:=O.ok.blt,above:=by show U.heap.objs.size<=C;rw[hD,a3];exact Za _
   inj:=λy z c h1 h2=>O.ok.inj y z c (a1 _ _ h1) (a1 _ _ h2),has:=λy hy=>b1 y (S.cells y hy),cab:=λy c z=>by cases z
   hd:=O.ok.hd,frames:=O.ok.frames,stk:= .inl M,exf:=λb hb=>{(a5 b hb).1,λy c e=>(f2 b hb).2.2.2.2.1 y c<|a1 y c e}
   bs:=O.bs,bsz:=Qr O.ok.bsz O.sz
   noex:=λb o e hb=>by
    rcases(f2 b hb).2.2.2.1 with q|q
    .exact O.ok.noex b o e q
    .exact VG (Qu (VM e)<|Qr O.ok.bsz q) (ZD _)
   exfs:=λb hb=>(a5 b hb).2,funs:=O.stack,frf:=O.stkFree}
 have bz:∀b u,H2 b=some u->b≠D:=λb u e=>am e fD;have I3:Inv (Ot X M' N' scope cl C U H2 fp) [] (List.replicate M'.length none++B) (upd H2 D<|.lst []) {U with heap:=h₁,toks:=U.toks+([]:Sm).length}:=
  {ok:=ok,os:=rfl,bare:=O.bare,base:=Un.laid up (QY hD) fD
   loc:={_,Y,λi y v e1 e2 e3=>by
    by_cases lt:i<M'.length
    .have e2:(List.replicate M'.length none++B)[i]?=some (some v):=e2;rw[Zt (by rwa[Zr]),List.getElem?_replicate,VB lt]at e2;cases e2
    .have e1:(M'++N')[i]?=some y:=e1;have e2:(List.replicate M'.length none++B)[i]?=some (some v):=e2;rw[Zp (Vs.mp lt)]at e1;rw[Zp (by rw[Zr];exact Vs.mp lt),Zr]at e2;generalize i-M'.length=j at e1 e2;let{e1,q1,q2}:=S.vis j y e1 e3;have kc:=S.free _ q1 M;let{m,hn,hl}:=O.loc;let{u,r,l}:=hl j y v e1 e2 (.inr<|.inl kc);refine{u,r,?_};rcases l with⟨k,_⟩|⟨_,c,e,z⟩
     .rw[kc]at k;cases k
     .let{c',e'}:=b1 y q1;have ee:=a1 _ _ e';rw[e]at ee;cases ee;let{o,ho,hd}:=z;exact .inr {.inl q2,c,e',o,up _ _ ho,hd}}
   cell:=λy c e=>by
    let{v,o,ho,hd}:=O.cell y c (a1 _ _ e);exact{v,o,up _ _ ho,hd}
   free:=by show upd H2 D (.lst []) C=none;rwa[ag DC.symm]
   freeC:=λy c e=>by
    have q:=O.freeC y c (a1 _ _ e);let{v,o,ho,hd}:=O.cell y c (a1 _ _ e);rw[ag (λz=>by rw[z,gD]at ho;cases ho)];exact q
   pin:=λp hp=>VG (show p∈([]:Rx) from hp) (by simp)
   hok:=O.hok.laid up (QY hD) {Qc _,[],0,.nil,oD}
   len:=by show(List.replicate M'.length none++B).length=(M'++N').length;rw[Q7,Q7,Zr,O.len,S.ln]}
 have a4:∀{H':Hp},(∀b∈fp,H' b=none)->∀b∈fp,mS (Ot X M' N' scope cl C U H2 fp) [] H' b:=λhn b hb=>
  {hn b hb,(a5 b hb).1,(a5 b hb).2,.inl hb,λy c e=>(f2 b hb).2.2.2.2.1 y c<|a1 _ _ e,λp hp=>VG (show p∈([]:Rx) from hp)<|by simp}
 have b3:tn 0 h₁:=T.keep _ _ _ st2 λb hb o e=>up b o e;have af:∀s3:Shared,s3={U with heap:=h₁,toks:=U.toks+([]:Sm).length}->
   codeAny (model X.prog X.w) X.A (.compLoop (.ListComp elt [{tg,iter,ifs,0}] scope pos) 0 (.ref it) (.ref D)<|compEnvC scope cl C X.env) (RR (.ref D) C) s3:=by
  rintro s3 rfl;refine codeAny_loop M (λn s'=>∃i τ ys H',Inv (Ot X M' N' scope cl C U H2 fp) [] τ H' s'/\tn i s'.heap/\(∀b∈fp,H' b=none)/\H' D=some (.lst ys)/\JM i n τ ys H') ?_ m0
   {0,_,[],_,I3,b3,λb hb=>by rw[ag (λz=>by let{o,e,_}:=T.obj _ _ st2 b hb;rw[z,gD]at e;cases e)];exact(f2 b hb).1,A9,w0}
  rintro n s' ⟨i,τ,ys,H',I',st',b4,bj,w'⟩;show wpAny _ X.A ((compTurn (.ListComp elt [{tg,iter,ifs,0}] scope pos) 0 (.ref it) (.ref D)<|compEnvC scope cl C X.env).onRaise<|λx=>do noteFrame x (compEnvC scope cl C X.env);theTreesLotGoes x) _ _ s';refine wpAny_noted ?_;rw[compTurn_list];refine VI<|wpAny_standAt (VI ?_);rcases turn i n τ ys H' w' bj with⟨b5,qn⟩|⟨go,step⟩
  .refine N3 (T.done (Ot X M' N' scope cl C U H2 fp) M M M hc i [] s' _ H' _ I' (a4 b4) st' b5) λr s4 zz=>?_;let{hr,I4}:=zz;subst hr;refine VR ?_;let{m,hn,_}:=I4.loc;have IX:Inv X W B H' s4:=O.call' (s':=s4) I4.os (show Un (Ou X.stack) fp H2 H' U.heap s4.heap from I4.base) I4.hok I4.bare λb hb=>{(f2 b hb).2.2.2.1,(f2 b hb).2.1,(f2 b hb).2.2.2.2.1,(f2 b hb).2.2.2.2.2};refine hR D C s4 H' IX ⟨m,hn⟩ {I4.free,λz=>?_,?_,λy c e z=>?_,λp hp z=>?_} qn
   .have:=O.lt;rw[<-z,a3,hD]at this;exact VG this<|Vs.mpr (Za _)
   .refine Qr O.sz ?_;rw[hD,a3];exact Za _
   .let{v,o,ho,_}:=O.cell y c e;rw[z,gC]at ho;cases ho
   .have ho:=(O.pin p hp).1;rw[z,gC]at ho;cases ho
  .refine N3 (T.item (Ot X M' N' scope cl C U H2 fp) M M M hc i [] s' _ H' _ I' (a4 b4) st' go) λr s4 zz=>?_;let{u,hr,h4}:=zz;subst hr;refine VI<|N3 h4 λ_ s5 a2=>?_;let{y,H5,I5,r5,y5,an,bl}:=a2;have bo:=I5.pinned (a4 bl) (T.obj _ _ an);let{G,hG,gq}:=step y H5 y5;refine VI<|W2 (hg cl C U H2 fp _ s5 _ H5 y _ _ bo r5 gq) (λ_ s6 a2=>?_) λ_ _ f=>f.elim;let{b8,H6,I6,q6}:=a2;have fin:∀{ba:St}{H7:Hp}{s7:Rm},Inv (Ot X M' N' scope cl C U H2 fp) ([]++uu fp s5.heap) ba H7 s7->tn (i+1) s7.heap/\∀b∈fp,H7 b=none:=λ{ba H7 s7} I7=>by
    refine{T.keep _ _ _ an λb hb o e=>(I7.pin (b,o)<|Qv _<|Qv _<|jQ hb e).1,λb hb=>?_};let{o,e,d}:=T.obj _ _ an b hb;exact(I7.pin (b,o)<|Qv _<|Qv _<|jQ hb e).2.1
   let{Ny,Ns,hy,hn,q6}:=hG _ _ q6;refine VI<|W2 (bb cl C U H2 fp _ s6 _ H6 _ I6 q6) (λb s7 zz=>?_) λ_ _ f=>f.elim;let{H7,I7,q7}:=zz;cases b with
   |false=>
    rw[VA Qg]at q7;let{bt,m',ap,w7}:=hn _ q7;exact VR<|show _/\_ from{M,m',ap,i+1,b8,ys,_,I7.unpinned,(fin I7).1,(fin I7).2,bt,w7}
   |true=>
    rw[VB M]at q7;refine VI<|VI (W2 (he cl C U H2 fp _ s7 _ H7 _ I7 q7) (λz s8 a2=>?_) λ_ _ f=>f.elim);let{y',H8,I8,r8,q8}:=a2;let{bv,bw,m',ap,w8}:=hy _ _ q8;refine VI<|W2 (cp (X:=Ot X M' N' scope cl C U H2 fp) _ s8 _ H8 (.ref D) [y'] (.ref D) [z] (λ_ H9=>H9=upd H8 D (.lst<|ys++ [y'])) I8 M (.cons r8 .nil) ⟨D,ys,y',M,M,bv,bw,M⟩) (λz9 s9 a2=>?_) λ_ _ f=>f.elim;let{_,H9,I9,_,e9}:=a2;subst e9;exact VR<|VR {M,m',ap,i+1,b8,ys++ [y'],_,I9.unpinned,(fin I9).1,(fin I9).2,A9,w8}
 exact codeAny_compStart_list (af _ M)<|T.self _ 0 _ _ _ b3 (af _ M)
def Inv.loose{h':Heap}(I:Inv X W B H s)(l:K8 X W H C)(z:Heap.SameBut C s.heap h'):Inv X W B H {s with heap:=h'}:=
 I.turned (t':=s.toks) (λb o hb e=>(z.2 b hb).trans e) l.no l.fr (.inr l.ab) l.ce l.pi
section
variable{py:Pos}
def Ap(hB:∀B Q J H,Wh B Q J H->Bb M'.length g tc te B Q J H)(hc:X.calm=true)(S:N5 X M' N' scope)(hi:PI X tg iter wi)(hg:N5 X M' N' scope->∀cl C s₂ z fp,PG (Ot X M' N' scope cl C s₂ z fp) tg g)(U:∀cl C s₂ z fp,PTs (Ot X M' N' scope cl C s₂ z fp) ifs tc)(he:∀cl C s₂ z fp,PE (Ot X M' N' scope cl C s₂ z fp) elt te)
  (hs:∀x,foldedSetIterable iter X.env x=pure x:=by subst_eqs):PE X (.ListComp elt [{tg,iter,ifs,0}] scope pos) (λB H Q=>wi B H<|Wh B Q):=by
 intro W s B H Q I h;let{cl,O,Y,Z}:=vm (env:=X.env) (scope:=scope) λp hp hf=>I.ok.has p.1 (.inl<|S.free p hp hf);rw[eval_ListComp];refine wpAny_comprehension_free (use:=none) M hs O S.kind S.names<|x9 hc S hi (hg S) U he Y Z I h (hB _ _) λD C s4 H' I4 hn l q=>?_;let{m,hn}:=hn;exact{m,hn,λh' sb=>{.ref D,H',I4.loose l sb,M,q}}
def Am(hB:∀B Q J H,Wh B Q J H->Bb M'.length g tc te B Q J H)(hc:X.calm=true)(S:N5 X M' N' scope)(hi:PI X tg iter wi)(hg:N5 X M' N' scope->∀cl C s₂ O fp,PG (Ot X M' N' scope cl C s₂ O fp) tg g)(Y:∀cl C s₂ O fp,PTs (Ot X M' N' scope cl C s₂ O fp) ifs tc)(he:∀cl C s₂ O fp,PE (Ot X M' N' scope cl C s₂ O fp) elt te)
  (hN:X.N.Nodup) (hy:X.N[i]?=some y) (hk:X.env.scope.names.lookup y=some .local) (Z:swapsWith (.ListComp elt [{tg,iter,ifs,0}] scope pos) (some<|.Name y py) spos.line X.env=pure true:=by rfl)
  (hs:∀x,foldedSetIterable iter X.env x=pure x:=by subst_eqs):PS X (.Assign [.Name y py] (.ListComp elt [{tg,iter,ifs,0}] scope pos) spos) (DR (λB H Q=>wi B H<|Wh B Q)<|lL i):=by
 intro W s B H D I h;let{cl,U,a0,a1}:=vm (env:=X.env) (scope:=scope) λp hp hf=>I.ok.has p.1 (.inl<|S.free p hp hf);rw[exec_Assign_Name_used _ _ _ _ Z];refine VI<|wpAny_standAt (VI ?_);show wpAny _ X.A (do let _<-comprehension (.ListComp elt [{tg,iter,ifs,0}] scope pos) scope X.env _ (newList []) false (eval iter X.env) (some<|assign (.Name y py) X.env)) _ _ s;refine VI (N3 (wpAny_comprehension_free (use:=some<|assign (.Name y py) X.env) (Q:=λ_ s'=>SP X W D .next s') M hs U S.kind S.names
  (x9 (Q:=λv H'=>D.nx (B.set i<|some v) H') hc S hi (hg S) Y he a0 a1 I h (hB _ _) λD' C s4 H' I4 hn l q=>?_)) λ_ s' hq=>VR<|VR hq)
 let{m,hn}:=hn;show wpAny _ X.A (assign (.Name y py) X.env<|.ref D') _ _ _;refine wpAny_assign_Name<|xE (v:= .ref D') I4 hN hy (.inl hk) M (λs5 I5 a2=>?_) (.inr hk);let{a,sb,ha}:=a2;have ne:C≠a:=by
  rcases ha with z|z
  .rw[z];exact l.fr
  .exact Ne.symm<|l.ce _ _ z
 exact{m,hn.sameBut sb ne,λh' a3=>{_,H',I5.loose l a3,q}}
end
def zt(te:TE)(B:St)(Q:VK)(J:It)(H1:Hp):Prop:=∀D,H1 D=none->∃JM:Nat->Nat->List V->Hp->Prop,(∃m,JM 0 m [] (upd H1 D<|.lst []))/\∀i m ys H2,JM i m ys H2->H2 D=some (.lst ys)->
 (J.stop i H2/\Q (.ref D) H2)\/(J.go i H2/\∀x H3,J.yld i H2 x H3->te (some x::B) H3 λy H4=>H4 D=some (.lst ys)/\ys.length<sizeLine/\∃m',m'<m/\JM (i+1) m' (ys++ [y]) (upd H4 D<|.lst<|ys++ [y]))
def Kx(wi:TI)(te:TE):TE:=λB H Q=>wi B H (zt te B Q)
def KW(h:zt te B Q J H1):Bb 1 (lL 0) Kr te B Q J H1:=λD hD=>by
 let{JM,{Y,w0},turn}:=h D hD;refine{λi m U ys H=>(∃v,U=v::B)/\JM i m ys H,{Y,⟨none,M⟩,w0},λi m U ys H2 w e=>?_};let{{v,rfl},w}:=w;rcases turn i m ys H2 w e with z|⟨go,z⟩
 .exact .inl z
 .refine .inr {go,λx H3 y=>{λI H4=>I=some x::B/\H4=H3,λI H4 e=>?_,M,M}};let{rfl,rfl}:=e;refine{λy O=>O D=some (.lst ys)/\ys.length<sizeLine/\∃m',m'<m/\JM (i+1) m' (ys++ [y]) (upd O D<|.lst<|ys++ [y]),λ_=>False,λy O n=>?_,λ_ n=>n.elim,?_}
  .let{Z,n2,m',n3,n4}:=n;exact{Z,n2,m',n3,{_,M},n4}
  .exact b7 (Wh:=False)<|z x _ y
def pI(hc:X.calm=true)(S:N5 X [x] N' scope)(hi:PI X (.Name x px) iter wi)(he:∀cl C s₂ z fp,PE (Ot X [x] N' scope cl C s₂ z fp) elt te)
  (hs:∀x,foldedSetIterable iter X.env x=pure x:=by subst_eqs):PE X (.ListComp elt [{.Name x px,iter,[],0}] scope pos) (Kx wi te):=
 Ap (Wh:=zt te) (λ_ _ _ _=>KW) hc S hi (λS _ _ _ _ _=>S.pg M) (λ_ _ _ _ _=>C2) he hs
def yP{py:Pos}(hc:X.calm=true)(S:N5 X [x] N' scope)(hi:PI X (.Name x px) iter wi)(he:∀cl C s₂ z fp,PE (Ot X [x] N' scope cl C s₂ z fp) elt te)
  (hN:X.N.Nodup) (hy:X.N[i]?=some y) (hk:X.env.scope.names.lookup y=some .local) (I:swapsWith (.ListComp elt [{.Name x px,iter,[],0}] scope pos) (some<|.Name y py) spos.line X.env=pure true:=by rfl)
  (hs:∀x,foldedSetIterable iter X.env x=pure x:=by subst_eqs):PS X (.Assign [.Name y py] (.ListComp elt [{.Name x px,iter,[],0}] scope pos) spos) (DR (Kx wi te)<|lL i):=
 Am (Wh:=zt te) (λ_ _ _ _=>KW) hc S hi (λS _ _ _ _ _=>S.pg M) (λ_ _ _ _ _=>C2) he hN hy hk I hs
noncomputable def Aj(scope dsc:Scope):List (Str×NameKind):=scope.names.map λp=>if(p.2==NameKind.free&&dsc.kind==ScopeKind.function&&dsc.names.lookup p.1==some NameKind.cell)=true then(p.1,NameKind.cell)else(p.1,p.2)
def KS(M' N N':Ry)(dsc:Scope)(scope:Scope):Bool:=
 (scope.kind==ScopeKind.function)&&decide (M'++N').Nodup&&(M'.all λx=>scope.names.lookup x==some NameKind.local)&&(scope.names.all λy=>y.2 !=NameKind.cell)&&(scope.names.all λy=>y.2 !=NameKind.local||scope.names.lookup y.1==some NameKind.local)
 &&(scope.names.all λy=>y.2 !=NameKind.free||dsc.names.lookup y.1==some NameKind.cell)&&(N'.all λy=>(Aj scope dsc).lookup y !=some NameKind.local&&(Aj scope dsc).lookup y !=some NameKind.free)&&decide (N'.length=N.length)&&(N'.zip N).all λp=>p.1==p.2||(Aj scope dsc).lookup p.1==none
set_option tactic.hygienic true in
theorem pE{dsc:Scope}:∀{l:List (Str×NameKind)}{y:Str}{k:NameKind},(∀p∈l,p.2≠NameKind.cell)->(l.map λp=>if(p.2==NameKind.free&&dsc.kind==ScopeKind.function&&dsc.names.lookup p.1==some NameKind.cell)=true then(p.1,NameKind.cell)else(p.1,p.2)).lookup y=some k->(k= .cell\/k= .free)->(y,NameKind.free)∈l
 | [],y,k,_,h,_=>by simp at h
 |(n,kk)::r,y,k,hn,h,hk=>by
  rw[Qt]at h;by_cases c:(kk==NameKind.free&&dsc.kind==ScopeKind.function&&dsc.names.lookup n==some NameKind.cell)=true
  .dsimp only at h;rw[VB c,ZI]at h;split at h
   .rename_i z
    rw[VP]at z;subst z;have:kk= .free:=by
     rw[Qq,Qq]at c;simpa using c.1.1
    rw[this];exact Q6
   .exact Qa _<|pE (λp I=>hn p<|Qa _ I) h hk
  .dsimp only at h;rw[VA c,ZI]at h;split at h
   .rename_i z
    rw[VP]at z;subst z;cases h;rcases hk with e|e
    .exact VG e<|hn _ Q6
    .rw[e];exact Q6
   .exact Qa _<|pE (λp I=>hn p<|Qa _ I) h hk
def N5.of{dsc:Scope}{N:Ry}(Z:X.N=N)(ed:X.env.scope=dsc)(h:KS M' N N' dsc scope=true):N5 X M' N' scope:=by
 unfold KS at h;simp only[Qq]at h;let{{{{{{{{h1,h2},h3},h4},h5},h6},h7},h8},h9}:=h;have O:(relabel scope X.env).names=Aj scope dsc:=by rw[<-ed];rfl
 have I:∀y∈scope.names,y.2≠NameKind.cell:=λy hy=>by have:=Z0.mp h4 y hy;simpa using this
 refine{by simpa using h1,VF h2,by rw[Z];exact VF h8,λx hx=>by simpa using Z0.mp h3 x hx,I,λy hy e=>?_,λy hy e=>?_,λj y Y v=>?_,λy e=>?_}
 .have:=Z0.mp h5 y hy;rw[e]at this;simpa using this
 .have:=Z0.mp h6 y hy;rw[e]at this;show X.env.scope.names.lookup y.1=_;rw[ed];simpa using this
 .have U:=Z0.mp h7 y (Q1 Y);have hz:∃z,N[j]?=some z/\(y,z)∈N'.zip N:=by
   have lj:=(Q2.mp Y).1;have l8:N'.length=N.length:=VF h8;refine{N[j]'(),Q3 _,?_};refine Q1 (i:=j) ?_;rw[List.getElem?_zip_eq_some];exact{Y,Q3 _}
  let{z,hz,mz}:=hz;have e9:=Z0.mp h9 _ mz;unfold RL at v;rw[O]at v⊢;have U:¬(Aj scope dsc).lookup y=some NameKind.local/\¬(Aj scope dsc).lookup y=some NameKind.free:=by simpa using U
  rcases v with v|v|v
  .exact VG v U.1
  .refine{?_,pE I v<|.inl M,v};rw[Z,hz];dsimp only at e9;rw[v,Bool.or_eq_true]at e9;rcases e9 with e9|e9
   .rw[VP]at e9;rw[e9]
   .cases e9
  .exact VG v U.2
 .have e:(Aj scope dsc).lookup y=some .cell\/(Aj scope dsc).lookup y=some .free:=by rwa[<-O]
  rcases e with e|e
  .exact pE I e<|.inl M
  .exact pE I e<|.inr M
abbrev _root_.Si:=Nat->List V->Hp->Prop
def OA(n i:Nat)(ys:Rq)(D:Rl)(Pv:Si):VK:=λy H4=>H4 D=some (.lst ys)/\ys.length<sizeLine/\∃m',m'<n-i/\m'=n-(i+1)/\i+1<=n/\Pv (i+1) (ys++ [y]) (upd H4 D<|.lst<|ys++ [y])
def OA.mk{Pv:Si}{y:V}(hi:i<n)(h1:H4 D=some (.lst ys))(h2:ys.length<sizeLine)(z:Pv (i+1) (ys++ [y]) (upd H4 D<|.lst<|ys++ [y])):OA n i ys D Pv y H4:=
 {h1,h2,n-(i+1),(),M,hi,z}
def jk(Pv:Si)(z:Pv 0 [] (upd H1 D<|.lst []))(hl:∀i ys H,i<=xs.length->Pv i ys H->Dz K H a xs)
  (hs:∀i x ys H2,xs[i]?=some x->Pv i ys H2->H2 D=some (.lst ys)->te (some x::B) H2 (OA xs.length i ys D Pv))
  (hd:∀ys H2,Pv xs.length ys H2->H2 D=some (.lst ys)->Fin H2):
  ∃JM:Nat->Nat->List V->Hp->Prop,(∃m,JM 0 m [] (upd H1 D<|.lst []))/\∀i m ys H2,JM i m ys H2->H2 D=some (.lst ys)->
   ((Pa K a).stop i H2/\Fin H2)\/((Pa K a).go i H2/\∀x H3,(Pa K a).yld i H2 x H3->te (some x::B) H3 λy H4=>H4 D=some (.lst ys)/\ys.length<sizeLine/\∃m',m'<m/\JM (i+1) m' (ys++ [y]) (upd H4 D<|.lst<|ys++ [y])):=by
 refine{λi m ys H=>m=xs.length-i/\i<=xs.length/\Pv i ys H,{xs.length,by simp,Qc _,z},?_};rintro i m ys H ⟨rfl,hi,p⟩ hD;have q:=hl i ys H hi p;by_cases lt:i<xs.length
 .refine .inr {{xs,xs[i],q,by simp[lt]},λx H' y=>?_};let{e,y}:=y;subst e;exact hs i x ys _ (y xs q) p hD
 .have e:i=xs.length:=();subst e;exact .inl {{xs,q,Q4 _},hd ys H p hD}
def vk(Pv:Si)(z:Pv 0 [] (upd H1 D<|.lst []))
  (hs:∀i ys H2,i<n->Pv i ys H2->H2 D=some (.lst ys)->te (some (.int<|lo+i)::B) H2 (OA n i ys D Pv))
  (hd:∀ys H2,Pv n ys H2->H2 D=some (.lst ys)->Fin H2):
  ∃JM:Nat->Nat->List V->Hp->Prop,(∃m,JM 0 m [] (upd H1 D<|.lst []))/\∀i m ys H2,JM i m ys H2->H2 D=some (.lst ys)->
   ((Po lo n).stop i H2/\Fin H2)\/((Po lo n).go i H2/\∀x H3,(Po lo n).yld i H2 x H3->te (some x::B) H3 λy H4=>H4 D=some (.lst ys)/\ys.length<sizeLine/\∃m',m'<m/\JM (i+1) m' (ys++ [y]) (upd H4 D<|.lst<|ys++ [y])):=by
 refine{λi m ys H=>m=n-i/\i<=n/\Pv i ys H,{n,by simp,Qc _,z},?_};rintro i m ys H ⟨rfl,hi,p⟩ hD;by_cases lt:i<n
 .refine .inr {lt,λx H' y=>?_};let{e,y}:=y;subst e y;exact hs i ys _ lt p hD
 .have e:i=n:=();subst e;exact .inl {Q4 _,hd ys H p hD}
def zq(tc:TT)(te:TE)(B:St)(Q:VK)(J:It)(H1:Hp):Prop:=∀D,H1 D=none->∃JM:Nat->Nat->List V->Hp->Prop,(∃m,JM 0 m [] (upd H1 D<|.lst []))/\∀i m ys H2,JM i m ys H2->H2 D=some (.lst ys)->
 (J.stop i H2/\Q (.ref D) H2)\/(J.go i H2/\∀x H3,J.yld i H2 x H3->tc (some x::B) H3 λb H4=>if b=true then te (some x::B) H4 λy H5=>H5 D=some (.lst ys)/\ys.length<sizeLine/\∃m',m'<m/\JM (i+1) m' (ys++ [y]) (upd H5 D<|.lst<|ys++ [y])else H4 D=some (.lst ys)/\∃m',m'<m/\JM (i+1) m' ys H4)
def Fz(wi:TI)(tc:TT)(te:TE):TE:=λB H Q=>wi B H (zq tc te B Q)
def KU(h:zq tc te B Q J H1):Bb 1 (lL 0) tc te B Q J H1:=λD hD=>by
 let{JM,{m0,w0},turn}:=h D hD;refine{λi m Z ys H=>(∃v,Z=v::B)/\JM i m ys H,{m0,⟨none,M⟩,w0},λi m Z ys H2 w e=>?_};let{{v,rfl},w}:=w;rcases turn i m ys H2 w e with z|⟨go,z⟩
 .exact .inl z
 .refine .inr {go,λx H3 y=>{λI H4=>I=some x::B/\H4=H3,λI H4 e=>?_,M,M}};let{rfl,rfl}:=e;refine{_,_,λy H6 n=>?_,λH5 n=>?_,z x _ y}
  .let{O,n2,m',U,Y}:=n;exact{O,n2,m',U,{_,M},Y}
  .let{O,m',U,Y}:=n;exact{O,m',U,{_,M},Y}
def lh{I:Expr}(hc:X.calm=true)(S:N5 X [x] N' scope)(hi:PI X (.Name x px) iter wi)(O:∀cl C s₂ z fp,PT (Ot X [x] N' scope cl C s₂ z fp) I tc)(he:∀cl C s₂ z fp,PE (Ot X [x] N' scope cl C s₂ z fp) elt te)
  (hs:∀x,foldedSetIterable iter X.env x=pure x:=by subst_eqs):PE X (.ListComp elt [{.Name x px,iter,[I],0}] scope pos) (Fz wi tc te):=
 Ap (Wh:=zq tc te) (λ_ _ _ _=>KU) hc S hi (λS _ _ _ _ _=>S.pg M) (λ_ _ _ _ _=>CZ<|O _ _ _ _ _) he hs
def FR{I:Expr}{py:Pos}(hc:X.calm=true)(S:N5 X [x] N' scope)(hi:PI X (.Name x px) iter wi)(O:∀cl C s₂ z fp,PT (Ot X [x] N' scope cl C s₂ z fp) I tc)(he:∀cl C s₂ z fp,PE (Ot X [x] N' scope cl C s₂ z fp) elt te)
  (hN:X.N.Nodup) (hy:X.N[i]?=some y) (hk:X.env.scope.names.lookup y=some .local) (U:swapsWith (.ListComp elt [{.Name x px,iter,[I],0}] scope pos) (some<|.Name y py) spos.line X.env=pure true:=by rfl)
  (hs:∀x,foldedSetIterable iter X.env x=pure x:=by subst_eqs):PS X (.Assign [.Name y py] (.ListComp elt [{.Name x px,iter,[I],0}] scope pos) spos) (DR (Fz wi tc te)<|lL i):=
 Am (Wh:=zq tc te) (λ_ _ _ _=>KU) hc S hi (λS _ _ _ _ _=>S.pg M) (λ_ _ _ _ _=>CZ<|O _ _ _ _ _) he hN hy hk U hs
def OP(n i:Nat)(ys:Rq)(D:Rl)(Pv:Si)(H4:Hp):Prop:=H4 D=some (.lst ys)/\∃m',m'<n-i/\m'=n-(i+1)/\i+1<=n/\Pv (i+1) ys H4
def OP.mk{Pv:Si}(hi:i<n)(h1:H4 D=some (.lst ys))(z:Pv (i+1) ys H4):OP n i ys D Pv H4:={h1,n-(i+1),(),M,hi,z}
def ku(Pv:Si)(I:Pv 0 [] (upd H1 D<|.lst []))(hl:∀i ys H,i<=xs.length->Pv i ys H->Dz K H a xs)
  (hs:∀i x ys H2,xs[i]?=some x->Pv i ys H2->H2 D=some (.lst ys)->tc (some x::B) H2 λb H4=>if b=true then te (some x::B) H4 (OA xs.length i ys D Pv)else OP xs.length i ys D Pv H4)
  (hd:∀ys H2,Pv xs.length ys H2->H2 D=some (.lst ys)->Fin H2):
  ∃JM:Nat->Nat->List V->Hp->Prop,(∃m,JM 0 m [] (upd H1 D<|.lst []))/\∀i m ys H2,JM i m ys H2->H2 D=some (.lst ys)->
   ((Pa K a).stop i H2/\Fin H2)\/((Pa K a).go i H2/\∀x H3,(Pa K a).yld i H2 x H3->tc (some x::B) H3 λb H4=>if b=true then te (some x::B) H4 λy z=>z D=some (.lst ys)/\ys.length<sizeLine/\∃m',m'<m/\JM (i+1) m' (ys++ [y]) (upd z D<|.lst<|ys++ [y])else H4 D=some (.lst ys)/\∃m',m'<m/\JM (i+1) m' ys H4):=by
 refine{λi m ys H=>m=xs.length-i/\i<=xs.length/\Pv i ys H,{xs.length,by simp,Qc _,I},?_};rintro i m ys H ⟨rfl,hi,p⟩ hD;have q:=hl i ys H hi p;by_cases lt:i<xs.length
 .refine .inr {{xs,xs[i],q,by simp[lt]},λx H' y=>?_};let{e,y}:=y;subst e;exact hs i x ys _ (y xs q) p hD
 .have e:i=xs.length:=();subst e;exact .inl {{xs,q,Q4 _},hd ys H p hD}
def Ite(K:Wi)(a:Rl):It:=
 {λi H=>∃xs x,Dz K H a xs/\xs[i]?=some x,λi H x H'=>∃p y,x= .ref p/\H p=none/\(∀xs,Dz K H a xs->xs[i]?=some y)/\H'=upd H p (.tup [.int (i:Int),y]),λi H=>∃xs,Dz K H a xs/\xs.length<=i}
def DP{x1}(a e it:Rl)(U:e≠it):
  vC P w K (.Tuple elts x1 pos) (Ite K a) [e,it] e (λi h=>(∃old,IsEnum h e it i old)/\h.IsListIter it a i) where
 mem:=by simp
 obj:=λi h st b hb=>by
  let{{old,he},st}:=st;rcases Qb.mp hb with rfl|hb
  .exact{_,he,λv z=>by cases z}
  .have z:b=it:=by simpa using hb
   subst z;let{o,q,c,d}:=st;exact{o,q,λv z=>by rw[d]at z;cases z}
 keep:=λi h h' st k=>{let⟨old,he⟩:=st.1;{old,k e (by simp) _ he},st.2.at λo q=>k it (by simp) o q}
 item:=by
  intro X Y hw hK hc i W s B H E I hf st Z;subst Y hw hK;let{{old,he},st}:=st;let{xs,x,hq,hx}:=Z;let{its,rv,p,hz}:=I.list hq;let{u,hu,ru}:=rv.get hx;have fe:=hf e (by simp);have fi:=hf it (by simp);refine wpAny_pyNext_enum_item he st p.isList (x:=u) (by simpa using hu) U λh' g1 g2 g3 g4 g5=>{_,M,?_};refine wpAny_letOwnedTupleGo_enum g1 λh2 k1 k2=>?_;have np:H s.heap.objs.size=none:=I.hok.fresh (Q4 _);have a0:s.heap.objs.size≠e:=ZU (VM he);have keep:∀b o,b≠e->b≠it->s.heap.get? b=some o->h2.get? b=some o:=λb o z1 z2 q=>(k2.2 b z1).trans (g5 b o z1 z2 q);have O:h2.get? s.heap.objs.size=some {cls:= .type l6,data:= .seq #[.int i s.toks,u]}:=(k2.2 _ a0).trans g3;have Pp:∀b v,H b=some v->b≠e/\b≠it:=λb v q=>{(λz=>by rw[z,fe.1]at q;cases q),(λz=>by rw[z,fi.1]at q;cases q)};have un:Un (Ou X.stack) [e,it] H (upd H s.heap.objs.size<|.tup [.int (i:Int),x]) s.heap h2:=by
   refine{λb o q n hb hx=>keep b o (λz=>hx<|by simp[z]) (λz=>hx<|by simp[z]) q,λb o q n hb hx=>{o.slots,keep b o (λz=>hx<|by simp[z]) (λz=>hx<|by simp[z]) q},λb o q n hx=>?_,
    λb o q hx=>{o,keep b o (λz=>hx<|by simp[z]) (λz=>hx<|by simp[z]) q},λb ys q=>?_,λb o v q=>?_,λb ps q=>{#[],?_}}
   .rwa[ag (QH<|VM q)]
   .rw[ag (am q np)];exact q
   .rw[ag (am q np)];exact q
   .rw[ag (am q np),q];simp
  have hok:OK X.prog X.w (upd H s.heap.objs.size<|.tup [.int (i:Int),x]) h2:=λb v q=>by
   by_cases z:b=s.heap.objs.size
   .subst z;rw[A9]at q;cases q;exact{by show 2<=sizeLine;decide,[.int i s.toks,u],.cons {_,M}<|.cons ru .nil,_,O,M,_,M}
   .rw[ag z]at q;refine(I.hok b v q).stay (λc o hc r=>?_) (λc r=>by rwa[ag (am r np)]) λc ys r=>by rwa[ag (am r np)]
    rcases hc with rfl|hc
    .exact keep _ _ (Pp _ _ q).1 (Pp _ _ q).2 r
    .exact keep _ _ (Pp _ _ hc).1 (Pp _ _ hc).2 r
  have I2:Inv X W B (upd H s.heap.objs.size<|.tup [.int (i:Int),x]) {s with heap:=h2,toks:=s.toks+1}:=I.call' (s':={s with heap:=h2,toks:=s.toks+1}) M un hok I.bare λb hb=>by
   have z:mS X W H b:=hf b hb;exact⟨z.2.2.2.1,z.2.1,z.2.2.2.2.1,z.2.2.2.2.2⟩
  refine{.ref s.heap.objs.size,_,I2,M,{_,x,M,np,λys hy=>by rwa[I.list_inj hy hq],M},{{u,?_},?_},λb hb=>?_}
  .have:=k1;rwa [show((i:Int)+1)=((i+1:Nat):Int) by lia]at this
  .let{o,q,r}:=g2;exact{o,(k2.2 it<|Ne.symm U).trans q,r}
  .have ob:∃o,s.heap.get? b=some o:=by
    rcases Qb.mp hb with rfl|hb
    .exact{_,he}
    .have z:b=it:=by simpa using hb
     subst z;let{o,q,_}:=st;exact⟨o,q⟩
   let{o,q}:=ob;rw[ag (QH<|VM q)];exact(hf b hb).1
 done:=by
  intro X Y hw hK hc i W s B H E I hf st Z;subst Y hw hK;let{{old,he},st}:=st;let{xs,hq,hx}:=Z;let{its,rv,p,hz}:=I.list hq;let{f0,f1,f2,f3,f4,f5}:=hf it (by simp);have hl:=rv.length;exact wpAny_pyNext_enum_end (I.ok.hd hc) he st p.isList (by simp;lia) λh' eb=>{M,I.turned (t':=s.toks) (λb o hb e=>eb b o hb e) f0 f1 f3 f4 f5}
 self:=λ_ _ _ _ _ st h=>let⟨old,he⟩:=st.1;wpAny_pyIter_enum he h
def NA(K:Wi)(ta:TA):TI:=λB H R=>ta B H λvs H1=>∃a,vs=[.ref a]/\(∃xs,Dz K H1 a xs)/\R (Ite K a) H1
def IQ{a:Expr}{p pos':Pos}{x1}(Z:Gl X "enumerate")(hm:X.mg "enumerate"=none)(ha:PA X [a] ta)(hs:starEach [a] X.env=[(false,eval a X.env)]:=by rfl):PI X (.Tuple elts x1 pos') (.Call (.Name "enumerate" p) [a] [] pos) (NA X.K ta):=by
 intro W s B H R I h;refine Call_<|oS I Z hm Boot.«enumerate» (PyProof.Rows.callWith_type1 (N3 (ha pos W s B H _ I h) λus s1 U=>?_) hs M);let{vs,H1,O,r1,q1}:=U;let{b,e,{xs,hq},q}:=q1;subst e;cases r1 with
 |cons r rr=>
  cases rr;cases r;let{its,rv,p,hz}:=O.list hq;refine call_enumerate_list p.isList λh' Y g2 g3 g4=>?_;refine wpAny_pyIter_enum Y ?_;refine{s1.heap.objs.size+1,[s1.heap.objs.size+1,s1.heap.objs.size],_,_,H1,M,O.kept (t':=s1.toks) g4,DP b _ _<|Nat.succ_ne_self _,{{_,Y},g2},λb hb=>?_,q};rcases Qb.mp hb with rfl|hb
  .exact O.fpOk (Za _)<|O.hok.fresh (Za _)
  .have z:b=s1.heap.objs.size:=by simpa using hb
   subst z;exact O.fpOk (Q4 _)<|O.hok.fresh (Q4 _)
def EN(Pv:Sl)(U:Pv 0 B H)(hl:∀i B H,i<=xs.length->Pv i B H->Dz K H a xs)
  (hs:∀i x p B H,xs[i]?=some x->Pv i B H->H p=none->g (.ref p) B (upd H p<|.tup [.int (i:Int),x]) λI H2=>tb {Pv<|i+1,rt,nx,Pv<|i+1} I H2) (hd:∀B H,Pv xs.length B H->nx B H):
  ∃JM:Nat->Nat->St->Hp->Prop,(∃m,JM 0 m B H)/\∀i m B H,JM i m B H->
   ((Ite K a).stop i H/\nx B H)\/((Ite K a).go i H/\∃N:St->Hp->Prop,(∀O H',N O H'->∃m',m'<m/\JM (i+1) m' O H')/\∀x H',(Ite K a).yld i H x H'->g x B H' λI H2=>tb ⟨N,rt,nx,N⟩ I H2):=by
 refine{λi m B H=>m=xs.length-i/\i<=xs.length/\Pv i B H,{xs.length,by simp,Qc _,U},?_};rintro i m B H ⟨rfl,hi,p⟩;have q:=hl i B H hi p;by_cases lt:i<xs.length
 .refine .inr {{xs,xs[i],q,by simp[lt]},Pv<|i+1,λO H' z=>{xs.length-(i+1),(),M,lt,z},λx H' y=>?_};let{Y,Z,rfl,np,e,rfl}:=y;exact hs i Z Y B H (e xs q) p np
 .have e:i=xs.length:=();subst e;exact .inl {{xs,q,Q4 _},hd B H p}
noncomputable def RB(a d:Rl):HO:= .ext λh=>h.IsItemsView a d
def Itd(ob:Obj)(d:Rl)(kvs:RY):It:=
 {λi H=>H d=some (.frz ob<|.dK kvs)/\i<kvs.length,λi H x H'=>∃p k v,x= .ref p/\H p=none/\kvs[i]?=some (k,v)/\H'=upd H p (.tup [kV k,v]),λi H=>H d=some (.frz ob<|.dK kvs)/\kvs.length<=i}
def DObj(P:Rv)(w:Ru)(ob:Obj)(d:Rl)(kvs:RY)(vs:List (Key×Value))(ep:Nat):Prop:=
 KV kvs vs/\∀h:Heap,h.get? d=some ob->h.DictAt (bx P w) d vs ep
set_option tactic.hygienic true in
def KV.getI(h:KV kvs vs):∀{i:Nat}{k:Key}{v:V},kvs[i]?=some (k,v)->∃u,vs[i]?=some (k,u)/\RelV v u:=by
 induction h with
 |nil=>intro i k v e;simp at e
 |cons r t z=>
  rename_i p q ps qs
  intro i k v e;cases i with
  |zero=>
   simp at e;subst e;exact{q.2,by simp[show k=q.1 from r.1],r.2}
  |succ j=>
   let{u,h1,h2}:=z (i:=j) (by simpa using e);exact{u,by simpa using h1,h2}
def BA{x1}(it:Rl)(D:DObj P w ob d kvs vs ep):
  vC P w K (.Tuple elts x1 pos) (Itd ob d kvs) [it] it (λi h=>∃ok Z,IsItemIter h it d i vs.length ep ok Z) where
 mem:=by simp
 obj:=λi h st b hb=>by
  let{ok,Z,st}:=st;have z:b=it:=by simpa using hb
  subst z;exact{_,st,λv z=>by cases z}
 keep:=λi h h' st k=>by
  let{ok,Z,st}:=st;exact{ok,Z,k it (by simp) _ st}
 item:=by
  intro X hP hw hK hc i W s B H E I hf st hg;subst hP hw hK;let{ok,Z,st}:=st;let{hq,hi}:=hg;have fi:=hf it (by simp);let{O,_}:=I.hok d _ hq;have U:=D.2 s.heap O;obtain⟨⟨k,v⟩,hx⟩:∃kv,kvs[i]?=some kv:={kvs[i],by simp[hi]};let{u,hu,ru}:=KV.getI D.1 hx;refine wpAny_pyNext_items_item st U hu λkey h' a0 g1 g3 gz g5=>{_,M,?_};refine wpAny_letOwnedTupleGo_items g1 λh2 k1 k2=>?_;have rk:RelV (kV k) key:=zj a0;have np:H s.heap.objs.size=none:=I.hok.fresh (Q4 _);have a1:s.heap.objs.size≠it:=ZU (VM st);have keep:∀b o,b≠it->s.heap.get? b=some o->h2.get? b=some o:=λb o z q=>(k2.2 b z).trans (g5 b o z q);have Y:h2.get? s.heap.objs.size=some {cls:= .type l6,data:= .seq #[key,u]}:=(k2.2 _ a1).trans g3;have Pp:∀b v,H b=some v->b≠it:=λb v q z=>by rw[z,fi.1]at q;cases q
  have un:Un (Ou X.stack) [it] H (upd H s.heap.objs.size<|.tup [kV k,v]) s.heap h2:=by
   refine{λb o q n hb hx=>keep b o (λz=>hx<|by simp[z]) q,λb o q n hb hx=>{o.slots,keep b o (λz=>hx<|by simp[z]) q},λb o q n hx=>?_,
    λb o q hx=>{o,keep b o (λz=>hx<|by simp[z]) q},λb ys q=>?_,λb o v q=>?_,λb ps q=>{#[],?_}}
   .rwa[ag (QH<|VM q)]
   .rw[ag (am q np)];exact q
   .rw[ag (am q np)];exact q
   .rw[ag (am q np),q];simp
  have hok:OK X.prog X.w (upd H s.heap.objs.size<|.tup [kV k,v]) h2:=λb v' q=>by
   by_cases z:b=s.heap.objs.size
   .subst z;rw[A9]at q;cases q;exact{by show 2<=sizeLine;decide,[key,u],.cons rk<|.cons ru .nil,_,Y,M,_,M}
   .rw[ag z]at q;refine(I.hok b v' q).stay (λc o hc r=>?_) (λc r=>by rwa[ag (am r np)]) λc ys r=>by rwa[ag (am r np)]
    rcases hc with rfl|hc
    .exact keep _ _ (Pp _ _ q) r
    .exact keep _ _ (Pp _ _ hc) r
  have I2:Inv X W B (upd H s.heap.objs.size<|.tup [kV k,v]) {s with heap:=h2}:=I.call' (s':={s with heap:=h2}) M un hok I.bare λb hb=>by
   have z:mS X W H b:=hf b hb;exact⟨z.2.2.2.1,z.2.1,z.2.2.2.2.1,z.2.2.2.2.2⟩
  refine{.ref s.heap.objs.size,_,I2,M,{_,k,v,M,np,hx,M},⟨key,u,k1⟩,λb hb=>?_};have z:b=it:=by simpa using hb
  subst z;rw[ag (Ne.symm a1)];exact fi.1
 done:=by
  intro X hP hw hK hc i W s B H E I hf st hg;subst hP hw hK;let{ok,Z,st}:=st;let{hq,hi}:=hg;let{O,_}:=I.hok d _ hq;have U:=D.2 s.heap O;let{f0,f1,f2,f3,f4,f5}:=hf it (by simp);have hl:kvs.length=vs.length:=D.1.length;exact wpAny_pyNext_items_end (I.ok.hd hc) st U (by simp;lia) λh' eb=>{M,I.turned (t':=s.toks) (λb o hb e=>eb b o hb e) f0 f1 f3 f4 f5}
 self:=λ_ _ _ _ _ st h=>let⟨_,_,st⟩:=st;PySem.W.kcp_self st h
inductive LD(x:V)(vs:Rq)(H:Hp)(Q:VK):Prop
 |mk(d kvs:_)(_:x= .ref d)(_:vs=[])(_:H d=some (.dK kvs))(_:∀a,H a=none->Q (.ref a) (upd H a<|RB a d))
def Ay:RA X "dict.items" LD:=by
 intro W s B H x vs v us Q I O rv h;let{d,kvs,rfl,rfl,hd,q}:=h;cases O;cases rv;let{z,lo,ws,U,dd}:=vf I.hok hd;refine call_meetsIn Xu dd.typeIs PySem.F.entry_dict_items (PySem.F.args_dict_items_1 _) (meets_dict_items (bx X.prog X.w) d lo) {⟨ws,dd⟩,?_};have new:(s.heap.push {cls:= .type "dict_items",data:= .fields #[.ref d]}).get? s.heap.objs.size=some {cls:= .type "dict_items",data:= .fields #[.ref d]}:=VN _ M;refine{.ref s.heap.objs.size,_,I.laid (t':=s.toks) (λb o e=>VC _ e) (Q4 _) (show N6 X.prog X.w _ _ _ (RB s.heap.objs.size d) from{{_,new,M,M},{_,new},λh1 h2 p k=>?_}),M,q _<|I.hok.fresh (Q4 _)};let{o,e,c}:=p;exact{o,k o e,c}
def Inv.freeze{H:Hp}{d:Rl}{kvs:RY}(I:Inv X W B H s)(hd:H d=some (.dK kvs))(O:s.heap.get? d=some ob):Inv X W B (upd H d<|.frz ob<|.dK kvs) s:=by
 have own:∀b y,H b=some (.own y)->upd H d (.frz ob<|.dK kvs) b=some (.own y):=λb y q=>by rw[ag (λz=>by rw[z,hd]at q;cases q)];exact q
 have tup:∀b xs,H b=some (.tup xs)->upd H d (.frz ob<|.dK kvs) b=some (.tup xs):=λb xs q=>by rw[ag (λz=>by rw[z,hd]at q;cases q)];exact q
 have non:∀b,H b=none->upd H d (.frz ob<|.dK kvs) b=none:=λb q=>by rw[ag (λz=>by rw[z,hd]at q;cases q)];exact q
 refine{I.ok,I.os,I.bare,{I.base.keep,I.base.slot,λb o e n hx=>non b<|I.base.free b o e n hx,I.base.there,λb xs e=>tup b xs<|I.base.tups b xs e,λb o u e=>?_,λb ps e=>?_},I.loc,I.cell,non _ I.free,λx c e=>non c<|I.freeC x c e,λp U=>?_,λb o e=>?_,I.len}
 .have:=I.base.frzs b o u e;rwa[ag (λz=>by rw[z,hd]at this;cases this)]
 .let{m,q}:=I.base.tbls b ps e;exact{m,by rw[ag (λz=>by rw[z,hd]at q;cases q)];exact q}
 .let{h1,h2,Y}:=I.pin p U;exact{h1,non _ h2,Y}
 .by_cases z:b=d
  .subst z;rw[A9]at e;cases e;exact{O,(I.hok b _ hd).stay (λ_ _ _ q=>q) (λc q=>own c b q) tup}
  .rw[ag z]at e;exact(I.hok b o e).stay (λ_ _ _ q=>q) (λc q=>own c b q) tup
def Inv.thaw{H:Hp}{d:Rl}{kvs:RY}(I:Inv X W B H s)(hd:H d=some (.frz ob<|.dK kvs))(O:∀o u,X.H₀ d≠some (.frz o u)):Inv X W B (upd H d<|.dK kvs) s:=by
 have own:∀b y,H b=some (.own y)->upd H d (.dK kvs) b=some (.own y):=λb y q=>by rw[ag (λz=>by rw[z,hd]at q;cases q)];exact q
 have tup:∀b xs,H b=some (.tup xs)->upd H d (.dK kvs) b=some (.tup xs):=λb xs q=>by rw[ag (λz=>by rw[z,hd]at q;cases q)];exact q
 have non:∀b,H b=none->upd H d (.dK kvs) b=none:=λb q=>by rw[ag (λz=>by rw[z,hd]at q;cases q)];exact q
 refine{I.ok,I.os,I.bare,{I.base.keep,I.base.slot,λb o e n hx=>non b<|I.base.free b o e n hx,I.base.there,λb xs e=>tup b xs<|I.base.tups b xs e,λb o u e=>?_,λb ps e=>?_},I.loc,I.cell,non _ I.free,λx c e=>non c<|I.freeC x c e,λp U=>?_,λb o e=>?_,I.len}
 .have:=I.base.frzs b o u e;rwa[ag (λz=>by rw[z]at e;exact O _ _ e)]
 .let{m,q}:=I.base.tbls b ps e;exact{m,by rw[ag (λz=>by rw[z,hd]at q;cases q)];exact q}
 .let{h1,h2,Y}:=I.pin p U;exact{h1,non _ h2,Y}
 .by_cases z:b=d
  .subst z;rw[A9]at e;cases e;let{_,q}:=I.hok b _ hd;exact N6.stay (show N6 X.prog X.w H s.heap b (.dK kvs) from q) (λ_ _ _ q=>q) (λc q=>own c b q) tup
  .rw[ag z]at e;exact(I.hok b o e).stay (λ_ _ _ q=>q) (λc q=>own c b q) tup
def Inv.noFrz{H:Hp}{d:Rl}{kvs:RY}(I:Inv X W B H s)(hd:H d=some (.dK kvs)):∀o u,X.H₀ d≠some (.frz o u):=λo u e=>by
 have:=I.base.frzs d o u e;rw[hd]at this;cases this
def Mj(te:TE):TI:=λB H R=>te B H λx H1=>∃a d kvs,x= .ref a/\H1 a=some (RB a d)/\H1 d=some (.dK kvs)/\∀ob,R (Itd ob d kvs) (upd H1 d<|.frz ob<|.dK kvs)
def Ao{x1}(hl:PE X l te):PI X (.Tuple elts x1 pos) l (Mj te):=by
 intro W s B H R I h;refine N3 (hl W s B H _ I h) λv s1 U=>?_;let{x,H1,Y,r1,q1}:=U;let{a,d,kvs,e,ha,hd,q}:=q1;subst e;cases r1;let{z,lo,vs,Z,dd}:=vf Y.hok hd;let{ep,O}:=dd.dictAt;let{vw,_,_}:=(show N6 X.prog X.w H1 s1.heap a (RB a d) from Y.hok a _ ha);let{ob,es,a0,rest}:=id O;refine wpAny_pyIter_items vw O ?_;have If:=Y.freeze hd a0;refine{s1.heap.objs.size,[s1.heap.objs.size],_,_,_,M,If.kept (t':=s1.toks) λb o e=>VC _ e,BA _ {Z,λh e=>⟨ob,es,e,rest⟩},{_,_,VN _ M},λb hb=>?_,q ob};have e:b=s1.heap.objs.size:=by simpa using hb
 subst e;exact If.fpOk (Q4 _) (If.hok.fresh<|Q4 _)
inductive MR(t:TS)(D:kB)(B:St)(H:Hp):Prop
 |mk(d kvs:_)(_:H d=some (.dK kvs))(_:t {λσ' H'=>∃ob,H' d=some (.frz ob<|.dK kvs)/\D.nx σ' (upd H' d<|.dK kvs),λv H'=>∃ob,H' d=some (.frz ob<|.dK kvs)/\D.rt v (upd H' d<|.dK kvs),λσ' H'=>∃ob,H' d=some (.frz ob<|.dK kvs)/\D.bk σ' (upd H' d<|.dK kvs),λσ' H'=>∃ob,H' d=some (.frz ob<|.dK kvs)/\D.ct σ' (upd H' d<|.dK kvs)} B H)
def C4{st:Stmt}{t:TS}(h:PS X st t):PS X st (MR t):=by
 intro W s B H D I ⟨d,kvs,hd,q⟩;have Y:=I.noFrz hd;refine N3 (h W s B H _ I q) λf s1 Z=>?_;cases f with
 |next=>let{z,H7,O,ob,e,U}:=Z;exact{z,_,O.thaw e Y,U}
 |cont=>let{z,H7,O,ob,e,U}:=Z;exact{z,_,O.thaw e Y,U}
 |brk=>let{z,H7,O,ob,e,U}:=Z;exact{z,_,O.thaw e Y,U}
 |ret v=>let{x7,z,H7,O,r7,ob,e,U}:=Z;exact{x7,z,_,O.thaw e Y,r7,U}
def va(Pv:Sl)(U:Pv 0 B H)(hl:∀i B H,i<=kvs.length->Pv i B H->H d=some (.frz ob<|.dK kvs))
  (hs:∀i k v p B H,kvs[i]?=some (k,v)->Pv i B H->H p=none->g (.ref p) B (upd H p<|.tup [kV k,v]) λI H2=>tb {Pv<|i+1,rt,nx,Pv<|i+1} I H2) (hd:∀B H,Pv kvs.length B H->nx B H):
  ∃JM:Nat->Nat->St->Hp->Prop,(∃m,JM 0 m B H)/\∀i m B H,JM i m B H->
   ((Itd ob d kvs).stop i H/\nx B H)\/((Itd ob d kvs).go i H/\∃N:St->Hp->Prop,(∀O H',N O H'->∃m',m'<m/\JM (i+1) m' O H')/\∀x H',(Itd ob d kvs).yld i H x H'->g x B H' λI H2=>tb ⟨N,rt,nx,N⟩ I H2):=by
 refine{λi m B H=>m=kvs.length-i/\i<=kvs.length/\Pv i B H,{kvs.length,by simp,Qc _,U},?_};rintro i m B H ⟨rfl,hi,p⟩;have q:=hl i B H hi p;by_cases lt:i<kvs.length
 .refine .inr {⟨q,lt⟩,Pv<|i+1,λO H' z=>{kvs.length-(i+1),(),M,lt,z},λx H' y=>?_};let{Y,k,v,rfl,np,e,rfl}:=y;exact hs i k v Y B H e p np
 .have e:i=kvs.length:=();subst e;exact .inl {{q,Q4 _},hd B H p}
section
variable(K:Wi)(hK:X.K=K)
include hK
theorem xi:fg X (.builtin "len") (λxs H Q=>∃p ys,xs=[.ref p]/\(Dz K H p ys\/OO K H p ys)/\Q (.int ys.length) H):=by subst hK;exact aC
theorem AK:IxR X (rIxL K):=by subst hK;exact aK
theorem pV:IxR X (rIxT K):=by subst hK;exact jS
end
def ya(hc:X.calm=true):fg X (.builtin "min") (λxs H Q=>∃(p:Rl)(ns:Rn),xs=[.ref p]/\Dz X.K H p (ns.map V.int)/\0<ns.length/\∀M',M'∈ns->(∀a∈ns,M'<=a)->Q (.int M') H):=by
 intro W s B H xs us Q I r h;let{p,ns,rfl,hq,O,q}:=h;let{u,rfl,Y}:=mT r;cases Y;let{its,rv,pl,hz}:=I.list hq;have hi:IntsAre its ns:=jU rv;let{xs,e}:=hi.allInts.items;have z:ns=xs.toList.map (·.1):=by
  rw[<-hi.numsOf,<-nums_intItems,<-e]
 have hsz:0<xs.size:=by
  have U:=O;rw[z,Q0,Qd]at U;exact U
 have hl:=pl.isList;rw[e]at hl;refine min_intList (I.ok.hd hc) hl hsz λv h' tk Z hk=>?_;let{t,rfl}:=intItems_at Z;let{h1,h2}:=argBest_lt (numAt xs) (xs.size-1);refine{.int _,H,I.kept (t':=tk) hk,⟨t,M⟩,q _ ?_ λa ha=>?_}
 .rw[z,numAt_eq];exact getD_mem<|by rw[Q0,Qd];lia
 .rw[z]at ha;let{j,hj,rfl}:=mem_getD ha;rw[Q0,Qd]at hj;rw[<-numAt_eq];exact h2 j ()
theorem xL{y:Int}:∀{ns:Rn}{m:Nat},m<ns.idxOf y->(h:m<ns.length)->ns[m]≠y
 | [],m,_,h=>by simp at h
 |a::r,m,lt,h=>by
  rw[List.idxOf_cons]at lt;by_cases c:a=y
  .rw[c]at lt;simp at lt
  .have:(a==y)=false:=VQ.mpr c;rw[this]at lt;cases m with
   |zero=>exact c
   |succ j=>exact xL (ns:=r) (m:=j) (by simpa using lt)<|by simpa using h
theorem xW:∀(ns:Rn)(i:Nat),(ns.eraseIdx i).map V.int=(ns.map V.int).eraseIdx i
 | [],_=>rfl
 |_::_,0=>rfl
 |a::r,i+1=>by
  show V.int a::(r.eraseIdx i).map V.int=V.int a::(r.map V.int).eraseIdx i;rw[xW r i]
inductive IJ(x:V)(vs:Rq)(H:Hp)(Q:VK):Prop
 |mk(l:Rl)(xs:Rq)(k:Int)(y:V)(_:x= .ref l)(_:vs=[.int k,y])(_:H l=some (.lst xs))(_:0<=k)(_:k<=(xs.length:Int))(_:xs.length<sizeLine)(_:Q .non (upd H l<|.lst (xs.take k.toNat++y::xs.drop k.toNat)))
def xM:MtM X "list.insert" IJ:=by
 intro W s B H x vs v us Q I Z rv h;let{l,xs,k,y,rfl,rfl,U,h0,hk,hz,q}:=h;cases Z;let{u1,u,rfl,{t,rfl},ru}:=rv.two;let{z,its,n,r,hl,e}:=I.lstM U;have O:¬(!Builtin.List.listFitsIndex k)=true:=by
  have Y:=qU;rw[fitsIndex_both () ()];exact Qg
 have hsz:its.toArray.size<=sizeLine:=by rw[Qh];lia
 refine call_meets F.slot_list_insert {_,e,M} F.entry_list_insert (F.args_list_insert_3 _ _ _) (AutoListH.list_insert_list_int_val_1 l its.toArray n k t u O hsz) {e,?_};refine{.non,_,I.lset (its':=its.take k.toNat++u::its.drop k.toNat) U e ?_ ((r.take k.toNat).append<|.cons ru<|r.drop k.toNat) ?_,M,q}
 .have e0:(if k<0 then(k+((its.toArray.size:Nat):Int)).toNat else min k.toNat its.toArray.size)=k.toNat:=by
   rw[VA (),Qh];lia
  show(its.toArray.extract 0 _).push u++its.toArray.extract _=_;rw[e0];simp;exact Qs<|by rw[Qz];lia
 .rw[Q7,Qi,Qe,Qz];lia
inductive II(x:V)(vs:Rq)(H:Hp)(Q:VK):Prop
 |mk(l:Rl)(ns:Rn)(y:Int)(_:x= .ref l)(_:vs=[.int y])(_:H l=some (.lst<|ns.map V.int))(_:y∈ns)(_:Q .non (upd H l<|.lst<|(ns.erase y).map V.int))
def Et:MtM X "list.remove" II:=by
 intro W s B H x vs v us Q I rx rv h;let{l,ns,y,rfl,rfl,hH,hy,q}:=h;cases rx;let{u,rfl,ru}:=rv.one;let{t,rfl}:=ru;let{z,its,n,r,hl,e}:=I.lstM hH;have hi:IntsAre its ns:=jU r;have at_:∀(m:Nat)(U:m<its.toArray.size),∃t',its.toArray[m]=Value.int (ns.getD m 0) t':=λm U=>by
  have O:m<ns.length:=by rw[Qh,<-hl,Q0]at U;exact U
  let{w,hw,Z}:=r.get (i:=m) (x:= .int<|ns.getD m 0) (by rw[Qo,Q3 O,Qn,Q3 O];rfl);let{t',rfl}:=Z;refine{t',?_};have:=(Q2.mp hw).2;simpa using this
 have hx:ns.idxOf y<ns.length:=List.idxOf_lt_length_of_mem hy;have ga:∀m,m<ns.length->ns.getD m 0=ns[m]!:=λm U=>by simp[U]
 refine call_meets F.slot_list_remove {_,e,M} F.entry_list_remove (F.args_list_remove_2 _ _) (MeetsSeq.list_remove l its.toArray n (.int y t) (λv=>match v with| .int i _=>i==y|_=>false) (λv hv=>?_) (ns.idxOf y) (by rwa[Qh,<-hl,Q0]) ?_ (λm U lt=>?_)<|by rw[Qh];lia) {e,?_}
 .let{m,U,em}:=Array.getElem_of_mem hv;let{t',Y}:=at_ m U
  rw[<-em,Y];exact MeetsSeq.EqGives.int _ _ _ _
 .let{t',Y}:=at_ (ns.idxOf y) (by rwa[Qh,<-hl,Q0])
  rw[Y];show(ns.getD (ns.idxOf y) 0==y)=true;rw[Qn,Q3 hx,Vc,List.getElem_idxOf hx];exact Wg y
 .let{t',Y}:=at_ m U
  rw[Y];show(ns.getD m 0==y)=false;have O:m<ns.length:=();rw[Qn,Q3 O,Vc];exact VQ.mpr<|λw=>xL lt O w
 .have ee:ns.erase y=ns.eraseIdx (ns.idxOf y):=(List.erase_eq_eraseIdx_of_idxOf M);have em:(ns.eraseIdx<|ns.idxOf y).map V.int=(ns.map V.int).eraseIdx (ns.idxOf y):=xW _ _;rw[ee,em]at q;refine{.non,_,I.lset (its':=its.eraseIdx<|ns.idxOf y) hH e ?_ (r.eraseIdx<|ns.idxOf y) ?_,M,q}
  .show its.toArray.eraseIdxIfInBounds (ns.idxOf y)=(its.eraseIdx<|ns.idxOf y).toArray;rw[V9]
  .have:=qV (ns.map V.int) (ns.idxOf y);lia
def Itk(ob:Obj)(d:Rl)(kvs:RY):It:=
 {λi H=>H d=some (.frz ob<|.dK kvs)/\i<kvs.length,λi H x H'=>H'=H/\∃k v,kvs[i]?=some (k,v)/\x=kV k,λi H=>H d=some (.frz ob<|.dK kvs)/\kvs.length<=i}
def DO(it:Rl)(D:DObj P w ob d kvs vs ep):
  vC P w K tg (Itk ob d kvs) [it] it (λi h=>h.IsKeyIter it d i vs.length ep) where
 mem:=by simp
 obj:=λi h st b hb=>by
  have z:b=it:=by simpa using hb
  subst z;let{o,e,c,dd}:=st;exact{o,e,λv z=>by rw[dd]at z;cases z}
 keep:=λi h h' st k=>by
  let{o,e,r}:=st;exact{o,k it (by simp) _ e,r}
 item:=by
  intro X Z hw hK hc i W s B H E I hf st hg;subst Z hw hK;let{hq,hi}:=hg;let{f0,f1,f2,f3,f4,f5}:=hf it (by simp);let{O,_}:=I.hok d _ hq;have U:=D.2 s.heap O;obtain⟨⟨k,v⟩,hx⟩:∃kv,kvs[i]?=some kv:={kvs[i],by simp[hi]};let{u,hu,ru}:=KV.getI D.1 hx;refine wpAny_pyNext_dict_item st U hu λkey h' Y st' sb=>?_;have I1:Inv X W B H {s with heap:=h'}:=I.turned (t':=s.toks) (λb o hb e=>(sb.2 b hb).trans e) f0 f1 f3 f4 f5;let{o,e,c,dd}:=id st';exact{key,M,rH (s:={s with heap:=h'}) e c dd (_) {kV k,H,I1,zj Y,⟨M,k,v,hx,M⟩,st',λb hb=>(hf b hb).1}}
 done:=by
  intro X Z hw hK hc i W s B H E I hf st hg;subst Z hw hK;let{hq,hi}:=hg;let{O,_}:=I.hok d _ hq;have U:=D.2 s.heap O;let{f0,f1,f2,f3,f4,f5}:=hf it (by simp);have hl:kvs.length=vs.length:=D.1.length;exact wpAny_pyNext_dict_end (I.ok.hd hc) st U (by simp;lia) λh' eb=>{M,I.turned (t':=s.toks) (λb o hb e=>eb b o hb e) f0 f1 f3 f4 f5}
 self:=λ_ _ _ _ _ st h=>wpAny_pyIter_keyiter st h
def NB(te:TE):TI:=λB H R=>te B H λx H1=>∃d kvs,x= .ref d/\H1 d=some (.dK kvs)/\∀ob,R (Itk ob d kvs) (upd H1 d<|.frz ob<|.dK kvs)
def IR(hl:PE X l te):PI X tg l (NB te):=by
 intro W s B H R I h;refine N3 (hl W s B H _ I h) λv s1 U=>?_;let{x,H1,I1,r1,q1}:=U;let{d,kvs,e,hd,q}:=q1;subst e;cases r1;let{z,lo,vs,Y,dd}:=vf I1.hok hd;let{ep,O}:=dd.dictAt;let{ob,es,Z,rest}:=id O;refine wpAny_pyIter_dict lo O ?_;have If:=I1.freeze hd Z;refine{s1.heap.objs.size,[s1.heap.objs.size],_,_,_,M,If.kept (t':=s1.toks) λb o e=>VC _ e,DO _ {Y,λh e=>⟨ob,es,e,rest⟩},{_,VN _ M,M,M},λb hb=>?_,q ob};have e:b=s1.heap.objs.size:=by simpa using hb
 subst e;exact If.fpOk (Q4 _) (If.hok.fresh<|Q4 _)
inductive Lj(te:TE)(B:St)(H:Hp)(Q:VK):Prop
 |mk(d kvs:_)(_:H d=some (.dK kvs))(_:te B H λv H'=>∃ob,H' d=some (.frz ob<|.dK kvs)/\Q v (upd H' d<|.dK kvs))
def IS{e:Expr}(h:PE X e te):PE X e (Lj te):=by
 intro W s B H Q I ⟨d,kvs,hd,q⟩;have z:=I.noFrz hd;exact N3 (h W s B H _ I q) λu s1 zz=>by let{x,H1,O,r1,ob,e,U}:=zz;exact{x,_,O.thaw e z,r1,U}
def Cw:fg X (.type "dict") (λxs H Q=>∃d kvs,xs=[.ref d]/\H d=some (.dK kvs)/\∀p,H p=none->Q (.ref p) (upd H p<|.dK kvs)):=by
 intro W s B H xs us Q I r h;let{d,kvs,rfl,hd,q}:=h;let{u,rfl,U}:=mT r;cases U;let{z,lo,vs,O,dd}:=vf I.hok hd;refine kt_call_dict lo dd (by rwa[<-O.length]) λh' Y hs=>?_;let{_,nm,_}:=AV (P:=X.prog) (w:=X.w) (H:=H) s.heap I.big;refine{.ref s.heap.objs.size,_,I.laid (a:=s.heap.objs.size) (o:= .dK kvs) (t':=s.toks) (λb o e=>(hs.2 b<|QH<|VM e).trans<|VC _ e) (Q4 _) ⟨z,nm,vs,O,Y⟩,M,q _<|I.hok.fresh (Q4 _)}
def wH(K:Wi)(hK:X.K=K):Oc X (compareOp .NotIn) (rIn K true):=by subst hK;exact yW
def Cu(Pv:Si)(I:Pv 0 [] (upd H1 D<|.lst []))(hl:∀i ys H,i<=kvs.length->Pv i ys H->H d=some (.frz ob<|.dK kvs))
  (hs:∀i k v ys H2,kvs[i]?=some (k,v)->Pv i ys H2->H2 D=some (.lst ys)->tc (some (kV k)::B) H2 λb H4=>if b=true then te (some (kV k)::B) H4 (OA kvs.length i ys D Pv)else OP kvs.length i ys D Pv H4)
  (hd:∀ys H2,Pv kvs.length ys H2->H2 D=some (.lst ys)->Fin H2):
  ∃JM:Nat->Nat->List V->Hp->Prop,(∃m,JM 0 m [] (upd H1 D<|.lst []))/\∀i m ys H2,JM i m ys H2->H2 D=some (.lst ys)->
   ((Itk ob d kvs).stop i H2/\Fin H2)\/((Itk ob d kvs).go i H2/\∀x H3,(Itk ob d kvs).yld i H2 x H3->tc (some x::B) H3 λb H4=>if b=true then te (some x::B) H4 λy z=>z D=some (.lst ys)/\ys.length<sizeLine/\∃m',m'<m/\JM (i+1) m' (ys++ [y]) (upd z D<|.lst<|ys++ [y])else H4 D=some (.lst ys)/\∃m',m'<m/\JM (i+1) m' ys H4):=by
 refine{λi m ys H=>m=kvs.length-i/\i<=kvs.length/\Pv i ys H,{kvs.length,by simp,Qc _,I},?_};rintro i m ys H ⟨rfl,hi,p⟩ hD;have q:=hl i ys H hi p;by_cases lt:i<kvs.length
 .refine .inr {⟨q,lt⟩,λx H' y=>?_};let{rfl,k,v,e,rfl}:=y;exact hs i k v ys _ e p hD
 .have e:i=kvs.length:=();subst e;exact .inl {{q,Q4 _},hd ys H p hD}
inductive IH(x:V)(vs:Rq)(H:Hp)(Q:VK):Prop
 |mk(a kvs k y:_)(_:x= .ref a)(_:vs=[kV k,y])(_:H a=some (.dK kvs))(_:kvs.length<sizeLine)(_:(∀v,aI kvs k=some v->Q v H))(_:(aI kvs k=none->Q y (upd H a<|.dK<|bp kvs k y)))
def Es:RA X "dict.setdefault" IH:=by
 intro W s B H x vs v us Q I rx rv h;let{a,kvs,k,y,rfl,rfl,Y,hl,q1,q2}:=h;cases rx;let{u,r,rfl,ru,Z}:=xy rv;let{z,hd,ws,O,dd}:=vf I.hok Y;have rk:=O.val k;refine call_meetsIn Vn dd.typeIs PySem.F.entry_dict_setdefault (PySem.F.args_dict_setdefault_3 _ _ _) (kt_meets_setdefault (bx X.prog X.w) a (pU ru) hd r) {ws,dd,by rwa[<-O.length],λv hv=>?_,λhn h' U hs=>?_}
 .rw[hv]at rk;cases e:aI kvs k with
  |none=>rw[e]at rk;exact rk.elim
  |some x=>
   rw[e]at rk;exact{x,H,I.tok _,rk,q1 x e}
 .rw[hn]at rk;cases e:aI kvs k with
  |some x=>rw[e]at rk;exact rk.elim
  |none=>
   have he:∃q,h'.get? a=some q:=by let{q,_,_,hq,_}:=U;exact⟨q,hq⟩
   have lp:=dN kvs k y;exact{y,_,sQ I (by rw[Y];exact VW) hs he<|Ct () hd (O.put k Z) U,Z,q2 e}
def E8(lo st:Int)(n:Nat):It:={λi _=>i<n,λi H x H'=>H'=H/\x= .int (lo+i*st),λi _=>n<=i}
def zT(it:Rl)(lo st:Int)(n:Nat):vC P w K tg (E8 lo st n) [it] it (λi h=>IsRangeIter h it (lo+(i:Nat)*st) ((n:Int)-(i:Nat)) st) where
 mem:=by simp
 obj:=λi h O b hb=>by
  have e:b=it:=by simpa using hb
  subst e;exact{_,O,λv z=>by
   have z':Data.fields _=Data.cell v:=z;cases z'}
 keep:=λi h h' O k=>k it (by simp) _ O
 item:=by
  intro X U hw hK hc i W s B H E I hf O Y;subst U hw hK;let{Z,f1,f2,f3,f4,f5}:=hf it (by simp);have JM:=Walks.range (prog:=X.prog) (w:=X.w) (I.ok.hd hc) it lo st n;refine JM.item i s _ _ Y O λv h' tk hv st' kk=>?_;let{t,rfl}:=hv;have I1:Inv X W B H {s with heap:=h',toks:=tk}:=I.turned (λb o hb e=>kk b o (by simpa using hb) e) Z f1 f3 f4 f5;exact{_,M,rH (s:={s with heap:=h',toks:=tk}) (n:="range_iterator") st' M M (_) {.int<|lo+i*st,H,I1,⟨t,M⟩,⟨M,M⟩,st',λb hb=>(hf b hb).1}}
 done:=by
  intro X U hw hK hc i W s B H E I hf O Y;subst U hw hK;let{Z,f1,f2,f3,f4,f5}:=hf it (by simp);exact wpAny_pyNext_range_end (I.ok.hd hc) O (by have:n<=i:=Y;lia) λh' eb=>{M,I.turned (t':=s.toks) (λb o hb e=>eb b o hb e) Z f1 f3 f4 f5}
 self:=λ_ _ _ _ _ O h=>wpAny_pyIter_rangeiter O h
noncomputable def oZ(lo hi st:Int):Nat:=(Builtin.Range.rangeSize lo hi st).toNat
def mX(h:0<st):Builtin.Range.rangeSize lo hi st=if lo<hi then(hi-lo-1)/st+1 else 0:=by
 unfold Builtin.Range.rangeSize;rw[VB h]
def yN(h:0<st)(z:0<=lo)(h1:0<=hi):0<=Builtin.Range.rangeSize lo hi st/\Builtin.Range.rangeSize lo hi st<=hi:=by
 rw[mX h];split
 .have a:0<=(hi-lo-1)/st:=XG () ();have b:(hi-lo-1)/st<=hi-lo-1:=Int.ediv_le_self _ ();lia
 .lia
def Ea{t u v:Tok}{tk:Nat}(I:Inv X W B H s)(h1:0<=lo)(h2:lo<2^30)(Z:0<=hi)(h4:hi<2^30)(Y:0<st)(h6:st<2^30)
  (q:R (E8 lo st<|oZ lo hi st) H):Wj X (pyIter<|.ref s.heap.objs.size) (PIE X W B tg R) E {s with heap:=s.heap.push {cls:= .type vt,data:= .fields #[.int lo t,.int hi u,.int st v]},toks:=tk}:=by
 have bd:=yN (lo:=lo) (hi:=hi) Y h1 Z;refine wpAny_pyIter_range (IsRange.new ..) ?_ ?_
 .unfold Builtin.Range.small;simp only[Builtin.Range.rangeFitsLong,Qq,Bool.or_eq_true,VO,VP,Y,if_true];generalize Builtin.Range.rangeSize lo hi st=n at bd⊢;have z:(2:Int)^63=9223372036854775808:=by decide
  have O:(2:Int)^30=1073741824:=by decide
  rw[O]at h2 h4 h6
  try rw[z]
  lia
 have U:Inv X W B H {s with heap:=s.heap.push {cls:= .type vt,data:= .fields #[.int lo t,.int hi u,.int st v]},toks:=tk}:=I.kept λb o e=>VC _ e;refine{(s.heap.push {cls:= .type vt,data:= .fields #[.int lo t,.int hi u,.int st v]}).objs.size,[(s.heap.push {cls:= .type vt,data:= .fields #[.int lo t,.int hi u,.int st v]}).objs.size],_,_,H,M,
  U.kept (t':=tk) λb o e=>VC _ e,zT _ lo st<|oZ lo hi st,?_,λb hb=>?_,q}
 .have e1:lo+((0:Nat):Int)*st=lo:=by simp
  have e2:((oZ lo hi st:Nat):Int)-((0:Nat):Int)=Builtin.Range.rangeSize lo hi st:=by unfold oZ;lia
  show IsRangeIter _ _ (lo+((0:Nat):Int)*st) (((oZ lo hi st:Nat):Int)-((0:Nat):Int)) st;rw[e1,e2];exact VN _ M
 .have e:b=(s.heap.push {cls:= .type vt,data:= .fields #[.int lo t,.int hi u,.int st v]}).objs.size:=by simpa using hb
  subst e;exact U.fpOk (Q4 _)<|U.hok.fresh (Q4 _)
def Nw(ta:TA):TI:=λB H R=>ta B H λvs H1=>∃i j k:Int,vs=[.int i,.int j,.int k]/\(0<=i/\i<2^30/\0<=j/\j<2^30/\0<k/\k<2^30)/\R (E8 i k<|oZ i j k) H1
def Ed{a b:Expr}{p:Pos}(hg:Gl X vt)(hm:X.mg vt=none)(ha:PA X [a,b,c] ta)(hs:starEach [a,b,c] X.env=[(false,eval a X.env),(false,eval b X.env),(false,eval c X.env)]:=by rfl)
  (z:starEach [b,c] X.env=[(false,eval b X.env),(false,eval c X.env)]:=by rfl):PI X tg (.Call (.Name vt p) [a,b,c] [] pos) (Nw ta):=by
 intro W s B H R I h;refine Call_<|oS I hg hm boot_range (PyProof.Rows.callWith_type1 (N3 (ha pos W s B H _ I h) λus s1 U=>?_) (by rw[hs,z])<|by rw[z];rfl);let{vs,H1,I1,r1,Y}:=U;let{i,j,k,e,{Y,q2,q3,q4,q5,q6},q}:=Y;subst e;cases r1 with
 |cons r O=>
  cases O with
  |cons r' O=>
   cases O with
   |cons Z O=>
    cases O;let{t,rfl}:=r;let{t',rfl}:=r';let{a0,rfl}:=Z;exact call_range_3 () (Ea I1 Y q2 q3 q4 q5 q6 q)<|.inl (PyProof.noPylong_small ())
def AR(Pv:Sl)(U:Pv 0 B H)
  (hs:∀i B H,i<n->Pv i B H->g (.int<|lo+i*st) B H λz H2=>tb {Pv<|i+1,rt,nx,Pv<|i+1} z H2) (hd:∀B H,Pv n B H->nx B H):
  ∃JM:Nat->Nat->St->Hp->Prop,(∃m,JM 0 m B H)/\∀i m B H,JM i m B H->
   ((E8 lo st n).stop i H/\nx B H)\/((E8 lo st n).go i H/\∃N:St->Hp->Prop,(∀I H',N I H'->∃m',m'<m/\JM (i+1) m' I H')/\∀x H',(E8 lo st n).yld i H x H'->g x B H' λz H2=>tb ⟨N,rt,nx,N⟩ z H2):=by
 refine{λi m B H=>m=n-i/\i<=n/\Pv i B H,{n,by simp,Qc _,U},?_};rintro i m B H ⟨rfl,hi,p⟩;by_cases O:i<n
 .refine .inr {O,Pv<|i+1,λI H' Y=>{n-(i+1),(),M,O,Y},λx H' y=>?_};let{e,y}:=y;subst e y;exact hs i B _ O p
 .have e:i=n:=();subst e;exact .inl {Q4 _,hd B H p}
open Srt
section
variable{X:Cx}
def K3f(H:Hp)(a:Rl)(k:Rn):Prop:=∃i j m:Int,H a=some (.tup [.int i,.int j,.int m])/\k=[i,j,m]
def sV{x y z:V}{its:Rr}(r:HV [x,y,z] its):∃u v w,its=[u,v,w]/\RelV x u/\RelV y v/\RelV z w:=by
 cases r with
 |cons r1 r=>
  let{v,w,rfl,h2,I}:=xy r;exact{_,v,w,M,r1,h2,I}
def xh:fg X (.builtin "sorted") (λvs H Q=>∃(p:Rl)(as:Rz)(ky:Addr->List Int),vs=[.ref p]/\Dz X.K H p (as.map V.ref)/\(∀a∈as,K3f H a (ky a))/\
  ∀(l:Rl)(bs:Rz),H l=none->bs.Perm as->bs.Pairwise (λa b=>HT.lexLt (ky b) (ky a)=false)->Q (.ref l) (upd H l<|.lst<|bs.map V.ref)):=by
 intro W s B H xs us Q I r h;let{p,as,ky,rfl,hq,hk,q}:=h;let{u,rfl,ru}:=mT r;cases ru;let{its,rv,pl,hz}:=I.list hq;refine DW (κ:=tuples'<|Value.type "int" !=Value.type l6) (ky:=kRef ky) I hz rv pl.isList (λh' k h2 Q' O=>?_) (λh' k x y u v E' Q' hx hy rx ry O=>?_) λl ys hl pm pw=>?_
 .have tups:∀(bs:Rz)(ws:Rr),(∀a∈bs,K3f H a (ky a))->HV (bs.map V.ref) ws->∃fs:List Value,PySem.W.KatTups h' ws fs/\(∀f∈fs,∃i t,f=Value.int i t)/\fs.length=ws.length:=by
   intro bs
   induction bs with
   |nil=>intro ws _ r;cases r;exact{[],.nil,λ_ h=>VG h Z7,M}
   |cons a bs ih=>
    intro ws hk r;cases r with
    |cons r1 r2=>
     cases r1;let{fs,t,hi,hl}:=ih _ (λb hb=>hk b<|Qa _ hb) r2;let{i,j,m,ha,_}:=hk a Q6;let{o,Y,n,U,e,c,d}:=BC I ha k;let{u1,u2,u3,rfl,q1,q2,q3}:=sV U;let{Z,rfl}:=q1;refine{Value.int i Z::fs,.cons e c d M t,λf hf=>?_,by rw[Qi,Qi,hl]};rcases Qb.mp hf with z|z
     .exact⟨i,Z,z⟩
     .exact hi f z
  let{fs,t,hi,hl}:=tups as its hk rv;refine PySem.W.kat_kind (T:= .type "int") t () (λv hv=>?_) ∅ O;let{i,t,rfl}:=hi v hv;exact PySem.W.Looks.of_pure M
 .let{a,ha,rfl}:=Qf.mp hx;let{b,hb,rfl}:=Qf.mp hy;cases rx;cases ry;let{i,j,m,ea,ka}:=hk a ha;let{i',j',m',eb,kb}:=hk b hb;have O:Q' (HT.lexLt (ky a)<|ky b) {s with heap:=h'}:=O;rw[ka,kb,HT.lexLt_cons,HT.lexLt_cons,HT.lexLt_cons,HT.lexLt_nil_nil]at O;let{o,a2,n,a0,e1,c1,d1}:=BC I ea k;let{u1,u2,u3,rfl,{Z,rfl},{t2,rfl},{t5,rfl}}:=sV a0;let{o',Y,n',U,e2,c2,d2}:=BC I eb k;let{w1,w2,w3,rfl,{t3,rfl},{t4,rfl},{t6,rfl}}:=sV U;refine PySem.W.kat_lt e1 d1 e2 d2<|Vd (SeqAt.EqAt.int_int _ _ _ _ _ _ _ _<|Vx (λe=>Vo ?_)<|λe=>Vy ?_)
  .rw[VB (VP.mp e)]at O;refine Vd<|SeqAt.EqAt.int_int _ _ _ _ _ _ _ _ (Vx (λe=>Vo ?_)<|λe=>Vy ?_)
   .rw[VB (VP.mp e)]at O;refine Vd<|SeqAt.EqAt.int_int _ _ _ _ _ _ _ _ (Vx (λe=>Vo ?_)<|λe=>Vy ?_)
    .rw[VB (VP.mp e)]at O;exact PySem.W.kat_nil<|by simpa using O
    .rw[VA (VQ.mp e)]at O;exact PySem.W.kat_one _ _<|lt_int O
   .rw[VA (VQ.mp e)]at O;exact PySem.W.kat_one _ _<|lt_int O
  .rw[VA (VQ.mp e)]at O;exact oneLt_int O
 .let{bs,rfl,a1}:=Ee pm;exact q l bs hl a1<|QM.mp pw
end
end L2
namespace L2
open PySem PySem.Spec PyProof.Rows
variable{D:Rl}{X:Cx}{tg:Expr}{H1:Hp}{Fin:Hp->Prop}{P:Rv}{K:Wi}{B:St}{te:TE}{w:Ru}
def Itv(K:Wi)(a:Rl)(n:Nat):It:=
 {λi H=>i<n/\∃xs x,Dz K H a xs/\xs[n-1-i]?=some x,λi H x H'=>H'=H/\∀xs,Dz K H a xs->xs[n-1-i]?=some x,λi _=>n<=i}
def Fp(a it:Rl)(n:Nat):vC P w K tg (Itv K a n) [it] it (λi h=>i<=n/\h.IsRevIter it a ((n:Int)-1-(i:Int))) where
 mem:=by simp
 obj:=λi h st b hb=>by
  have e:b=it:=by simpa using hb
  subst e;let{_,o,e,c,d}:=st;exact{o,e,λv z=>by rw[d]at z;cases z}
 keep:=λi h h' st k=>{st.1,st.2.at λo e=>k it (by simp) o e}
 item:=by
  intro X U hw hK hc i W s B H E I hf st Y;subst U hw hK;let{hi,xs,x,hq,hx}:=Y;let{its,rv,p,hz}:=I.list hq;let{u,hu,ru}:=rv.get hx;let{Z,f1,f2,f3,f4,f5}:=hf it (by simp);have e1:(n:Int)-1-(i:Int)=((n-1-i:Nat):Int):=();have O:=st.2;rw[e1]at O;refine wpAny_pyNext_rev_item O p.isList (x:=u) (by simpa using hu) λh' st' sb=>?_;have e2:((n-1-i:Nat):Int)-1=(n:Int)-1-((i+1:Nat):Int):=();rw[e2]at st';have I1:Inv X W B H {s with heap:=h'}:=I.turned (t':=s.toks) (λb o hb e=>(sb.2 b hb).trans e) Z f1 f3 f4 f5;let{o,e,c,d}:=id st';exact{u,M,rH (s:={s with heap:=h'}) e c d (_) {x,H,I1,ru,{M,λys hy=>by rwa[I.list_inj hy hq]},⟨hi,st'⟩,λb hb=>(hf b hb).1}}
 done:=by
  intro X U hw hK hc i W s B H E I hf st Y;subst U hw hK;let{Z,f1,f2,f3,f4,f5}:=hf it (by simp);have O:=st.2;have hn:n<=i:=Y;have e:(n:Int)-1-(i:Int)= -1:=by have:=st.1;lia
  rw[e]at O;exact wpAny_pyNext_rev_end (I.ok.hd hc) O λh' eb=>{M,I.turned (t':=s.toks) (λb o hb e=>eb b o hb e) Z f1 f3 f4 f5}
 self:=λ_ _ _ _ _ st h=>wpAny_pyIter_revIter st.2 h
def iRev(K:Wi)(ta:TA):TI:=λB H R=>ta B H λvs H1=>∃a xs,vs=[.ref a]/\Dz K H1 a xs/\R (Itv K a xs.length) H1
def LH{a:Expr}{ta:TA}{p pos:Pos}(U:Gl X "reversed")(Y:X.mg "reversed"=none)(ha:PA X [a] ta)(hs:starEach [a] X.env=[(false,eval a X.env)]:=by rfl):PI X tg (.Call (.Name "reversed" p) [a] [] pos) (iRev X.K ta):=by
 intro W s B H R I h;refine Call_<|oS I U Y Boot.«reversed» (PyProof.Rows.callWith_type1 (N3 (ha pos W s B H _ I h) λus s1 O=>?_) hs M);let{vs,H1,z,r1,Z}:=O;let{b,xs,e,hq,q}:=Z;subst e;cases r1 with
 |cons r rr=>
  cases rr;cases r;let{its,rv,p,hz}:=z.list hq;have hl:=rv.length;refine call_reversed_list p.isList ?_;refine wpAny_pyIter_revIter (l:=b) (i:=(its.toArray.size:Int)-1) {_,VN _ M,M,M} ?_;refine{s1.heap.objs.size,[s1.heap.objs.size],_,_,H1,M,z.kept (t':=s1.toks) λb o e=>VC _ e,Fp b _ xs.length,{Qc _,?_},λb hb=>?_,q}
  .have e:(xs.length:Int)-1-((0:Nat):Int)=(its.toArray.size:Int)-1:=by simp;lia
   rw[e];exact{_,VN _ M,M,M}
  .have e:b=s1.heap.objs.size:=by simpa using hb
   subst e;exact z.fpOk (Q4 _)<|z.hok.fresh (Q4 _)
def EX{a:Rl}{xs:Rq}{tc:TT}(Pv:Si)(I:Pv 0 [] (upd H1 D<|.lst []))(hl:∀i ys H,i<=xs.length->Pv i ys H->Dz K H a xs)
  (hs:∀i x ys H2,xs.reverse[i]?=some x->Pv i ys H2->H2 D=some (.lst ys)->tc (some x::B) H2 λb H4=>if b=true then te (some x::B) H4 (OA xs.length i ys D Pv)else OP xs.length i ys D Pv H4)
  (hd:∀ys H2,Pv xs.length ys H2->H2 D=some (.lst ys)->Fin H2):
  ∃JM:Nat->Nat->List V->Hp->Prop,(∃m,JM 0 m [] (upd H1 D<|.lst []))/\∀i m ys H2,JM i m ys H2->H2 D=some (.lst ys)->
   ((Itv K a xs.length).stop i H2/\Fin H2)\/((Itv K a xs.length).go i H2/\∀x H3,(Itv K a xs.length).yld i H2 x H3->tc (some x::B) H3 λb H4=>if b=true then te (some x::B) H4 λy z=>z D=some (.lst ys)/\ys.length<sizeLine/\∃m',m'<m/\JM (i+1) m' (ys++ [y]) (upd z D<|.lst<|ys++ [y])else H4 D=some (.lst ys)/\∃m',m'<m/\JM (i+1) m' ys H4):=by
 refine{λi m ys H=>m=xs.length-i/\i<=xs.length/\Pv i ys H,{xs.length,by simp,Qc _,I},?_};rintro i m ys H ⟨rfl,hi,p⟩ hD;have q:=hl i ys H hi p;by_cases lt:i<xs.length
 .refine .inr {{lt,xs,xs[xs.length-1-i]'(),q,Q3 _},λx H' y=>?_};let{e,y}:=y;subst e;exact hs i x ys _ (by rw[List.getElem?_reverse lt];exact y xs q) p hD
 .have e:i=xs.length:=();subst e;exact .inl {Q4 _,hd ys H p hD}
def Mv:bootBuiltins "all"=some (.builtin "all"):=by decide+kernel
def Hd{bs:List Bool}:∀{us:Rr},HV (bs.map V.bl) us->LSm.BoolsAre us bs:=by
 induction bs with
 |nil=>intro us r;rw[Xf]at r;cases r;exact .nil
 |cons b bs z=>
  intro us r;rw[Qt]at r;cases r with
  |cons r1 I=>
   cases r1;exact .cons b<|z I
def EZ(hc:X.calm=true):fg X (.builtin "all") (λxs H Q=>∃(p:Rl)(bs:List Bool),xs=[.ref p]/\Dz X.K H p (bs.map V.bl)/\Q (.bl<|bs.all id) H):=by
 intro W s B H xs us Q I r h;let{p,bs,rfl,hq,q}:=h;let{u,rfl,U}:=mT r;cases U;let{its,rv,pl,hz}:=I.list hq;have hb:=Hd rv;have hl:=pl.isList;have z:p<s.heap.objs.size:=by let{_,e,_}:=hl;exact VM e
 refine call_all_walk<|wpAny_pyIter_list hl ?_;refine{s.heap.objs.size,[s.heap.objs.size,p],[s.heap.objs.size],its.toArray.size,_,_,λi=>(bs[i]?).getD true,M,Walks.list (A:=X.A.in1) (I.ok.hd hc) _ p (QH z) its.toArray,
  {{_,VN _ M,M,M},hl.push _},λi v s' Q' E' Y O=>?_,λh' tk hk=>?_}
 .let{b,e,rfl}:=hb.get i v (by simpa using Y);simp only[e,Vc]at O;exact VZ O
 .have e:((List.range its.toArray.size).all λi=>(bs[i]?).getD true)=bs.all id:=by
   rw[Qh,hb.length];exact LSm.range_all bs
  rw[e];exact{.bl _,H,I.kept (t':=tk)<|LSm.kept_iter hk,M,q}
def nG:fg X (.type "int") (λxs H Q=>∃z n,xs=[.str z]/\PySem.intText? z=some n/\z.length<=640/\Q (.int n) H):=by
 intro W s B H xs us Q I r h;let{z,n,rfl,O,hl,q}:=h;let{u,rfl,t,rfl}:=mT r;exact PySem.W.KIN.call_text O hl {.int _,H,I.tok _,{_,M},q}
inductive rSlS(x:V)(lo hi:Se)(H:Hp)(Q:VK):Prop
 |mk(z:_)(_:x= .str z)(_:z.length<=sizeLine)(_:Q (.str<|Txt.slice z lo hi) H)
def FF:SlR X rSlS:=by
 intro W s B H x v Z vu lo hi sl Q I Y hs pl O h;let{z,rfl,hz,q}:=h;let{t,rfl}:=Y;refine{"str",_,PyProof.Rows.slot_str_getitem.lookup,typeIs_str _ _ _,?_};have fin:∀t' k,EP X W B Q (.str (Txt.slice z lo hi) t') {s with toks:=k}:=λt' k=>{.str _,H,I.kept (t':=k)<|λb o e=>e,{_,M},q};cases pl with
 |none=>
  cases O with
  |none=>exact wpAny_getItem_str_slice (l:=none) (u:=none) (st:=none) hs M<|post_val_or_str {Qr (Txt.slice_le z _ _) hz,λt' k=>fin t' k}
  |int j u=>exact wpAny_getItem_str_slice (l:=none) (u:=some (j,u)) (st:=none) hs M<|post_val_or_str {Qr (Txt.slice_le z _ _) hz,λt' k=>fin t' k}
 |int i U=>
  cases O with
  |none=>exact wpAny_getItem_str_slice (l:=some (i,U)) (u:=none) (st:=none) hs M<|post_val_or_str {Qr (Txt.slice_le z _ _) hz,λt' k=>fin t' k}
  |int j u=>exact wpAny_getItem_str_slice (l:=some (i,U)) (u:=some (j,u)) (st:=none) hs M<|post_val_or_str {Qr (Txt.slice_le z _ _) hz,λt' k=>fin t' k}
def R5(z:Str):It:={λi _=>i<z.cps.size,λi H x H'=>H'=H/\∃c,z.cps[i]?=some c/\x= .str {#[c]},λi _=>z.cps.size<=i}
def BB(it:Rl)(z:Str)(t:Tok):vC P w K tg (R5 z) [it] it (λi h=>h.IsStrIter it "str_ascii_iterator" z t i) where
 mem:=by simp
 obj:=λi h st b hb=>by
  have e:b=it:=by simpa using hb
  subst e;let{o,e,c,d}:=st;exact{o,e,λv z=>by rw[d]at z;cases z}
 keep:=λi h h' st k=>by
  let{o,e,r}:=st;exact{o,k it (by simp) _ e,r}
 item:=by
  intro X U hw hK hc i W s B H E I hf st O;subst U hw hK;let{Y,Z,f2,f3,f4,f5}:=hf it (by simp);have O:i<z.cps.size:=O;refine wpAny_pyNext_ascii_item st (c:=z.cps[i]) (by simp[O]) λh' st' a0=>?_;have I1:Inv X W B H {s with heap:=h',toks:=s.toks+1}:=I.turned (λb o hb e=>a0.extBut b o hb e) Y Z f3 f4 f5;let{o,e,c,d}:=id st';exact{_,M,rH (s:={s with heap:=h',toks:=s.toks+1}) e c d (_) {.str {#[z.cps[i]]},H,I1,{_,M},{M,_,by simp[O],M},st',λb hb=>(hf b hb).1}}
 done:=by
  intro X U hw hK hc i W s B H E I hf st O;subst U hw hK;let{Y,Z,f2,f3,f4,f5}:=hf it (by simp);have O:z.cps.size<=i:=O;exact wpAny_pyNext_ascii_end (I.ok.hd hc) st (by simp[O]) λh' eb=>{M,I.turned (t':=s.toks) (λb o hb e=>eb b o hb e) Y Z f3 f4 f5}
 self:=λ_ _ _ _ _ st h=>wpAny_pyIter_striter_ascii st h
def DM(it:Rl)(z:Str)(t:Tok):vC P w K tg (R5 z) [it] it (λi h=>h.IsStrIter it "str_iterator" z t i) where
 mem:=by simp
 obj:=λi h st b hb=>by
  have e:b=it:=by simpa using hb
  subst e;let{o,e,c,d}:=st;exact{o,e,λv z=>by rw[d]at z;cases z}
 keep:=λi h h' st k=>by
  let{o,e,r}:=st;exact{o,k it (by simp) _ e,r}
 item:=by
  intro X U hw hK hc i W s B H E I hf st O;subst U hw hK;let{Y,Z,f2,f3,f4,f5}:=hf it (by simp);have O:i<z.cps.size:=O;refine wpAny_pyNext_wide_item st (c:=z.cps[i]) (by simp[O]) λh' st' a0=>?_;have I1:Inv X W B H {s with heap:=h',toks:=s.toks+1}:=I.turned (λb o hb e=>a0.extBut b o hb e) Y Z f3 f4 f5;let{o,e,c,d}:=id st';exact{_,M,rH (s:={s with heap:=h',toks:=s.toks+1}) e c d (_) {.str {#[z.cps[i]]},H,I1,{_,M},{M,_,by simp[O],M},st',λb hb=>(hf b hb).1}}
 done:=by
  intro X U hw hK hc i W s B H E I hf st O;subst U hw hK;let{Y,Z,f2,f3,f4,f5}:=hf it (by simp);have O:z.cps.size<=i:=O;exact wpAny_pyNext_wide_end (I.ok.hd hc) st (by simp[O]) λh' eb=>{M,I.turned (t':=s.toks) (λb o hb e=>eb b o hb e) Y Z f3 f4 f5}
 self:=λ_ _ _ _ _ st h=>wpAny_pyIter_striter_wide st h
def iStr(te:TE):TI:=λB H R=>te B H λx H1=>∃z,x= .str z/\R (R5 z) H1
def LG{l:Expr}(hl:PE X l te):PI X tg l (iStr te):=by
 intro W s B H R I h;refine N3 (hl W s B H _ I h) λv s1 U=>?_;let{x,H1,O,r1,Y}:=U;let{z,e,q}:=Y;subst e;let{t,rfl}:=r1;cases ha:z.cps.all (· <128)
 .refine wpAny_pyIter_wide ha {s1.heap.objs.size,[s1.heap.objs.size],_,_,H1,M,O.kept (t':=s1.toks) λb o e=>VC _ e,DM _ z t,{_,VN _ M,M,M},λb hb=>?_,q};have e:b=s1.heap.objs.size:=by simpa using hb
  subst e;exact O.fpOk (Q4 _)<|O.hok.fresh (Q4 _)
 .refine wpAny_pyIter_ascii ha {s1.heap.objs.size,[s1.heap.objs.size],_,_,H1,M,O.kept (t':=s1.toks) λb o e=>VC _ e,BB _ z t,{_,VN _ M,M,M},λb hb=>?_,q};have e:b=s1.heap.objs.size:=by simpa using hb
  subst e;exact O.fpOk (Q4 _)<|O.hok.fresh (Q4 _)
inductive IG(x:V)(vs:Rq)(H:Hp)(Q:VK):Prop
 |mk(a d:_)(_:x= .str a)(_:vs=[.str d])(_:Q (.bl<|Txt.startswith a d) H)
def qS:RA X "str.startswith" IG:=by
 intro W s B H x vs v us Q I z rv h;let{a,d,rfl,rfl,q}:=h;let{t,rfl}:=z;let{u,rfl,O}:=rv.one;let{t',rfl}:=O;exact SC.startswith {.bl _,H,I,M,q}
def Hb{z:Str}(Pv:Si)(I:Pv 0 [] (upd H1 D<|.lst []))
  (hs:∀i c ys H2,z.cps[i]?=some c->Pv i ys H2->H2 D=some (.lst ys)->te (some (.str {#[c]})::B) H2 (OA z.cps.size i ys D Pv))
  (hd:∀ys H2,Pv z.cps.size ys H2->H2 D=some (.lst ys)->Fin H2):
  ∃JM:Nat->Nat->List V->Hp->Prop,(∃m,JM 0 m [] (upd H1 D<|.lst []))/\∀i m ys H2,JM i m ys H2->H2 D=some (.lst ys)->
   ((R5 z).stop i H2/\Fin H2)\/((R5 z).go i H2/\∀x H3,(R5 z).yld i H2 x H3->te (some x::B) H3 λy H4=>H4 D=some (.lst ys)/\ys.length<sizeLine/\∃m',m'<m/\JM (i+1) m' (ys++ [y]) (upd H4 D<|.lst<|ys++ [y])):=by
 refine{λi m ys H=>m=z.cps.size-i/\i<=z.cps.size/\Pv i ys H,{z.cps.size,by simp,Qc _,I},?_};rintro i m ys H ⟨rfl,hi,p⟩ hD;by_cases lt:i<z.cps.size
 .refine .inr {lt,λx H' y=>?_};let{e,c,O,y}:=y;subst e y;exact hs i c ys _ O p hD
 .have e:i=z.cps.size:=();subst e;exact .inl {Q4 _,hd ys H p hD}
abbrev sg(z:Str):List Nat:=z.cps.toList
def dD(z:Str):z.length=(sg z).length:=by show z.cps.size=_;simp[sg]
def yD{a b:Str}(h:sg a=sg b):a=b:=by cases a;cases b;congr 1;exact Array.toList_inj.mp h
def sX(z:Str)(c:Nat):Txt.startswith z {#[c]}=decide ((sg z).head?=some c):=by
 have h:=StrLaws.subAt_one z c 0;unfold Txt.startswith
 rw[Xc,Qq,VO,h,VO,List.head?_eq_getElem?]
def tO(z:Str)(lo hi:Se)(is:List Nat)(e:Builtin.Str.strSliceIndices lo hi 1 z.length=is)(h:is.filterMap (z.cps[·]?)=is.filterMap ((sg z)[·]?)):sg (Txt.slice z lo hi)=if is.length=z.length then sg z else is.filterMap ((sg z)[·]?):=by
 unfold Txt.slice;rw[e];by_cases c:is.length=z.length
 .rw[VB c,VB (by simp[c])]
 .rwa[VA c,VA (by simp[c]),sg]
def Ab(z:Str):sg (Txt.slice z (some 1) none)=(sg z).drop 1:=by
 have L:=dD z;have I:∀is:List Nat,is.filterMap (z.cps[·]?)=is.filterMap ((sg z)[·]?):=λis=>by congr 1;funext i;simp[sg]
 rcases QW z.length with q|q
 .have O:sg z=[]:=Vk ();have le:=Txt.slice_le z (some 1) none;have:(sg<|Txt.slice z (some 1) none)=[]:=Vk (by rw[<-dD];lia);rw[this,O];rfl
 .have e:Builtin.Str.strSliceIndices (some 1) none 1 z.length=Builtin.Str.strSliceIndices (some ((1:Nat):Int)) (some (z.length:Int)) 1 z.length:=by
   unfold Builtin.Str.strSliceIndices;simp;rw[VA (show ¬((z.length:Nat):Int)<0 by lia)];congr 1;lia
  rw[tO z _ _ _ (e.trans<|StrLaws.strSliceIndices_plain (a:=1) (b:=z.length) ()<|Q4 _) (I _)];rw[VA (by simp;lia)];rw[StrLaws.picks (sg z) (z.length-1) 1 ()];exact Qs<|by rw[Qz];lia
open PySem.Builtin PySem.Builtin.Str
variable{E Q:RS}
section
variable{X:Cx}
def DS(l:List (Str×Tok)):HV ((l.map (·.1)).map V.str) (strValues l):=by
 induction l with
 |nil=>exact .nil
 |cons a r z=>exact .cons ⟨a.2,M⟩ z
def P1{prog:Rv}{w:Ru}{A:RU}{s:Rm}{x y:Str}{t u:Tok}(hy:(y.length==0)=false)
  (hq:∀(l:List (Str×Tok))(k:Nat),l.map (·.1)=Txt.split x y->Q (.ref s.heap.objs.size) {s with heap:=s.heap.push {cls:= .type gt,data:= .seq (strValues l).toArray},toks:=k})
  (hsz:x.length<=sizeLine) (hsz2:(Txt.split x y).length<=sizeLine):
  wpAny (model prog w) A (call (.builtin "str.split") [.str x t,.str y u]) Q E s:=by
 cases h1:(decide (x.length<y.length)||decide (strKind x<strKind y))
 .cases hf:(occurrences x y 0 x.length<|x.length+1).isEmpty
  .have es:Txt.split x y=partsBetween x (occurrences x y 0 x.length<|x.length+1) y.length:=(VA<|ne_true_of_eq_false h1).trans (VA<|ne_true_of_eq_false hf);refine call_meets F.slot_str_split (typeIs_str _ _ _) F.entry_str_split (F.args_str_split_2 _ _) (meets_str_split_sep x y t u h1 hy hf hsz<|es▸hsz2) ?_;show wants Q E _ {s with toks:=_,heap:=s.heap.push {cls:= .type gt,data:= .seq (strsFrom s.toks<|partsBetween x (occurrences x y 0 x.length<|x.length+1) y.length).toArray}};rw[strsFrom_eq];exact hq (numbered s.toks _) _<|(numbered_texts _ _).trans es.symm
  .exact call_meets F.slot_str_split (typeIs_str _ _ _) F.entry_str_split (F.args_str_split_2 _ _) (meets_str_split_not_found x y t u h1 hy hf)
    (hq [(x,t)] s.toks ((VA<|ne_true_of_eq_false h1).trans<|VB hf).symm)
 .exact call_meets F.slot_str_split (typeIs_str _ _ _) F.entry_str_split (F.args_str_split_2 _ _) (meets_str_split_cannot_occur x y t u h1)
   (hq [(x,t)] s.toks (VB h1).symm)
inductive LB(x:V)(vs:Rq)(H:Hp)(Q:VK):Prop
 |mk(a d:_)(_:x= .str a)(_:vs=[.str d])(_:1<=d.length)(_:a.length<=100000)(_:∀l,H l=none->Q (.ref l) (upd H l<|.lst<|(Txt.split a d).map V.str))
def uT:RA X "str.split" LB:=by
 intro W s B H x vs v us Q I O rv h;let{a,d,rfl,rfl,U,Z,q}:=h;let{t,rfl}:=O;let{u,rfl,Y}:=rv.one;let{t',rfl}:=Y;have big:100001<=sizeLine:=by decide
 have w:=split_weight a d U;have hn:(Txt.split a d).length<=100001:=();refine P1 (by simp;lia) (λl k hl=>?_) () ();have z:=DS l;rw[hl]at z;refine{.ref s.heap.objs.size,_,I.laid (t':=k) (o:= .lst<|(Txt.split a d).map V.str) (λb ob q=>VC _ q) (Q4 _) ?_,M,q _<|I.hok.fresh (Q4 _)};exact{by rw[Q0];lia,_,0,z,VN _ M}
def C3{body:List Stmt}{U:ExceptHandler}{hs:List ExceptHandler}{pos:Pos}{tb:TS}(hb:OV X.nox body tb):PS X (.Try body (U::hs) [] [] pos) tb:=by
 intro W s B H D I h;refine wpAny_Try_except<|W2 (hb W s B H D (I.wish _) h) (λf s1 z=>?_) λe s1 z=>z.elim;have z:=SP.unwish z;cases f with
 |next=>
  let{O,H',Y,q}:=z;exact wpAny_execs_nil ⟨O,H',Y,q⟩
 |brk=>exact z
 |cont=>exact z
 |ret u=>exact z
end
def jn(c:Nat):List Str->List Nat
 | []=> []
 | [a]=>sg a
 |a::b::r=>sg a++c::jn c (b::r)
theorem yC(c:Nat):∀l:List Str,sg (Str.join {#[c]} l)=jn c l
 | []=>rfl
 | [a]=>rfl
 |a::b::r=>by
  show sg (a++{#[c]}++Str.join {#[c]} (b::r))=sg a++c::jn c (b::r);rw[<-yC c (b::r)];simp[sg,Str.cps_append]
theorem AQ{c:Nat}:∀{a b r q:List Nat},c∉a->c∉b->a++c::r=b++c::q->a=b/\r=q
 | [],[],_,_,_,_,e=>by simp at e;exact⟨M,e⟩
 | [],x::b,_,_,_,h2,e=>by
  simp at e;exact VG (by rw[e.1];exact Q6) h2
 |x::a,[],_,_,h1,_,e=>by
  simp at e;exact VG (by rw[<-e.1];exact Q6) h1
 |x::a,y::b,r,q,h1,h2,e=>by
  simp only[Va,List.cons.injEq]at e;let{I,e2}:=AQ (λz=>h1<|Qa _ z) (λz=>h2<|Qa _ z) e.2;exact{by rw[e.1,I],e2}
theorem GG{c:Nat}:∀{l m:Ry},l≠[]->m≠[]->(∀a∈l,c∉sg a)->(∀a∈m,c∉sg a)->jn c l=jn c m->l=m
 | [],_,h,_,_,_,_=>VG M h
 |_::_,[],_,h,_,_,_=>VG M h
 | [a],[b],_,_,_,_,e=>by rw[yD (show sg a=sg b from e)]
 | [a],b::b'::m,_,_,h1,_,e=>by
  refine VG ?_<|h1 a Q6;rw[show sg a=sg b++c::jn c (b'::m) from e];simp
 |a::a'::l,[b],_,_,_,h2,e=>by
  refine VG ?_<|h2 b Q6;rw[<-show sg a++c::jn c (a'::l)=sg b from e];simp
 |a::a'::l,b::b'::m,_,_,h1,h2,e=>by
  let{z,e2}:=AQ (h1 a Q6) (h2 b Q6) (show sg a++c::jn c (a'::l)=sg b++c::jn c (b'::m) from e);rw[yD z,GG (by simp) (by simp) (λx hx=>h1 x<|Qa _ hx) (λx hx=>h2 x<|Qa _ hx) e2]
def fR(z:Str)(l:Ry):Txt.join z l=Str.join z l:=StrLaws.glued_eq_join z l
def oj{c:Nat}{l:Ry}(I:l≠[])(h:∀a∈l,c∉sg a):Txt.split (Txt.join {#[c]} l) {#[c]}=l:=by
 have e:=StrLaws.join_split (Txt.join {#[c]} l) {#[c]};have f:=StrLaws.split_free (Txt.join {#[c]} l) c;rw[fR]at e f⊢;have e:=VT sg e;rw[yC,yC]at e;refine GG (λz=>?_) I f h e;unfold Txt.split at z;split at z
 .cases z
 .split at z
  .cases z
  .rw[StrLaws.partsBetween_eq]at z;let{p,r,O}:=StrLaws.partsFrom_ne (Str.join {#[c]} l) ({#[c]}:Str).length 0 (occurrences (Str.join {#[c]} l) {#[c]} 0 (Str.join {#[c]} l).length<|(Str.join {#[c]} l).length+1);rw[O]at z;cases z
end L2
namespace L2
open PySem PySem.Spec PyProof.Rows
section
variable{X:Cx}
def tFkv(c:Str)(ta tb:TE):TE:=λB H Q=>ta B H λx H1=>∃i:Int,x= .int i/\i.natAbs.log2<1920/\(Str.ofString (toString i)++c).length<=sizeLine/\tb B H1 λy H2=>∃k:Int,y= .int k/\k.natAbs.log2<1920/\(Str.ofString (toString i)++c++Str.ofString (toString k)).length<=sizeLine/\Q (.str<|Str.ofString (toString i)++c++Str.ofString (toString k)) H2
def bq(a b:Str):(a++b).length=a.length+b.length:=by
 show(a.cps++b.cps).size=a.cps.size+b.cps.size;exact Array.size_append
def yr(a:Str):Str.empty++a=a:=by
 show Str.mk (#[]++a.cps)=a;rw[Array.empty_append]
def LK{a b:Expr}{ta tb:TE}{c:Str}{j:Nat}{O p2 U pos:Pos}(ha:PE X a ta)(hb:PE X b tb):PE X (.JoinedStr [.FormattedValue a (-1) none O,.Constant (.str c) j p2,.FormattedValue b (-1) none U] pos) (tFkv c ta tb):=by
 intro W s B H Q I h;refine JoinedStr_many<|joinParts_cons (FormattedValue_plain<|N3 (ha W s B H _ I h) λv s1 h1=>?_);let{x,H1,Y,r1,i,rfl,hz,l1,Z}:=h1;let{t,rfl}:=r1;refine formatField_int_small hz {?_,joinParts_cons<|Calls.Constant_str {?_,joinParts_consE<|joinParts_cons (FormattedValue_plain<|N3 (hb W _ B H1 _ (((Y.tok _).tok _).tok _) Z) λv s2 h2=>?_)}}
 .rw[yr];rw[bq]at l1;lia
 .rwa[yr]
 let{y,H2,I2,r2,k,rfl,hk,z,q2}:=h2;let{u,rfl}:=r2;rw[yr];refine formatField_int_small hk {z,?_};exact joinParts_nilE<|joinParts_nil {.str _,H2,((I2.tok _).tok _).tok _,{_,M},q2} z
end
end L2
namespace SW
open PySem L2
set_option maxHeartbeats 0
abbrev _root_.Rs:=List (Int×V)
abbrev _root_.Sb:=List (List Int)
variable{C L a b c dx h p q r tb:Rl}{F F' F1 G G' G1:Ro}{t:NZ}{up:Bool}{o:HO}{x':O9}{H H' H1 H2:Hp}{JM hi k lo m n:Int}{R:Sh}{kv' kvs ps qs:Rs}{ls:Sb}{gs:List (Str×Tg)}{fs:RX}{A:Rz}{ks l x y:Rn}{pa':List Pk}{ts:List Tp}{xs:Rq}{i i0 j:Nat}{E:Nat->Prop}{K:Wi}{st:N4}{B:St}{w0:Str}{α β:Type}{a' av e v:V}{Q:VK}
structure Txt(K:Wi)(mg:RT)(t:NZ)(w:Ru):Prop where
 Eu:mg "NoText"=some (.ref t.lX)
 AD:mg "Token"=some (.ref t.eT)
 oO:mg "BySlots"=some (.ref t.aQ)
 Gg:mg "Up"=some (.ref t.da)
 Jc:mg "Down"=some (.ref t.b8)
 MN:mg "Leaves"=some (.ref t.bC)
 No:mg "Makes"=some (.ref t.eU)
 Nn:mg "Slots"=some (.ref t.aU)
 Np:mg "House"=some (.ref t.bj)
 NQ:mg "Desk"=some (.ref t.fE)
 AE:mg "turned"=some (.ref t.Be)
 vD:NY K "turned" "turned" uk t.Be t.vg
 Bc:Binds K t.vg ["number"] []
 Ey:mg "mark_of"=some (.ref t.yj)
 yp:NY K "mark_of" "mark_of" qI t.yj t.rh
 E4:Binds K t.rh [eR] []
 LU:mg "place_of"=some (.ref t.vq)
 CF:NY K "place_of" "place_of" oA t.vq t.oV
 Mx:Binds K t.oV [eR] []
 xO:mg "slot_of"=some (.ref t.yh)
 rA:NY K "slot_of" "slot_of" qG t.yh t.rf
 yf:Binds K t.rf [eR,K'] []
 Jj:mg "stretch_of"=some (.ref t.p8)
 zH:NY K "stretch_of" "stretch_of" jt t.p8 t.jW
 JQ:Binds K t.jW ["slot",K'] []
 Ex:mg "slot_at"=some (.ref t.yi)
 yo:NY K "slot_at" "slot_at" qH t.yi t.rg
 E3:Binds K t.rg ["place",K'] []
 LV:mg "is_whole"=some (.ref t.vv)
 CG:NY K "is_whole" "is_whole" oB t.vv t.oW
 My:Binds K t.oW [z9] []
 jg:mg "is_from"=some (.ref t.yk)
 f8:NY K "is_from" "is_from" qJ t.yk t.rj
 jp:Binds K t.rj [z9,"low"] []
 Ew:mg "word_of"=some (.ref t.yg)
 ym:NY K "word_of" "word_of" qF t.yg t.rc
 E2:Binds K t.rc ["bound"] []
 i8:NY K lU "Token.__init__" ig t.i7 t.iN
 nI:Binds K t.iN [cC,"kind",wh,p7] []
 Hq:NY K "words" "Token.words" gf t.cW t.gK
 lY:Binds K t.gK [cC] []
 Fh:PN K lU "BySlots.__init__" fq t.kE t.cx
 sF:Binds K t.cx [cC,wh,p7] []
 ML:PN K lU "Up.__init__" oG t.vA t.gJ
 CB:Binds K t.gJ [cC,wh,p7] []
 La:NY K "holds" "Up.holds" kR t.rQ t.lT
 K2:Binds K t.lT [cC,eR] []
 Kj:PN K lU "Down.__init__" jL t.qr t.eB
 zD:Binds K t.eB [cC,wh,p7] []
 Il:NY K "holds" "Down.holds" iC t.oe t.i4
 HU:Binds K t.i4 [cC,eR] []
 NW:mg "ask"=some (.ref t.K4)
 NM:PN K "ask" "ask" FJ t.K4 t.AX
 MA:mw K t.AX [Rc,hW,L',"sieve"] [.non]
 Fc:mg "page_by_slots"=some (.ref t.kD)
 sG:NY K "page_by_slots" "page_by_slots" fo t.kD t.fB
 Fg:Binds K t.fB [Re,hW,L'] []
 Gp:mg "page_by_keys"=some (.ref t.mf)
 vF:NY K "page_by_keys" "page_by_keys" dS t.mf t.gG
 Hf:Binds K t.gG [Rc,hW,L'] []
 Gq:mg "keys_of_page"=some (.ref t.mh)
 vG:NY K "keys_of_page" "keys_of_page" dU t.mh t.gH
 Hg:Binds K t.gH [kt,hW,L'] []
 KM:mg "keys_near"=some (.ref t.rM)
 Bj:NY K "keys_near" "keys_near" kO t.rM t.lO
 KZ:Binds K t.lO [kt,hW,O'] []
 Go:mg "token_behind"=some (.ref t.l9)
 vE:NY K "token_behind" "token_behind" gc t.l9 t.gF
 He:Binds K t.gF [hW,eR] []
 Hr:NY K lU "Leaves.__init__" gh t.mq t.gL
 Hh:Binds K t.gL [cC] []
 Ih:NY K "add" "Leaves.add" eQ t.nY t.iW
 HQ:Binds K t.iW [cC,eR] []
 DJ:NY K "discard" "Leaves.discard" dY t.hJ t.eh
 DE:Binds K t.eh [cC,eR] []
 Ig:NY K "has" "Leaves.has" iy t.nV t.iV
 xl:Binds K t.iV [cC,eR] []
 DI:NY K "from_on" "Leaves.from_on" cH t.hI t.d9
 DD:Binds K t.d9 [cC,eR,O'] []
 Bt:NY K "down_from" "Leaves.down_from" cf t.fK t.dq
 Br:Binds K t.dq [cC,eR,O'] []
 DH:NY K "leaf_of" "Leaves.leaf_of" dX t.g9 t.d8
 cN:Binds K t.d8 [cC,eR] []
 Bs:NY K "part_leaf" "Leaves.part_leaf" db t.fJ t.dj
 Bq:Binds K t.dj [cC,wh] []
 Bl:NY K "join_small" "Leaves.join_small" cP t.fc t.cU
 lZ:Binds K t.cU [cC,wh] []
 Ie:NY K lU "Makes.__init__" iw t.nU t.iU
 HP:Binds K t.iU [cC] []
 Ic:NY K "note" "Makes.note" iu t.nS t.iT
 HN:Binds K t.iT [cC,"moment",mu] []
 rF:mg "empty_row"=some (.ref t.rN)
 mr:NY K "empty_row" "empty_row" gU t.rN t.lP
 rJ:Binds K t.lP [K'] []
 Ia:NY K lU "Slots.__init__" iq t.nQ t.iR
 HL:Binds K t.iR [cC] []
 Ke:NY K "put" "Slots.put" jG t.ql t.kg
 JY:Binds K t.kg [cC,eR,mu] []
 Ib:NY K P' "Slots.drop" ir t.nR t.iS
 HM:Binds K t.iS [cC,eR] []
 Kg:NY K "get" "Slots.get" jI t.qo t.kj
 JZ:Binds K t.kj [cC,eR] []
 Kf:NY K "has" "Slots.has" jH t.qm t.kh
 zC:Binds K t.kh [cC,eR] []
 HZ:NY K "rows" "Slots.rows" eP t.nP t.iQ
 xk:Binds K t.iQ [cC] []
 HY:NY K "span" "Slots.span" dw t.nO t.iP
 HK:Binds K t.iP [cC,"low","high"] []
 HX:NY K "stop" "Slots.stop" io t.nN t.iO
 xj:Binds K t.iO [cC,"place"] []
 Fa:NY K "cell_of" "Slots.cell_of" eG t.jq t.eK
 eL:Binds K t.eK [cC,eR] []
 DG:NY K "lying_at" "Slots.lying_at" dW t.g8 t.d7
 DB:Binds K t.d7 [cC,"place"] []
 CI:NY K "move_slot" "Slots.move_slot" dE t.gO t.dI
 pe:Binds K t.dI [cC] []
 CJ:NY K "begin_row" "Slots.begin_row" dF t.gP t.dJ
 pf:Binds K t.dJ [cC] []
 Ii:NY K lU "House.__init__" iz t.nZ t.iX
 HR:Binds K t.iX [cC] []
 Kh:NY K "put" "House.put" jJ t.qp t.ko
 J2:Binds K t.ko [cC,eR,mu] []
 Ij:NY K P' "House.drop" iA t.n8 t.iY
 HS:Binds K t.iY [cC,eR] []
 Ki:NY K "get" "House.get" jK t.qq t.kq
 Ka:Binds K t.kq [cC,eR] []
 Ik:NY K "done" "House.done" iB t.n9 t.iZ
 xn:Binds K t.iZ [cC,"row",mu] []
 HB:mg "are_figures"=some (.ref t.nK)
 xq:NY K "are_figures" "are_figures" eO t.nK t.iI
 HG:Binds K t.iI [Ra] []
 ze:mg "read_whole"=some (.ref t.qa)
 qu:NY K "read_whole" "read_whole" ju t.qa t.jX
 zu:Binds K t.jX [Ra] []
 zf:mg "read_bound"=some (.ref t.qe)
 qv:NY K "read_bound" "read_bound" jy t.qe t.j3
 zx:Binds K t.j3 ["word"] []
 Jk:mg "read_token"=some (.ref t.qb)
 zI:NY K "read_token" "read_token" jv t.qb t.jY
 JR:Binds K t.jY [Ra] []
 Nq:mg "row_of"=some (.ref t.Bf)
 Hn:NY K "row_of" "row_of" uo t.Bf t.vh
 NJ:Binds K t.vh [eR,mu] []
 Jm:mg "read_order"=some (.ref t.qd)
 zK:NY K "read_order" "read_order" jx t.qd t.j2
 JT:Binds K t.j2 ["row"] []
 HA:mg "read_things"=some (.ref t.nJ)
 xp:NY K "read_things" "read_things" hV t.nJ t.iH
 HF:Binds K t.iH ["form","words"] []
 Jl:mg "read_thing"=some (.ref t.qc)
 zJ:NY K "read_thing" "read_thing" jw t.qc t.jZ
 JS:Binds K t.jZ [z9,Ra] []
 Nr:mg "may_be"=some (.ref t.Bg)
 Ho:NY K "may_be" "may_be" uq t.Bg t.vi
 NK:Binds K t.vi [z9,"number"] []
 zL:NY K "answer_put" "answer_put" jz t.kA t.j4
 JU:Binds K t.j4 ["desk",Rf] []
 xu:NY K "answer_drop" "answer_drop" hZ t.i6 t.iK
 HI:Binds K t.iK ["desk",Rf] []
 KL:mg "page_told"=some (.ref t.rL)
 Bi:NY K "page_told" "page_told" gT t.rL t.lN
 KY:Binds K t.lN [u4] []
 xt:NY K "answer_page" "answer_page" hX t.i5 t.iJ
 HH:Binds K t.iJ ["desk",Rf] []
 Kk:NY K lU "Desk.__init__" jM t.qt t.kr
 Kb:Binds K t.kr [cC] []
 Lb:NY K "say" "Desk.say" kU t.rR t.lW
 rK:Binds K t.lW [cC,"row"] []
 gE:mg "_law_cell_at"=some (.ref t.mi)
 eC:NY K "_law_cell_at" "_law_cell_at" gd t.mi t.gI
 gN:Binds K t.gI [jj,nC] []
 Jo:mg "_law_drawn"=some (.ref t.qj)
 zN:NY K "_law_drawn" "_law_drawn" jE t.qj t.j9
 JW:Binds K t.j9 [nj,nC] []
 zi:mg "_law_draws"=some (.ref t.qi)
 qz:NY K "_law_draws" "_law_draws" jD t.qi t.j8
 zB:Binds K t.j8 [nj,nE,zp] []
 zg:mg "_law_place"=some (.ref t.qg)
 qw:NY K "_law_place" "_law_place" jB t.qg t.j6
 zy:Binds K t.j6 [eN] []
 zh:mg "_law_holds"=some (.ref t.qh)
 qy:NY K "_law_holds" "_law_holds" jC t.qh t.j7
 zA:Binds K t.j7 [ff,gr,fx,eN] []
 AF:mg "_law_rank"=some (.ref t.rO)
 rS:NY K "_law_rank" "_law_rank" kP t.rO t.lQ
 Bd:Binds K t.lQ [ff,eN] []
 Jn:mg "_law_words"=some (.ref t.qf)
 zM:NY K "_law_words" "_law_words" jA t.qf t.j5
 JV:Binds K t.j5 [ff,gr,fx] []
 Cg:mg "_law_put"=some (.ref t.vx)
 vH:NY K "_law_put" "_law_put" oC t.vx t.oX
 CA:Binds K t.oX [lm,ge,eN,"_law_value"] []
 LW:mg "_law_key"=some (.ref t.vz)
 CH:NY K "_law_key" "_law_key" oE t.vz t.oY
 Mz:Binds K t.oY ["_law_keys","_law_draw"] []
 Jp:mg "_law_deeds"=some (.ref t.qk)
 zO:NY K "_law_deeds" "_law_deeds" jF t.qk t.kf
 JX:Binds K t.kf [lm,ge,ly,gp] []
 KN:mg "_law_page"=some (.ref t.rP)
 Bk:NY K "_law_page" "_law_page" kQ t.rP t.lR
 K0:Binds K t.lR ["_law_texts",ge,nX,ff,gr,fx] []
 HC:mg "_law_bounds"=some (.ref t.nM)
 xv:NY K "_law_bounds" "_law_bounds" ie t.nM t.iM
 HJ:Binds K t.iM [nj,ff] []
 NV:mg "law"=some (.ref t.K3)
 NL:NY K "law" "law" xF t.K3 t.Dy
 mB:rq K t.lX (([t.bI]:Rz).map Value.ref++Px)
 Cm:PySem.W.findIn K (.ref t.lX) lU=some (some<|.builtin "ValueError.__init__")
 sC:Hk K t.aQ "kind"
 m8:Hk K t.aQ wh
 cT:Hk K t.aQ p7
 cV:Oz K t.aQ
 Cb:Mk K t.aQ t.kE
 oh:XIs K t.aQ
 Ck:PySem.W.kitOne K (.ref t.aQ) (.ref t.aQ)=some true
 Ev:cG K t.aQ "words" t.cW
 BZ:Hk K t.da "kind"
 pO:Hk K t.da wh
 jf:Hk K t.da p7
 jo:Oz K t.da
 Nj:Mk K t.da t.vA
 kJ:XIs K t.da
 HE:PySem.W.kitOne K (.ref t.da) (.ref t.aQ)=some false
 GB:PySem.W.kitOne K (.ref t.da) (.ref t.da)=some true
 KJ:cG K t.da "words" t.cW
 KK:cG K t.da "holds" t.rQ
 y9:Hk K t.b8 "kind"
 gx:Hk K t.b8 wh
 gY:Hk K t.b8 p7
 c8:Oz K t.b8
 Ja:Mk K t.b8 t.qr
 dQ:XIs K t.b8
 Fd:PySem.W.kitOne K (.ref t.b8) (.ref t.aQ)=some false
 Cj:PySem.W.kitOne K (.ref t.b8) (.ref t.da)=some false
 Hy:cG K t.b8 "words" t.cW
 Hz:cG K t.b8 "holds" t.oe
 aB:Hk K t.bC kt
 aJ:Oz K t.bC
 MM:Mk K t.bC t.mq
 Hw:cG K t.bC "add" t.nY
 Dh:cG K t.bC "discard" t.hJ
 xc:cG K t.bC "has" t.nV
 Dg:cG K t.bC "from_on" t.hI
 Bp:cG K t.bC "down_from" t.fK
 cK:cG K t.bC "leaf_of" t.g9
 Bo:cG K t.bC "part_leaf" t.fJ
 lI:cG K t.bC "join_small" t.fc
 wY:Hk K t.eU "made"
 A7:Oz K t.eU
 Nl:Mk K t.eU t.nU
 Hv:cG K t.eU "note" t.nS
 aS:Hk K t.aU "table"
 bQ:Hk K t.aU "shifted"
 bE:Hk K t.aU "kept"
 aG:Oz K t.aU
 Nk:Mk K t.aU t.nQ
 Jf:cG K t.aU "put" t.ql
 Hu:cG K t.aU P' t.nR
 Jg:cG K t.aU "get" t.qo
 zc:cG K t.aU "has" t.qm
 xb:cG K t.aU "rows" t.nP
 Ht:cG K t.aU "span" t.nO
 xa:cG K t.aU "stop" t.nN
 eJ:cG K t.aU "cell_of" t.jq
 Df:cG K t.aU "lying_at" t.g8
 oP:cG K t.aU "move_slot" t.gO
 oQ:cG K t.aU "begin_row" t.gP
 jP:Hk K t.bj "now"
 Gb:Hk K t.bj "floor"
 cR:Hk K t.bj Re
 fu:Hk K t.bj kt
 qR:Hk K t.bj "written"
 Ga:Hk K t.bj "marks"
 wZ:Hk K t.bj "past"
 Er:Hk K t.bj "holders"
 a6:Oz K t.bj
 Nm:Mk K t.bj t.nZ
 Jh:cG K t.bj "put" t.qp
 Hx:cG K t.bj P' t.n8
 Ji:cG K t.bj "get" t.qq
 xf:cG K t.bj "done" t.n9
 iF:Hk K t.fE Rc
 Gc:Hk K t.fE "copier"
 kx:Oz K t.fE
 NP:Mk K t.fE t.qt
 rE:cG K t.fE "say" t.rR
 m7:Hm K t.eT lU (.ref t.i7)
 g_BITS:∃tk,mg "BITS"=some (.int 16 tk)
 g_PLACES:∃tk,mg "PLACES"=some (.int 65536 tk)
 g_STRETCHES_A_KEY:∃tk,mg "STRETCHES_A_KEY"=some (.int 4 tk)
 g_MOST_IN_LEAF:∃tk,mg "MOST_IN_LEAF"=some (.int 8 tk)
 g_LEAST_IN_TWO:∃tk,mg "LEAST_IN_TWO"=some (.int 5 tk)
 g_LEAST_SIZE:∃tk,mg "LEAST_SIZE"=some (.int 4 tk)
 g_GREATEST_SIZE:∃tk,mg "GREATEST_SIZE"=some (.int 256 tk)
 g_FIGURES:∃tk,mg "FIGURES"=some (.str Rg tk)
 g_MOST_FIGURES:∃tk,mg "MOST_FIGURES"=some (.int 60 tk)
 g_WORDS_OF_TOKEN:∃tk,mg "WORDS_OF_TOKEN"=some (.int 3 tk)
 g_MOST_KEYS:∃tk,mg "MOST_KEYS"=some (.int 100 tk)
 NU:mg "all"=none
 NT:mg "bool"=none
 NS:mg "dict"=none
 Kn:mg "enumerate"=none
 Km:mg "int"=none
 bV:mg "isinstance"=none
 bG:mg "len"=none
 NR:mg gt=none
 Kl:mg "max"=none
 zP:mg "min"=none
 my:mg vt=none
 Lc:mg "reversed"=none
 MO:mg "sorted"=none
 kI:mg "str"=none
 Gh:mg "FORMS"=some (.ref t.Jw)
 GE:KD w K t.Jw t.pK
 kt_FORMS_put:∃a,Pm t.pK ("put":Str)=some (.ref a)/\∀H:Hp,OO K H a [.str "KEY",.str "VALUE"]
 kt_FORMS_drop:∃a,Pm t.pK (P':Str)=some (.ref a)/\∀H:Hp,OO K H a [.str "KEY"]
 kt_FORMS_page:∃a,Pm t.pK (u4:Str)=some (.ref a)/\∀H:Hp,OO K H a [.str Rh,.str "MANY"]
 LT:mg "ANSWERS"=some (.ref t.EE)
 Md:KD w K t.EE t.mG
 GC:Pm t.mG ("put":Str)=some (.ref t.kA)
 Ff:Pm t.mG (P':Str)=some (.ref t.i6)
 Fe:Pm t.mG (u4:Str)=some (.ref t.i5)
 Jb:mg "OF_COPIER"=some (.ref t.lK)
 Jr:∀H:Hp,OO K H t.lK [.str "open",.str "read",.str "close",.str "follow",.str "show",.str "covers",.str "total",.str "stop"]
def D0:ao ["number","told","rest","step"] ["number"] (aj uk):=O1
def BN:ao [eR] [eR] (aj qI):=O1
def Ad:ao [eR] [eR] (aj oA):=O1
def BL:ao [eR,K'] [eR,K'] (aj qG):=O1
def wg:ao ["slot",K',"low"] ["slot",K'] (aj jt):=O1
def BM:ao ["place",K'] ["place",K'] (aj qH):=O1
def Ae:ao [z9] [z9] (aj oB):=O1
def BO:ao [z9,"low"] [z9,"low"] (aj qJ):=O1
def BK:ao ["bound"] ["bound"] (aj qF):=O1
def tW:ao [cC,"kind",wh,p7] [cC,"kind",wh,p7] (aj ig):=O1
def r9:ao [cC] [cC] (aj gf):=O1
def OT:ao [cC,wh,p7] [cC,wh,p7] (aj fq):=O1
def Op:ao [cC,wh,p7] [cC,wh,p7] (aj oG):=O1
def yJ:ao [cC,eR] [cC,eR] (aj kR):=O1
def Of:ao [cC,wh,p7] [cC,wh,p7] (aj jL):=O1
def uj:ao [cC,eR] [cC,eR] (aj iC):=O1
def Pw:ao [Rc,hW,L',"sieve",u4] [Rc,hW,L',"sieve"] (aj FJ):=O1
def OU:ao [Re,hW,L',"rows","reached","gone","stop"] [Re,hW,L'] (aj fo):=O1
def rZ:ao [Rc,hW,L',u4] [Rc,hW,L'] (aj dS):=O1
def OW:ao [kt,hW,L',O',"held",u4] [kt,hW,L'] (aj dU):=O1
def yF:ao [kt,hW,O'] [kt,hW,O'] (aj kO):=O1
def rY:ao [hW,eR] [hW,eR] (aj gc):=O1
def sf:ao [cC] [cC] (aj gh):=O1
def ud:ao [cC,eR,wh,"leaf"] [cC,eR] (aj eQ):=O1
def oz:ao [cC,eR,wh] [cC,eR] (aj dY):=O1
def uc:ao [cC,eR,wh] [cC,eR] (aj iy):=O1
def ON:ao [cC,eR,O',"told",wh] [cC,eR,O'] (aj cH):=O1
def OH:ao [cC,eR,O',"told",wh] [cC,eR,O'] (aj cf):=O1
def oy:ao [cC,eR,"low","high","middle"] [cC,eR] (aj dX):=O1
def kN:ao [cC,wh,"leaf","middle"] [cC,wh] (aj db):=O1
def kG:ao [cC,wh,"both"] [cC,wh] (aj cP):=O1
def ub:ao [cC] [cC] (aj iw):=O1
def ua:ao [cC,"moment",mu] [cC,"moment",mu] (aj iu):=O1
def yG:ao [K'] [K'] (aj gU):=O1
def t7:ao [cC] [cC] (aj iq):=O1
def wB:ao [cC,eR,mu,"cell"] [cC,eR,mu] (aj jG):=O1
def t9:ao [cC,eR] [cC,eR] (aj ir):=O1
def wD:ao [cC,eR,"cell"] [cC,eR] (aj jI):=O1
def wC:ao [cC,eR] [cC,eR] (aj jH):=O1
def tZ:ao [cC] [cC] (aj eP):=O1
def tY:ao [cC,"low","high","found","reached",p7,"inside"] [cC,"low","high"] (aj dw):=O1
def tX:ao [cC,"place",K'] [cC,"place"] (aj io):=O1
def pD:ao [cC,eR,"old","slot","new"] [cC,eR] (aj eG):=O1
def ox:ao [cC,"place",K',"found","row","slot",eR,mu] [cC,"place"] (aj dW):=O1
def mQ:ao [cC,"old","new",eR,mu] [cC] (aj dE):=O1
def mR:ao [cC,K'] [cC] (aj dF):=O1
def uf:ao [cC] [cC] (aj iz):=O1
def wE:ao [cC,eR,mu] [cC,eR,mu] (aj jJ):=O1
def ug:ao [cC,eR] [cC,eR] (aj iA):=O1
def wF:ao [cC,eR] [cC,eR] (aj jK):=O1
def ui:ao [cC,"row",mu,eR] [cC,"row",mu] (aj iB):=O1
def tS:ao [Ra] [Ra] (aj eO):=O1
def Oe:ao [Ra,"below","figures"] [Ra] (aj ju):=O1
def wq:ao ["word"] ["word"] (aj jy):=O1
def wj:ao [Ra,"words",wh,p7] [Ra] (aj jv):=O1
def D4:ao [eR,mu] [eR,mu] (aj uo):=O1
def wn:ao ["row","words","first",Rf] ["row"] (aj jx):=O1
def Oa:ao ["form","words",Rf,wh,z9,"width"] ["form","words"] (aj hV):=O1
def wm:ao [z9,Ra,"number"] [z9,Ra] (aj jw):=O1
def D8:ao [z9,"number"] [z9,"number"] (aj uq):=O1
def wt:ao ["desk",Rf] ["desk",Rf] (aj jz):=O1
def tU:ao ["desk",Rf] ["desk",Rf] (aj hZ):=O1
def Oj:ao [u4,"texts",hW] [u4] (aj gT):=O1
def tT:ao ["desk",Rf] ["desk",Rf] (aj hX):=O1
def wG:ao [cC] [cC] (aj jM):=O1
def yK:ao [cC,"row","order","first","answer"] [cC,"row"] (aj kU):=O1
def r6:ao [jj,nC] [jj,nC] (aj gd):=O1
def wz:ao [nj,nC,"_law_number"] [nj,nC] (aj jE):=O1
def wy:ao [nj,nE,zp,wf,nC] [nj,nE,zp] (aj jD):=O1
def ww:ao [eN,"_law_mark",wf,nC] [eN] (aj jB):=O1
def wx:ao [ff,gr,fx,eN] [ff,gr,fx,eN] (aj jC):=O1
def yH:ao [ff,eN] [ff,eN] (aj kP):=O1
def wv:ao [ff,gr,fx,"_law_end"] [ff,gr,fx] (aj jA):=O1
def Af:ao [lm,ge,eN,"_law_value"] [lm,ge,eN,"_law_value"] (aj oC):=O1
def Ag:ao ["_law_keys","_law_draw",eN] ["_law_keys","_law_draw"] (aj oE):=O1
def wA:ao [lm,ge,ly,gp,"_law_keys","_law_good",eN] [lm,ge,ly,gp] (aj jF):=O1
def yI:ao ["_law_texts",ge,nX,ff,gr,fx,"_law_text",lV,eN] ["_law_texts",ge,nX,ff,gr,fx] (aj kQ):=O1
def tV:ao [nj,ff,gr,"_law_far"] [nj,ff] (aj ie):=O1
def OY:ao [jj,lm,ge,zp,Ri,ff,gr,fx,Rj,"_law_some","_law_j",eN,ly,nX,lV,Rk,nC,nE,gp,wf] [jj] (aj xF):=O1
def Sc:V->Prop
 | .non=>True| .bl _=>True| .int _=>True| .str _=>True|_=>False
def T0(z:Int):Sc (.int z):=VW
noncomputable def isW:V->Bool
 | .int _=>true|_=>false
def Fr(F F':Ro)(H H':Hp):Prop:=∀b o,¬F b->H b=some o->H' b=some o/\¬F' b
def Fr.refl:Fr F F H H:=λ_ _ n e=>⟨e,n⟩
def Fr.trans{z:Ro}{H'':Hp}(x:Fr F F' H H')(y:Fr F' z H' H''):Fr F z H H'':=λb o n e=>y b o (x b o n e).2 (x b o n e).1
def Fr.of_same(s:Ba H H'):Fr F F H H':=λb o n e=>{s b o e,n}
noncomputable def aL(kv:Rs):List (Key×V):=kv.map λp=>(Sum.inl p.1,p.2)
def N8{kv:Rs}:aI (aL kv) (Sum.inl k:Key)=aI kv k:=by
 induction kv with
 |nil=>rfl
 |cons p r I=>
  show aI ((Sum.inl p.1,p.2)::aL r) (Sum.inl k:Key)=_;by_cases e:p.1=k
  .rw[bi e,bi (by show(Sum.inl p.1:Key)=_;rw[e])]
  .rw[bc e,bc (by show ¬(Sum.inl p.1:Key)=_;exact λz=>e<|Sum.inl.inj z),I]
def EA{kv:Rs}:((aL kv).any λx=>decide (x.1=(Sum.inl k:Key)))=kv.any λx=>decide (x.1=k):=by
 rw[cO,cO,N8]
def jh{kv:Rs}:bp (aL kv) (Sum.inl k:Key) v=aL (bp kv k v):=by
 unfold bp;rw[EA];by_cases c:(kv.any λx=>decide (x.1=k))=true
 .rw[VB c,VB c];unfold aL;rw[QS,QS];refine ZM λp _=>?_;show(if(Sum.inl p.1:Key)=Sum.inl k then _ else _)=_;by_cases e:p.1=k
  .rw[VB (by rw[e])];simp[e]
  .rw[VA λz=>e (Sum.inl.inj z)];simp[e]
 .rw[VA c,VA c];unfold aL;rw[Q8];rfl
def oR{kv:Rs}:bB (aL kv) (Sum.inl k:Key)=aL (bB kv k):=by
 unfold bB aL;rw[List.filter_map];congr 1;refine V6 λp _=>?_;show decide ((Sum.inl p.1:Key)≠Sum.inl k)=_;by_cases e:p.1=k
 .rw[e];simp
 .have:¬(Sum.inl p.1:Key)=Sum.inl k:=λz=>e (Sum.inl.inj z);simp[e,this]
def dM{kv:Rs}:(aL kv).length=kv.length:=Q0 _
theorem kY{f:Str}{v:V}:∀fs:List (Str×V),(b6 f v fs).length<=fs.length+1
 | []=>Q4 _
 |(g,x)::r=>by
  rw[b6];split
  .rw[Qi,Qi];lia
  .have:=kY (f:=f) (v:=v) r;rw[Qi,Qi];lia
section
variable{κ:Type}[DecidableEq κ]{kv:List (κ×V)}{k j:κ}
theorem cX:∀{kv:List (κ×V)},aI (bB kv k) j=if j=k then none else aI kv j
 | []=>by
  show aI ([]:List (κ×V)) j=_;rw[kK];split<;>rfl
 |p::r=>by
  by_cases e:p.1=k
  .rw[q9 e,cX];by_cases z:j=k
   .rw[VB z,VB z]
   .rw[VA z,VA z,bc λy=>z (y.symm.trans e)]
  .rw[mL e];by_cases y:p.1=j
   .rw[bi y,bi y,VA λz=>e (y.trans z)]
   .rw[bc y,bc y,cX]
theorem mem_keys:∀{kv:List (κ×V)},k∈kv.map (·.1)↔(aI kv k).isSome=true
 | []=>by simp[kK]
 |p::r=>by
  by_cases e:p.1=k
  .rw[bi e];simp[e]
  .rw[bc e,<-mem_keys];simp[Ne.symm e]
def pT:(bp kv k v).map (·.1)=if(aI kv k).isSome=true then kv.map (·.1)else kv.map (·.1)++ [k]:=by
 unfold bp;rw[cO];by_cases c:(aI kv k).isSome=true
 .rw[VB c,VB c,QS];refine ZM λp _=>?_;show(if p.1=k then(p.1,v)else p).1=p.1;split<;>rfl
 .rw[VA c,VA c,Q8];rfl
def BY(h:(kv.map (·.1)).Nodup):((bp kv k v).map (·.1)).Nodup:=by
 cases e:aI kv k with
 |none=>exact IZ v h e
 |some x=>rwa[pT,e]
theorem eY:∀{l S:List κ},l.Nodup->(∀x∈l,x∈S)->l.length<=S.length
 | [],_,_,_=>Qc _
 |x::xs,S,hn,hs=>by
  let{h1,h2}:=QQ.mp hn;have hx:x∈S:=hs x Q6;have:=eY (S:=S.erase x) h2 λy hy=>(List.mem_erase_of_ne λz=>h1<|by rwa[<-z]).mpr (hs y<|Qa _ hy);rw[List.length_erase_of_mem hx]at this;have:=List.length_pos_of_mem hx;rw[Qi];lia
end
def PR(K:Wi)(F:Ro)(H:Hp)(a:Rl)(xs:Rq):Prop:=(Rd H a (.lst xs)/\¬F a)\/∀H',Dz K H' a xs
def PR.sq(h:PR K F H a xs):Dz K H a xs:=by
 rcases h with h|h
 .exact .inl h.1
 .exact h H
def PR.of(h:Dz K H a xs)(n:∀o,H a=some o->¬F a):PR K F H a xs:=by
 rcases h with h|h
 .rcases h with h|⟨o,h⟩
  .exact .inl {.inl h,n _ h}
  .exact .inl {.inr ⟨o,h⟩,n _ h}
 .exact .inr λ_=> .inr h
def PR.fr(h:PR K F H a xs)(f:Fr F F' H H'):PR K F' H' a xs:=by
 rcases h with⟨h,n⟩|h
 .rcases h with h|⟨o,h⟩
  .exact .inl {.inl (f _ _ n h).1,(f _ _ n h).2}
  .exact .inl {.inr {o,(f _ _ n h).1},(f _ _ n h).2}
 .exact .inr h
set_option genInjectivity false in
structure N4 where
 kv:List (Int×V)
 size:Int
 nxt:Option Int
 mv:Int
noncomputable def N4.new:N4:={[],4,none,0}
noncomputable def N4.one(s:N4):N4:=match s.nxt with
 |none=>s
 |some m=>if s.mv+1=s.size then{s with size:=m,nxt:=none,mv:=0}else{s with mv:=s.mv+1}
noncomputable def N4.three(s:N4):N4:=match s.nxt with
 |some _=>s
 |none=>if s.size<(s.kv.length:Int)/\s.size<256 then{s with nxt:=some (2*s.size),mv:=0}else if 4*(s.kv.length:Int)<s.size/\4<s.size then{s with nxt:=some (s.size/2),mv:=0}else s
def N4.put(s:N4)(k:Int)(v:V):N4:=N4.three {s.one with kv:=bp s.kv k v}
def N4.drop(s:N4)(k:Int):N4:=N4.three {s.one with kv:=bB s.kv k}
noncomputable def N4.rows(s:N4):List Int:=match s.nxt with
 |none=> [s.size]
 |some m=> [s.size,m]
noncomputable def N4.moved(s:N4):Int:=match s.nxt with
 |none=>0
 |some _=>s.mv
set_option genInjectivity false in
structure PK where
 tb:Addr
 r0:Addr
 r1:Addr
 A0:List Addr
 A1:List Addr
 C0:List (List<|Int×V)
 C1:List (List<|Int×V)
 n:Int
noncomputable def Oi(tb:Rl)(sh n:Int):List (Str×V):=[("table",.ref tb),("shifted",.int sh),("kept",.int n)]
def fQ{k:Str}{r:RX}:((k,v)::r).lookup k=some v:=by
 have hb:(k==k)=true:=VP.mpr M;simp only[List.lookup,hb]
def bT{k m:Str}{r:RX}(h:m≠k):((k,v)::r).lookup m=r.lookup m:=by
 have hb:(m==k)=false:=VQ.mpr h;simp only[List.lookup,hb]
section
variable{tb':Rl}{sh sh' n':Int}{m:Str}
def gS:(Oi tb sh n).lookup ("table":Str)=some (.ref tb):=fQ
def Ac:(Oi tb sh n).lookup ("shifted":Str)=some (.int sh):=by unfold Oi;rw[bT ∅,fQ]
def pB:(Oi tb sh n).lookup ("kept":Str)=some (.int n):=by unfold Oi;rw[bT ∅,bT ∅,fQ]
def NoM(m:Str):Prop:=m≠("table":Str)/\m≠("shifted":Str)/\m≠("kept":Str)
instance:Decidable (NoM m):=by unfold NoM;infer_instance
def Kz(h:NoM m):(Oi tb sh n).lookup m=none:=by unfold Oi;rw[bT h.1,bT h.2.1,bT h.2.2];rfl
def Ng:b6 ("table":Str) (.ref tb') (Oi tb sh n)=Oi tb' sh n:=by unfold Oi;rw[b6,VB M]
def KF:b6 ("shifted":Str) (.int sh') (Oi tb sh n)=Oi tb sh' n:=by unfold Oi;rw[b6,VA ∅,b6,VB M]
def KG:b6 ("kept":Str) (.int n') (Oi tb sh n)=Oi tb sh n':=by unfold Oi;rw[b6,VA ∅,b6,VA ∅,b6,VB M]
def pA:(Oi tb sh n).length<1000:=by show 3<1000;decide
end
structure N9(H:Hp)(r:Rl)(A:Rz)(C:List (List<|Int×V))(sz:Int):Prop where
 lst:H r=some (.lst<|A.map V.ref)
 la:(A.length:Int)=sz
 lc:(C.length:Int)=sz
 cell:∀(j:Nat)(b:Rl)(kv:Rs),A[j]?=some b->C[j]?=some kv->H b=some (.dK<|aL kv)
 ndk:∀(j:Nat)(kv:Rs),C[j]?=some kv->(kv.map (·.1)).Nodup
 inj:∀(i j:Nat)(b:Rl),A[i]?=some b->A[j]?=some b->i=j
 home:∀(j:Nat)(kv:Rs),C[j]?=some kv->∀p∈kv,p.1%65536%sz=(j:Int)
def N9.has{C:List (List<|Int×V)}{sz:Int}(h:N9 H r A C sz)(hb:b∈A):∃(j:Nat)(kv:Rs),A[j]?=some b/\C[j]?=some kv/\H b=some (.dK<|aL kv):=by
 let{j,I,e}:=QG hb;have hc:j<C.length:=by have:=h.la;have:=h.lc;lia
 have z:A[j]?=some b:=by rw[Q3 I,e]
 have e2:C[j]?=some C[j]:=Q3 hc;exact{j,C[j],z,e2,h.cell j b _ z e2}
def N9.frame{C:List (List<|Int×V)}{sz:Int}(h:N9 H r A C sz)(f:∀b,b=r\/b∈A->H' b=H b):N9 H' r A C sz:=
 {by rw[f r (.inl M)];exact h.lst,h.la,h.lc,λj b kv z e2=>by rw[f b (.inr<|Q1 z)];exact h.cell j b kv z e2,h.ndk,h.inj,h.home}
def N9.notr{C:List (List<|Int×V)}{sz:Int}(h:N9 H r A C sz)(hb:b∈A){x:Rl}(e:H x=some o)(I:∀kvs,o≠ .dK kvs):b≠x:=λz=>by
 let{j,kv,_,_,q}:=h.has hb;rw[z,e]at q;cases q;exact I _ M
def N9.set{C:List (List<|Int×V)}{sz:Int}(h:N9 H r A C sz)(ea:A[j]?=some c)(nd:(kv'.map (·.1)).Nodup)(O:∀p∈kv',p.1%65536%sz=(j:Int)):
  N9 (upd H c<|.dK<|aL kv') r A (C.set j kv') sz:=by
 have hc:r≠c:=(h.notr (Q1 ea) h.lst<|λ_ z=>by cases z).symm;refine{by rw[ag hc];exact h.lst,h.la,by rw[QN];exact h.lc,λi b kv I e2=>?_,λi kv e=>?_,h.inj,λi kv e=>?_}
 .rw[Qw]at e2;by_cases z:j=i
  .subst z;rw[ea]at I;cases I;rw[VB M]at e2;split at e2
   .cases e2;exact A9
   .cases e2
  .rw[VA z]at e2;rw[ag λy=>z (h.inj j i c ea<|by rw[<-y];exact I)];exact h.cell i b kv I e2
 .rw[Qw]at e;by_cases z:j=i
  .rw[VB z]at e;split at e
   .cases e;exact nd
   .cases e
  .rw[VA z]at e;exact h.ndk i kv e
 .rw[Qw]at e;by_cases z:j=i
  .subst z;rw[VB M]at e;split at e
   .cases e;exact O
   .cases e
  .rw[VA z]at e;exact h.home i kv e
def Oh(a:Rl)(st:N4)(d:PK):Addr->Prop:=λb=>b=a\/b=d.tb\/b=d.r0\/b∈d.A0\/(st.nxt.isSome=true/\b=d.r1)\/b∈d.A1
def IsCell(d:PK)(st:N4)(k:Int)(c:Rl)(kv:Rs):Prop:=
 (st.moved<=k%65536%st.size/\d.A0[(k%65536%st.size).toNat]?=some c/\d.C0[(k%65536%st.size).toNat]?=some kv)\/
 (∃m,st.nxt=some m/\k%65536%st.size<st.moved/\d.A1[(k%65536%m).toNat]?=some c/\d.C1[(k%65536%m).toNat]?=some kv)
structure O0(st:N4):Prop where
 pw:st.size∈([4,8,16,32,64,128,256]:Rn)
 nx:∀m,st.nxt=some m->m∈([4,8,16,32,64,128,256]:Rn)/\0<=st.mv/\st.mv<st.size/\(m=2*st.size\/2*m=st.size)
def kX{x:Int}(h:x∈([4,8,16,32,64,128,256]:List Int)):x=4\/x=8\/x=16\/x=32\/x=64\/x=128\/x=256:=by simpa using h
def bM{x:Int}(h:x∈([4,8,16,32,64,128,256]:List Int)):4<=x/\x<=256:=by
 rcases kX h with h|h|h|h|h|h|h<;>lia
structure OG(t:NZ)(H:Hp)(a:Rl)(st:N4)(d:PK):Prop where
 obj:∃dx,H a=some (.ins t.aU dx<|Oi d.tb st.moved d.n)
 tbl:H d.tb=some (.lst<|match st.nxt with|none=> [.ref d.r0]|some _=> [.ref d.r0,.ref d.r1])
 row0:N9 H d.r0 d.A0 d.C0 st.size
 row1:match st.nxt with|none=>d.A1=[]/\d.C1=[]|some m=>N9 H d.r1 d.A1 d.C1 m
 dis:∀b,b∈d.A0->b∉d.A1
 tr:d.tb≠d.r0
 tr1:st.nxt.isSome=true->d.tb≠d.r1/\d.r0≠d.r1
 old:∀(j:Nat)(kv:Rs),d.C0[j]?=some kv->(j:Int)<st.moved->kv=[]
 new:∀(j:Nat)(kv:Rs),d.C1[j]?=some kv->∀p∈kv,p.1%65536%st.size<st.moved
 val:∀(k:Int)(c:Rl)(kv:Rs),IsCell d st k c kv->aI kv k=aI st.kv k
section
variable{d:PK}
def OG.frame(h:OG t H a st d)(f:∀b,Oh a st d b->H' b=H b):OG t H' a st d:=by
 let{dx,z}:=h.obj;refine{{dx,by rwa[f a (.inl M)]},by rw[f d.tb (.inr<|.inl M)];exact h.tbl,h.row0.frame λb hb=>f b ?_,?_,h.dis,h.tr,h.tr1,h.old,h.new,h.val}
 .rcases hb with hb|hb
  .exact .inr<|.inr (.inl hb)
  .exact .inr<|.inr (.inr<|.inl hb)
 .have r1:=h.row1;have I:=f;unfold Oh at I;cases e:st.nxt with
  |none=>rw[e]at r1;exact r1
  |some m=>
   rw[e]at r1;refine N9.frame (H:=H) r1 λb hb=>f b ?_;unfold Oh;rw[e];rcases hb with hb|hb
   .exact .inr<|.inr (.inr<|.inr<|.inl ⟨M,hb⟩)
   .exact .inr<|.inr (.inr<|.inr<|.inr hb)
def OG.dom(h:OG t H a st d)(hb:Oh a st d b):∃o,H b=some o:=by
 let{dx,z}:=h.obj;rcases hb with rfl|rfl|rfl|hb|⟨hs,rfl⟩|hb
 .exact{_,z}
 .exact{_,h.tbl}
 .exact{_,h.row0.lst}
 .let{_,_,_,_,q}:=h.row0.has hb;exact{_,q}
 .have r1:=h.row1;cases e:st.nxt with
  |none=>rw[e]at hs;cases hs
  |some m=>rw[e]at r1;exact{_,r1.lst}
 .have r1:=h.row1;cases e:st.nxt with
  |none=>rw[e]at r1;rw[r1.1]at hb;cases hb
  |some m=>rw[e]at r1;let{_,_,_,_,q}:=r1.has hb;exact{_,q}
def OG.at(h:OG t H a st d){kv:Rs}(I:IsCell d st k c kv):H c=some (.dK<|aL kv)/\Oh a st d c/\(kv.map (·.1)).Nodup:=by
 rcases I with⟨_,z,e2⟩|⟨m,O,_,z,e2⟩
 .exact{h.row0.cell _ _ _ z e2,.inr<|.inr<|.inr<|.inl<|Q1 z,h.row0.ndk _ _ e2}
 .have r1:=h.row1;rw[O]at r1;exact{r1.cell _ _ _ z e2,.inr<|.inr<|.inr<|.inr<|.inr<|Q1 z,r1.ndk _ _ e2}
def qT(z:4<=m):0<=k%65536%m/\k%65536%m<m/\((k%65536%m).toNat:Int)=k%65536%m:=by
 have h1:=Qx (k%65536) (show m≠0 by lia);have h2:=QD (k%65536) (show 0<m by lia);exact{h1,h2,XX h1}
def de{l:List α}{z:Int}(I:0<=z)(h1:z<(l.length:Int)):∃x,l[z.toNat]?=some x:={l[z.toNat]'(),Q3 ()}
def OG.cell(h:OG t H a st d)(z:O0 st)(k:Int):∃c kv,IsCell d st k c kv:=by
 let{s4,_}:=bM z.pw;let{O,U,m2}:=qT (k:=k) s4;by_cases c:st.moved<=k%65536%st.size
 .let{x,I}:=de (l:=d.A0) O (by rwa[h.row0.la]);let{y,e2}:=de (l:=d.C0) O (by rwa[h.row0.lc]);exact{x,y,.inl ⟨c,I,e2⟩}
 .cases e:st.nxt with
  |none=>
   exfalso;have:st.moved=0:=by unfold N4.moved;rw[e]
   lia
  |some m=>
   let{pm,_}:=z.nx m e;let{s5,_}:=bM pm;let{Y,Z,n2}:=qT (k:=k) s5;have r1:=h.row1;rw[e]at r1;let{x,I}:=de (l:=d.A1) Y (by rwa[r1.la]);let{y,e2}:=de (l:=d.C1) Y (by rwa[r1.lc]);exact{x,y,.inr {m,e,(),I,e2}}
def IsCell.uniq{Y:Rl}{kv:Rs}(x:IsCell d st k c kv)(y:IsCell d st k Y kv'):c=Y/\kv=kv':=by
 rcases x with⟨Z,U,e2⟩|⟨m,em,Z,U,e2⟩<;>rcases y with⟨g0,z,I⟩|⟨m',O,g0,z,I⟩
 .rw[U]at z;rw[e2]at I;cases z;cases I;exact⟨M,M⟩
 .lia
 .lia
 .rw[em]at O;cases O;rw[U]at z;rw[e2]at I;cases z;cases I;exact⟨M,M⟩
def OG.setN(h:OG t H a st d):OG t (upd H a<|.ins t.aU dx<|Oi d.tb st.moved n) a st {d with n:=n}:=by
 let{U,I}:=h.obj;have O:d.tb≠a:=cw h.tbl I (by intro z;cases z);refine{⟨dx,A9⟩,by show upd H a _ d.tb=_;rw[ag O];exact h.tbl,h.row0.frame λb hb=>ag ?_,?_,h.dis,h.tr,h.tr1,h.old,h.new,h.val}
 .rcases hb with rfl|hb
  .exact cw h.row0.lst I<|by intro z;cases z
  .exact h.row0.notr hb I<|λ_ z=>by cases z
 .have r1:=h.row1;cases e:st.nxt with
  |none=>rw[e]at r1;exact r1
  |some m=>
   rw[e]at r1;refine N9.frame (H:=H) r1 λb hb=>ag ?_;rcases hb with rfl|hb
   .exact cw r1.lst I<|by intro z;cases z
   .exact r1.notr hb I<|λ_ z=>by cases z
def OG.setCell(h:OG t H a st d)(z:O0 st){kv:Rs}(ic:IsCell d st k c kv)(nd:(kv'.map (·.1)).Nodup)(hm:∀p∈kv',p∈kv\/p.1=k)
  (hk:aI kv' k=aI kvs k) (ho:∀j,j≠k->aI kv' j=aI kv j/\aI kvs j=aI st.kv j):
  ∃d',OG t (upd H c<|.dK<|aL kv') a {st with kv:=kvs} d'/\d'.n=d.n/\∀b,Oh a {st with kv:=kvs} d' b↔Oh a st d b:=by
 let{hc,hf,_}:=h.at ic;let{dx,a2}:=h.obj;let{s4,_}:=bM z.pw;let{m0,m1,m2}:=qT (k:=k) s4;have na:a≠c:=cw a2 hc (by intro z;cases z);have nt:d.tb≠c:=cw h.tbl hc (by intro z;cases z);have nr:d.r0≠c:=cw h.row0.lst hc (by intro z;cases z);have a1:∀(d':PK)(j:Int)(b:Rl)(x:Rs),IsCell d' {st with kv:=kvs} j b x->(∀y,IsCell d st j b y->(x=y/\b≠c)\/(x=kv'/\y=kv))->(∃y,IsCell d st j b y)->aI x j=aI kvs j:=λd' j b x hx f ⟨y,hy⟩=>by
  by_cases e:j=k
  .subst e;let{rfl,rfl}:=IsCell.uniq hy ic;rcases f y hy with⟨_,z⟩|⟨rfl,_⟩
   .exact VG M z
   .exact hk
  .rw[(ho j e).2];rcases f y hy with⟨rfl,_⟩|⟨rfl,rfl⟩
   .exact h.val j b x hy
   .rw[(ho j e).1];exact h.val j b y hy
 rcases ic with⟨h0,e1,e2⟩|⟨m,em,h0,e1,e2⟩
 .have Z:c∈d.A0:=Q1 e1;have a0:∀p∈kv',p.1%65536%st.size=((k%65536%st.size).toNat:Int):=λp hp=>by
   rcases hm p hp with q|q
   .exact h.row0.home _ _ e2 p q
   .rw[q,m2]
  refine⟨{d with C0:=d.C0.set (k%65536%st.size).toNat kv'},{{dx,by rwa[ag na]},by show upd H c _ d.tb=_;rw[ag nt];exact h.tbl,h.row0.set e1 nd a0,?_,h.dis,h.tr,h.tr1,λj x e lt=>?_,h.new,λj b x hx=>?_},M,λb=>Iff.rfl⟩
  .have r1:=h.row1;show match st.nxt with|none=>_|some m=>_
   cases e:st.nxt with
   |none=>rw[e]at r1;exact r1
   |some m=>
    rw[e]at r1;refine N9.frame (H:=H) r1 λb hb=>ag ?_;rcases hb with rfl|hb
    .exact cw r1.lst hc<|by intro z;cases z
    .exact λy=>h.dis c Z (y▸hb)
  .have e:(d.C0.set (k%65536%st.size).toNat kv')[j]?=some x:=e;have lt:(j:Int)<st.moved:=lt;rw[Qw]at e;by_cases q:(k%65536%st.size).toNat=j
   .exfalso;lia
   .rw[VA q]at e;exact h.old j x e lt
  .refine a1 _ j b x hx (λy hy=>?_) ?_
   .rcases hx with⟨Y,I,U⟩|⟨m',O,Y,I,U⟩
    .have U:(d.C0.set (k%65536%st.size).toNat kv')[(j%65536%st.size).toNat]?=some x:=U;have I:d.A0[(j%65536%st.size).toNat]?=some b:=I;have Y:st.moved<=j%65536%st.size:=Y;rcases hy with⟨_,y1,y2⟩|⟨_,_,y0,_,_⟩
     .rw[Qw]at U;by_cases q:(k%65536%st.size).toNat=(j%65536%st.size).toNat
      .rw[VB q]at U;split at U
       .cases U;rw[<-q,e2]at y2;cases y2;exact .inr ⟨M,M⟩
       .cases U
      .rw[VA q,y2]at U;cases U;exact .inl {M,λw=>q<|h.row0.inj _ _ c e1 (by rw[<-w];exact I)}
     .lia
    .have I:d.A1[(j%65536%m').toNat]?=some b:=I;have U:d.C1[(j%65536%m').toNat]?=some x:=U;have Y:j%65536%st.size<st.moved:=Y;have O:st.nxt=some m':=O;rcases hy with⟨y0,_,_⟩|⟨m2,e3,y0,y1,y2⟩
     .lia
     .rw[O]at e3;cases e3;rw[U]at y2;cases y2;exact .inl {M,λw=>h.dis c Z<|w▸Q1 I}
   .let{b',y,hy}:=h.cell z j;have:b'=b:=by
     rcases hx with⟨Y,I,U⟩|⟨m',O,Y,I,U⟩<;>rcases hy with⟨y0,y1,y2⟩|⟨m3,e3,y0,y1,y2⟩
     .have I:d.A0[(j%65536%st.size).toNat]?=some b:=I;rw[y1]at I;exact VL I
     .have Y:st.moved<=j%65536%st.size:=Y;lia
     .have Y:j%65536%st.size<st.moved:=Y;lia
     .have O:st.nxt=some m':=O;rw[O]at e3;cases e3;have I:d.A1[(j%65536%m').toNat]?=some b:=I;rw[y1]at I;exact VL I
    subst this;exact⟨y,hy⟩
 .have r1:=h.row1;rw[em]at r1;have Z:c∈d.A1:=Q1 e1;let{pm,_}:=z.nx m em;let{s5,_}:=bM pm;let{n0,n1,n2}:=qT (k:=k) s5;have a0:∀p∈kv',p.1%65536%m=((k%65536%m).toNat:Int):=λp hp=>by
   rcases hm p hp with q|q
   .exact r1.home _ _ e2 p q
   .rw[q,n2]
  refine⟨{d with C1:=d.C1.set (k%65536%m).toNat kv'},{{dx,by rwa[ag na]},by show upd H c _ d.tb=_;rw[ag nt];exact h.tbl,h.row0.frame λb hb=>ag ?_,?_,h.dis,h.tr,h.tr1,h.old,λj x e p hp=>?_,λj b x hx=>?_},M,λb=>Iff.rfl⟩
  .rcases hb with rfl|hb
   .exact nr
   .exact λy=>h.dis b hb (y▸Z)
  .show match st.nxt with|none=>_|some m=>_
   rw[em];exact r1.set e1 nd a0
  .have e:(d.C1.set (k%65536%m).toNat kv')[j]?=some x:=e;show p.1%65536%st.size<st.moved;rw[Qw]at e;by_cases q:(k%65536%m).toNat=j
   .rw[VB q]at e;split at e
    .cases e;rcases hm p hp with q|q
     .exact h.new _ _ e2 p q
     .rwa[q]
    .cases e
   .rw[VA q]at e;exact h.new j x e p hp
  .refine a1 _ j b x hx (λy hy=>?_) ?_
   .rcases hx with⟨Y,I,U⟩|⟨m',O,Y,I,U⟩
    .have I:d.A0[(j%65536%st.size).toNat]?=some b:=I;have U:d.C0[(j%65536%st.size).toNat]?=some x:=U;have Y:st.moved<=j%65536%st.size:=Y;rcases hy with⟨_,y1,y2⟩|⟨_,_,y0,_,_⟩
     .rw[U]at y2;cases y2;exact .inl {M,λw=>h.dis b (Q1 I)<|w▸Z}
     .lia
    .have O:st.nxt=some m':=O;rw[em]at O;cases O;have U:(d.C1.set (k%65536%m).toNat kv')[(j%65536%m).toNat]?=some x:=U;have I:d.A1[(j%65536%m).toNat]?=some b:=I;have Y:j%65536%st.size<st.moved:=Y;rcases hy with⟨y0,_,_⟩|⟨m2,e3,y0,y1,y2⟩
     .lia
     .rw[em]at e3;cases e3;rw[Qw]at U;by_cases q:(k%65536%m).toNat=(j%65536%m).toNat
      .rw[VB q]at U;split at U
       .cases U;rw[<-q,e2]at y2;cases y2;exact .inr ⟨M,M⟩
       .cases U
      .rw[VA q,y2]at U;cases U;exact .inl {M,λw=>q<|r1.inj _ _ c e1 (by rw[<-w];exact I)}
   .let{b',y,hy}:=h.cell z j;have:b'=b:=by
     rcases hx with⟨Y,I,U⟩|⟨m',O,Y,I,U⟩<;>rcases hy with⟨y0,y1,y2⟩|⟨m3,e3,y0,y1,y2⟩
     .have I:d.A0[(j%65536%st.size).toNat]?=some b:=I;rw[y1]at I;exact VL I
     .have Y:st.moved<=j%65536%st.size:=Y;lia
     .have Y:j%65536%st.size<st.moved:=Y;lia
     .have O:st.nxt=some m':=O;rw[O]at e3;cases e3;have I:d.A1[(j%65536%m').toNat]?=some b:=I;rw[y1]at I;exact VL I
    subst this;exact⟨y,hy⟩
end
def uV{kv:Rs}{p:Int×V}(h:p∈bp kv k v):p∈kv\/p.1=k:=by
 unfold bp at h;split at h
 .let{q,hq,e}:=Qf.mp h;by_cases z:q.1=k
  .rw[VB z]at e;rw[<-e];exact .inr z
  .rw[VA z]at e;rw[<-e];exact .inl hq
 .rcases Q5.mp h with h|h
  .exact .inl h
  .rw[Q9.mp h];exact .inr M
def Jd{kv:Rs}{p:Int×V}(h:p∈kv):(aI kv p.1).isSome=true:=mem_keys.mp (Qf.mpr ⟨p,h,M⟩)
def fv(m:Int)(C:List (List<|Int×V))(p:Int×V):List (List<|Int×V):=C.set (p.1%65536%m).toNat (bp (C.getD (p.1%65536%m).toNat []) p.1 p.2)
def Gd{C:List (List<|Int×V)}{p:Int×V}:(fv m C p).length=C.length:=QN
theorem De{m:Int}:∀{kv:Rs}{C:List (List<|Int×V)},(kv.foldl (fv m) C).length=C.length
 | [],_=>rfl
 |p::r,C=>by rw[List.foldl_cons,De,Gd]
def AA{C:List (List<|Int×V)}{p:Int×V}{y:Rs}(e:C[j]?=some y):(fv m C p)[j]?=some (if(p.1%65536%m).toNat=j then bp y p.1 p.2 else y):=by
 unfold fv;rw[Qw];by_cases z:(p.1%65536%m).toNat=j
 .have I:j<C.length:=(Q2.mp e).1;rw[VB z,VB z,VB (by rw[z];exact I),Qn,z,e];rfl
 .rw[VA z,VA z,e]
set_option tactic.hygienic true in
theorem zb{m:Int}:∀{kv:Rs}{C:List (List<|Int×V)}{j:Nat}{y:Rs},(kv.map (·.1)).Nodup->C[j]?=some y->∃x,(kv.foldl (fv m) C)[j]?=some x/\
  (∀p∈x,p∈y\/p.1∈kv.map (·.1))/\∀k,aI x k=if(k%65536%m).toNat=j then(aI kv k).or (aI y k)else aI y k
 | [],C,j,y,_,e=>{y,e,λp I=> .inl I,λk=>by rw[kK];simp}
 |p::r,C,j,y,nd,e=>by
  let{O,U}:=QQ.mp (show(p.1::r.map (·.1)).Nodup from nd);let{x,h1,h2,Y}:=zb (m:=m) U (AA (m:=m) (p:=p) e);refine{x,h1,λq hq=>?_,λk=>?_}
  .rcases h2 q hq with z|z
   .split at z
    .rcases uV z with z|z
     .exact .inl z
     .exact .inr<|Qf.mpr ⟨p,Q6,z.symm⟩
    .exact .inl z
   .exact .inr<|Qa _ z
  .rw[Y k];by_cases z:(k%65536%m).toNat=j
   .rw[VB z,VB z];by_cases w:p.1=k
    .subst w;have:aI r p.1=none:=by
      cases q:aI r p.1 with
      |none=>rfl
      |some v=>exact VG (sH q) O
     rw[this,bi M,VB z,du,VB M];rfl
    .rw[bc w];congr 1;split
     .rw[du,VA (Ne.symm w)]
     .rfl
   .rw[VA z,VA z];split
    .rename_i w
     rw[du,VA (λy=>z<|by rwa[y])]
    .rfl
def N9.mov{C:List (List<|Int×V)}{sz:Int}{y:Rs}(h:N9 H r A C sz)(s4:4<=sz)(ea:A[(k%65536%sz).toNat]?=some c)(I:C[(k%65536%sz).toNat]?=some y):
  N9 (upd H c<|.dK<|aL<|bp y k v) r A (fv sz C (k,v)) sz:=by
 have e:fv sz C (k,v)=C.set (k%65536%sz).toNat (bp y k v):=by
  unfold fv;rw[Qn];show C.set (k%65536%sz).toNat (bp (C[(k%65536%sz).toNat]?.getD []) k v)=_;rw[I];rfl
 rw[e];let{Y,Z,O}:=qT (k:=k) s4;refine h.set ea (BY<|h.ndk _ _ I) λp U=>?_;rcases uV U with z|z
 .exact h.home _ _ I p z
 .rw[z,O]
section
variable{d:PK}
def N4.moved_some(e:st.nxt=some m):st.moved=st.mv:=by unfold N4.moved;rw[e]
def N4.moved_none(e:st.nxt=none):st.moved=0:=by unfold N4.moved;rw[e]
def OG.movVal(h:OG t H a st d)(z:O0 st)(I:st.nxt=some m){kv:Rs}(O:d.C0[st.mv.toNat]?=some kv)(hk:k%65536%st.size<=st.mv){x:Rs}
  (ex:(kv.foldl (fv m) d.C1)[(k%65536%m).toNat]?=some x):aI x k=aI st.kv k:=by
 let{pm,v0,v1,_}:=z.nx m I;let{s4,_}:=bM z.pw;let{s5,_}:=bM pm;have r1:=h.row1;rw[I]at r1;let{n0,n1,n2}:=qT (k:=k) s5;let{m0,m1,m2}:=qT (k:=k) s4;let{y,U}:=de (l:=d.C1) n0 (by rwa[r1.lc]);let{c1,Y}:=de (l:=d.A1) n0 (by rwa[r1.la]);let{x',e',_,hv}:=zb (m:=m) (h.row0.ndk _ _ O) U;rw[ex]at e';cases e';rw[hv k,VB M];have hm:=N4.moved_some I;by_cases c:k%65536%st.size=st.mv
 .let{b0,Z}:=de (l:=d.A0) m0 (by rwa[h.row0.la]);have ic:IsCell d st k b0 kv:= .inl {(),Z,by rwa[c]};have yn:aI y k=none:=by
   cases q:aI y k with
   |none=>rfl
   |some v=>
    let{p,hp,e}:=Qf.mp (sH q);have:=h.new _ _ U p hp;rw[e]at this;lia
  rw[h.val k b0 kv ic,yn];simp
 .have ic:IsCell d st k c1 y:= .inr {m,I,(),Y,U};have kn:aI kv k=none:=by
   cases q:aI kv k with
   |none=>rfl
   |some v=>
    let{p,hp,e}:=Qf.mp (sH q);have:=h.row0.home _ _ O p hp;rw[e]at this;lia
  rw[kn,h.val k c1 y ic];rfl
def dB{l:List α}{x y:α}(e:(l.set i x)[j]?=some y):(i=j/\y=x)\/(i≠j/\l[j]?=some y):=by
 rw[Qw]at e;by_cases z:i=j
 .rw[VB z]at e;split at e
  .cases e;exact .inl ⟨z,M⟩
  .cases e
 .rw[VA z]at e;exact .inr ⟨z,e⟩
def OG.one(h:OG t H a st d)(z:O0 st)(Z:st.nxt=some m){kv:Rs}(ek:d.C0[st.mv.toNat]?=some kv){b':Rl}(nl:st.mv+1≠st.size)
  (ha:H' a=some (.ins t.aU dx<|Oi d.tb (st.mv+1) d.n)) (ht:H' d.tb=H d.tb) (h0:H' d.r0=some (.lst<|(d.A0.set st.mv.toNat b').map V.ref)) (hb:H' b'=some (.dK [])) (hF:¬Oh a st d b')
  (hA:∀(j:Nat) b,d.A0[j]?=some b->j≠st.mv.toNat->H' b=H b) (hr:N9 H' d.r1 d.A1 (kv.foldl (fv m) d.C1) m):
  OG t H' a st.one {d with A0:=d.A0.set st.mv.toNat b',C0:=d.C0.set st.mv.toNat [],C1:=kv.foldl (fv m) d.C1}:=by
 let{pm,v0,v1,_}:=z.nx m Z;have a1:st.one={st with mv:=st.mv+1}:=by unfold N4.one;rw[Z];exact VA nl
 have I:({st with mv:=st.mv+1}:N4).moved=st.mv+1:=N4.moved_some (st:={st with mv:=st.mv+1}) Z;have hm:=N4.moved_some Z;have a2:b'∉d.A0:=λq=>hF (.inr<|.inr<|.inr<|.inl q);have a3:b'∉d.A1:=λq=>hF (.inr<|.inr<|.inr<|.inr<|.inr q);rw[a1];have r1:=h.row1;rw[Z]at r1;refine{{dx,by rwa[I]},by rw[ht];exact h.tbl,{h0,by rw[QN];exact h.row0.la,by rw[QN];exact h.row0.lc,λj b x e1 e2=>?_,λj x e=>?_,λi j b e1 e2=>?_,λj x e p hp=>?_},?_,λb a4 hb1=>?_,h.tr,h.tr1,λj x e lt=>?_,λj x e p hp=>?_,λk c x ic=>?_}
 .rcases dB e1 with⟨q,rfl⟩|⟨q,e1⟩
  .rcases dB e2 with⟨_,rfl⟩|⟨q2,_⟩
   .exact hb
   .exact VG q q2
  .rcases dB e2 with⟨q2,_⟩|⟨_,e2⟩
   .exact VG q2 q
   .rw[hA j b e1 (Ne.symm q)];exact h.row0.cell j b x e1 e2
 .rcases dB e with⟨_,rfl⟩|⟨_,e⟩
  .exact Zq
  .exact h.row0.ndk j x e
 .have e1:(d.A0.set st.mv.toNat b')[i]?=some b:=e1;have e2:(d.A0.set st.mv.toNat b')[j]?=some b:=e2;rcases dB e1 with⟨q,y1⟩|⟨q,U⟩<;>rcases dB e2 with⟨q2,y2⟩|⟨q2,O⟩
  .exact q.symm.trans q2
  .rw[y1]at O;exact VG (Q1 O) a2
  .rw[y2]at U;exact VG (Q1 U) a2
  .exact h.row0.inj i j b U O
 .rcases dB e with⟨_,rfl⟩|⟨_,e⟩
  .cases hp
  .exact h.row0.home j x e p hp
 .show match st.nxt with|none=>_|some m=>_
  rwa[Z]
 .let{j,hj,e}:=QG (show b∈d.A0.set st.mv.toNat b' from a4);rcases dB (Q2.mpr ⟨hj,e⟩)with⟨_,rfl⟩|⟨_,e⟩
  .exact a3 hb1
  .exact h.dis b (Q1 e) hb1
 .rw[I]at lt;rcases dB e with⟨_,rfl⟩|⟨q,e⟩
  .rfl
  .exact h.old j x e ()
 .rw[I];show p.1%65536%st.size<st.mv+1;obtain⟨y,ey⟩:∃y,d.C1[j]?=some y:=by
   have hj:j<(kv.foldl (fv m) d.C1).length:=(Q2.mp e).1;rw[De]at hj;exact{_,Q3 hj}
  let{x',e',a0,_}:=zb (m:=m) (h.row0.ndk _ _ ek) ey;have e:(kv.foldl (fv m) d.C1)[j]?=some x:=e;rw[e]at e';cases e';rcases a0 p hp with q|q
  .have:=h.new j y ey p q;lia
  .let{p',a0,e3}:=Qf.mp q;have:=h.row0.home _ _ ek p' a0;rw[e3]at this;lia
 .show aI x k=aI st.kv k;rcases ic with⟨g0,U,O⟩|⟨m',Y,g0,U,O⟩
  .rw[I]at g0;have g0:st.mv+1<=k%65536%st.size:=g0;have U:(d.A0.set st.mv.toNat b')[(k%65536%st.size).toNat]?=some c:=U;have O:(d.C0.set st.mv.toNat [])[(k%65536%st.size).toNat]?=some x:=O;rcases dB U with⟨q,_⟩|⟨_,U⟩
   .lia
   .rcases dB O with⟨q,_⟩|⟨_,O⟩
    .lia
    .exact h.val k c x<|.inl {(),U,O}
  .rw[I]at g0;have Y:st.nxt=some m':=Y;rw[Z]at Y;cases Y;have g0:k%65536%st.size<st.mv+1:=g0;exact h.movVal z Z ek () O
def OG.last(h:OG t H a st d)(z:O0 st)(Y:st.nxt=some m){kv:Rs}(Z:d.C0[st.mv.toNat]?=some kv){tb':Rl}(l:st.mv+1=st.size)
  (ha:H' a=some (.ins t.aU dx<|Oi tb' 0 d.n)) (ht:H' tb'=some (.lst [.ref d.r1])) (hn:tb'≠d.r1) (hr:N9 H' d.r1 d.A1 (kv.foldl (fv m) d.C1) m):
  OG t H' a st.one {tb',d.r1,d.r1,d.A1,[],kv.foldl (fv m) d.C1,[],d.n}:=by
 have I:st.one={st with size:=m,nxt:=none,mv:=0}:=by unfold N4.one;rw[Y];exact VB l
 let{s4,_}:=bM z.pw;rw[I];refine{⟨dx,ha⟩,ht,hr,⟨M,M⟩,(λb _ q=>by cases q),hn,(λq=>by cases q),λj x e lt=>?_,(λj x e=>by simp at e),λk c x ic=>?_}
 .have lt:(j:Int)<0:=lt;lia
 .rcases ic with⟨g0,f1,O⟩|⟨m',U,_⟩
  .have O:(kv.foldl (fv m) d.C1)[(k%65536%m).toNat]?=some x:=O;let{m0,m1,m2}:=qT (k:=k) s4;exact h.movVal z Y Z () O
  .cases U
def OG.begin(h:OG t H a st d)(en:st.nxt=none)(ha:H' a=H a)(ht:H' d.tb=some (.lst [.ref d.r0,.ref r]))(h0:∀b,b=d.r0\/b∈d.A0->H' b=H b)
  (hr:N9 H' r A (List.replicate m.toNat []) m) (U:¬Oh a st d r) (nA:∀b∈A,¬Oh a st d b):OG t H' a {st with nxt:=some m,mv:=0} {d with r1:=r,A1:=A,C1:=List.replicate m.toNat []}:=by
 let{dx,Y}:=h.obj;have Z:=N4.moved_none en;refine{{dx,by rw[ha];rw[Z]at Y;exact Y},ht,h.row0.frame h0,hr,λb q q2=>nA b q2<|.inr<|.inr<|.inr<|.inl q,h.tr,λ_=>{λq=>U<|.inr<|.inl q.symm,λq=>U<|.inr (.inr<|.inl q.symm)},λj x e lt=>?_,λj x e p hp=>?_,λk c x ic=>?_}
 .have lt:(j:Int)<0:=lt;lia
 .have:=Zx (Q1 e);subst this;cases hp
 .rcases ic with⟨I,f1,O⟩|⟨m',a0,I,f1,O⟩
  .refine h.val k c x<|.inl {?_,f1,O};rw[Z];exact I
  .have I:k%65536%st.size<0:=I;have O:(List.replicate m.toNat ([]:Rs))[(k%65536%m').toNat]?=some x:=O;have:0<=k%65536%st.size:=by
    have z:(0:Int)<=st.size:=by rw[<-h.row0.la];lia
    rcases Int.lt_or_eq_of_le z with q|q
    .exact Qx _ ()
    .rw[<-q,Int.emod_zero];exact Qx _ (_)
   lia
def OG.fresh(ha:H a=some (.ins t.aU dx<|Oi tb 0 0))(O:H tb=some (.lst [.ref r]))(U:N9 H r A (List.replicate 4 []) 4)(n:tb≠r):OG t H a N4.new {tb,r,r,A,[],List.replicate 4 [],[],0}:=by
 refine{⟨dx,ha⟩,O,U,⟨M,M⟩,(λb _ q=>by cases q),n,(λq=>by cases q),λj x e lt=>?_,(λj x e=>by simp at e),λk c x Y=>?_}
 .have lt:(j:Int)<0:=lt;lia
 .rcases Y with⟨Z,f1,z⟩|⟨m',I,_⟩
  .have z:(List.replicate 4 ([]:Rs))[(k%65536%4).toNat]?=some x:=z;have:=Zx (Q1 z);subst this;rfl
  .cases I
def OG.short(h:OG t H a st d)(z:O0 st){kv:Rs}(ic:IsCell d st k c kv):kv.length<=st.kv.length:=by
 let{_,_,nd}:=h.at ic;have sub:∀x∈kv.map (·.1),x∈st.kv.map (·.1):=λx hx=>by
  let{p,O,e}:=Qf.mp hx;subst e;refine mem_keys.mpr ?_;have hs:=Jd O;have:∃U,IsCell d st p.1 U kv:=by
   rcases ic with⟨g0,Y,I⟩|⟨m,Z,g0,Y,I⟩
   .let{s4,_}:=bM z.pw;let{m0,m1,m2}:=qT (k:=k) s4;have e:=h.row0.home _ _ I p O;rw[m2]at e;exact{c,.inl {by rwa[e],by rwa[e],by rw[e];exact I}}
   .let{pm,_}:=z.nx m Z;let{s5,_}:=bM pm;let{n0,n1,n2}:=qT (k:=k) s5;have r1:=h.row1;rw[Z]at r1;have e:=r1.home _ _ I p O;rw[n2]at e;exact{c,.inr {m,Z,h.new _ _ I p O,by rwa[e],by rw[e];exact I}}
  let{U,a0}:=this;rwa[<-h.val p.1 U kv a0]
 have:=eY nd sub;rw[Q0,Q0]at this;exact this
end
theorem Az{m:Int}:∀{kv:Rs}{C:List (List<|Int×V)}{j:Nat}{x y:Rs},C[j]?=some y->(kv.foldl (fv m) C)[j]?=some x->x.length<=y.length+kv.length
 | [],C,j,x,y,e,f=>by
  have f:C[j]?=some x:=f;rw[e]at f;cases f;exact Q4 _
 |p::r,C,j,x,y,e,f=>by
  have h:=Az (m:=m) (AA (m:=m) (p:=p) e) f;have l:=dN y p.1 p.2;rw[Qi];split at h<;>lia
section
variable{d:PK}
def OG.short0(h:OG t H a st d)(z:O0 st){kv:Rs}(e:d.C0[j]?=some kv):kv.length<=st.kv.length:=by
 cases kv with
 |nil=>exact Qc _
 |cons p r=>
  have O:=h.row0.home j _ e p Q6;have U:¬(j:Int)<st.moved:=λq=>by have:=h.old j _ e q;cases this
  have ej:(p.1%65536%st.size).toNat=j:=();have I:j<d.A0.length:=by
   have:=h.row0.la;have:=h.row0.lc;have:=(Q2.mp e).1;lia
  exact h.short z (k:=p.1) (c:=d.A0[j])<|.inl {(),by rw[ej];exact Q3 I,by rwa[ej]}
def OG.short1(h:OG t H a st d)(z:O0 st)(I:st.nxt=some m){kv:Rs}(e:d.C1[j]?=some kv):kv.length<=st.kv.length:=by
 have r1:=h.row1;rw[I]at r1;cases kv with
 |nil=>exact Qc _
 |cons p r=>
  have Y:=r1.home j _ e p Q6;have O:=h.new j _ e p Q6;have ej:(p.1%65536%m).toNat=j:=();have U:j<d.A1.length:=by
   have:=r1.la;have:=r1.lc;have:=(Q2.mp e).1;lia
  exact h.short z (k:=p.1) (c:=d.A1[j])<|.inr {m,I,O,by rw[ej];exact Q3 U,by rwa[ej]}
end
def O0.new:O0 N4.new:={(_),λm e=>by cases e}
def O0.kv(z:O0 st):O0 {st with kv:=kvs}:=⟨z.pw,z.nx⟩
set_option tactic.hygienic true in
def O0.one(z:O0 st):O0 st.one:=by
 unfold N4.one;cases e:st.nxt with
 |none=>exact z
 |some m=>
  let{I,U,Y,O}:=z.nx m e;show O0 (if _ then _ else _);split
  .exact{I,λm' q=>by cases q}
  .rename_i c
   refine{z.pw,λm' q=>?_};have q:some m=some m':=q;cases q;exact{I,by show 0<=st.mv+1;lia,by show st.mv+1<st.size;lia,O}
def Nf{x:Int}(h:x∈([4,8,16,32,64,128,256]:List Int))(c:x<256):2*x∈([4,8,16,32,64,128,256]:Rn):=by
 rcases kX h with rfl|rfl|rfl|rfl|rfl|rfl|rfl<;>first|decide|exact VG c (_)
def KC{x:Int}(h:x∈([4,8,16,32,64,128,256]:List Int))(c:4<x):x/2∈([4,8,16,32,64,128,256]:Rn)/\2*(x/2)=x:=by
 rcases kX h with rfl|rfl|rfl|rfl|rfl|rfl|rfl<;>first|decide|exact VG c (_)
def KB{x:Int}(h:x∈([4,8,16,32,64,128,256]:List Int)):0<x:=by
 rcases kX h with rfl|rfl|rfl|rfl|rfl|rfl|rfl<;>decide
set_option tactic.hygienic true in
def O0.three(z:O0 st):O0 st.three:=by
 unfold N4.three;cases e:st.nxt with
 |some m=>exact z
 |none=>
  show O0 (if _ then _ else _);split
  .rename_i c
   refine{z.pw,λm' q=>?_};cases q;exact{Nf z.pw c.2,ZT _,KB z.pw,.inl M}
  .split
   .rename_i c
    refine{z.pw,λm' q=>?_};cases q;exact{(KC z.pw c.2).1,ZT _,KB z.pw,.inr (KC z.pw c.2).2}
   .exact z
def OM(_K:Wi)(t:NZ)(H:Hp)(a:Rl)(F:Ro)(st:N4):Prop:=
 ∃d,OG t H a st d/\(∀b,F b↔Oh a st d b)/\d.n=(st.kv.length:Int)/\(st.kv.map (·.1)).Nodup/\O0 st
def OM.ins(h:OM K t H a F st):∃dx fs,H a=some (.ins t.aU dx fs)/\∀m,NoM m->fs.lookup m=none:=by
 let{d,hb,_}:=h;let{dx,z}:=hb.obj;exact{dx,_,z,λm I=>Kz I}
def OM.dom(h:OM K t H a F st)(hb:F b):∃o,H b=some o:=by
 let{d,h1,h2,_}:=h;exact h1.dom<|(h2 b).mp hb
def OM.frame(h:OM K t H a F st)(f:∀b,F b->H' b=H b):OM K t H' a F st:=by
 let{d,h1,h2,z}:=h;exact{d,h1.frame λb hb=>f b<|(h2 b).mpr hb,h2,z}
def OM.same(h:OM K t H a F st)(s:Ba H H'):OM K t H' a F st:=h.frame λb hb=>by
 let{o,e}:=h.dom hb;rw[e];exact s b o e
def OM.out(h:OM K t H a F st)(e:H p=none):¬F p:=λz=>by
 let{o,q}:=h.dom z;rw[q]at e;cases e
def OM.upd(h:OM K t H a F st)(e:¬F p):OM K t (L2.upd H p o) a F st:=h.frame λb hb=>ag λz=>e (z▸hb)
def OM.new(h:OM K t H a F st)(e:H p=none):OM K t (L2.upd H p o) a F st:=h.upd (h.out e)
def tF(K:Wi)(t:NZ):Sp:=λvs H Q _=>∃(a dx:Rl),vs=[.ref a]/\H a=some (.ins t.aU dx [])/\H dx=some (.own a)/\∀H' F,OM K t H' a F N4.new->Fr (λb=>b=a\/b=dx) F H H'->Q .non H'
def vX(K:Wi)(t:NZ):Sp:=λvs H Q _=>∃(a:Rl)(k i:Int)(F:Ro)(st:N4),vs=[.ref a,.int k,.int i]/\OM K t H a F st/\0<=k/\st.kv.length<4096/\
 ∀H' F',OM K t H' a F' (st.put k<|.int i)->Fr F F' H H'->Q .non H'
def tG(K:Wi)(t:NZ):Sp:=λvs H Q E=>∃(a:Rl)(k:Int)(F:Ro)(st:N4),vs=[.ref a,.int k]/\OM K t H a F st/\0<=k/\
 ((aI st.kv k).isSome=true->st.kv.length<4096/\∀H' F',OM K t H' a F' (st.drop k)->Fr F F' H H'->Q .non H')/\(aI st.kv k=none->False)
def vZ(K:Wi)(t:NZ):Sp:=λvs H Q E=>∃(a:Rl)(k:Int)(F:Ro)(st:N4),vs=[.ref a,.int k]/\OM K t H a F st/\0<=k/\
 (∀v,aI st.kv k=some v->∀H' F',OM K t H' a F' st->Fr F F' H H'->Q v H')/\(aI st.kv k=none->False)
def vY(K:Wi)(t:NZ):Sp:=λvs H Q _=>∃(a:Rl)(k:Int)(F:Ro)(st:N4),vs=[.ref a,.int k]/\OM K t H a F st/\0<=k/\
 ∀H' F',OM K t H' a F' st->Fr F F' H H'->Q (.bl (aI st.kv k).isSome) H'
def tE(K:Wi)(t:NZ):Sp:=λvs H Q _=>∃(a:Rl)(F:Ro)(st:N4),vs=[.ref a]/\OM K t H a F st/\
 ∀H' F' l,OM K t H' a F' st->Fr F F' H H'->H l=none->¬F' l->H' l=some (.lst<|st.rows.map V.int)->Q (.ref l) H'
def cq(l:Rn):Prop:=l.Pairwise (· < ·)
structure OE(ls:Sb):Prop where
 ne:∀l∈ls,l≠[]
 le:∀l∈ls,l.length<=8
 nb:∀(i:Nat)(x y:Rn),ls[i]?=some x->ls[i+1]?=some y->5<=x.length+y.length
 up:cq ls.flatten
def OE.nil:OE []:={(λ_ h=>by cases h),(λ_ h=>by cases h),(λi x y e=>by simp at e),VY}
def Mu(e:ls[i]?=some x):ls=ls.take i++x::ls.drop (i+1):=by
 let{h,e}:=Q2.mp e;rw[<-e,<-Z2 h,QB]
def fS(e:ls[i]?=some x):ls.flatten=(ls.take i).flatten++(x++(ls.drop<|i+1).flatten):=by
 conv=>lhs;rw[Mu e]
 rw[Zk,Zi]
def P0{a b c:Rn}:cq (a++(b++c))↔cq a/\cq b/\cq c/\(∀x∈a,∀y∈b,x<y)/\(∀x∈a,∀y∈c,x<y)/\∀x∈b,∀y∈c,x<y:=by
 unfold cq;rw[Qj,Qj];constructor
 .rintro ⟨h1,⟨h2,O,U⟩,I⟩;exact{h1,h2,O,λx hx y hy=>I x hx y<|X8 _ hy,λx hx y hy=>I x hx y<|Qv _ hy,U}
 .rintro ⟨h1,h2,O,U,I,Y⟩;refine{h1,⟨h2,O,Y⟩,λx hx y hy=>?_};rcases Q5.mp hy with z|z
  .exact U x hx y z
  .exact I x hx y z
structure OJ(ls:Sb)(k:Int)(i:Nat):Prop where
 le:i<=ls.length
 lo:∀(j:Nat)(x:Rn),j<i->ls[j]?=some x->∀y∈x,y<k
 hi:∀x,ls[i]?=some x->∃y∈x,k<=y
def zU{y:Int}(h:y∈(ls.take i).flatten):∃(j:Nat)(x:Rn),j<i/\ls[j]?=some x/\y∈x:=by
 let{x,hx,hy}:=Ve.mp h;let{j,z,e}:=QG hx;rw[Qe]at z;rw[X0]at e;exact{j,x,(),Q2.mpr {(),e},hy}
def OJ.ahead(h:OJ ls k i):∀y∈(ls.take i).flatten,y<k:=λy hy=>by
 let{j,x,z,e,hx}:=zU hy;exact h.lo j x z e y hx
def OJ.behind(o:OE ls)(h:OJ ls k i):∀y∈(ls.drop<|i+1).flatten,k<y:=λy hy=>by
 cases e:ls[i]? with
 |none=>
  have:ls.length<=i:=Zu.mp e;rw[Zl ()]at hy;cases hy
 |some x=>
  let{z,hz,le}:=h.hi x e;have up:=o.up;rw[fS e]at up;have:=(P0.mp up).2.2.2.2.2 z hz y hy;lia
def OJ.mem(o:OE ls)(h:OJ ls k i):k∈ls.flatten↔∃x,ls[i]?=some x/\k∈x:=by
 constructor
 .intro hk;cases e:ls[i]? with
  |none=>
   have l:ls.length<=i:=Zu.mp e;have:ls.take i=ls:=Qs l;have:=h.ahead k (by rwa[this]);lia
  |some x=>
   rw[fS e]at hk;rcases Q5.mp hk with z|z
   .have:=h.ahead k z;lia
   .rcases Q5.mp z with z|z
    .exact⟨x,M,z⟩
    .have:=h.behind o k z;lia
 .rintro ⟨x,e,hk⟩;exact Ve.mpr {x,Q1 e,hk}
theorem AY:∀{l:Rn}{k:Int},cq l->k∉l->(∀x∈l.take (l.filter<|λz=>decide (z<k)).length,x<k)/\∀x∈l.drop (l.filter<|λz=>decide (z<k)).length,k<x
 | [],k,_,_=>{λx h=>by simp at h,λx h=>by simp at h}
 |a::r,k,up,nk=>by
  let{h1,h2}:=ZB.mp up;have I:k∉r:=λz=>nk (Qa _ z);have Y:a≠k:=λz=>nk (by rw[z];exact Q6);by_cases c:a<k
  .let{O,U}:=AY h2 I;rw[X5,VB (by simpa using c),Qi,XY,List.drop_succ_cons];refine{λx hx=>?_,U};rcases Qb.mp hx with rfl|hx
   .exact c
   .exact O x hx
  .have:(a::r).filter (λz=>decide (z<k))=[]:=by
    rw[X2];intro x hx;rcases Qb.mp hx with rfl|hx
    .simpa using c
    .have:=h1 x hx;simp;lia
   rw[this];refine{λx hx=>by simp at hx,λx hx=>?_};have hx:x∈a::r:=by simpa using hx
   rcases Qb.mp hx with rfl|hx
   .lia
   .have:=h1 x hx;lia
noncomputable def eZ(l:Rn)(k:Int):List Int:=l.take (l.filter<|λz=>decide (z<k)).length++k::l.drop (l.filter<|λz=>decide (z<k)).length
def GH:(eZ l k).length=l.length+1:=by
 have h:=Qm (λz=>decide (z<k)) l;unfold eZ;rw[Q7,Qi,Qe,Qz];lia
def P2{x:Int}:x∈eZ l k↔x=k\/x∈l:=by
 unfold eZ;rw[Q5,Qb];have:x∈l↔x∈l.take (l.filter<|λz=>decide (z<k)).length\/x∈l.drop (l.filter<|λz=>decide (z<k)).length:=by
  rw[<-Q5,QB]
 rw[this];constructor
 .rintro (h|h|h)
  .exact .inr<|.inl h
  .exact .inl h
  .exact .inr<|.inr h
 .rintro (h|h|h)
  .exact .inr<|.inl h
  .exact .inl h
  .exact .inr<|.inr h
def EJ(up:cq l)(O:k∉l):cq (eZ l k):=by
 let{h1,h2}:=AY up O;have I:cq (l.take (l.filter<|λz=>decide (z<k)).length++l.drop (l.filter<|λz=>decide (z<k)).length):=by rwa[QB]
 let{U,Y,Z}:=Qj.mp I;unfold eZ;refine Qj.mpr {U,ZB.mpr ⟨h2,Y⟩,λx hx y hy=>?_};rcases Qb.mp hy with rfl|hy
 .exact h1 x hx
 .exact Z x hx y hy
structure Py(ls:Sb)(k:Int)(i:Nat)(x:Rn):Prop where
 at_:ls[i]?=some x
 lo:∀y∈(ls.take i).flatten,y<k
 hi:∀y∈(ls.drop<|i+1).flatten,k<y
def OJ.add(o:OE ls)(h:OJ ls k i)(I:ls≠[]):∃x,Py ls k (min i<|ls.length-1) x:=by
 have hl:0<ls.length:=Z4.mpr I;by_cases c:i<ls.length
 .have:min i (ls.length-1)=i:=();rw[this];exact{ls[i],Q3 c,h.ahead,h.behind o}
 .have le:=h.le;have:min i (ls.length-1)=ls.length-1:=();rw[this];have z:ls.length-1<ls.length:=();refine{ls[ls.length-1],Q3 z,λy hy=>?_,λy hy=>?_}
  .let{j,x,O,e,hx}:=zU hy;exact h.lo j x () e y hx
  .rw[Zl ()]at hy;cases hy
def yE(e:ls[i]?=some x):ls.set i y=ls.take i++y::ls.drop (i+1):=by
 have hi:=(Q2.mp e).1;rw[List.set_eq_take_append_cons_drop,VB hi]
def pC(e:ls[i]?=some x):(ls.set i y).flatten=(ls.take i).flatten++(y++(ls.drop<|i+1).flatten):=by
 rw[yE e,Zk,Zi]
def Py.set(o:OE ls)(h:Py ls k i x)(I:k∉ls.flatten):cq (ls.set i<|eZ x k).flatten/\∀z,z∈(ls.set i<|eZ x k).flatten↔z=k\/z∈ls.flatten:=by
 have up:=o.up;rw[fS h.at_]at up I;let{O,U,Y,Z,u5,u6}:=P0.mp up;have nx:k∉x:=λz=>I (Qv _<|X8 _ z);rw[pC h.at_,fS h.at_];refine{P0.mpr {O,EJ U nx,Y,λa ha b hb=>?_,u5,λa ha b hb=>?_},λz=>?_}
 .rcases P2.mp hb with rfl|hb
  .exact h.lo a ha
  .exact Z a ha b hb
 .rcases P2.mp ha with rfl|ha
  .exact h.hi b hb
  .exact u6 a ha b hb
 .rw[Q5,Q5,Q5,Q5,P2];constructor
  .rintro (h|(h|h)|h)
   .exact .inr<|.inl h
   .exact .inl h
   .exact .inr<|.inr (.inl h)
   .exact .inr<|.inr (.inr h)
  .rintro (h|h|h|h)
   .exact .inr<|.inl (.inl h)
   .exact .inl h
   .exact .inr<|.inl (.inr h)
   .exact .inr<|.inr h
def pW{z:Rn}(e:ls[i]?=some x)(f:(ls.set i y)[j]?=some z):(i=j/\z=y)\/(i≠j/\ls[j]?=some z):=by
 rw[Qw]at f;by_cases c:i=j
 .rw[VB c]at f;split at f
  .cases f;exact .inl ⟨c,M⟩
  .cases f
 .rw[VA c]at f;exact .inr ⟨c,f⟩
def sM{z:Rn}(e:ls[i]?=some x)(h:z∈ls.set i y):z=y\/z∈ls:=by
 let{j,I,O}:=QG h;rcases pW e (Q2.mpr ⟨I,O⟩)with⟨_,q⟩|⟨_,q⟩
 .exact .inl q
 .exact .inr<|Q1 q
def OE.grown(o:OE ls)(e:ls[i]?=some x)(l1:x.length<=y.length)(U:y.length<=8)(up:cq (ls.set i y).flatten):OE (ls.set i y):=by
 have hx:=o.ne x (Q1 e);have px:0<x.length:=Z4.mpr hx;refine{λl hl=>?_,λl hl=>?_,λj a b f g=>?_,up}
 .rcases sM e hl with rfl|hl
  .exact Zv ()
  .exact o.ne l hl
 .rcases sM e hl with rfl|hl
  .exact U
  .exact o.le l hl
 .rcases pW e f with⟨c,h1⟩|⟨c,z⟩<;>rcases pW e g with⟨I,h2⟩|⟨I,O⟩
  .lia
  .subst c;have:=o.nb i x b e O;rw[h1];lia
  .rw[I]at e;have:=o.nb j a x z e;rw[h2];lia
  .exact o.nb j a b z O
set_option tactic.hygienic true in
def OE.parted{a b:Rn}(o:OE ls)(e:ls[i]?=some x)(Y:a.length=4)(Z:b.length=5)(up:cq (ls.set i<|a++b).flatten):
  OE ((ls.set i a).take (i+1)++b::(ls.set i a).drop (i+1))/\((ls.set i a).take (i+1)++b::(ls.set i a).drop (i+1)).flatten=(ls.set i<|a++b).flatten:=by
 have hi:=(Q2.mp e).1;have lt:(ls.take i).length=i:=by rw[Qe];lia
 have U:(ls.set i a).take (i+1)++b::(ls.set i a).drop (i+1)=ls.take i++a::b::ls.drop (i+1):=by
  rw[yE (y:=a) e];have h1:(ls.take i++a::ls.drop (i+1)).take (i+1)=ls.take i++ [a]:=by
   rw[List.take_append,lt,Qs ()];have:i+1-i=1:=();rw[this];rfl
  have h2:(ls.take i++a::ls.drop (i+1)).drop (i+1)=ls.drop (i+1):=by
   rw[List.drop_append,lt,Zl ()];have:i+1-i=1:=();rw[this];rfl
  rw[h1,h2,Ql];rfl
 have e2:(ls.take i++a::b::ls.drop (i+1)).flatten=(ls.set i<|a++b).flatten:=by
  rw[pC e,Zk,Zi,Zi,Ql]
 rw[U];refine{{λl hl=>?_,λl hl=>?_,λj p q f g=>?_,by rwa[e2]},e2}
 .rcases Q5.mp hl with h|h
  .exact o.ne l<|Zg h
  .rcases Qb.mp h with rfl|h
   .exact Zv ()
   .rcases Qb.mp h with rfl|h
    .exact Zv ()
    .exact o.ne l<|Xb h
 .rcases Q5.mp hl with h|h
  .exact o.le l<|Zg h
  .rcases Qb.mp h with rfl|h
   .lia
   .rcases Qb.mp h with rfl|h
    .lia
    .exact o.le l<|Xb h
 .have look:∀(j:Nat)(p:Rn),(ls.take i++a::b::ls.drop (i+1))[j]?=some p->(j<i/\ls[j]?=some p)\/(j=i/\p=a)\/(j=i+1/\p=b)\/(i+2<=j/\ls[j-1]?=some p):=λj p f=>by
   rw[XS,lt]at f;split at f
   .rename_i c
    rw[List.getElem?_take,VB c]at f;exact .inl ⟨c,f⟩
   .rename_i c
    rcases(show j=i\/j=i+1\/i+2<=j by lia)with rfl|rfl|h
    .have:j-j=0:=();rw[this]at f;cases f;exact .inr<|.inl ⟨M,M⟩
    .have:i+1-i=1:=();rw[this]at f;cases f;exact .inr<|.inr (.inl ⟨M,M⟩)
    .obtain⟨n,rfl⟩:∃n,j=i+2+n:={j-(i+2),()};have:i+2+n-i=n+1+1:=();rw[this,Xv,Xv,Xm]at f;refine .inr<|.inr (.inr {h,?_});have:i+2+n-1=i+1+n:=();rw[this];exact f
  have pos:∀(j:Nat)(p:Rn),ls[j]?=some p->1<=p.length:=λj p f=>Z4.mpr (o.ne p<|Q1 f);rcases look j p f with⟨c,z⟩|⟨c,h1⟩|⟨c,h1⟩|⟨c,z⟩<;>rcases look (j+1) q g with⟨O,I⟩|⟨O,h2⟩|⟨O,h2⟩|⟨O,I⟩<;>(try rw[h1])<;>(try rw[h2])<;>(try lia)
  .exact o.nb j p q z I
  .have:=pos j p z;lia
  .have:j+1-1=j-1+1:=();rw[this]at I;exact o.nb (j-1) p q z I
def lvF(L:Rl):List (Str×V):=[(kt,.ref L)]
def cM:(lvF L).lookup (kt:Str)=some (.ref L):=by
 have hb:((kt:Str)==(kt:Str))=true:=VP.mpr M;unfold lvF;simp only[List.lookup,hb]
def KO{m:Str}(h:m≠(kt:Str)):(lvF L).lookup m=none:=by
 have hb:(m==(kt:Str))=false:=VQ.mpr h;unfold lvF;simp only[List.lookup,hb]
structure Od(t:NZ)(H:Hp)(a L:Rl)(A:Rz)(ls:Sb):Prop where
 obj:∃dx,H a=some (.ins t.bC dx<|lvF L)
 lst:H L=some (.lst<|A.map V.ref)
 len:A.length=ls.length
 leaf:∀(j:Nat)(b:Rl)(l:Rn),A[j]?=some b->ls[j]?=some l->H b=some (.lst<|l.map V.int)
 inj:∀(i j:Nat)(b:Rl),A[i]?=some b->A[j]?=some b->i=j
 nL:L∉A
def Ov(a L:Rl)(A:Rz):Addr->Prop:=λb=>b=a\/b=L\/b∈A
def Od.at(h:Od t H a L A ls)(e:ls[i]?=some x):∃c,A[i]?=some c/\H c=some (.lst<|x.map V.int):=by
 have hi:i<A.length:=by rw[h.len];exact(Q2.mp e).1
 exact{A[i],Q3 hi,h.leaf i _ x (Q3 hi) e}
def Od.has(h:Od t H a L A ls)(hb:b∈A):∃(j:Nat)(l:Rn),A[j]?=some b/\ls[j]?=some l/\H b=some (.lst<|l.map V.int):=by
 let{j,z,e}:=QG hb;have hc:j<ls.length:=by rwa[<-h.len]
 have I:A[j]?=some b:=by rw[Q3 z,e]
 exact{j,ls[j],I,Q3 hc,h.leaf j b _ I<|Q3 hc}
def Od.frame(h:Od t H a L A ls)(f:∀b,Ov a L A b->H' b=H b):Od t H' a L A ls:=by
 let{dx,I}:=h.obj;exact{{dx,by rw[f a (.inl M)];exact I},by rw[f L (.inr<|.inl M)];exact h.lst,h.len,λj b l z e2=>by rw[f b (.inr<|.inr<|Q1 z)];exact h.leaf j b l z e2,h.inj,h.nL}
def Od.dom(h:Od t H a L A ls)(hb:Ov a L A b):∃o,H b=some o:=by
 let{dx,z}:=h.obj;rcases hb with rfl|rfl|hb
 .exact{_,z}
 .exact{_,h.lst}
 .let{_,_,_,_,q}:=h.has hb;exact{_,q}
def Od.same(h:Od t H a L A ls)(s:Ba H H'):Od t H' a L A ls:=h.frame λb hb=>by
 let{o,e}:=h.dom hb;rw[e,s b o e]
def Od.out(h:Od t H a L A ls)(n:H p=none):¬Ov a L A p:=λz=>by
 let{o,e}:=h.dom z;rw[n]at e;cases e
def Od.write(h:Od t H a L A ls)(I:A[i]?=some c)(ex:ls[i]?=some x):Od t (upd H c<|.lst<|y.map V.int) a L A (ls.set i y):=by
 let{dx,U}:=h.obj;have hc:=h.leaf i c x I ex;have Y:=Q1 I;refine{{dx,by rwa[ag (cw U hc<|by intro z;cases z)]},by rw[ag (λz=>h.nL<|by rwa[z])];exact h.lst,by rw[QN];exact h.len,λj b l O e2=>?_,h.inj,h.nL};rw[Qw]at e2;by_cases z:i=j
 .subst z;rw[I]at O;cases O;rw[VB M]at e2;split at e2
  .cases e2;exact A9
  .cases e2
 .rw[VA z]at e2;rw[ag (λy=>z<|h.inj i j c I<|by rwa[<-y])];exact h.leaf j b l O e2
def Od.swap(h:Od t H a L A ls){n:Rl}(ec:A[i]?=some c)(ex:ls[i]?=some x)(Z:H n=some (.lst<|y.map V.int))(O:¬Ov a L A n):Od t (upd H L<|.lst<|(A.set i n).map V.ref) a L (A.set i n) (ls.set i y):=by
 let{dx,U}:=h.obj;have nA:n∉A:=λz=>O (.inr<|.inr z);have Y:n≠L:=λz=>O (.inr<|.inl z);refine{{dx,by rwa[ag (cw U h.lst<|by intro z;cases z)]},A9,by rw[QN,QN];exact h.len,λj b l I e2=>?_,λj k b I e2=>?_,λz=>?_}
 .rw[Qw]at I e2;by_cases z:i=j
  .rw[VB z]at I e2;split at I
   .cases I;split at e2
    .cases e2;rwa[ag Y]
    .cases e2
   .cases I
  .rw[VA z]at I e2;rw[ag (λy=>h.nL<|by rw[<-y];exact Q1 I)];exact h.leaf j b l I e2
 .rw[Qw]at I e2;by_cases z:i=j
  .rw[VB z]at I;split at I
   .cases I;by_cases w:i=k
    .exact z.symm.trans w
    .rw[VA w]at e2;exact VG (Q1 e2) nA
   .cases I
  .rw[VA z]at I;by_cases w:i=k
   .rw[VB w]at e2;split at e2
    .cases e2;exact VG (Q1 I) nA
    .cases e2
   .rw[VA w]at e2;exact h.inj j k b I e2
 .let{j,hj,e}:=QG z;have I:=Q2.mpr ⟨hj,e⟩;rw[Qw]at I;by_cases w:i=j
  .rw[VB w]at I;split at I
   .cases I;exact Y M
   .cases I
  .rw[VA w]at I;exact h.nL<|Q1 I
set_option tactic.hygienic true in
def OL{l:List α}{x y:α}(hi:i<=l.length)(e:(l.take i++x::l.drop i)[j]?=some y):(j<i/\l[j]?=some y)\/(j=i/\y=x)\/(i<j/\l[j-1]?=some y):=by
 have lt:(l.take i).length=i:=by rw[Qe];lia
 rw[XS,lt]at e;split at e
 .rename_i c
  rw[List.getElem?_take,VB c]at e;exact .inl ⟨c,e⟩
 .rename_i c
  rcases(show j=i\/i<j by lia)with rfl|h
  .have:j-j=0:=();rw[this]at e;cases e;exact .inr<|.inl ⟨M,M⟩
  .obtain⟨n,rfl⟩:∃n,j=i+1+n:={j-(i+1),()};have:i+1+n-i=n+1:=();rw[this,Xv,Xm]at e;have:i+1+n-1=i+n:=();exact .inr<|.inr {h,by rwa[this]}
def Od.insert(h:Od t H a L A ls){n:Rl}(hi:i<=A.length)(hn:H n=some (.lst<|y.map V.int))(nF:¬Ov a L A n):
  Od t (upd H L<|.lst<|(A.take i++n::A.drop i).map V.ref) a L (A.take i++n::A.drop i) (ls.take i++y::ls.drop i):=by
 let{dx,ho}:=h.obj;have nA:n∉A:=λz=>nF (.inr<|.inr z);have nL:n≠L:=λz=>nF (.inr<|.inl z);have Z:i<=ls.length:=by rwa[<-h.len]
 refine{{dx,by rwa[ag (cw ho h.lst<|by intro z;cases z)]},A9,?_,λj b l e1 e2=>?_,λj k b e1 e2=>?_,λz=>?_}
 .have:=h.len;rw[Q7,Q7,Qi,Qi,Qe,Qe,Qz,Qz];lia
 .rcases OL hi e1 with⟨U,I⟩|⟨U,I⟩|⟨U,I⟩<;>rcases OL Z e2 with⟨Y,O⟩|⟨Y,O⟩|⟨Y,O⟩<;>(try lia)
  .rw[ag (λy=>h.nL<|by rw[<-y];exact Q1 I)];exact h.leaf j b l I O
  .rwa[I,O,ag nL]
  .rw[ag (λy=>h.nL<|by rw[<-y];exact Q1 I)];exact h.leaf (j-1) b l I O
 .rcases OL hi e1 with⟨U,I⟩|⟨U,I⟩|⟨U,I⟩<;>rcases OL hi e2 with⟨Y,O⟩|⟨Y,O⟩|⟨Y,O⟩
  .exact h.inj j k b I O
  .rw[O]at I;exact VG (Q1 I) nA
  .have:=h.inj _ _ b I O;lia
  .rw[I]at O;exact VG (Q1 O) nA
  .lia
  .rw[I]at O;exact VG (Q1 O) nA
  .have:=h.inj _ _ b I O;lia
  .rw[O]at I;exact VG (Q1 I) nA
  .have:=h.inj _ _ b I O;lia
 .rcases Q5.mp z with z|z
  .exact h.nL<|Zg z
  .rcases Qb.mp z with z|z
   .exact nL z.symm
   .exact h.nL<|Xb z
set_option tactic.hygienic true in
def mK{l:List α}{y:α}(e:(l.eraseIdx i)[j]?=some y):(j<i/\l[j]?=some y)\/(i<=j/\l[j+1]?=some y):=by
 rw[List.getElem?_eraseIdx]at e;split at e
 .rename_i c;exact .inl ⟨c,e⟩
 .rename_i c;exact .inr {(),e}
def Od.erase(h:Od t H a L A ls):Od t (upd H L<|.lst<|(A.eraseIdx i).map V.ref) a L (A.eraseIdx i) (ls.eraseIdx i):=by
 let{dx,ho}:=h.obj;refine{{dx,by rwa[ag (cw ho h.lst<|by intro z;cases z)]},A9,?_,λj b l U e2=>?_,λj k b U e2=>?_,λz=>h.nL<|Zd z}
 .rw[XT,XT,h.len]
 .have bA:b∈A:=Zd (Q1 U);rw[ag (λy=>h.nL<|by rwa[<-y])];rcases mK U with⟨Y,I⟩|⟨Y,I⟩<;>rcases mK e2 with⟨Z,O⟩|⟨Z,O⟩<;>(try lia)
  .exact h.leaf j b l I O
  .exact h.leaf (j+1) b l I O
 .rcases mK U with⟨Y,I⟩|⟨Y,I⟩<;>rcases mK e2 with⟨Z,O⟩|⟨Z,O⟩
  .exact h.inj j k b I O
  .have:=h.inj _ _ b I O;lia
  .have:=h.inj _ _ b I O;lia
  .have:=h.inj _ _ b I O;lia
def xG(up:cq ls.flatten)(ex:ls[i]?=some x)(z:ls[j]?=some y)(h:i<j):∀p∈x,∀q∈y,p<q:=λp I q hq=>by
 rw[fS ex]at up;refine(P0.mp up).2.2.2.2.2 p I q<|Ve.mpr {y,?_,hq};refine Q1 (i:=j-(i+1)) ?_;rw[Xm];have:i+1+(j-(i+1))=j:=();rwa[this]
def IF(up:cq ls.flatten)(ex:ls[i]?=some x):cq x:=by
 rw[fS ex]at up;exact(P0.mp up).2.1
def Gz(up:cq x)(I:x≠[]):∃m,x[x.length-1]?=some m/\m∈x/\∀y∈x,y<=m:=by
 have hl:=Z4.mpr I;have z:x.length-1<x.length:=();refine{x[x.length-1],Q3 z,Zm z,λy hy=>?_};let{j,O,e}:=QG hy;rcases(show j=x.length-1\/j<x.length-1 by lia)with h|h
 .subst h;rw[e];exact ZT _
 .have:=Zb.mp up j (x.length-1) O z h;rw[e]at this;lia
structure RO(ls:Sb)(E:Nat->Prop):Prop where
 ne:∀l∈ls,l≠[]
 le:∀l∈ls,l.length<=8
 nb:∀(i:Nat)(x y:Rn),ls[i]?=some x->ls[i+1]?=some y->E i\/5<=x.length+y.length
 up:cq ls.flatten
def RO.ok(h:RO ls E)(z:∀i,¬E i):OE ls:={h.ne,h.le,λi x y I e2=>(h.nb i x y I e2).resolve_left<|z i,h.up}
noncomputable def m9(ls:Sb)(i:Nat):List (List Int):=match ls[i]?,ls[i+1]? with
 |some x,some y=>if x.length+y.length<5 then(ls.set i<|x++y).eraseIdx (i+1)else ls
 |_,_=>ls
set_option tactic.hygienic true in
def u0(h:ls.length<=i+1):m9 ls i=ls:=by
 unfold m9;have:ls[i+1]?=none:=Zu.mpr h;rw[this];split
 .rename_i h2;cases h2
 .rfl
def AJ(ex:ls[i]?=some x)(z:ls[i+1]?=some y):m9 ls i=if x.length+y.length<5 then(ls.set i<|x++y).eraseIdx (i+1)else ls:=by
 unfold m9;rw[ex,z]
def EG:(m9 ls i).length<=ls.length/\ls.length<=(m9 ls i).length+1:=by
 unfold m9;split
 .split
  .rw[XT,QN];split<;>lia
  .lia
 .lia
set_option tactic.hygienic true in
def uZ{z v:Rn}(e:((ls.set i z).eraseIdx<|i+1)[j]?=some v):(j<i/\ls[j]?=some v)\/(j=i/\v=z)\/(i<j/\ls[j+1]?=some v):=by
 rw[List.getElem?_eraseIdx]at e;split at e
 .rename_i c
  rw[Qw]at e;by_cases h:i=j
  .rw[VB h]at e;split at e
   .cases e;exact .inr<|.inl ⟨h.symm,M⟩
   .cases e
  .rw[VA h]at e;exact .inl {(),e}
 .rename_i c
  rw[Qw,VA ()]at e;exact .inr<|.inr {(),e}
def EF(ex:ls[i]?=some x)(z:ls[i+1]?=some y):((ls.set i<|x++y).eraseIdx<|i+1).flatten=ls.flatten:=by
 have hi:=(Q2.mp ex).1;have lt:(ls.take i).length=i:=by rw[Qe];lia
 have hy:ls.drop (i+1)=y::ls.drop (i+2):=by
  let{h,e}:=Q2.mp z;rw[<-e,<-Z2 h]
 have I:(ls.set i<|x++y).eraseIdx (i+1)=ls.take i++(x++y)::ls.drop (i+2):=by
  rw[yE ex,hy,V1 (),lt];have:i+1-i=1:=();rw[this];rfl
 rw[I,fS ex,hy,Zk,Zi,Zi,Ql]
def RO.join(h:RO ls E)(O:∀j,E j->j=i\/j+1=i):RO (m9 ls i) (λj=>j+1=i/\E j)/\(m9 ls i).flatten=ls.flatten:=by
 cases ex:ls[i]? with
 |none=>
  have hl:ls.length<=i:=Zu.mp ex;rw[u0 ()];refine{{h.ne,h.le,λj x y I e2=>?_,h.up},M};rcases h.nb j x y I e2 with z|z
  .rcases O j z with rfl|w
   .rw[ex]at I;cases I
   .exact .inl ⟨w,z⟩
  .exact .inr z
 |some x=>
  cases U:ls[i+1]? with
  |none=>
   have hl:ls.length<=i+1:=Zu.mp U;rw[u0 hl];refine{{h.ne,h.le,λj x' y I e2=>?_,h.up},M};rcases h.nb j x' y I e2 with z|z
   .rcases O j z with rfl|w
    .rw[U]at e2;cases e2
    .exact .inl ⟨w,z⟩
   .exact .inr z
  |some y=>
   rw[AJ ex U];by_cases c:x.length+y.length<5
   .rw[VB c];have fl:=EF ex U;have mem:∀v∈(ls.set i<|x++y).eraseIdx (i+1),v=x++y\/v∈ls:=λv hv=>by
     let{j,hj,e}:=QG hv;rcases uZ (Q2.mpr ⟨hj,e⟩)with⟨_,q⟩|⟨_,q⟩|⟨_,q⟩
     .exact .inr<|Q1 q
     .exact .inl q
     .exact .inr<|Q1 q
    have px:=Z4.mpr (h.ne x<|Q1 ex);have a0:(x++y).length=x.length+y.length:=Q7;refine{{λv hv=>?_,λv hv=>?_,λj u v I e2=>?_,by rw[fl];exact h.up},fl}
    .rcases mem v hv with rfl|q
     .exact Zv ()
     .exact h.ne v q
    .rcases mem v hv with rfl|q
     .lia
     .exact h.le v q
    .rcases uZ I with⟨c1,Y⟩|⟨c1,Y⟩|⟨c1,Y⟩<;>rcases uZ e2 with⟨c2,Z⟩|⟨c2,Z⟩|⟨c2,Z⟩<;>(try lia)
     .rcases h.nb j u v Y Z with z|z
      .rcases O j z with w|w
       .lia
       .lia
      .exact .inr z
     .rcases h.nb j u x Y (by rwa[c2])with z|z
      .exact .inl ⟨c2,z⟩
      .rw[Z];exact .inr ()
     .have e3:ls[i+1+1]?=some v:=by rwa[<-c1]
      rcases h.nb (i+1) y v U e3 with z|z
      .rcases O (i+1) z with w|w<;>lia
      .rw[Y];exact .inr ()
     .rcases h.nb (j+1) u v Y Z with z|z
      .rcases O (j+1) z with w|w<;>lia
      .exact .inr z
   .rw[VA c];refine{{h.ne,h.le,λj u v I e2=>?_,h.up},M};rcases h.nb j u v I e2 with z|z
    .rcases O j z with w|w
     .subst w;rw[ex]at I;rw[U]at e2;cases I;cases e2;exact .inr ()
     .exact .inl ⟨w,z⟩
    .exact .inr z
def BX(h:cq l):l.Nodup:=h.imp λh=>Int.ne_of_lt h
def OE.gone(o:OE ls)(ex:ls[i]?=some x)(hk:k∈x):cq (ls.set i<|x.erase k).flatten/\∀z,z∈(ls.set i<|x.erase k).flatten↔z≠k/\z∈ls.flatten:=by
 have up:=o.up;rw[fS ex]at up;let{Y,I,Z,O,u5,U}:=P0.mp up;have sub:(x.erase k).Sublist x:=List.erase_sublist;have nx:=BX I;rw[pC ex,fS ex];refine{P0.mpr {Y,I.sublist sub,Z,λa ha b hb=>O a ha b<|sub.subset hb,u5,λa ha b hb=>U a (sub.subset ha) b hb},λz=>?_};rw[Q5,Q5,Q5,Q5,nx.mem_erase_iff];constructor
 .rintro (h|⟨h1,h2⟩|h)
  .have:=O z h k hk;exact{(),.inl h}
  .exact{h1,.inr<|.inl h2}
  .have:=U k hk z h;exact{(),.inr<|.inr h}
 .rintro ⟨h0,h|h|h⟩
  .exact .inl h
  .exact .inr<|.inl ⟨h0,h⟩
  .exact .inr<|.inr h
def OE.shrunk(o:OE ls)(ex:ls[i]?=some x)(I:y≠[])(Y:y.length<=x.length)(up:cq (ls.set i y).flatten):RO (ls.set i y) (λj=>j=i\/j+1=i):=by
 have hx:=o.le x (Q1 ex);refine{λl hl=>?_,λl hl=>?_,λj a b f g=>?_,up}
 .rcases sM ex hl with rfl|hl
  .exact I
  .exact o.ne l hl
 .rcases sM ex hl with rfl|hl
  .lia
  .exact o.le l hl
 .rcases pW ex f with⟨c,_⟩|⟨c,O⟩
  .exact .inl<|.inl c.symm
  .rcases pW ex g with⟨z,_⟩|⟨z,U⟩
   .exact .inl<|.inr z.symm
   .exact .inr<|o.nb j a b O U
def OE.out(o:OE ls)(ex:ls[i]?=some x)(Z:x.length=1)(up:cq (ls.set i []).flatten):OE (ls.eraseIdx i)/\(ls.eraseIdx i).flatten=(ls.set i []).flatten:=by
 have hi:=(Q2.mp ex).1;have lt:(ls.take i).length=i:=by rw[Qe];lia
 have O:ls.eraseIdx i=ls.take i++ls.drop (i+1):=List.eraseIdx_eq_take_drop_succ _ _;have fl:(ls.eraseIdx i).flatten=(ls.set i []).flatten:=by
  rw[O,pC ex,Zk];rfl
 refine{{λl hl=>o.ne l<|Zd hl,λl hl=>o.le l<|Zd hl,λj a b f g=>?_,by rwa[fl]},fl};rcases mK f with⟨U,z⟩|⟨U,z⟩<;>rcases mK g with⟨Y,I⟩|⟨Y,I⟩
 .exact o.nb j a b z I
 .have e2:j+1=i:=();subst e2;have h1:=o.nb j a x z ex;have h2:=o.nb (j+1) x b ex I;lia
 .lia
 .exact o.nb (j+1) a b z I
def Om(_K:Wi)(t:NZ)(H:Hp)(a:Rl)(F:Ro)(ks:Rn):Prop:=∃L A ls,Od t H a L A ls/\OE ls/\ls.flatten=ks/\∀b,F b↔Ov a L A b
def Om.ins(h:Om K t H a F ks):∃dx fs,H a=some (.ins t.bC dx fs)/\∀m,m≠(kt:Str)->fs.lookup m=none:=by
 let{L,A,ls,hb,_}:=h;let{dx,z}:=hb.obj;exact{dx,_,z,λm I=>KO I}
def Om.dom(h:Om K t H a F ks)(hb:F b):∃o,H b=some o:=by
 let{L,A,ls,h1,_,_,h2}:=h;exact h1.dom<|(h2 b).mp hb
def Om.frame(h:Om K t H a F ks)(f:∀b,F b->H' b=H b):Om K t H' a F ks:=by
 let{L,A,ls,h1,z,I,h2}:=h;exact{L,A,ls,h1.frame λb hb=>f b<|(h2 b).mpr hb,z,I,h2}
def Om.out(h:Om K t H a F ks)(e:H p=none):¬F p:=λz=>by
 let{o,q}:=h.dom z;rw[q]at e;cases e
def rX(K:Wi)(t:NZ):Sp:=λvs H Q _=>∃(a dx:Rl),vs=[.ref a]/\H a=some (.ins t.bC dx [])/\H dx=some (.own a)/\∀H' F,Om K t H' a F []->Fr (λb=>b=a\/b=dx) F H H'->Q .non H'
def tJ(K:Wi)(t:NZ):Sp:=λvs H Q _=>∃(a:Rl)(k:Int)(F:Ro)(ks:Rn),vs=[.ref a,.int k]/\Om K t H a F ks/\∀H' F',Om K t H' a F' ks->Fr F F' H H'->Q (.bl<|decide (k∈ks)) H'
def tK(K:Wi)(t:NZ):Sp:=λvs H Q E=>∃(a:Rl)(k:Int)(F:Ro)(ks:Rn),vs=[.ref a,.int k]/\Om K t H a F ks/\ks.length<4096/\
 (k∉ks->∀H' F' ks',Om K t H' a F' ks'->(∀z,z∈ks'↔z=k\/z∈ks)->Fr F F' H H'->Q .non H')/\(k∈ks->False)
def ou(K:Wi)(t:NZ):Sp:=λvs H Q E=>∃(a:Rl)(k:Int)(F:Ro)(ks:Rn),vs=[.ref a,.int k]/\Om K t H a F ks/\ks.length<4096/\
 (k∈ks->∀H' F' ks',Om K t H' a F' ks'->(∀z,z∈ks'↔z≠k/\z∈ks)->Fr F F' H H'->Q .non H')/\(k∉ks->False)
def OE.short(o:OE ls):ls.length<=ls.flatten.length:=by
 have h:=o.ne;clear o
 induction ls with
 |nil=>exact Q4 _
 |cons x r z=>
  have:=Z4.mpr (h x Q6);have:=z λl hl=>h l (Qa _ hl);rw[Zi,Q7,Qi];lia
def ot(K:Wi)(t:NZ):Sp:=λvs H Q _=>∃(a:Rl)(k n:Int)(F:Ro)(ks:Rn),vs=[.ref a,.int k,.int n]/\Om K t H a F ks/\ks.length<4096/\0<=n/\
 ∀(H':Hp)(l:Rl),Ba H H'->H l=none->H' l=some (.lst<|((ks.filter λz=>decide (k<=z)).take n.toNat).map V.int)->Q (.ref l) H'
def vj(h:0<=n):gM xs none (some n)=xs.take n.toNat:=by
 unfold gM HT.sIx;simp only[Zf,Nat.sub_zero];rw[VA ()];rcases V7 n.toNat xs.length with c|c
 .rw[ZR c]
 .rw[Vf c,Qy,Qs c]
def EM(o:OE ls)(h:OJ ls k i0):∀z∈(ls.take i0).flatten,¬k<=z:=λz hz=>by
 have:=h.ahead z hz;lia
noncomputable def dP(k:Se)(z:Int):Bool:=match k with|none=>true|some k=>decide (z<=k)
def vDn:Option Int->V|none=> .non|some k=> .int k
def kM(K:Wi)(t:NZ):Sp:=λvs H Q _=>∃(a:Rl)(k:Se)(n:Int)(F:Ro)(ks:Rn),vs=[.ref a,vDn k,.int n]/\Om K t H a F ks/\ks.length<4096/\0<=n/\
 ∀(H':Hp)(l:Rl),Ba H H'->H l=none->H' l=some (.lst<|((ks.reverse.filter<|dP k).take n.toNat).map V.int)->Q (.ref l) H'
noncomputable def N4.low(s:N4):Int:=match s.nxt with
 |none=>s.size
 |some m=>if m<s.size then m else s.size
def Gr{M':Int}(h:M'∈st.rows)(l:∀x∈st.rows,M'<=x):M'=st.low:=by
 unfold N4.rows at h l;unfold N4.low;cases e:st.nxt with
 |none=>rw[e]at h;simpa using h
 |some m=>
  rw[e]at h l;have h:M'=st.size\/M'=m:=by simpa using h
  have l1:=l st.size (by simp);have z:=l m (by simp);show M'=if m<st.size then m else st.size
  split<;>lia
def fA(z:O0 st):st.low∈([4,8,16,32,64,128,256]:Rn):=by
 unfold N4.low;cases e:st.nxt with
 |none=>exact z.pw
 |some m=>
  show(if m<st.size then m else st.size)∈_;split
  .exact(z.nx m e).1
  .exact z.pw
def ut{x:Int}(h:x∈([4,8,16,32,64,128,256]:List Int)):∃a b,Row x a b:=by
 rcases kX h with h|h|h|h|h|h|h<;>subst h
 .exact{_,_,oI (k:=0) (_)}
 .exact{_,_,oI (k:=1) (_)}
 .exact{_,_,oI (k:=2) (_)}
 .exact{_,_,oI (k:=3) (_)}
 .exact{_,_,oI (k:=4) (_)}
 .exact{_,_,oI (k:=5) (_)}
 .exact{_,_,oI (k:=6) (_)}
def yt{S p:Int}{a b:Nat}(R:Row S a b)(I:0<=p)(h1:p<65536):tz (tz p%S)+65536/S=(p/(65536/S)+1)*(65536/S):=by
 have hs:=R.st_has (m:=tz p) (qB p);rw[CP I h1]at hs;have O:=R.slot (s:=tz p%S) (R.mod0 _) (R.mod1 _);have w:=R.width;have z:=R.wpos';rw[O.1,<-w]at hs⊢;have:p/(65536/S)=rz a (tz p%S):=by
  have k0:=Qx p (QZ z);have k1:=QD p z;have k2:=XH p (65536/S);exact R.between z (x:=p/(65536/S)) (y:=rz a<|tz p%S) (p:=p) () () hs.1 hs.2
 rw[this,Int.add_mul,Int.one_mul,Xz]
def tx(K:Wi)(t:NZ):Sp:=λvs H Q _=>∃(a:Rl)(p:Int)(F:Ro)(st:N4),vs=[.ref a,.int p]/\OM K t H a F st/\0<=p/\p<65536/\
 ∀H' F',OM K t H' a F' st->Fr F F' H H'->Q (.int<|(p/(65536/st.low)+1)*(65536/st.low)) H'
structure zG(kd:Str)(fs:RX)(a e:V):Prop where
 ki:fs.lookup ("kind":Str)=some (.str kd)
 at_:fs.lookup (wh:Str)=some a
 end_:fs.lookup (p7:Str)=some e
 wo:fs.lookup ("words":Str)=none
 ho:fs.lookup ("holds":Str)=none
def okS(a e:V):Prop:=∃i j,a= .int i/\e= .int j/\0<=i/\i<=j/\j<=65536
def P7(a e:V):Prop:=∃i,a= .int i/\0<=i/\(e= .non\/∃j,e= .int j/\i<=j)
def P6(a e:V):Prop:=∃j,e= .int j/\0<=j/\(a= .non\/∃i,a= .int i/\j<=i)
def Oy(p:Rl)(H H':Hp):Prop:=∀b o,H b=some o->b≠p->H' b=some o
def zZ:Sp:=λvs H Q _=>∃x,vs=[x]/\Sc x/\Q (.bl<|isW x) H
noncomputable def isF(lo:Int):V->Bool
 | .int i=>decide (lo<=i)|_=>false
def BH:Sp:=λvs H Q _=>∃x lo,vs=[x,.int lo]/\Sc x/\Q (.bl<|isF lo x) H
noncomputable def wr:V->Str
 | .int i=>toString i|_=>"-"
def BD:Sp:=λvs H Q _=>∃x,vs=[x]/\(x= .non\/∃i:Int,x= .int i/\i.natAbs.log2<1920)/\Q (.str<|wr x) H
def gb(K:Wi):Sp:=λvs H Q _=>∃(p C dx:Rl)(kd:Str)(a e:V),vs=[.ref p,.str kd,a,e]/\H p=some (.ins C dx [])/\Oz K C/\Hk K C "kind"/\Hk K C wh/\Hk K C p7/\∀H' fs,Oy p H H'->H' p=some (.ins C dx fs)->zG kd fs a e->Q .non H'
def CU(C N:Rl)(kd:Str)(ok:V->V->Prop):Sp:=λvs H Q E=>∃(p dx:Rl)(a e:V),vs=[.ref p,a,e]/\H p=some (.ins C dx [])/\Sc a/\Sc e/\
 (ok a e->∀H' fs,Oy p H H'->H' p=some (.ins C dx fs)->zG kd fs a e->Q .non H')/\(¬ok a e->False)
def qD(t:NZ):Sp:=CU t.aQ t.mN Re okS
def Aa(t:NZ):Sp:=CU t.da t.mN "up" P7
def wc(t:NZ):Sp:=CU t.b8 t.mN "down" P6
def Og(kd:Int)(a e:V):Prop:=(kd=0/\okS a e)\/(kd=1/\P7 a e)\/(kd=2/\P6 a e)
def hS:V->V->Int->Bool
 | .int i,.int j,k=>decide (i<=tz (k%65536))&&decide (tz (k%65536)<j)
 |_,_,_=>false
noncomputable def hU:V->V->Int->Bool
 | .int i,.int j,k=>decide (i<=k)&&decide (k<j)
 | .int i,.non,k=>decide (i<=k)
 |_,_,_=>false
noncomputable def hD:V->V->Int->Bool
 | .int i,.int j,k=>decide (j<=k)&&decide (k<=i)
 | .non,.int j,k=>decide (j<=k)
 |_,_,_=>false
def hN(kd:Int):V->V->Int->Bool:=if kd=0 then hS else if kd=1 then hU else hD
def RJ:V->Prop
 | .int i=>i<10^80|_=>True
def bg(kd:Str)(a e:V):Str:=Txt.join (Rb:Str) [kd,wr a,wr e]
def FE(C:Rl)(kd:Str)(ok:V->V->Prop)(h:V->V->Int->Bool):Sp:=λvs H Q _=>∃(p dx:Rl)(fs:RX)(a e:V)(k:Int),vs=[.ref p,.int k]/\H p=some (.ins C dx fs)/\zG kd fs a e/\ok a e/\0<=k/\∀H',Ba H H'->Q (.bl<|h a e k) H'
def fN(t:NZ):Sp:=FE t.da "up" P7 hU
def dR(t:NZ):Sp:=FE t.b8 "down" P6 hD
def RD(t:NZ)(kd:Int):Addr:=if kd=0 then t.aQ else if kd=1 then t.da else t.b8
noncomputable def OQ(kd:Int):Str:=if kd=0 then Re else if kd=1 then "up" else "down"
def cv(t:NZ):Sp:=λvs H Q _=>∃(p dx:Rl)(kd:Int)(fs:RX)(a e:V),vs=[.ref p]/\H p=some (.ins (RD t kd) dx fs)/\zG (OQ kd) fs a e/\Og kd a e/\RJ a/\RJ e/\∀H',Ba H H'->Q (.str<|bg (OQ kd) a e) H'
def qE{x:Rl}(h1:H x=none)(h2:H dx=none)(k:Oy x (upd (upd H dx<|.own x) x<|.ins C dx []) H'):Ba H H':=λb o q=>by
 refine k b o ?_<|am q h1;rw[ag (am q h1),ag (am q h2)];exact q
def CD(t:NZ)(H:Hp)(p:Rl)(kd:Int)(a e:V):Prop:=∃(dx:Rl)(fs:RX),H p=some (.ins (RD t kd) dx fs)/\zG (OQ kd) fs a e
def Og.sc{kd:Int}{a:V}(h:Og kd a e):Sc a/\Sc e:=by
 rcases h with⟨_,i,j,rfl,rfl,_⟩|⟨_,i,rfl,_,rfl|⟨j,rfl,_⟩⟩|⟨_,j,rfl,_,rfl|⟨i,rfl,_⟩⟩<;>exact⟨VW,VW⟩
def Og.kd{kd:Int}{a:V}(h:Og kd a e):kd=0\/kd=1\/kd=2:=by
 rcases h with⟨h,_⟩|⟨h,_⟩|⟨h,_⟩
 .exact .inl h
 .exact .inr<|.inl h
 .exact .inr<|.inr h
def Og.s{a:V}(h:Og 0 a e):okS a e:=by
 rcases h with⟨_,h⟩|⟨h,_⟩|⟨h,_⟩
 .exact h
 .cases h
 .cases h
def Og.u{a:V}(h:Og 1 a e):P7 a e:=by
 rcases h with⟨h,_⟩|⟨_,h⟩|⟨h,_⟩
 .cases h
 .exact h
 .cases h
def Og.d{a:V}(h:Og 2 a e):P6 a e:=by
 rcases h with⟨h,_⟩|⟨h,_⟩|⟨_,h⟩
 .cases h
 .cases h
 .exact h
def dWN{kd:Int}(h:kd=0\/kd=1\/kd=2):DOr (D1 t.aQ<|cv t) (DOr (D1 t.da<|cv t)<|D1 t.b8<|cv t) (RD t kd) (cv t):=by
 rcases h with rfl|rfl|rfl
 .exact .inl ⟨M,M⟩
 .exact .inr<|.inl ⟨M,M⟩
 .exact .inr (.inr ⟨M,M⟩)
set_option exponentiation.threshold 2000 in
def KP{i:Int}(I:0<=i)(h1:i<10^80):i.natAbs.log2<1920:=by
 rcases QW i.natAbs with z|z
 .rw[z];decide
 .refine(Nat.log2_lt<|ZU z).mpr ?_;have:i.natAbs<10^80:=();exact Nat.lt_trans this<|Qu (show 10^80<2^300 by decide) (Nat.pow_le_pow_right (_) (_))
def few(a:V):Prop:=(a= .non\/∃i:Int,a= .int i/\i.natAbs.log2<1920)/\(wr a).length<=81
def Ds:few .non:={.inl M,∅}
def g7{i:Int}(z:0<=i)(h1:RJ (.int i)):few (.int i):=by
 have h1:i<10^80:=h1;refine{.inr {i,M,KP z h1},?_};show(Str.ofString<|toString i).length<=81;have h:(toString i).length<=80+1:=PySem.int_text_length_le10 (_) ();rw[Str.ofString_eq_toList];show((toString i).toList.map Char.toNat).toArray.size<=81;rwa[Qh,Q0]
def Og.few{kd:Int}{a:V}(h:Og kd a e)(I:RJ a)(O:RJ e):few a/\few e:=by
 rcases h with⟨_,i,j,rfl,rfl,z,h1,_⟩|⟨_,i,rfl,z,rfl|⟨j,rfl,h1⟩⟩|⟨_,j,rfl,z,rfl|⟨i,rfl,h1⟩⟩
 .exact{g7 z I,g7 () O}
 .exact{g7 z I,Ds}
 .exact{g7 z I,g7 () O}
 .exact{Ds,g7 z O}
 .exact{g7 () I,g7 z O}
def sT{k k':Str}{a:V}(h:k++(Rb:Str)=k'):bg k a e=k'++wr a++(Rb:Str)++wr e:=by
 rw[<-h];rfl
def up_:("up":Str)++(Rb:Str)=("up ":Str):=by decide+kernel
def NF:("down":Str)++(Rb:Str)=("down ":Str):=by decide+kernel
def Lw:(Re:Str)++(Rb:Str)=("slots ":Str):=by decide+kernel
set_option genInjectivity false in
structure Tp where
 p:Addr
 k:Int
 v:V
def Tp.kv(e:Tp):Int×V:=(e.k,e.v)
structure PgA(H H':Hp)(F F':Ro)(r g:Rl)(v:V)(ts:List Tp):Prop where
 tu:H' r=some (.tup [.ref g,v])
 li:H' g=some (.lst<|ts.map λe=>V.ref e.p)
 rw:∀e∈ts,H' e.p=some (.tup [.int e.k,e.v])/\¬F' e.p
 nr:(¬F r->H r=none)/\¬F' r
 ng:(¬F g->H g=none)/\¬F' g
section
variable{P:Rv}{w:Ru}{mg:RT}{base:Heap}
def DT:Sp:=λvs H Q _=>∃n:Int,vs=[.int n]/\0<=n/\Q (.int<|tz n) H
def BG:Sp:=λvs H Q _=>∃k:Int,vs=[.int k]/\Q (.int<|k%65536) H
def zY:Sp:=λvs H Q _=>∃k:Int,vs=[.int k]/\Q (.int<|tz<|k%65536) H
def BE:Sp:=λvs H Q _=>∃k n:Int,vs=[.int k,.int n]/\0<n/\Q (.int<|k%65536%n) H
def BF:Sp:=λvs H Q _=>∃p n:Int,vs=[.int p,.int n]/\0<=p/\0<n/\Q (.int<|tz p%n) H
def vK:Sp:=λvs H Q _=>∃s n:Int,vs=[.int s,.int n]/\0<=s/\0<n/\n<1073741824/\∀p,H p=none->Q (.ref p) (upd H p<|.tup [.int (tz s),.int (tz s+65536/n)])
def qO(T:Txt K mg t w):E7 P w K mg base NX 1 t.Be t.vg ["number"] DT:=by
 let{I,z}:=T.g_BITS;refine T.vD.okl D0 λ_ _ _ s H vs Q E U h _=>?_;intro X;let{n,rfl,Y,k}:=h;refine ah (N7 1 ai)
   (ah (N7 2 DA)
   (ah (gu VU M (fZ {_} T.my (aa (bD (v:= .int 16) {_} z {_,M}) ae)) (PZ 3)
    (gj (N7 1<|aq bN (aq eI HW ai)<|aq aY M2 ai)
    (au<|N7 2<|aq bf M2 ai)))
   (aw (ay HW) ?_)))
 intros
 have O:((n.toNat/2^0:Nat):Int)=n:=by rw[Nat.pow_zero,Nat.div_one];lia
 refine{_,M,16,M,(_),(_),qY (n:=16) (λi B H'=>∃v,H'=H/\B=[some (.int n),some (.int ((rv i n.toNat:Nat):Int)),some (.int ((n.toNat/2^i:Nat):Int)),v]) ?_ ?_ ?_}
 .refine{none,M,?_};rw[O];rfl
 .rintro i B H' hi ⟨v,rfl,rfl⟩;refine{_,M,_,_,M,M,.inr {(_),(_)},_,M,_,_,M,M,(by show(0:Int)<2;decide),_,_,M,M,_,M,_,_,M,M,{(_),(_)},?_};refine{some<|.int<|0+(i:Int),M,?_};rw[<-xA i n.toNat,<-xB i n.toNat];rfl
 .rintro B H' ⟨v,rfl,rfl⟩;unfold tz at k;exact{_,M,k}
def uC(T:Txt K mg t w):E7 P w K mg base NX 1 t.yj t.rh [eR] BG:=by
 let{I,z}:=T.g_PLACES;refine T.yp.okl BN λ_ _ _ s H vs Q E O h _=>?_;intro X;let{n,rfl,k}:=h;refine{_,(au<|ay<|aq aY DA<|bD (v:= .int 65536) {_} z {_,M})
  ,?_}
 exact{_,M,_,_,M,M,(by show(0:Int)<65536;decide),k}
def As(T:Txt K mg t w):E7 P w K mg base NX 2 t.vq t.oV [eR] zY:=by
 refine T.CF.okl Ad λ_ _ _ s H vs Q E z h _=>?_;intro X;let{n,rfl,k}:=h;refine{_,(au<|ay<|aE (qO T) z.mo {_} T.AE T.vD.kp T.Bc .nil az (aa (aE (uC T) z.mo {_} T.Ey T.yp.kp T.E4 .nil az (aa DA ae)) ae))
  ,?_}
 exact{_,M,_,M,_,M,Qx _ (_),k}
def uz(T:Txt K mg t w):E7 P w K mg base NX 2 t.yh t.rf [eR,K'] BE:=by
 refine T.rA.okl BL λ_ _ _ s H vs Q E z h _=>?_;intro X;let{n,m,rfl,I,k}:=h;refine{_,(au<|ay<|aq aY (aE (uC T) z.mo {_} T.Ey T.yp.kp T.E4 .nil az (aa DA ae)) HW)
  ,?_}
 exact{_,M,_,M,_,M,_,_,M,M,I,k}
def uA(T:Txt K mg t w):E7 P w K mg base NX 2 t.yi t.rg ["place",K'] BF:=by
 refine T.yo.okl BM λ_ _ _ s H vs Q E z h _=>?_;intro X;let{n,m,rfl,I,O,k}:=h;refine{_,(au<|ay<|aq aY (aE (qO T) z.mo {_} T.AE T.vD.kp T.Bc .nil az (aa DA ae)) HW)
  ,?_}
 exact{_,M,_,M,I,_,M,_,_,M,M,O,k}
def wI(T:Txt K mg t w):E7 P w K mg base NX 2 t.p8 t.jW ["slot",K'] vK:=by
 let{I,z}:=T.g_PLACES;refine T.zH.okl wg λ_ _ _ s H vs Q E O h _=>?_;intro X;let{n,m,rfl,U,Y,h1,k}:=h;refine ah (N7 2<|aE (qO T) O.mo {_} T.AE T.vD.kp T.Bc .nil az (aa DA ae))
   (aw (ay<|cE<|aa M2<|aa (aq bN M2<|aq bf (bD (v:= .int 65536) {_} z {_,M}) HW) ae) ?_)
 intros
 exact{_,M,_,M,U,_,M,_,M,_,M,_,_,M,M,⟨Y,h1⟩,_,_,M,M,(by show 2<=sizeLine;decide),λp Z=>k p Z}
def DY{n:Nat}(h:n<=4096):n<sizeLine:=ZS h (_)
def yw:Sp:=λvs H Q _=>∃n:Int,vs=[.int n]/\0<=n/\n<=1000/\∀H' r A,Ba H H'->H r=none->(∀b∈A,H b=none)->N9 H' r A (List.replicate n.toNat []) n->Q (.ref r) H'
set_option tactic.hygienic true in
def pL(T:Txt K mg t w):E7 P w K mg base NX 1 t.rN t.lP [K'] yw:=by
 refine T.mr.okl yG λ_ _ _ s H vs Q E hr h _=>?_;intro X;let{n,rfl,n0,n1,q}:=h;refine{_,(au<|ay<|pI M (N5.of (M':=["slot"]) (N:=[K']) (N':=[K']) (dsc:=aj gU) M M ∅) (fZ {_} T.my (aa DA ae))<|λ_ _ _ _ _=>jd)
  ,?_}
 refine{_,M,n,M,(),(),λD hD=>?_};refine vk (n:=n.toNat) (lo:=0) (λi ys H3=>Ba H H3/\∃as:List Addr,ys=as.map V.ref/\as.length=i/\(∀b∈as,H b=none/\b≠D/\H3 b=some (.dK []))/\∀(x y:Nat)(b:Rl),as[x]?=some b->as[y]?=some b->x=y)
  {ak hD,[],M,M,(λb hb=>by cases hb),λx y b e=>by simp at e} (λi ys H3 hi zw I=>?_) (λys H3 zw I=>?_)
 .let{s3,as,Z,el,hb,inj}:=zw;intro c U;have cD:c≠D:=(am I U).symm;have O:c∉as:=λz=>by
   have:=(hb c z).2.2;rw[U]at this;cases this
  have nH:H c=none:=by
   cases e:H c with
   |none=>rfl
   |some o=>rw[s3 c o e]at U;cases U
  refine OA.mk hi (by rw[ag cD.symm];exact I) (by rw[Z,Q0];exact cy ()) {bH (s3.trans<|ak U) hD,as++ [c],by rw[Z,Q8];rfl,by rw[Q7,el];rfl,λb a0=>?_,λx y b e1 e2=>?_}
  .rcases Q5.mp a0 with z|z
   .let{h1,h2,h3}:=hb b z;exact{h1,h2,by rwa[ag h2,ag (λw=>O<|by rw[<-w];exact z)]}
   .rw[Q9.mp z];exact{nH,cD,by rw[ag cD,A9]}
  .have Y:∀x:Nat,(as++ [c])[x]?=some b->as[x]?=some b\/(x=as.length/\b=c):=λx e=>by
    rw[XS]at e;split at e
    .exact .inl e
    .rename_i w
     have:x-as.length=0:=by
      rcases QW (x-as.length)with z|z
      .exact z
      .rw[List.getElem?_eq_none (by simp;lia)]at e;cases e
     rw[this]at e;cases e;exact .inr {(),M}
   rcases Y x e1 with f1|⟨f1,g1⟩<;>rcases Y y e2 with f2|⟨f2,g2⟩
   .exact inj x y b f1 f2
   .subst g2;exact VG (Q1 f1) O
   .subst g1;exact VG (Q1 f2) O
   .lia
 .let{s3,as,Z,el,hb,inj}:=zw;refine q H3 D as s3 hD (λb z=>(hb b z).1) {by rw[I,Z],by rw[el];lia,by rw[Zr];lia,λj b kv e1 e2=>?_,λj kv e=>?_,inj,λj kv e p hp=>?_}
  .rw[Zx (Q1 e2)];exact(hb b<|Q1 e1).2.2
  .rw[Zx (Q1 e)];exact Zq
  .rw[Zx (Q1 e)]at hp;cases hp
def pz(t:NZ):Sp:=λvs H Q _=>∃(a:Rl)(k:Int)(st:N4)(d:PK),vs=[.ref a,.int k]/\OG t H a st d/\O0 st/\∀c kv,IsCell d st k c kv->Q (.ref c) H
def mO(t:NZ):Sp:=λvs H Q _=>∃(a:Rl)(st:N4)(d:PK),vs=[.ref a]/\OG t H a st d/\O0 st/\st.kv.length<4096/\∀H' d',OG t H' a st.one d'->d'.n=d.n->Fr (Oh a st d) (Oh a st.one d') H H'->Q .non H'
def mP(t:NZ):Sp:=λvs H Q _=>∃(a:Rl)(st:N4)(d:PK),vs=[.ref a]/\OG t H a st d/\O0 st/\d.n=(st.kv.length:Int)/\∀H' d',OG t H' a st.three d'->d'.n=d.n->Fr (Oh a st d) (Oh a st.three d') H H'->Q .non H'
def uW{z:Int}(I:0<=z)(e:A[z.toNat]?=some c):P4 (A.map V.ref) z=some (.ref c):=by
 let{j,rfl}:=QU I;refine dC ?_;rw[Qo];have e:A[j]?=some c:=e;rw[e];rfl
def cJ(T:Txt K mg t w):E7 P w K mg base NX 3 t.jq t.eK [cC,eR] (pz t):=by
 refine T.Fa.okl pD λ_ _ _ s H vs Q E Z h _=>?_;intro X;let{a,k,st,d,rfl,hb,z,q}:=h;refine ah (N7 2<|aP aK (aH DA M) ai<|λ_ _=>M)
   (ah (N7 3<|aE (uz T) Z.mo {_} T.xO T.rA.kp T.yf .nil az (aa HW<|aa (aD aC {_} T.bG a7 (aa M2 ae)) ae))
   (ah (aM (ar ux O8 (aH DA M)<|ax _)
    (au<|ay<|aP aK M2 O8<|λ_ _=>M)
    aA)
   (ah (N7 4<|aP aK (aH DA M) ai<|λ_ _=>M)
   (aw (ay<|aP aK OX (aE (uz T) Z.mo {_} T.xO T.rA.kp T.yf .nil az (aa HW<|aa (aD aC {_} T.bG a7 (aa OX ae)) ae))<|λ_ _=>M) ?_))))
 intros
 let{dx,O}:=hb.obj;let{s4,s5}:=bM z.pw;let{U,m1,m2}:=qT (k:=k) s4;have t0:∃xs,H d.tb=some (.lst xs)/\P4 xs 0=some (.ref d.r0):=by
  refine{_,hb.tbl,?_};cases st.nxt<;>rfl
 let{xs,hx,x0}:=t0;have a0:∀{Q':VK},Q' (.ref d.tb) H->tFld K (Iq 0) "table" [some (.ref a),some (.int k),none,none,none] H Q':=λ{Q'} q=>{_,M,a,_,dx,_,_,M,O,T.aG,T.aS,gS,q};have la:((d.A0.map V.ref).length:Int)=st.size:=by rw[Q0];exact hb.row0.la
 refine{_,M,a,_,dx,_,_,M,O,T.aG,T.aS,gS,d.tb,_,_,_,M,M,Dz.of hx,x0,?_};refine{_,M,_,M,d.r0,_,M,.inl<|Dz.of hb.row0.lst,k,_,M,by rw[la];lia,?_};dsimp only;rw[la];refine{_,M,_,M,a,_,dx,_,_,M,O,T.aG,T.bQ,Ac,_,_,M,M,_,M,cu (λc=>?_)<|λc=>?_}
 .have c:=VF c;let{x,I}:=de (l:=d.A0) U (by rwa[hb.row0.la]);let{y,e2}:=de (l:=d.C0) U (by rwa[hb.row0.lc]);exact{_,M,_,M,d.r0,_,_,_,M,M,Dz.of hb.row0.lst,uW U I,q x y<|.inl ⟨c,I,e2⟩}
 .have c:¬st.moved<=k%65536%st.size:=λz=>c (VD z);cases e:st.nxt with
  |none=>rw[N4.moved_none e]at c;exact VG U c
  |some m=>
   have hm:=N4.moved_some e;let{pm,_}:=z.nx m e;let{s6,_}:=bM pm;let{Y,n1,n2}:=qT (k:=k) s6;have r1:=hb.row1;rw[e]at r1;have ht:=hb.tbl;rw[e]at ht;have lb:((d.A1.map V.ref).length:Int)=m:=by rw[Q0];exact r1.la
   let{x,I}:=de (l:=d.A1) Y (by rwa[r1.la]);let{y,e2}:=de (l:=d.C1) Y (by rwa[r1.lc]);refine{_,M,a,_,dx,_,_,M,O,T.aG,T.aS,gS,d.tb,_,_,_,M,M,Dz.of ht,M,?_};refine{_,M,_,M,_,M,d.r1,_,M,.inl<|Dz.of r1.lst,k,_,M,by rw[lb];lia,?_};dsimp only;rw[lb];exact{d.r1,_,_,_,M,M,Dz.of r1.lst,uW Y I,q x y<|.inr {m,e,(),I,e2}}
def aW{n:Nat}(h:n<=100000):n<sizeLine:=ZS h (_)
def Me{n:Nat}{z:Int}(I:0<=z)(h1:z<n):Pe n z=some z.toNat:=by unfold Pe;rw[VB I,VB h1]
def xP{kv:Rs}{k:Key}(e:(aL kv)[i]?=some (k,v)):∃n:Int,k=Sum.inl n/\kv[i]?=some (n,v):=by
 unfold aL at e;rw[Qo]at e;cases q:kv[i]? with
 |none=>rw[q]at e;cases e
 |some p=>rw[q]at e;cases e;exact⟨p.1,M,M⟩
def Fu{kv:Rs}{C:List (List<|Int×V)}{p:Int×V}(e:kv[i]?=some p):(kv.take<|i+1).foldl (fv m) C=fv m ((kv.take i).foldl (fv m) C) p:=by
 rw[Qp,e,List.foldl_append];rfl
def fH(T:Txt K mg t w):E7 P w K mg base NX 3 t.gO t.dI [cC] (mO t):=by
 refine T.CI.okl mQ λ_ _ _ s H vs Q E hr h _=>?_;intro X;let{a,st,d,rfl,hb,z,hl,q}:=h;refine ah (aM (ar bX (aD aC {_} T.bG a7 (aa (aH DA M) ae)) ai<|ax _)
    (au pG)
    aA)
   (ah (N7 1<|aP aK (aH DA M) ai<|λ_ _=>M)
   (ah (N7 2<|aP aK (aH DA M) ai<|λ_ _=>M)
   (bU (λx=>(C4 (gu VU M (Ao<|FV Zj Xu PySem.F.type_dict_items Ay<|aP aK HW (aH DA M)<|λ_ _=>M) (yS M<|eX (PZ 3)<|eX (PZ 4) sJ)
    x))) ?_)))
 refine aw (sI (eF hr) (aP aK M2 (aE (uz T) hr.mo {_} T.xO T.rA.kp T.yf .nil az (aa O8<|aa (aD aC {_} T.bG a7 (aa M2 ae)) ae))<|λ_ _=>M) O8 OX M) ?_
 intros
 refine ah (yR jd<|BR HW (aH DA M) tR)
   (ah (mE DA ai Cn)
   (aw (aM (ar bX (aH DA M) (aD aC {_} T.bG a7 (aa HW ae))<|ax _)
    (gj (cm DA (bh<|aa M2 ae) M)
    (au<|cm DA ai M))
    aA) ?_))
 intros
 let{dx,ho}:=hb.obj;have ht:=hb.tbl;cases e:st.nxt with
 |none=>
  rw[e]at ht;refine{_,M,a,_,dx,_,_,M,ho,T.aG,T.aS,gS,d.tb,_,M,.inl<|Dz.of ht,M,_,M,dA M ?_};have e1:st.one=st:=by unfold N4.one;rw[e]
  rw[e1]at q;exact q H d hb M Fr.refl
 |some m=>
  rw[e]at ht;refine{_,M,a,_,dx,_,_,M,ho,T.aG,T.aS,gS,d.tb,_,M,.inl<|Dz.of ht,M,_,M,aZ (λz=>by cases z) ?_};refine{_,M,a,_,dx,_,_,M,ho,T.aG,T.aS,gS,d.tb,_,_,_,M,M,Dz.of ht,M,?_};refine{_,M,a,_,dx,_,_,M,ho,T.aG,T.aS,gS,d.tb,_,_,_,M,M,Dz.of ht,M,?_};let{pm,v0,v1,_}:=z.nx m e;let{s4,s5}:=bM z.pw;let{s6,s7}:=bM pm;have hm:=N4.moved_some e;rw[hm]at ho;have r1:=hb.row1;rw[e]at r1;let{c0,ec}:=de (l:=d.A0) v0 (by rwa[hb.row0.la]);let{kv,ek}:=de (l:=d.C0) v0 (by rwa[hb.row0.lc]);have O:=hb.row0.cell _ _ _ ec ek;have lb:((d.A1.map V.ref).length:Int)=m:=by rw[Q0];exact r1.la
  have a6:c0∉d.A1:=hb.dis c0 (Q1 ec);have an:d.r1≠c0:=cw r1.lst O (by intro z;cases z);have be:=hb.short0 z ek;have ac:∀b,b=d.r1\/b∈d.A1->∃o,H b=some o:=λb hb1=>by
   rcases hb1 with rfl|hb1
   .exact{_,r1.lst}
   .let{_,_,_,_,w}:=r1.has hb1;exact{_,w}
  refine{c0,aL kv,O,_,M,_,M,a,_,dx,_,_,M,ho,T.aG,T.bQ,Ac,d.r0,_,_,_,M,M,Dz.of hb.row0.lst,uW v0 ec,.inr<|.inr<|.inl {M,.inl {_,O}},c0,aL kv,M,M,O,λvw nv=>?_};have b3:upd H vw (RB vw c0) c0=some (.dK<|aL kv):=by rwa[ag (am O nv)]
  refine{vw,c0,aL kv,M,A9,b3,λob=>?_};refine va (λi B H'=>∃v3 v4,B=[some (.ref a),some (.ref d.r0),some (.ref d.r1),v3,v4]/\N9 H' d.r1 d.A1 ((kv.take i).foldl (fv m) d.C1) m/\H' c0=some (.frz ob<|.dK<|aL kv)/\∀b o,b∉d.A1->b≠c0->H b=some o->H' b=some o)
   {_,_,M,?_,A9,λb o _ n2 e=>?_} (λi B H' _ zz=>by let{_,_,_,_,hf,_}:=zz;exact hf) (λi k v p B H' ei zw np=>?_) (λB H' zw=>?_)
  .refine N9.frame (H:=H) r1 λb hb1=>?_;let{o,w}:=ac b hb1;have n2:b≠c0:=by
    rcases hb1 with rfl|hb1
    .exact an
    .exact λz=>a6 (z▸hb1)
   rw[ag n2,ag (am w nv)]
  .rwa[ag n2,ag (am e nv)]
  .let{v3,v4,af,hr,hf,hk}:=zw;subst af;let{n,rfl,en}:=xP ei;have a1:N9 (upd H' p<|.tup [kV (Sum.inl n),v]) d.r1 d.A1 ((kv.take i).foldl (fv m) d.C1) m:=hr.frame λb hb1=>ag λw=>by
    have:∃o,H' b=some o:=by
     rcases hb1 with rfl|hb1
     .exact{_,hr.lst}
     .let{_,_,_,_,w}:=hr.has hb1;exact{_,w}
    let{o,q}:=this;rw[w,np]at q;cases q
   let{n0,n1,n2}:=qT (k:=n) s6;let{c,e1}:=de (l:=d.A1) n0 (by rwa[a1.la]);let{y,e2}:=de (l:=(kv.take i).foldl (fv m) d.C1) n0 (by rwa[a1.lc]);let{y0,e3}:=de (l:=d.C1) n0 (by rwa[r1.lc]);have yl:=Az e3 e2;have bj:=hb.short1 z e e3;have tl:(kv.take i).length<=kv.length:=by rw[Qe];lia
   have hc:=a1.cell _ _ _ e1 e2;have cA:c∈d.A1:=Q1 e1;refine{p,_,M,OO.of A9,M,_,_,M,_,_,M,M,?_};refine{_,M,_,M,_,M,_,M,d.r1,_,M,.inl<|Dz.of a1.lst,n,_,M,by rw[lb];lia,?_};dsimp only;rw[lb];refine{d.r1,_,_,_,M,M,Dz.of a1.lst,uW n0 e1,_,M,c,_,M,PD.k (k:=Sum.inl n) hc (by rw[dM];exact aW ()),?_};rw[jh];have pn:∀b o,H' b=some o->b≠p:=λb o q=>am q np;refine{_,_,M,?_,?_,λb o nA nc q=>?_}
   .rw[Fu en];exact a1.mov s6 e1 e2
   .rwa[ag (λw=>a6<|by rw[w];exact cA),ag (pn _ _ hf)]
   .have q:=hk b o nA nc q;rw[ag (λw=>nA<|by rw[w];exact cA),ag (pn _ _ q)];exact q
  .let{v3,v4,af,hr,hf,hk}:=zw;subst af;rw[dM,Qy]at hr;refine{ob,hf,λb' U=>?_};have hF:∀b,¬Oh a st d b->b∉d.A1/\b≠c0/\b≠a/\b≠d.r0/\b≠d.tb/\b≠d.r1:=λb n=>
    {λq=>n<|.inr<|.inr<|.inr<|.inr<|.inr q,λq=>n<|.inr<|.inr<|.inr<|.inl<|q▸Q1 ec,λq=>n<|.inl q,λq=>n<|.inr<|.inr<|.inl q,λq=>n<|.inr<|.inl q,λq=>n<|.inr (.inr<|.inr<|.inr<|.inl {by rw[e];rfl,q})}
   have a3:∀b o,H b=some o->(∀kvs,o≠ .dK kvs)->b∉d.A1:=λb o q ne w=>(r1.notr w q ne) M;have K1:∀b o,b∉d.A1->b≠c0->H b=some o->upd H' c0 (.dK<|aL kv) b=some o:=λb o n1 n2 q=>by rw[ag n2];exact hk b o n1 n2 q
   have a2:N9 (upd H' c0<|.dK<|aL kv) d.r1 d.A1 (kv.foldl (fv m) d.C1) m:=hr.frame λb hb1=>ag (by
    rcases hb1 with rfl|hb1
    .exact an
    .exact λw=>a6<|w▸hb1)
   have ap:upd H' c0 (.dK<|aL kv) c0=some (.dK<|aL kv):=A9;generalize upd H' c0 (.dK<|aL kv)=H3 at U K1 a2 ap⊢;have Y:=K1 a _ (a3 _ _ ho<|λ_ w=>by cases w) (cw ho O<|by intro w;cases w) ho;have a4:=hb.row0.lst;have I:=K1 d.r0 _ (a3 _ _ a4<|λ_ w=>by cases w) (cw a4 O<|by intro w;cases w) a4;have al:=K1 d.tb _ (a3 _ _ ht<|λ_ w=>by cases w) (cw ht O<|by intro w;cases w) ht;have b4:¬Oh a st d b':=λw=>by
    rcases w with w|w|w|w|⟨_,w⟩|w
    .rw[w,Y]at U;cases U
    .rw[w,al]at U;cases U
    .rw[w,I]at U;cases U
    .let{j,b5,f1,f2,f3}:=hb.row0.has w;by_cases y:b'=c0
     .rw[y,ap]at U;cases U
     .rw[K1 b' _ (hb.dis b' w) y f3]at U;cases U
    .rw[w,a2.lst]at U;cases U
    .let{_,_,_,_,w'}:=a2.has w;rw[w']at U;cases U
   have lA:((d.A0.map V.ref).length:Int)=st.size:=by rw[Q0];exact hb.row0.la
   have bo:∀{x:Rl}{o:HO},H3 x=some o->x≠b':=λq=>am q U;refine{_,M,_,M,a,_,dx,_,_,M,(by rwa[ag (bo Y)]),T.aG,T.bQ,Ac,d.r0,_,_,_,M,M,(by rw[ag (bo I)];exact I),Me v0 (by rwa[lA]),?_};have g0:H3 d.r1=some (.lst<|d.A1.map V.ref):=a2.lst;have ra:d.r0≠a:=cw a4 ho (by intro w;cases w);have b8:d.r0≠d.r1:=(hb.tr1<|by rw[e];rfl).2;have t1:d.tb≠d.r1:=(hb.tr1<|by rw[e];rfl).1;have ta:d.tb≠a:=cw ht ho (by intro w;cases w);have b1:d.r1≠a:=cw r1.lst ho (by intro w;cases w);have a0:∀b∈d.A1,b≠b'/\b≠d.r0/\b≠a:=λb w=>by
    let{_,_,_,_,f}:=a2.has w;exact{bo f,cw f I (by intro w;cases w),cw f Y<|by intro w;cases w}
   have es:(d.A0.map V.ref).set st.mv.toNat (V.ref b')=(d.A0.set st.mv.toNat b').map V.ref:=by rw[List.map_set]
   rw[es];have b2:upd (upd H3 b'<|.dK []) d.r0 (.lst<|(d.A0.set st.mv.toNat b').map V.ref) a=some (.ins t.aU dx<|Oi d.tb st.mv d.n):=by rwa[ag ra.symm,ag (bo Y)]
   refine{_,M,a,_,dx,_,_,M,b2,T.aG,T.bQ,Ac,_,_,M,M,dx,_,b2,pA,?_};rw[KF];have a5:∀{o:HO},upd (upd (upd H3 b'<|.dK []) d.r0<|.lst<|(d.A0.set st.mv.toNat b').map V.ref) a o d.r0=some (.lst<|(d.A0.set st.mv.toNat b').map V.ref):=by
    intro o;rw[ag ra,A9]
   have lS:(((d.A0.set st.mv.toNat b').map V.ref).length:Int)=st.size:=by rw[Q0,QN];exact hb.row0.la
   refine{_,M,a,_,dx,_,_,M,A9,T.aG,T.bQ,Ac,_,M,d.r0,_,M,.inl<|Dz.of a5,M,_,M,?_};rw[lS];have Z:∀{o:HO},N9 (upd (upd (upd H3 b'<|.dK []) d.r0<|.lst<|(d.A0.set st.mv.toNat b').map V.ref) a o) d.r1 d.A1 (kv.foldl (fv m) d.C1) m:=λ{o}=>a2.frame λb hb1=>by
    have:b≠b'/\b≠d.r0/\b≠a:=by
     rcases hb1 with rfl|hb1
     .exact{bo g0,b8.symm,b1}
     .exact a0 b hb1
    rw[ag this.2.2,ag this.2.1,ag this.1]
   have K6:∀{o':HO}(b:Rl)(o:HO),¬Oh a st d b->H b=some o->upd (upd (upd H3 b'<|.dK []) d.r0<|.lst<|(d.A0.set st.mv.toNat b').map V.ref) a o' b=some o:=λ{o'} b o n q=>by
    let{f1,f2,f3,f4,_}:=hF b n;have q3:=K1 b o f1 f2 q;rwa[ag f3,ag f4,ag (bo q3)]
   refine cu (λc=>?_)<|λc=>?_
   .have c:st.mv+1=st.size:=V.int.inj (VF c);refine{_,M,(by show 1<=sizeLine;decide),λtb' nt=>{_,M,a,_,dx,_,M,(by rw[ag (am A9 nt)];exact A9),T.aG,T.aS,pA,?_}};rw[Ng];refine{_,M,a,_,dx,_,M,A9,T.aG,T.bQ,pA,?_};rw[KF,cY];have ba:tb'≠a:=(am A9 nt).symm;have bb:tb'≠d.r1:=(am (Z (o:= .ins t.aU dx<|Oi d.tb (st.mv+1) d.n)).lst nt).symm;refine q _ _ (hb.last z e ek (tb':=tb') (dx:=dx) c A9 (by rw[ag ba];exact A9) bb ?_) M<|λb o n w=>?_
    .refine(Z (o:= .ins t.aU dx<|Oi d.tb (st.mv+1) d.n)).frame λb hb1=>?_;have:b≠a:=by
      rcases hb1 with rfl|hb1
      .exact b1
      .exact(a0 b hb1).2.2
     rw[ag this,ag (λw=>?_)];obtain⟨o,f⟩:∃o,upd (upd (upd H3 b'<|.dK []) d.r0<|.lst<|(d.A0.set st.mv.toNat b').map V.ref) a (.ins t.aU dx<|Oi d.tb (st.mv+1) d.n) b=some o:=by
      rcases hb1 with rfl|hb1
      .exact{_,Z.lst}
      .let{_,_,_,_,f}:=Z.has hb1;exact{_,f}
     rw[w,nt]at f;cases f
    .let{f1,f2,f3,f4,f5,f6}:=hF b n;have k6:=K6 (o':= .ins t.aU dx<|Oi d.tb (st.mv+1) d.n) b o n w;have bt:b≠tb':=am k6 nt;refine{by rwa[ag f3,ag bt],λy=>?_};rcases y with y|y|y|y|⟨_,y⟩|y
     .exact f3 y
     .exact bt y
     .exact f6 y
     .exact f1 y
     .exact f6 y
     .cases y
   .have c:st.mv+1≠st.size:=λw=>c (VD<|by rw[w]);refine q _ _ (hb.one z e ek (b':=b') (dx:=dx) c A9 (by rw[ag ta,ag hb.tr,ag (bo al),al,hb.tbl,e]) a5 ?_ b4 (λj b f1 f2=>?_) Z) M<|λb o n w=>{K6 b o n w,λy=>?_}
    .have n1:b'≠a:=(bo Y).symm;have n2:b'≠d.r0:=(bo I).symm;rw[ag n1,ag n2];exact A9
    .have bA:=Q1 f1;let{_,b5,_,_,f}:=hb.row0.has bA;have nc:b≠c0:=λw=>f2 (hb.row0.inj j _ c0 (w▸f1) ec);have f3:=K1 b _ (hb.dis b bA) nc f;rw[ag (cw f3 Y<|by intro w;cases w),ag (cw f3 I<|by intro w;cases w),ag (bo f3),f3,f]
    .let{f1,f2,f3,f4,f5,f6}:=hF b n;rcases y with y|y|y|y|⟨_,y⟩|y
     .exact f3 y
     .exact f5 y
     .exact f4 y
     .let{j,hj,ej}:=QG (show b∈d.A0.set st.mv.toNat b' from y);rcases dB (Q2.mpr ⟨hj,ej⟩)with⟨_,g⟩|⟨_,g⟩
      .have:=K1 b o f1 f2 w;rw[g,U]at this;cases this
      .exact n<|.inr (.inr<|.inr<|.inl<|Q1 g)
     .exact f6 y
     .exact f1 y
def fI(T:Txt K mg t w):E7 P w K mg base NX 2 t.gP t.dJ [cC] (mP t):=by
 let{Y,I}:=T.g_GREATEST_SIZE;let{a0,O}:=T.g_LEAST_SIZE;refine T.CJ.okl mR λ_ _ _ s H vs Q E hr h _=>?_;intro X;let{a,st,d,rfl,hb,z,hn,q}:=h;refine ah (aM (ar bX (aD aC {_} T.bG a7 (aa (aH DA M) ae)) ai<|ax _)
    (au pG)
    aA)
   (ah (N7 1<|aD aC {_} T.bG a7 (aa (aP aK (aH DA M) ai<|λ_ _=>M) ae))
   (KI (λx y=>aM (PW.pt<|dG (ar C9 (aH DA M) HW<|ax _)<|cI<|ar dz HW (bD (v:= .int 256) {_} I {_,M})<|ax _) x y) ?_))
 refine aw (aO<|bR Qk QJ QK cp (aH DA M)<|aa (aE (pL T) hr.mo {_} T.rF T.mr.kp T.rJ .nil az (aa (aq eI HW ai) ae)) ae) ?_
 intros
 refine Da (λx=>aM (PW.pt<|dG (ar dz (aq eI ai<|aH DA M) HW<|ax _)<|cI<|ar C9 HW (bD (v:= .int 4) {_} O {_,M})<|ax _) x aA) ?_;refine aw (aO<|bR Qk QJ QK cp (aH DA M)<|aa (aE (pL T) hr.mo {_} T.rF T.mr.kp T.rJ .nil az (aa (aq bf HW ai) ae)) ae) ?_
 intros
 let{dx,U}:=hb.obj;have Z:=hb.tbl;cases e:st.nxt with
 |some m=>
  rw[e]at Z;refine{_,M,a,_,dx,_,_,M,U,T.aG,T.aS,gS,d.tb,_,M,.inl<|Dz.of Z,M,_,M,dA M ?_};have e1:st.three=st:=by unfold N4.three;rw[e]
  rw[e1]at q;exact q H d hb M Fr.refl
 |none=>
  rw[e]at Z;refine{_,M,a,_,dx,_,_,M,U,T.aG,T.aS,gS,d.tb,_,M,.inl<|Dz.of Z,M,_,M,aZ (λz=>by cases z) ?_};have la:((d.A0.map V.ref).length:Int)=st.size:=by rw[Q0];exact hb.row0.la
  let{a5,a6}:=bM z.pw;refine{_,M,a,_,dx,_,_,M,U,T.aG,T.aS,gS,d.tb,_,_,_,M,M,Dz.of Z,M,d.r0,_,M,.inl<|Dz.of hb.row0.lst,?_};dsimp only;rw[la];have fin:∀{m:Int}{H':Hp}{r:Rl}{A:Rz},st.three={st with nxt:=some m,mv:=0}->Ba H H'->H r=none->(∀b∈A,H b=none)->N9 H' r A (List.replicate m.toNat []) m->H' d.tb=some (.lst [.ref d.r0])/\Q .non (upd H' d.tb<|.lst<|[.ref d.r0]++ [.ref r]):=λ{m H' r A} e3 s nr nA hr=>by
   have a2:=s _ _ Z;have a1:∀b,Oh a st d b->∃o,H b=some o:=λb w=>hb.dom w;have a3:¬Oh a st d r:=λw=>by let{o,q}:=a1 r w;rw[nr]at q;cases q
   have a4:∀b∈A,¬Oh a st d b:=λb hA w=>by let{o,q}:=a1 b w;rw[nA b hA]at q;cases q
   refine{a2,?_};have sb:=hb.begin (H':=upd H' d.tb<|.lst [.ref d.r0,.ref r]) e (m:=m) (r:=r) (A:=A) (by rw[ag (cw U Z<|by intro w;cases w),s _ _ U,U]) A9 (λb hb1=>?_) (hr.frame λb hb1=>ag ?_) a3 a4
   .rw[<-e3]at sb;refine q _ _ sb M λb o n w=>{?_,λy=>?_}
    .rw[ag (λv=>n<|.inr<|.inl v)];exact s _ _ w
    .rw[e3]at y;rcases y with y|y|y|y|⟨_,y⟩|y
     .exact n<|.inl y
     .exact n<|.inr (.inl y)
     .exact n<|.inr (.inr<|.inl y)
     .exact n<|.inr (.inr<|.inr<|.inl y)
     .have y:b=r:=y;rw[y,nr]at w;cases w
     .rw[nA b y]at w;cases w
   .let{o,q}:=a1 b (by
     rcases hb1 with w|w
     .exact .inr<|.inr (.inl w)
     .exact .inr<|.inr<|.inr<|.inl w)
    have:b≠d.tb:=by
     rcases hb1 with w|w
     .rw[w];exact hb.tr.symm
     .exact hb.row0.notr w Z<|λ_ z=>by cases z
    rw[ag this,s _ _ q,q]
   .rcases hb1 with w|w
    .rw[w];exact λv=>by rw[v,Z]at nr;cases nr
    .exact λv=>by have:=nA b w;rw[v,Z]at this;cases this
  by_cases cA:st.size<d.n/\st.size<256
  .have e3:st.three={st with nxt:=some (2*st.size),mv:=0}:=by
    unfold N4.three;rw[e];exact VB<|by rwa[<-hn]
   refine{_,M,a,_,dx,_,_,M,U,T.aG,T.bE,pB,_,M,_,_,M,M,_,M,jT cA.1 {_,M,_,_,M,M,_,M,jT cA.2 ?_}};refine{_,M,a,_,dx,_,_,M,U,T.aG,T.aS,gS,.inl {M,_,Dz.of Z},_,M,_,_,M,M,.inr {(_),(_)},_,M,(),(),λH' r A s nr nA hr=>?_};let{f1,f2}:=fin (m:=st.size*2) (by rw[e3,Xz]) s nr nA hr;exact{d.tb,_,_,M,M,f1,cy (by show 1<=1000;decide),f2}
  .by_cases cB:4*d.n<st.size/\4<st.size
   .have e3:st.three={st with nxt:=some (st.size/2),mv:=0}:=by
     unfold N4.three;rw[e];exact(VA<|by rwa[<-hn]).trans<|VB (by rwa[<-hn])
    have c1:¬st.size<d.n:=();refine{_,M,a,_,dx,_,_,M,U,T.aG,T.bE,pB,_,M,_,_,M,M,_,M,aZ c1 ?_};refine{_,M,a,_,dx,_,_,M,U,T.aG,T.bE,pB,_,_,M,M,.inl {(_),(_)},_,M,_,_,M,M,_,M,jT cB.1 {_,M,_,_,M,M,_,M,jT cB.2 ?_}};refine{_,M,a,_,dx,_,_,M,U,T.aG,T.aS,gS,.inl {M,_,Dz.of Z},_,M,_,_,M,M,{(_),(_)},_,M,(),(),λH' r A s nr nA hr=>?_};let{f1,f2}:=fin (m:=st.size/2) e3 s nr nA hr;exact{d.tb,_,_,M,M,f1,cy (by show 1<=1000;decide),f2}
   .have e3:st.three=st:=by
     unfold N4.three;rw[e];exact(VA<|by rwa[<-hn]).trans<|VA (by rwa[<-hn])
    rw[e3]at q;have q0:=q H d hb M Fr.refl;by_cases c1:st.size<d.n
    .have c2:¬st.size<256:=λw=>cA ⟨c1,w⟩;have c3:¬4*d.n<st.size:=();refine{_,M,a,_,dx,_,_,M,U,T.aG,T.bE,pB,_,M,_,_,M,M,_,M,jT c1 {_,M,_,_,M,M,_,M,aZ c2 ?_}};exact{_,M,a,_,dx,_,_,M,U,T.aG,T.bE,pB,_,_,M,M,.inl {(_),(_)},_,M,_,_,M,M,_,M,aZ c3 q0}
    .refine{_,M,a,_,dx,_,_,M,U,T.aG,T.bE,pB,_,M,_,_,M,M,_,M,aZ c1 ?_};refine{_,M,a,_,dx,_,_,M,U,T.aG,T.bE,pB,_,_,M,M,.inl {(_),(_)},_,M,_,_,M,M,_,M,?_};by_cases c3:4*d.n<st.size
     .exact jT c3 {_,M,_,_,M,M,_,M,aZ (λw=>cB ⟨c3,w⟩) q0}
     .exact aZ c3 q0
section
variable{d:PK}
def OG.put(h:OG t H a st d)(z:O0 st){kv:Rs}(I:IsCell d st k c kv)(v:V):
  ∃d',OG t (upd H c<|.dK<|aL<|bp kv k v) a {st with kv:=bp st.kv k v} d'/\d'.n=d.n/\∀b,Oh a {st with kv:=bp st.kv k v} d' b↔Oh a st d b:=
 h.setCell z I (BY (h.at I).2.2) (λ_ U=>uV U) (by rw[du,du,VB M,VB M]) λj O=>{by rw[du,VA O],by rw[du,VA O]}
def OG.drop(h:OG t H a st d)(z:O0 st){kv:Rs}(I:IsCell d st k c kv):
  ∃d',OG t (upd H c<|.dK<|aL<|bB kv k) a {st with kv:=bB st.kv k} d'/\d'.n=d.n/\∀b,Oh a {st with kv:=bB st.kv k} d' b↔Oh a st d b:=
 h.setCell z I (pN (h.at I).2.2) (λ_ U=> .inl<|xX U) (by rw[cX,cX,VB M,VB M]) λj O=>{by rw[cX,VA O],by rw[cX,VA O]}
def OG.insM(h:OG t H a st d):∃dx fs,H a=some (.ins t.aU dx fs)/\∀m,NoM m->fs.lookup m=none:=by
 let{dx,z}:=h.obj;exact{dx,_,z,λm I=>Kz I}
def N4.one_kv:st.one.kv=st.kv:=by
 unfold N4.one;cases st.nxt with
 |none=>rfl
 |some m=>show(if _ then _ else _:N4).kv=_;split<;>rfl
def N4.three_kv:st.three.kv=st.kv:=by
 unfold N4.three;cases st.nxt with
 |some m=>rfl
 |none=>show(if _ then _ else _:N4).kv=_;split;rfl;split<;>rfl
set_option tactic.hygienic true in
def Dk{kv:Rs}:((bp kv k v).length:Int)=if(aI kv k).isSome=true then(kv.length:Int)else kv.length+1:=by
 have:=VT List.length (pT (kv:=kv) (k:=k) (v:=v));rw[Q0]at this;split
 .rename_i c;rw[VB c,Q0]at this;lia
 .rename_i c;rw[VA c,Q7,Q0]at this;simp at this;lia
end
def m5(T:Txt K mg t w):E7 P w K mg base NX 4 t.qm t.kh [cC,eR] (vY K t):=by
 refine T.Kf.okl wC λ_ _ _ s H vs Q E I h _=>?_;intro X;let{a,k,F,st,rfl,{d,hb,U,Y,nd,z},h0,q}:=h;refine{_,(au<|ay<|LL<|BS (eF I) HW<|aT DA T.aG T.eJ (cJ T) I.mo T.eL .nil az<|aa HW ae)
  ,?_}
 let{dx,fs,hi,Z}:=hb.insM;refine{_,M,_,M,a,dx,fs,M,hi,Z _ ∅,_,M,a,k,st,d,M,hb,z,λc kv O=>?_};let{hc,_,_}:=hb.at O;refine{c,_,M,OS.k (k:=Sum.inl k) hc,?_};rw[N8,hb.val k c kv O];exact q H F ⟨d,hb,U,Y,nd,z⟩ Fr.refl
def wT(T:Txt K mg t w):E7 P w K mg base NX 4 t.qo t.kj [cC,eR] (vZ K t):=by
 refine T.Kg.okl wD λ_ _ _ s H vs Q E I h _=>?_;intro X;let{a,k,F,st,rfl,{d,hb,Y,Z,nd,z},h0,q1,q2}:=h;refine ah (N7 2<|aT DA T.aG T.eJ (cJ T) I.mo T.eL .nil az<|aa HW ae)
   (ah (aM (qM<|qN (eF I) HW M2)
    (au bW)
    aA)
   (aw (ay<|gV (eF I) M2 HW<|λ_ _=>M) ?_))
 intros
 have hA:OM K t H a F st:=⟨d,hb,Y,Z,nd,z⟩;let{dx,fs,hi,hm}:=hb.insM;refine{_,M,a,dx,fs,M,hi,hm _ ∅,_,M,a,k,st,d,M,hb,z,λc kv O=>?_};let{hc,_,_}:=hb.at O;have U:=hb.val k c kv O;refine{_,M,_,M,c,_,M,OS.k (k:=Sum.inl k) hc,?_};rw[N8,U];cases e:aI st.kv k with
 |none=>
  refine{_,M,b7 ?_};exact(q2 e).elim
 |some v=>
  refine{_,M,bL ?_};refine{_,M,_,M,c,v,M,?_,q1 v e H F hA Fr.refl};have:=OS.k (k:=Sum.inl k) hc;rw[N8,U,e]at this;exact this
def wS(T:Txt K mg t w):E7 P w K mg base NX 4 t.ql t.kg [cC,eR,mu] (vX K t):=by
 refine T.Ke.okl wB λ_ _ _ s H vs Q E hr h _=>?_;intro X;let{a,k,i,F,st,rfl,{d,hb,hF,hn,nd,z},h0,hl,q}:=h;refine ah (aO<|jc DA T.aG T.oP (fH T) hr.mo T.pe .nil az)
   (ah (N7 3<|aT DA T.aG T.eJ (cJ T) hr.mo T.eL .nil az<|aa HW ae)
   (ah (aM (qM<|qN (eF hr) HW O8)
    (au<|mE DA ai Cn)
    aA)
   (ah (sI (eF hr) O8 HW M2 M)
   (aw (aO<|jc DA T.aG T.oQ (fI T) hr.mo T.pf .nil az) ?_))))
 intros
 let{dx,fs,hi,hm}:=hb.insM;refine{_,M,a,dx,fs,M,hi,hm _ ∅,a,st,d,M,hb,z,hl,λH1 Z hb1 e1 U=>?_};let{al,an,ap,b1}:=hb1.insM;have z1:=z.one;refine{_,M,a,al,an,M,ap,b1 _ ∅,_,M,a,k,st.one,Z,M,hb1,z1,λc kv ic=>?_};let{hc,cF,_}:=hb1.at ic;have hv:=hb1.val k c kv ic;have sh:=hb1.short z1 ic;rw[N4.one_kv]at hv sh;let{Y,a0}:=hb1.obj;have na:a≠c:=cw a0 hc (by intro w;cases w);have key:∀(H2:Hp)(n2:Int),OG t H2 a st.one {Z with n:=n2}->Fr (Oh a st d) (Oh a st.one Z) H H2->n2=((bp st.kv k<|.int i).length:Int)->∃O,OG t (upd H2 c<|.dK<|aL<|bp kv k<|.int i) a {st.one with kv:=bp st.one.kv k (.int i)} O/\O.n=((bp st.one.kv k<|.int i).length:Int)/\
   ∀H4 d4,OG t H4 a (N4.three {st.one with kv:=bp st.one.kv k (.int i)}) d4->d4.n=O.n->Fr (Oh a {st.one with kv:=bp st.one.kv k (.int i)} O) (Oh a (N4.three {st.one with kv:=bp st.one.kv k (.int i)}) d4) (upd H2 c<|.dK<|aL<|bp kv k<|.int i) H4->Q .non H4:=λH2 n2 a1 b2 b3=>by
  let{O,I,e3,f3}:=a1.put z1 (kv:=kv) ic (.int i);have a2:O.n=((bp st.one.kv k<|.int i).length:Int):=by rwa[e3,N4.one_kv]
  refine{O,I,a2,λH4 d4 ac e4 af=>?_};rw[N4.one_kv]at ac af f3 a2;refine q H4 _ {d4,ac,λb=>Iff.rfl,?_,?_,?_} ?_
  .show d4.n=((N4.three _).kv.length:Int);rw[N4.three_kv,e4,a2]
  .show((N4.three _).kv.map (·.1)).Nodup;rw[N4.three_kv];exact BY nd
  .exact(z1.kv).three
  .have step:Fr (Oh a st.one Z) (Oh a {st.one with kv:=bp st.kv k (.int i)} O) H2 (upd H2 c<|.dK<|aL<|bp kv k<|.int i):=λb o n w=>{by rwa[ag (λy=>n<|by rw[y];exact cF)],λy=>n<|(f3 b).mp y};exact Fr.trans (λb o n w=>b2 b o (λy=>n<|(hF b).mpr y) w)<|Fr.trans step af
 refine{_,M,_,M,c,_,M,OS.k (k:=Sum.inl k) hc,?_};rw[N8,hv];have kl:(aL kv).length<sizeLine:=by rw[dM];exact DY ()
 cases e:aI st.kv k with
 |none=>
  refine{_,M,b7 ?_};refine{_,M,a,_,Y,_,_,M,a0,T.aG,T.bE,pB,_,_,M,M,Y,_,a0,pA,?_};rw[KG];have a1:=hb1.setN (dx:=Y) (n:=Z.n+1);have b4:upd H1 a (.ins t.aU Y<|Oi Z.tb st.one.moved<|Z.n+1) c=some (.dK<|aL kv):=by rwa[ag na.symm]
  let{O,I,n3,fin}:=key _ _ a1 (λb o n w=>{by rw[ag (λy=>(U b o n w).2<|.inl y)];exact(U b o n w).1,(U b o n w).2}) (by rw[Dk,e,e1,hn];rfl);refine{_,M,_,M,_,M,c,_,M,PD.k (k:=Sum.inl k) b4 kl,?_};rw[jh];let{a3,a4,a5,a6}:=I.insM;exact{_,M,a,a3,a4,M,a5,a6 _ ∅,a,_,O,M,I,z1.kv,n3,fin}
 |some v=>
  refine{_,M,bL ?_};let{O,I,n3,fin}:=key H1 Z.n hb1 U (by rw[Dk,e,e1,hn];rfl);refine{_,M,_,M,_,M,c,_,M,PD.k (k:=Sum.inl k) hc kl,?_};rw[jh];let{a3,a4,a5,a6}:=I.insM;exact{_,M,a,a3,a4,M,a5,a6 _ ∅,a,_,O,M,I,z1.kv,n3,fin}
def uJ(T:Txt K mg t w):E7 P w K mg base NX 5 t.nR t.iS [cC,eR] (tG K t):=by
 refine T.Ib.okl t9 λ_ _ _ s H vs Q E Z h _=>?_;intro X;let{a,k,F,st,rfl,hA,h0,q1,q2}:=h;refine ah (aM (cz<|br<|aT DA T.aG T.zc (m5 T) Z.mo T.zC .nil az<|aa HW ae)
    (au bW)
    aA)
   (ah (aO<|jc DA T.aG T.oP (fH T) Z.mo T.pe .nil az)
   (ah (aO<|bR Zj X3 XJ za (aT DA T.aG T.eJ (cJ T) Z.mo T.eL .nil az<|aa HW ae)<|aa HW ae)
   (ah (mE DA ai Mg)
   (aw (aO<|jc DA T.aG T.oQ (fI T) Z.mo T.pf .nil az) ?_))))
 intros
 let{dx,fs,hi,hm}:=hA.ins;refine{_,M,a,dx,fs,M,hi,hm _ ∅,_,M,a,k,F,st,M,hA,h0,λH0 F0 a0 a1=>?_};cases e:aI st.kv k with
 |none=>
  refine{_,M,b7 ?_};exact(q2 e).elim
 |some v=>
  refine{_,M,bL ?_};let{d,hb,hF,hn,nd,z}:=a0;let{dx,fs,hi,hm}:=hb.insM;let{hl,q1}:=q1 (by rw[e];rfl);refine{_,M,a,dx,fs,M,hi,hm _ ∅,a,st,d,M,hb,z,hl,λH1 d1 hb1 e1 a2=>?_};let{a3,a4,a5,a6}:=hb1.insM;have z1:=z.one;refine{_,M,a,a3,a4,M,a5,a6 _ ∅,_,M,a,k,st.one,d1,M,hb1,z1,λc kv ic=>?_};let{hc,cF,_}:=hb1.at ic;have hv:=hb1.val k c kv ic;rw[N4.one_kv,e]at hv;let{d3,I,e3,f3}:=hb1.drop z1 ic;rw[N4.one_kv]at I f3;refine{.inr<|.inr<|.inl {M,.inl {_,hc}},_,M,c,_,Sum.inl k,v,M,M,hc,N8.trans hv,?_};rw[oR];let{O,U}:=I.obj;refine{_,M,a,_,O,_,_,M,U,T.aG,T.bE,pB,_,_,M,M,O,_,U,pA,?_};rw[KG];have Y:=I.setN (dx:=O) (n:=d3.n-1);let{ac,af,al,an}:=Y.insM;have dl:=xY nd (sH e);have n4:d3.n-1=((bB st.kv k).length:Int):=by rw[e3,e1,hn];lia
  refine{_,M,a,ac,af,M,al,an _ ∅,a,_,_,M,Y,z1.kv,n4,λH5 d5 ap e5 b1=>?_};refine q1 H5 _ {d5,ap,λb=>Iff.rfl,?_,?_,z1.kv.three} ?_
  .show d5.n=((N4.three _).kv.length:Int);rwa[N4.three_kv,e5]
  .show((N4.three _).kv.map (·.1)).Nodup;rw[N4.three_kv];exact pN nd
  .refine a1.trans<|Fr.trans (λb o n w=>a2 b o (λy=>n<|(hF b).mpr y) w) (Fr.trans (λb o n w=>?_) b1);exact{by rwa[ag (λy=>n<|.inl y),ag (λy=>n<|by rw[y];exact cF)],λy=>n<|(f3 b).mp y}
def lC(T:Txt K mg t w):E7 P w K mg base NX 1 t.nP t.iQ [cC] (tE K t):=by
 refine T.HZ.okl tZ λ_ _ _ s H vs Q E Z h _=>?_;intro X;let{a,F,st,rfl,{d,hb,hF,hn,nd,z},q}:=h;refine{_,(au<|ay<|pI M (N5.of (M':=["row"]) (N:=[cC]) (N':=[cC]) (dsc:=aj eP) M M ∅) (dZ<|aH DA M)<|λ_ _ _ _ _=>(aD (xi K M) {_} T.bG a7 (aa DA ae)))
  ,?_}
 have hA:OM K t H a F st:=⟨d,hb,hF,hn,nd,z⟩;let{dx,ho}:=hb.obj;have a0:∃xs,H d.tb=some (.lst xs)/\xs.length=st.rows.length/\∀(i:Nat)(x:V),xs[i]?=some x->∃r U,x= .ref r/\H r=some (.lst U)/\st.rows[i]?=some (U.length:Int):=by
  have I:=hb.tbl;have l0:((d.A0.map V.ref).length:Int)=st.size:=by rw[Q0];exact hb.row0.la
  unfold N4.rows;have r1:=hb.row1;cases e:st.nxt with
  |none=>
   rw[e]at I;refine{_,I,M,λi x hx=>?_};cases i with
   |zero=>cases hx;exact{d.r0,_,M,hb.row0.lst,by rw[l0];rfl}
   |succ j=>simp at hx
  |some m=>
   rw[e]at I r1;have l1:((d.A1.map V.ref).length:Int)=m:=by rw[Q0];exact r1.la
   refine{_,I,M,λi x hx=>?_};cases i with
   |zero=>cases hx;exact{d.r0,_,M,hb.row0.lst,by rw[l0];rfl}
   |succ j=>
    cases j with
    |zero=>cases hx;exact{d.r1,_,M,r1.lst,by rw[l1];rfl}
    |succ j=>simp at hx
 let{xs,I,lx,look}:=a0;refine{_,M,a,_,dx,_,_,M,ho,T.aG,T.aS,gS,d.tb,M,{_,Dz.of I},λD hD=>?_};refine jk (K:=K) (a:=d.tb) (xs:=xs) (λi ys H3=>H3=upd H D (.lst ys)/\ys=(st.rows.take i).map V.int) ⟨M,M⟩ (λi ys H3 _ w=>Dz.of<|by rw[w.1,ag (am I hD)];exact I) (λi x ys H3 hx w O=>?_)<|λys H3 w O=>?_
 .let{Y,e2}:=w;let{r,U,rfl,Z,hs}:=look i x hx;have hi:i<xs.length:=(Q2.mp hx).1;have a1:H3 r=some (.lst U):=by rwa[Y,ag (am Z hD)]
  refine{_,M,r,_,M,.inl<|Dz.of a1,OA.mk hi O ?_ {?_,?_}}
  .rw[e2,Q0,Qe];have:st.rows.length<=2:=by(unfold N4.rows;cases st.nxt<;>simp)
   exact cy ()
  .rw[Y,cY]
  .rw[e2,Qp,hs,Q8];rfl
 .let{Y,e2}:=w;rw[lx,Qy]at e2;subst e2;subst Y;exact q _ F D (hA.new hD) (Fr.of_same<|ak hD) hD (hA.out hD) A9
def Lx{sh:Int}:b6 ("kept":Str) (.int n) (b6 ("shifted":Str) (.int sh)<|b6 ("table":Str) (.ref tb) [])=Oi tb sh n:=by
 have z:b6 ("table":Str) (.ref tb) []=[(("table":Str),V.ref tb)]:=M;rw[z,b6,VA ∅,b6,b6,VA ∅,b6,VA ∅,b6];rfl
def uI(T:Txt K mg t w):E7 P w K mg base NX 2 t.nQ t.iR [cC] (tF K t):=by
 let{I,z}:=T.g_LEAST_SIZE;refine T.Ia.okl t7 λ_ _ _ s H vs Q E O h _=>?_;intro X;let{a,dx,rfl,ha,hd,q}:=h;refine ah (cm DA (bh<|aa (aE (pL T) O.mo {_} T.rF T.mr.kp T.rJ .nil az (aa (bD (v:= .int 4) {_} z {_,M}) ae)) ae) M)
   (ah (cm DA ai M)
   (aw (cm DA ai M) ?_))
 intros
 refine{4,M,(_),(_),λH' r A s nr nA O=>{(by show 1<=sizeLine;decide),λtb Z=>?_}};have U:=s _ _ ha;have Y:a≠tb:=am U Z;refine{_,M,a,_,dx,[],M,(by rwa[ag Y]),T.aG,T.aS,(by show 0<1000;decide),?_};refine{_,M,a,_,dx,_,M,A9,T.aG,T.bQ,?_,?_}
 .show 1<1000;decide
 refine{_,M,a,_,dx,_,M,A9,T.aG,T.bE,?_,?_}
 .have h1:=kY (f:="shifted") (v:= .int 0) (b6 "table" (.ref tb) []);have h2:=kY (f:="table") (v:= .ref tb) [];have h3:([]:RX).length=0:=M;lia
 rw[Lx,cY,cY];have a0:tb≠r:=(am O.lst Z).symm;have sb:=OG.fresh (t:=t) (H:=upd (upd H' tb<|.lst [.ref r]) a<|.ins t.aU dx<|Oi tb 0 0) (a:=a) (tb:=tb) (r:=r) (A:=A) (dx:=dx) A9 (by rw[ag Y.symm];exact A9) (O.frame λb hb1=>?_) a0
 .refine q _ _ {_,sb,λb=>Iff.rfl,M,Zq,O0.new} λb o n w=>?_;have n1:b≠a:=λy=>n (.inl y);have w1:=s _ _ w;have n2:b≠tb:=am w1 Z;refine{by rwa[ag n1,ag n2],λy=>?_};rcases y with y|y|y|y|⟨y,_⟩|y
  .exact n1 y
  .exact n2 y
  .have y:b=r:=y;rw[y,nr]at w;cases w
  .rw[nA b y]at w;cases w
  .cases y
  .cases y
 .have:∃o,H' b=some o:=by
   rcases hb1 with rfl|hb1
   .exact{_,O.lst}
   .let{_,_,_,_,w}:=O.has hb1;exact{_,w}
  let{o,w}:=this;have n2:b≠tb:=am w Z;have n1:b≠a:=λy=>by
   rcases hb1 with y2|y2
   .rw[<-y2,y,ha]at nr;cases nr
   .have:=nA b y2;rw[y,ha]at this;cases this
  rw[ag n1,ag n2]
def lB(T:Txt K mg t w):E7 P w K mg base NX 3 t.nN t.iO [cC,"place"] (tx K t):=by
 refine T.HX.okl tX λ_ _ _ s H vs Q E I h _=>?_;intro X;let{a,p,F,st,rfl,O,Y,p1,q}:=h;refine ah (N7 2<|aD (ya M) {_} T.zP rp (aa (jc DA T.aG T.xb (lC T) I.mo T.xk .nil az) ae))
   (aw (ay<|aP jS (aE (wI T) I.mo {_} T.Jj T.zH.kp T.JQ .nil az (aa (aE (uA T) I.mo {_} T.Ex T.yo.kp T.E3 .nil az (aa HW<|aa M2 ae))<|aa M2 ae)) ai<|λ_ _=>M) ?_)
 intros
 have z:O0 st:=let⟨_,_,_,_,_,z⟩:=O;z
 let{s4,s5}:=bM (fA z);let{x,y,R}:=ut (fA z);let{dx,fs,hi,hm}:=O.ins;refine{_,M,a,dx,fs,M,hi,hm _ ∅,a,F,st,M,O,λH1 F1 l sA fr nl oF hl=>{l,st.rows,M,Dz.of hl,?_,λM' hM U=>?_}}
 .unfold N4.rows;cases st.nxt<;>simp
 .have eM:=Gr hM U;subst eM;refine{_,M,_,M,p,_,M,Y,(),_,M,_,_,M,Qx _ (),(),(),λtp Z=>?_};rw[yt R Y p1];exact{tp,_,_,_,M,M,OO.of A9,M,q _ F1 (sA.new Z)<|fr.trans (Fr.of_same<|ak Z)}
set_option genInjectivity false in
structure Rw where
 r:Addr
 A:List Addr
 C:List (List<|Int×V)
 s:Int
noncomputable def eE(st:N4)(d:PK):List Rw:=match st.nxt with|none=> [⟨d.r0,d.A0,d.C0,st.size⟩]|some m=> [⟨d.r0,d.A0,d.C0,st.size⟩,⟨d.r1,d.A1,d.C1,m⟩]
def OB(k:Int):Int:=tz (k%65536)
def sN{st:Int}{x:Nat}(h:0<st):x<oZ lo hi st↔lo+(x:Int)*st<hi:=by
 unfold oZ;rw[mX h];by_cases c:lo<hi
 .rw[VB c];have a:0<=(hi-lo-1)/st:=XG () ();have e:(x:Int)<=(hi-lo-1)/st↔(x:Int)*st<=hi-lo-1:=Int.le_ediv_iff_mul_le h;lia
 .rw[VA c];have:0<=(x:Int)*st:=Xn () ();lia
def eV{kv:Rs}(nd:(kv.map (·.1)).Nodup)(h:(k,v)∈kv):aI kv k=some v:=by
 induction kv with
 |nil=>cases h
 |cons p r z=>
  rw[Qt,QQ]at nd;by_cases e:p.1=k
  .rw[bi e];rcases Qb.mp h with h|h
   .rw[<-h]
   .exact VG (QO (f:=(·.1)) h)<|by rw[<-e]at*;exact nd.1
  .rw[bc e];rcases Qb.mp h with h|h
   .rw[<-h]at e;exact VG M e
   .exact z nd.2 h
def gZ{kv:Rs}(h:aI kv k=some v):(k,v)∈kv:=by
 induction kv with
 |nil=>rw[kK]at h;cases h
 |cons p r z=>
  by_cases e:p.1=k
  .rw[bi e]at h;cases h;rw[<-e];exact Q6
  .rw[bc e]at h;exact Qa _<|z h
def sR{d:PK}{ri:Nat}{R:Rw}{kv:Rs}(hb:OG t H a st d)(Y:(eE st d)[ri]?=some R)(hk:R.C[j]?=some kv)(Z:(k,v)∈kv):
  k%65536%R.s=(j:Int)/\(kv.map (·.1)).Nodup/\∃c,IsCell d st k c kv:=by
 have U:∀{A:Rz}{C:List (List<|Int×V)}{r:Rl}{s:Int}{x:Nat},N9 H r A C s->C[x]?=some kv->∃b,A[x]?=some b:=λ{A C r s x} ro h=>by
  have h1:=(Q2.mp h).1;have h2:=ro.la;have h3:=ro.lc;exact{A[x]'(),Q3 _}
 have a0:kv≠[]:=λz=>by rw[z]at Z;cases Z
 have O:=hb.row1;have zero:(j:Int)<st.moved->d.C0[j]?=some kv->False:=λh1 h2=>a0 (hb.old _ _ h2 h1);unfold eE at Y;cases en:st.nxt with
 |none=>
  rw[en]at Y;cases ri with
  |zero=>
   cases Y;have I:=hb.row0.home _ _ hk _ Z;let{b,eb}:=U hb.row0 hk;refine{I,hb.row0.ndk _ _ hk,b,.inl {?_,by rwa[I],by rwa[I]}};rw[I,N4.moved_none en];lia
  |succ j=>simp at Y
 |some m=>
  rw[en]at Y O;cases ri with
  |zero=>
   cases Y;have I:=hb.row0.home _ _ hk _ Z;let{b,eb}:=U hb.row0 hk;refine{I,hb.row0.ndk _ _ hk,b,.inl {?_,by rwa[I],by rwa[I]}};rw[I];exact Int.not_lt.mp λy=>zero y hk
  |succ j'=>
   cases j' with
   |zero=>
    cases Y;have I:=O.home _ _ hk _ Z;let{b,eb}:=U O hk;exact{I,O.ndk _ _ hk,b,.inr {_,en,hb.new _ _ hk _ Z,by rwa[I],by rwa[I]}}
   |succ j=>simp at Y
noncomputable def mU(C:List (List<|Int×V))(s m:Int)(x:Nat):List (Int×V):=C.getD (s+(x:Int)*m).toNat []
def IE(s m:Int)(R:Rw):List (Int×V):=(List.range<|oZ s R.s m).flatMap (mU R.C s m)
def LX(st:N4)(d:PK)(s:Int):List (Int×V):=(eE st d).flatMap (IE s st.low)
def qK{d:PK}(z:O0 st){R:Rw}(h:R∈eE st d):R.s=st.low\/R.s=2*st.low:=by
 unfold eE at h;unfold N4.low;cases e:st.nxt with
 |none=>rw[e]at h;rw[Q9.mp h];exact .inl M
 |some m=>
  rw[e]at h;let{_,_,_,nx}:=z.nx m e;have p:=bM z.pw;show R.s=(if m<st.size then m else st.size)\/R.s=2*(if m<st.size then m else st.size);rcases Qb.mp h with h|h
  .rw[h];show st.size=_\/st.size=_;split<;>lia
  .rw[Q9.mp h];show m=_\/m=_;split<;>lia
def Dj{x r:Int}(h:r=m\/r=2*m):x%r%m=x%m:=by
 rcases h with rfl|rfl
 .exact Int.emod_emod_of_dvd _<|Int.dvd_refl _
 .exact Int.emod_emod_of_dvd _ {2,()}
def Je{d:PK}{s:Int}(hb:OG t H a st d)(z:O0 st)(nd:(st.kv.map (·.1)).Nodup)(s0:0<=s)(s1:s<st.low)(k:Int)(v:V):
  (k,v)∈LX st d s↔(k,v)∈st.kv/\k%65536%st.low=s:=by
 have lp:=bM (fA z);constructor
 .intro h;let{R,I,h}:=ZJ.mp h;let{x,hx,h}:=ZJ.mp h;have hx:=Vq.mp hx;have U:=qK z I;let{ri,Y,Z}:=QG I;have Z:(eE st d)[ri]?=some R:=by rw[Q3 Y,Z]
  unfold mU at h;have xs:=(sN ()).mp hx;have xm:0<=(x:Int)*st.low:=Xn () ();cases ek:R.C[(s+(x:Int)*st.low).toNat]? with
  |none=>rw[Qn,ek]at h;cases h
  |some kv=>
   rw[Qn,ek]at h;have h:(k,v)∈kv:=h;let{h1,h2,c,O}:=sR hb Z ek h;refine{gZ (by rw[<-hb.val k c kv O];exact eV h2 h),?_};rw[<-Dj U,h1,XX (),Int.add_mul_emod_self_right];exact Int.emod_eq_of_lt s0 s1
 .rintro ⟨h,hs⟩;let{c,kv,ic}:=hb.cell z k;have hv:=hb.val k c kv ic;rw[eV nd h]at hv;have hm:=gZ hv;have fin:∀R:Rw,R∈eE st d->R.C[(k%65536%R.s).toNat]?=some kv->(k,v)∈LX st d s:=λR I hk=>by
   have U:=qK z I;have j0:0<=k%65536%R.s:=Qx _ ();have j1:k%65536%R.s<R.s:=QD _ ();have jm:=Dj (x:=k%65536) U;rw[hs]at jm;have dv:=XH (k%65536%R.s) st.low;have q0:0<=k%65536%R.s/st.low:=XG j0 ();have eq:s+((k%65536%R.s/st.low).toNat:Int)*st.low=k%65536%R.s:=by
    rw[XX q0,Xz];lia
   refine ZJ.mpr {R,I,ZJ.mpr {(k%65536%R.s/st.low).toNat,Vq.mpr<|(sN ()).mpr (by rwa[eq]),?_}};unfold mU;rwa[eq,Qn,hk]
  rcases ic with⟨_,_,O⟩|⟨m,en,_,_,O⟩
  .refine fin ⟨d.r0,d.A0,d.C0,st.size⟩ ?_ O;unfold eE;cases st.nxt<;>simp
  .refine fin ⟨d.r1,d.A1,d.C1,m⟩ ?_ O;unfold eE;rw[en];simp
def mI{C:List (List<|Int×V)}{s:Int}{x:Nat}{p:Int×V}(h:p∈mU C s m x):∃kv,C[(s+(x:Int)*m).toNat]?=some kv/\p∈kv:=by
 unfold mU at h;cases z:C[(s+(x:Int)*m).toNat]? with
 |none=>rw[Qn,z]at h;cases h
 |some kv=>
  rw[Qn,z]at h;exact⟨kv,M,h⟩
def Eo{d:PK}{s:Int}(hb:OG t H a st d)(z:O0 st)(s0:0<=s):((LX st d s).map (·.1)).Nodup:=by
 have lp:=bM (fA z);refine QM.mpr ?_;have row:∀R∈eE st d,(IE s st.low R).Pairwise (λp q=>p.1≠q.1):=λR U=>by
  let{ri,Y,I}:=QG U;have I:(eE st d)[ri]?=some R:=by rw[Q3 Y,I]
  refine List.pairwise_flatMap.mpr {λx _=>?_,?_}
  .unfold mU;cases Z:R.C[(s+(x:Int)*st.low).toNat]? with
   |none=>rw[Qn,Z];exact VY
   |some kv=>
    rw[Qn,Z];show List.Pairwise _ kv;cases ke:kv with
    |nil=>exact VY
    |cons p r=>
     have:=(sR hb I Z (k:=p.1) (v:=p.2)<|by rw[ke];exact Q6).2.1;rw[ke]at this;exact QM.mp this
  .refine(List.pairwise_lt_range (n:=oZ s R.s st.low)).imp λ{x y} a3 p O q hq e=>?_;let{kv,h1,h2}:=mI O;let{kv',h3,h4}:=mI hq;have a1:=(sR hb I h1 h2).1;have a2:=(sR hb I h3 h4).1;have m1:(x:Int)*st.low<(y:Int)*st.low:=Int.mul_lt_mul_of_pos_right () ();have m0:0<=(x:Int)*st.low:=Xn () ();rw[e,a2]at a1;lia
 refine List.pairwise_flatMap.mpr {row,?_};have a0:=hb.row1;unfold eE;cases en:st.nxt with
 |none=>exact Zh _ _
 |some m=>
  refine ZB.mpr {λR U p O q hq e=>?_,Zh _ _};rw[Q9.mp U]at hq;let{x,_,O}:=ZJ.mp O;let{y,_,hq}:=ZJ.mp hq;let{kv,h1,h2}:=mI O;let{kv',h3,h4}:=mI hq;have n1:=hb.new _ _ h3 _ h4;have n2:=hb.row0.home _ _ h1 _ h2;have n3:¬((s+(x:Int)*st.low).toNat:Int)<st.moved:=λc=>by
   have:=hb.old _ _ h1 c;rw[this]at h2;cases h2
  rw[<-e,n2]at n1;exact n3 n1
structure Ly(X:Rz)(H H':Hp)(l:Rl)(ts:List Tp)(L:Rs):Prop where
 sm:∀c o,c∉X->H c=some o->H' c=some o
 li:H' l=some (.lst<|ts.map λe=>V.ref e.p)
 tu:∀e∈ts,H' e.p=some (.tup [.int (OB e.k),.int e.k,e.v])/\H e.p=none
 eq:ts.map Tp.kv=L
section
variable{X:Rz}{H'':Hp}{l:Rl}{L:Rs}
def Ly.same(h:Ly X H H' l ts L)(s:Ba H' H''):Ly X H H'' l ts L:={λc o n e=>s _ _<|h.sm c o n e,s _ _ h.li,λe he=>{s _ _ (h.tu e he).1,(h.tu e he).2},h.eq}
def Ly.add(h:Ly X H H' l ts L)(s:Ba H' H'')(np:H' p=none)(O:H l=none)(U:∀c∈X,∃o,H c=some o/\∃o',H' c=some o')(Y:H'' p=some (.tup [.int (OB k),.int k,v])):
  Ly X H (upd H'' l<|.lst<|ts.map (λe=>V.ref e.p)++ [.ref p]) l (ts++ [⟨p,k,v⟩]) (L++ [(k,v)]):=by
 have pl:p≠l:=λz=>by rw[z,h.li]at np;cases np
 have old:H p=none:=by
  cases q:H p with
  |none=>rfl
  |some o=>
   by_cases c:p∈X
   .let{_,_,o',I}:=U p c;rw[np]at I;cases I
   .rw[h.sm _ _ c q]at np;cases np
 have h2:=h.same s;refine{λc o n e=>?_,by rw[A9,Q8];rfl,λe he=>?_,by rw[Q8,h.eq];rfl}
 .rw[ag λz=>by rw[z,O]at e;cases e];exact h2.sm c o n e
 .rcases Q5.mp he with he|he
  .have q:=h2.tu e he;exact{by rw[ag λz=>by rw[z,h2.li]at q;cases q.1];exact q.1,q.2}
  .rw[Q9.mp he];exact{by rwa[ag pl],old}
def Ly.freeze{o':HO}(h:Ly [] H H' l ts L)(hb:H b=some o)(bl:b≠l):Ly [b] H (upd H' b o') l ts L:=
 {λc o n e=>by rw[ag λz=>n (by rw[z];exact Q6)];exact h.sm c o (by simp) e,by rw[ag bl.symm];exact h.li,
  λe he=>{by rw[ag λz=>by have:=(h.tu e he).2;rw[z,hb]at this;cases this];exact(h.tu e he).1,(h.tu e he).2},h.eq}
def Ly.thaw(h:Ly [b] H H' l ts L)(hb:H b=some o)(bl:b≠l):Ly [] H (upd H' b o) l ts L:=by
 refine{λc o' _ e=>?_,by rw[ag bl.symm];exact h.li,λe he=>{by rw[ag λz=>by have:=(h.tu e he).2;rw[z,hb]at this;cases this];exact(h.tu e he).1,(h.tu e he).2},h.eq};by_cases z:c=b
 .rwa[z,A9,<-hb,<-z]
 .rw[ag z];exact h.sm c o' (by simpa using z) e
end
def oo(K:Wi)(t:NZ):Sp:=λvs H Q _=>∃(a:Rl)(p:Int)(F:Ro)(st:N4),vs=[.ref a,.int p]/\OM K t H a F st/\0<=p/\p<65536/\st.kv.length<4096/\
 ∀(H':Hp)(F':Ro)(l:Rl)(ts:List Tp),OM K t H' a F' st->Fr F F' H H'->¬F' l->H' l=some (.lst<|ts.map λe=>V.ref e.p)->(∀e∈ts,H' e.p=some (.tup [.int (OB e.k),.int e.k,e.v])/\¬F' e.p)->
  (∀k v,(k,v)∈ts.map Tp.kv↔(k,v)∈st.kv/\k%65536%st.low=tz p%st.low)->((ts.map Tp.kv).map (·.1)).Nodup->Q (.ref l) H'
def Li{d:PK}(hb:OG t H a st d)(sz:O0 st):∃xs,H d.tb=some (.lst xs)/\xs.length=(eE st d).length/\(eE st d).length<=2/\
  ∀(i:Nat)(x:V),xs[i]?=some x->∃R:Rw,x= .ref R.r/\(eE st d)[i]?=some R/\N9 H R.r R.A R.C R.s/\R.s<=256/\∀(j:Nat)(kv:Rs),R.C[j]?=some kv->kv.length<=st.kv.length:=by
 have pw:=bM sz.pw;have z:=hb.tbl;have r1:=hb.row1;unfold eE;cases e:st.nxt with
 |none=>
  rw[e]at z;refine{_,z,M,by simp,λi x hx=>?_};cases i with
  |zero=>cases hx;exact{_,M,M,hb.row0,pw.2,λj kv h=>hb.short0 sz h}
  |succ j=>simp at hx
 |some m=>
  rw[e]at z r1;refine{_,z,M,by simp,λi x hx=>?_};cases i with
  |zero=>cases hx;exact{_,M,M,hb.row0,pw.2,λj kv h=>hb.short0 sz h}
  |succ j=>
   cases j with
   |zero=>cases hx;exact{_,M,M,r1,(bM (sz.nx m e).1).2,λj kv h=>hb.short1 sz e h}
   |succ j=>simp at hx
def GR{RR:List Rw}{f:Rw->List (Int×V)}{R:Rw}(e:RR[i]?=some R):(RR.take<|i+1).flatMap f=(RR.take i).flatMap f++f R:=by
 rw[Qp,e,Xe];simp
def Cp{f:Nat->List (Int×V)}{x:Nat}:(List.range<|x+1).flatMap f=(List.range x).flatMap f++f x:=by
 rw[List.range_succ,Xe];simp
def DQ{kv:Rs}{p:Int×V}(e:kv[i]?=some p):kv.take (i+1)=kv.take i++ [p]:=by
 rw[Qp,e];rfl
def oK(T:Txt K mg t w):E7 P w K mg base NX 3 t.g8 t.d7 [cC,"place"] (oo K t):=by
 refine T.DG.okl ox λ_ _ _ s H vs Q E hr h _=>?_;intro X;let{a,p,F,st,rfl,hA,p0,p1,b2,q}:=h;refine ah (N7 2<|aD (ya M) {_} T.zP rp (aa (jc DA T.aG T.xb (lC T) hr.mo T.xk .nil az) ae))
   (ah (N7 3<|bh ae)
   (bU (λx=>(gu VU M (dZ<|aH DA M) (PZ 4)
    x)) ?_))
 refine Da (λx=>(gu VU M (Ed {_} T.my (aa (aE (uA T) hr.mo {_} T.Ex T.yo.kp T.E3 .nil az (aa HW<|aa M2 ae))<|aa (aD aC {_} T.bG a7 (aa OX ae))<|aa M2 ae)) (PZ 5)
    x)) ?_
 refine Da (λx=>(C4 (gu VU M (Ao<|FV Zj Xu PySem.F.type_dict_items Ay<|aP aK OX PP<|λ_ _=>M) (yS M<|eX (PZ 6)<|eX (PZ 7) sJ)
    x))) ?_
 refine aw (aO<|bR Qk QJ QK cp O8<|aa (cE<|aa (aE (As T) hr.mo {_} T.LU T.CF.kp T.Mx .nil az (aa Pg ae))<|aa Pg<|aa RH ae) ae) ?_
 intros
 refine aw (ay O8) ?_
 intros
 have z:O0 st:=let⟨_,_,_,_,_,z⟩:=hA;z
 let{s4,s5}:=bM (fA z);let{dx,fs,hi,hm}:=hA.ins;refine{_,M,a,dx,fs,M,hi,hm _ ∅,a,F,st,M,hA,λH1 F1 lr sA fr b3 oF a4=>{lr,st.rows,M,Dz.of a4,?_,λM' hM a5=>?_}}
 .unfold N4.rows;cases st.nxt<;>simp
 have eM:=Gr hM a5;subst eM;have sB:=sA;let{d,hb,hF,hn,nd,_}:=sB;let{a6,ho}:=hb.obj;let{xs,ht,lx,l2,look}:=Li hb z;have g0:0<=tz p%st.low:=Qx _ ();have g1:tz p%st.low<st.low:=QD _ ();have Y:st.low>0:=();refine{Qc _,λl nl=>?_};have y0:Ly [] H1 (upd H1 l<|.lst []) l [] []:={λc o _ e=>ak nl _ _ e,A9,(λe he=>by cases he),M};generalize upd H1 l (.lst [])=H2 at y0⊢;generalize hs:tz p%st.low=O at g0 g1 q;refine{_,M,a,_,a6,_,_,M,y0.sm _ _ (by simp) ho,T.aG,T.aS,gS,d.tb,M,{_,Dz.of<|y0.sm _ _ (by simp) ht},xT (K:=K) (a:=d.tb) (xs:=xs) (λi B H'=>∃(v4 v5 Z v7:RW)(ts:List Tp),B=[some (.ref a),some (.int p),some (.int st.low),some (.ref l),v4,v5,Z,v7]/\Ly [] H1 H' l ts (((eE st d).take i).flatMap<|IE O st.low)/\ts.length<=8192*i)
  {_,_,_,_,[],M,y0,by simp} (λi B H' _ w=>by let{_,_,_,_,_,_,c,_}:=w;exact Dz.of<|c.sm _ _ (by simp) ht) (λi x B H' hx w=>?_) (λB H' w=>?_)}
 .let{v4,v5,Z,v7,ts,I,c,lt}:=w;subst I;let{R,rfl,hR,ro,b1,ac}:=look i x hx;have hr:=c.sm _ _ (by simp) ro.lst;have iL:=(Q2.mp hx).1;have lA:((R.A.map V.ref).length:Int)=R.s:=by rw[Q0];exact ro.la
  have rl:=qK z (Q1 hR);have a1:∀y:Nat,y<oZ O R.s st.low->y<2:=λy hy=>by
   have:=(sN Y).mp hy;refine Nat.lt_of_not_le λy2=>?_;have:(2:Int)*st.low<=(y:Int)*st.low:=Vg () ();lia
  have b4:oZ O R.s st.low<=2:=by
   by_cases c0:oZ O R.s st.low=0
   .lia
   .have:=a1 (oZ O R.s st.low-1) ();lia
  refine{_,M,_,M,p,_,M,p0,Y,_,M,R.r,_,M,.inl<|Dz.of hr,_,M,_,_,_,M,?_,?_}
  .rw[hs,lA];exact{(),(),(),(),(),()}
  rw[hs,lA];generalize af:((eE st d).take i).flatMap (IE O st.low)=L0 at c;refine AR (n:=oZ O R.s st.low) (λx B H'=>∃(v5 Z v7:RW)(ts:List Tp),B=[some (.ref a),some (.int p),some (.int st.low),some (.ref l),some (.ref R.r),v5,Z,v7]/\Ly [] H1 H' l ts (L0++(List.range x).flatMap (mU R.C O st.low))/\ts.length<=8192*i+4096*x)
   {_,_,_,ts,M,by simpa using c,()} (λx B H' hx w=>?_) (λB H' w=>?_)
  .let{v5,Z,v7,ts,I,c,lt}:=w;subst I;have b5:=(sN Y).mp hx;have x2:=a1 x hx;have xm:0<=(x:Int)*st.low:=Xn () ();have la:=ro.la;have lc:=ro.lc;have eb:R.A[(O+(x:Int)*st.low).toNat]?=some (R.A[(O+(x:Int)*st.low).toNat]'()):=Q3 ();have ek:R.C[(O+(x:Int)*st.low).toNat]?=some (R.C[(O+(x:Int)*st.low).toNat]'()):=Q3 ();generalize R.A[(O+(x:Int)*st.low).toNat]'()=b at eb;generalize R.C[(O+(x:Int)*st.low).toNat]'()=kv at ek;have U:=ro.cell _ _ _ eb ek;have b8:=ac _ _ ek;have a0:=c.sm _ _ (by simp) U;have al:=c.sm _ _ (by simp) ro.lst;have bl:b≠l:=λz=>by rw[z,nl]at U;cases U
   refine{b,aL kv,a0,_,M,_,M,R.r,_,_,_,M,M,Dz.of al,uW () eb,.inr<|.inr<|.inl {M,.inl {_,a0}},b,aL kv,M,M,a0,λvw nv=>?_};have an:upd H' vw (RB vw b) b=some (.dK<|aL kv):=by rwa[ag (am a0 nv)]
   refine{vw,b,aL kv,M,A9,an,λob=>?_};have cF:=(c.same<|ak (o:=RB vw b) nv).freeze (o':= .frz ob<|.dK<|aL kv) U bl;generalize ap:L0++(List.range x).flatMap (mU R.C O st.low)=L1 at cF;refine va (λy B H''=>∃(Z v7:RW)(ts:List Tp),B=[some (.ref a),some (.int p),some (.int st.low),some (.ref l),some (.ref R.r),some (.int<|O+(x:Int)*st.low),Z,v7]/\Ly [b] H1 H'' l ts (L1++kv.take y)/\H'' b=some (.frz ob<|.dK<|aL kv)/\ts.length<=8192*i+4096*x+y)
    {_,_,ts,M,by simpa using cF,A9,()} (λy B H'' _ w=>by let{_,_,_,_,_,hf,_}:=w;exact hf) (λy k v p' B H'' ei w np=>?_) (λB H'' w=>?_)
   .let{Z,v7,ts,I,c,hf,lt}:=w;subst I;let{n,rfl,en}:=xP ei;have yl:=(Q2.mp en).1;refine{p',_,M,OO.of A9,M,_,_,M,_,_,M,M,?_};have c3:=c.same (ak (o:= .tup [kV (Sum.inl n),v]) np);have a2:=ak (o:= .tup [kV (Sum.inl n),v]) np _ _ hf;generalize upd H'' p' (.tup [kV (Sum.inl n),v])=H3 at c3 a2⊢;refine{_,M,.inl {M,_,Dz.of c3.li},_,M,n,M,_,M,_,M,(by show 3<=sizeLine;decide),λp2 a3=>?_};have s4:Ba H3 (upd H3 p2<|.tup [.int (tz<|n%65536),kV (Sum.inl n),v]):=ak a3;have e4:upd H3 p2 (.tup [.int (tz<|n%65536),kV (Sum.inl n),v]) p2=some (.tup [.int (OB n),.int n,v]):=A9;generalize upd H3 p2 (.tup [.int (tz<|n%65536),kV (Sum.inl n),v])=H4 at s4 e4⊢;refine{l,_,_,M,M,s4 _ _ c3.li,aW (by rw[Q0];lia),?_};refine{_,_,ts++ [⟨p2,n,v⟩],M,?_,?_,?_}
    .rw[DQ en,<-Ql];exact c3.add s4 a3 nl (λc hc=>by rw[Q9.mp hc];exact{_,U,_,a2}) e4
    .rw[ag bl];exact s4 _ _ a2
    .rw[Q7,Zs];lia
   .let{Z,v7,ts,I,c,hf,lt}:=w;subst I;rw[dM,Qy]at c;rw[dM]at lt;refine{ob,hf,_,_,_,ts,M,?_,()};rw[Cp,<-Ql,show mU R.C O st.low x=kv by unfold mU;rw[Qn,ek];rfl];rw[ap];exact c.thaw U bl
  .let{v5,Z,v7,ts,I,c,lt}:=w;subst I;exact{_,_,_,_,ts,M,by rw[GR hR,af];exact c,()}
 .let{v4,v5,Z,v7,ts,I,c,lt}:=w;subst I;rw[lx,Qy]at c;have e:=c.eq;have sm:Ba H1 H':=λb o e=>c.sm b o (by simp) e;refine{_,M,q H' F1 l ts (sA.same sm) (fr.trans<|Fr.of_same sm) (sA.out nl) c.li (λe he=>{(c.tu e he).1,sA.out (c.tu e he).2}) (λk v=>?_) ?_}
  .rw[e];exact Je hb z nd g0 g1 k v
  .rw[e];exact Eo hb z g0
def yL{S p:Int}{a b:Nat}(R:Row S a b)(I:0<=p)(h1:p<65536)(hS:S<=65536):k%65536%S=tz p%S↔OB k/(65536/S)=p/(65536/S):=by
 have O:=R.wpos';have z:=yt R I h1;have k0:0<=k%65536:=Qx _ (_);have k1:k%65536<65536:=QD _ (_);have e2:=yt R (p:=OB k) (qB _) (Kq _);rw[show tz (OB k)=k%65536 from CP k0 k1]at e2;have U:=R.mod0 (k%65536);have Z:=R.mod1 (k%65536);have Y:=R.mod0 (tz p);have y1:=R.mod1 (tz p);constructor
 .intro e;rw[e,z]at e2;have:=Int.eq_of_mul_eq_mul_right (QZ O) e2;lia
 .intro e;rw[e,<-z]at e2;exact Lf U () Y () ()
def LE(k:Int):0<=OB k/\OB k<65536:={qB _,Kq _}
def yT{f:α->β}:∀{ts:List α}{l:List β},l.Perm (ts.map f)->∃us:List α,us.Perm ts/\us.map f=l:=by
 intro ts l h;generalize e:ts.map f=m at h
 induction h generalizing ts with
 |nil=>exact{[],by rw[List.map_eq_nil_iff.mp e],M}
 |cons x _ O=>
  cases ts with
  |nil=>cases e
  |cons y ts=>
   rw[Qt]at e;injection e with e1 e2;let{us,h1,h2}:=O e2;exact{y::us,h1.cons y,by rw[Qt,h2,e1]}
 |swap x y l=>
  cases ts with
  |nil=>cases e
  |cons a ts=>
   cases ts with
   |nil=>cases e
   |cons b ts=>
    rw[Qt,Qt]at e;injection e with e1 e2;injection e2 with e2 e3;exact{b::a::ts,List.Perm.swap a b ts,by rw[Qt,Qt,e1,e2,e3]}
 |trans _ _ z I=>
  let{us,h1,h2}:=I e;let{ws,U,Y}:=z h2;exact{ws,U.trans h1,Y}
def BQ(x y:Int×V):Prop:=OB x.1<OB y.1\/(OB x.1=OB y.1/\x.1<y.1)
def tD(K:Wi)(t:NZ):Sp:=λvs H Q _=>∃(a:Rl)(lo hi:Int)(F:Ro)(st:N4),vs=[.ref a,.int lo,.int hi]/\OM K t H a F st/\st.kv.length<4096/\(∀p∈st.kv,∃i:Int,p.2= .int i)/\
 ∀(H':Hp)(F':Ro)(l:Rl)(ts:List Tp),OM K t H' a F' st->Fr F F' H H'->¬F' l->(¬F l->H l=none)->H' l=some (.lst<|ts.map λe=>V.ref e.p)->(∀e∈ts,H' e.p=some (.tup [.int e.k,e.v])/\¬F' e.p)->
  (ts.map Tp.kv).Pairwise BQ->(∀k v,(k,v)∈ts.map Tp.kv↔(k,v)∈st.kv/\lo<=OB k/\OB k<hi)->Q (.ref l) H'
def Dt{x q:Int}(h:0<JM):x/JM=q↔q*JM<=x/\x<(q+1)*JM:=by
 constructor
 .rintro rfl;exact{Int.ediv_mul_le x<|QZ h,Xd x h}
 .rintro ⟨h1,h2⟩;have a:=(Int.le_ediv_iff_mul_le h).mpr h1;have b:=(Int.ediv_lt_iff_lt_mul h).mpr h2;lia
def ky3(H:Hp)(b:Rl):List Int:=match H b with
 |some (.tup [.int i,.int j,.int m])=> [i,j,m]
 |_=> []
def Ch{i j:Int}(h:H b=some (.tup [.int i,.int j,.int m])):ky3 H b=[i,j,m]:=by
 unfold ky3;rw[h]
def none_of(s:Ba H H2)(n:H2 p=none):H p=none:=by
 cases e:H p with
 |none=>rfl
 |some o=>rw[s _ _ e]at n;cases n
def pY(f:Fr F F' H H')(n:¬F b)(e:H' b=none):H b=none:=by
 cases q:H b with
 |none=>rfl
 |some o=>rw[(f _ _ n q).1]at e;cases e
def Fr.upd_new(f:Fr F F' H H')(n:¬F b->H b=none):Fr F F' H (upd H' b o):=λc u I e=>{by rw[ag λz=>by rw[z]at I e;rw[n I]at e;cases e];exact(f c u I e).1,(f c u I e).2}
def BP{n:Nat}(z:(ts.map λe=>V.ref e.p)[n]?=some v):∃e:Tp,v= .ref e.p/\ts[n]?=some e:=by
 rw[Qo]at z;cases I:ts[n]? with
 |none=>rw[I]at z;cases z
 |some e=>rw[I]at z;cases z;exact⟨e,M,M⟩
structure Pq(K:Wi)(t:NZ)(H H':Hp)(a l:Rl)(F F':Ro)(st:N4)(ts:List Tp)(b0 c:Int):Prop where
 sl:OM K t H' a F' st
 fr:Fr F F' H H'
 ol:¬F' l
 li:H' l=some (.lst<|ts.map λe=>V.ref e.p)
 tu:∀e∈ts,H' e.p=some (.tup [.int (OB e.k),.int e.k,e.v])/\¬F' e.p
 me:∀k v,(k,v)∈ts.map Tp.kv↔(k,v)∈st.kv/\b0<=OB k/\OB k<c
 nd:((ts.map Tp.kv).map (·.1)).Nodup
section
variable{l l1:Rl}{ts1:List Tp}{b0 c:Int}
def Pq.len(h:Pq K t H H' a l F F' st ts b0 c):ts.length<=st.kv.length:=by
 have:=eY h.nd (S:=st.kv.map (·.1)) λx hx=>by
  let{p,z,rfl}:=Qf.mp hx;exact QO ((h.me p.1 p.2).mp z).1
 simpa using this
def Pq.move(h:Pq K t H H' a l F F' st ts b0 c)(s1:OM K t H1 a F1 st)(z:Fr F' F1 H' H1):Pq K t H H1 a l F F1 st ts b0 c:=
 {s1,h.fr.trans z,(z _ _ h.ol h.li).2,(z _ _ h.ol h.li).1,λe he=>z _ _ (h.tu e he).2 (h.tu e he).1,h.me,h.nd}
def Pq.step{r:Int}(h:Pq K t H H' a l F F' st ts b0 (r/JM*JM))(nl:H l=none)(W0:0<JM)(hb:b0<=r/JM*JM)(s1:OM K t H1 a F1 st)(f1:Fr F' F1 H' H1)(u1:∀e∈ts1,H1 e.p=some (.tup [.int (OB e.k),.int e.k,e.v])/\¬F1 e.p)
  (m1:∀k v,(k,v)∈ts1.map Tp.kv↔(k,v)∈st.kv/\OB k/JM=r/JM) (n1:((ts1.map Tp.kv).map (·.1)).Nodup):
  Pq K t H (upd H1 l<|.lst<|ts.map (λe=>V.ref e.p)++ts1.map (λe=>V.ref e.p)) a l F F1 st (ts++ts1) b0 ((r/JM+1)*JM):=by
 let{l1,I}:=f1 _ _ h.ol h.li;have e1:(r/JM+1)*JM=r/JM*JM+JM:=by rw[Int.add_mul,Int.one_mul]
 have O:∀{p:Rl}{xs:Rq},H1 p=some (.tup xs)->p≠l:=λ{p xs} e z=>by rw[z,l1]at e;cases e
 refine{s1.upd I,λb o n e=>?_,I,by rw[A9,Q8],λe he=>?_,λk v=>?_,?_}
 .let{U,Z}:=(h.fr.trans f1) b o n e;exact{by rwa[ag λz=>by rw[z,nl]at e;cases e],Z}
 .rcases Q5.mp he with he|he
  .let{U,Z}:=h.tu e he;let{Y,g4}:=f1 _ _ Z U;exact{by rwa[ag (O Y)],g4}
  .let{Y,g4}:=u1 e he;exact{by rwa[ag (O Y)],g4}
 .rw[Q8,Q5,h.me,m1,Dt W0,e1];constructor
  .rintro (⟨x,y,z⟩|⟨x,y,z⟩)
   .exact{x,y,()}
   .exact{x,(),z}
  .rintro ⟨x,y,z⟩;by_cases d:OB k<r/JM*JM
   .exact .inl ⟨x,y,d⟩
   .exact .inr {x,(),z}
 .rw[Q8,Q8];refine Xp.mpr {h.nd,n1,λx hx y hy e=>?_};let{p,hp,rfl}:=Qf.mp hx;let{q,hq,rfl}:=Qf.mp hy;have U:=(h.me p.1 p.2).mp hp;have Z:=(Dt W0).mp ((m1 q.1 q.2).mp hq).2;rw[e]at U;lia
end
def M1{fs us:List Tp}(up:us.Perm fs)(z:∀e∈fs,∃i:Int,H e.p=some (.tup [.int (OB e.k),.int e.k,.int i]))(nd:(fs.map (·.k)).Nodup)(pw:(us.map (·.p)).Pairwise (λa b=>HT.lexLt (ky3 H b) (ky3 H a)=false)):(us.map Tp.kv).Pairwise BQ:=by
 have O:us.Pairwise (λe f=>e.k≠f.k):=(up.pairwise_iff<|λh=>h.symm).mpr (QM.mp nd);refine QM.mpr<|((QM.mp pw).and O).imp_of_mem λ{e f} he hf h=>?_;let{i,te}:=z e (up.mem_iff.mp he);let{j,U}:=z f (up.mem_iff.mp hf);let{h1,h2}:=h;rw[Ch te,Ch U,HT.lexLt_cons,HT.lexLt_cons]at h1;show OB e.k<OB f.k\/(OB e.k=OB f.k/\e.k<f.k);by_cases I:OB f.k=OB e.k
 .rw[VB I,VA (Ne.symm h2)]at h1;have:=VV h1;lia
 .rw[VA I]at h1;have:=VV h1;lia
def uH(T:Txt K mg t w):E7 P w K mg base NX 4 t.nO t.iP [cC,"low","high"] (tD K t):=by
 let{a5,U}:=T.g_PLACES;refine T.HY.okl tY λ_ _ _ s H vs Q E hr h _=>?_;intro X;let{a,lo,hi,F,st,rfl,hA,b2,hint,q}:=h;refine ah (N7 3<|bh ae)
   (ah (N7 4<|aD (rn M) {_} T.Kl Cy (aa HW<|aa ai ae))
   (ah (N7 5<|aD (mM M) {_} T.zP rp (aa M2<|aa (bD (v:= .int 65536) {_} U {_,M}) ae))
   (bU (λx=>(kZ VU (ar dz OX PP<|ax _)
    x)) ?_)))
 refine ah (aO<|bR Qk ZN ZO mH O8<|aa (aT DA T.aG T.Df (oK T) hr.mo T.DB .nil az<|aa OX ae) ae)
   (aw (N7 4<|aT DA T.aG T.xa (lB T) hr.mo T.xj .nil az<|aa OX ae) ?_)
 intros
 refine ah (N7 6<|aD xh {_} T.MO E1 (aa (lh M (N5.of (M':=["one"]) (N:=[cC,"low","high","found","reached",p7,"inside"]) (N':=[cC,"low","high","found","reached",p7,"inside"]) (dsc:=aj dw) M M ∅) (dZ O8) (λ_ _ _ _ _=>(Ak gX dz M2 (aP (pV K M) DA ai<|λ_ _=>M) O8))<|λ_ _ _ _ _=>DA) ae))
   (aw (ay<|pI M (N5.of (M':=["one"]) (N:=[cC,"low","high","found","reached",p7,"inside"]) (N':=[cC,"low","high","found","reached",p7,"inside"]) (dsc:=aj dw) M M ∅) (dZ Pg)<|λ_ _ _ _ _=>(cE<|aa (aP (pV K M) DA ai<|λ_ _=>M)<|aa (aP (pV K M) DA ai<|λ_ _=>M) ae)) ?_)
 intros
 have z:O0 st:=let⟨_,_,_,_,_,z⟩:=hA;z
 let{s4,s5}:=bM (fA z);let{x,y,R}:=ut (fA z);have W0:=R.wpos';have a4:∀{p k:Int},0<=p->p<65536->(k%65536%st.low=tz p%st.low↔OB k/(65536/st.low)=p/(65536/st.low)):=λh0 h1=>yL R h0 h1 ();refine{Qc _,λl nl=>?_};refine{_,M,_,_,M,_,M,_,_,M,?_};have r1:0<=(if(0:Int)>lo then 0 else lo)/\lo<=(if(0:Int)>lo then 0 else lo)/\((if(0:Int)>lo then 0 else lo)=0\/(if(0:Int)>lo then 0 else lo)=lo):=by split<;>lia
 have r2:(if(65536:Int)<hi then 65536 else hi)<=65536/\((if(65536:Int)<hi then 65536 else hi)=65536\/(if(65536:Int)<hi then 65536 else hi)=hi):=by split<;>lia
 dsimp only;generalize (if(0:Int)>lo then 0 else lo)=r0 at r1⊢;generalize (if(65536:Int)<hi then 65536 else hi)=e0 at r2⊢;generalize eW:65536/st.low=JM at W0 a4;have I0:Pq K t H (upd H l<|.lst []) a l F F st [] (r0/JM*JM) (r0/JM*JM):={hA.new nl,Fr.of_same<|ak nl,hA.out nl,A9,(λe he=>by cases he),(λk v=>{λh=>by(cases h),λh=>()}),Zq};generalize upd H l (.lst [])=H1 at I0⊢;refine{λm B H'=>∃(r:Int)(F':Ro)(ts:List Tp),m=(e0-r).toNat/\B=[some (.ref a),some (.int lo),some (.int hi),some (.ref l),some (.int r),some (.int e0),none]/\Pq K t H H' a l F F' st ts (r0/JM*JM) (r/JM*JM)/\r0<=r/\(r=r0\/r/JM*JM=r),{_,r0,F,[],M,M,I0,ZT _,.inl M},λm B H' w=>?_};let{r,F',ts,rfl,b3,I,rr,rm}:=w;subst b3;refine{_,M,_,M,_,_,M,M,_,M,cu (λc=>?_)<|λc=>?_}
 .have c:=VF c;let{dx,fs,al,hm}:=I.sl.ins;refine{λan H2=>∃(r':Int)(F2:Ro)(a6:List Tp),r<r'/\an=[some (.ref a),some (.int lo),some (.int hi),some (.ref l),some (.int r'),some (.int e0),none]/\Pq K t H H2 a l F F2 st a6 (r0/JM*JM) (r'/JM*JM)/\r'/JM*JM=r',λan H2 w=>?_,?_}
  .let{r',F2,a6,lt,e,I2,g}:=w;exact{_,(),r',F2,a6,M,e,I2,(),.inr g}
  refine{_,M,.inl {M,_,Dz.of I.li},_,M,a,dx,fs,M,al,hm _ ∅,_,M,a,r,F',st,M,I.sl,(),(),b2,λH2 F2 l1 ts1 s2 f2 o2 e2 u2 m2 n2=>?_};have b4:r0/JM*JM<=r/JM*JM:=Vg (Vh W0 rr) ();have I2:=I.step nl W0 b4 s2 f2 u2 (λk v=>by rw[m2,a4 () ()]) n2;have ln:=I2.len;rw[Q7]at ln;refine{l,l1,_,_,M,M,(f2 _ _ I.ol I.li).1,e2,by rw[Q0,Q0];exact QX<|aW (),?_};generalize upd H2 l (.lst<|ts.map (λe=>V.ref e.p)++ts1.map (λe=>V.ref e.p))=H3 at I2⊢;let{b5,b8,ac,ba}:=I2.sl.ins;refine{_,M,a,b5,b8,M,ac,ba _ ∅,_,M,a,r,F2,st,M,I2.sl,(),(),λH4 F4 s4 f4=>?_};rw[eW];have ed:(r/JM+1)*JM/JM*JM=(r/JM+1)*JM:=by rw[Int.mul_ediv_cancel _ (QZ W0)]
  exact{(r/JM+1)*JM,F4,ts++ts1,Xd r W0,M,by rw[ed];exact I2.move s4 f4,ed}
 .have c:¬r<e0:=λy=>c (VD y);have hl:=I.li;have ln:=I.len;refine{_,M,l,M,{_,Dz.of hl},λD hD=>?_};refine ku (K:=K) (a:=l) (xs:=ts.map λe=>V.ref e.p) (λn ys H3=>H3=upd H' D (.lst ys)/\ys=((ts.take n).filter λe=>decide (lo<=OB e.k)&&decide (OB e.k<hi)).map (λe=>V.ref e.p)) ⟨M,M⟩
   (λn ys H3 _ w=>Dz.of<|by rwa[w.1,ag (am hl hD)]) (λn v ys H3 hv w Y=>?_) (λys H3 w Y=>?_)
  .let{e1,e2}:=w;have hn:=(Q2.mp hv).1;let{e,rfl,Z}:=BP hv;have te:=(I.tu e<|Q1 Z).1;have bb:H3 e.p=some (.tup [.int (OB e.k),.int e.k,e.v]):=by rwa[e1,ag (am te hD)]
   have yl:ys.length<=ts.length:=by
    rw[e2,Q0];have h1:=Qm (λe:Tp=>decide (lo<=OB e.k)&&decide (OB e.k<hi)) (ts.take n);have h2:(ts.take n).length<=ts.length:=by rw[Qe];lia
    lia
   refine{_,M,_,M,e.p,_,_,_,M,M,OO.of bb,M,_,_,M,M,_,M,?_};by_cases c1:lo<=OB e.k
   .refine jT c1 {_,M,_,_,M,M,_,M,?_};by_cases c2:OB e.k<hi
    .refine jT c2 {_,M,OA.mk hn Y (aW ()) {by rw[e1,cY],?_}};rw[e2,Qp,Z,QE,Q8];simp[c1,c2]
    .refine aZ c2<|OP.mk hn Y {e1,?_};rw[e2,Qp,Z,QE];simp[c1,c2]
   .refine aZ c1 {_,M,bL<|OP.mk hn Y {e1,?_}};rw[e2,Qp,Z,QE];simp[c1]
  .let{e1,e2}:=w;rw[Q0,Qy]at e2;have s3:Ba H' H3:=by rw[e1];exact ak hD
   have a0:(ts.filter λe=>decide (lo<=OB e.k)&&decide (OB e.k<hi)).Sublist ts:=List.filter_sublist;have fm:∀e,e∈(ts.filter λe=>decide (lo<=OB e.k)&&decide (OB e.k<hi))↔e∈ts/\lo<=OB e.k/\OB e.k<hi:=λe=>by
    rw[QC,Qq,VO,VO]
   generalize (ts.filter λe=>decide (lo<=OB e.k)&&decide (OB e.k<hi))=fs at e2 a0 fm;have ap:∀e∈fs,(e.k,e.v)∈st.kv:=λe he=>((I.me e.k e.v).mp<|QO (f:=Tp.kv) ((fm e).mp he).1).1;have t3:∀e∈fs,∃i:Int,e.v= .int i/\H3 e.p=some (.tup [.int (OB e.k),.int e.k,.int i]):=λe he=>by
    let{i,ei}:=hint _ (ap e he);have te:=s3 _ _ (I.tu e ((fm e).mp he).1).1;have ei:e.v= .int i:=ei;rw[ei]at te;exact⟨i,ei,te⟩
   refine{D,fs.map (·.p),ky3 H3,M,Dz.of (by rw[Y,e2,QS];rfl),λb hb=>?_,λl2 bs be pm pw=>?_}
   .let{e,he,rfl}:=Qf.mp hb;let{i,_,te}:=t3 e he;exact{_,_,_,te,Ch te}
   let{us,up,ue}:=yT pm;subst ue;have um:∀e,e∈us↔e∈fs:=λe=>up.mem_iff;have nk:(fs.map (·.k)).Nodup:=by
    have h0:=I.nd;rw[QS]at h0;exact h0.sublist<|a0.map _
   have a2:=M1 up (λe he=>(t3 e he).imp λ_ h=>h.2) nk pw;have af:∀k v,(k,v)∈us.map Tp.kv↔(k,v)∈st.kv/\lo<=OB k/\OB k<hi:=λk v=>by
    constructor
    .intro h;let{e,he,Z}:=Qf.mp h;cases Z;have he:=(um e).mp he;exact{ap e he,((fm e).mp he).2}
    .rintro ⟨h1,h2,h3⟩;have pb:=LE k;have b1:=Int.ediv_mul_le r0 (QZ W0);have h4:(k,v)∈ts.map Tp.kv:=(I.me k v).mpr {h1,(),()};let{e,he,Z}:=Qf.mp h4;cases Z;exact Qf.mpr {e,(um e).mpr<|(fm e).mpr ⟨he,h2,h3⟩,M}
   have ul:us.length<=ts.length:=by rw[up.length_eq];exact a0.length_le
   have e8:upd H3 l2 (.lst ((us.map (·.p)).map V.ref)) l2=some (.lst<|us.map λe=>V.ref e.p):=by rw[A9,QS];rfl
   have s8:Ba H' (upd H3 l2 (.lst ((us.map (·.p)).map V.ref))):=s3.trans (ak be);have t8:∀e∈us,upd H3 l2 (.lst ((us.map (·.p)).map V.ref)) e.p=some (.tup [.int (OB e.k),.int e.k,e.v]):=λe he=>s8 _ _ (I.tu e ((fm e).mp<|(um e).mp he).1).1;generalize upd H3 l2 (.lst ((us.map (·.p)).map V.ref))=H8 at e8 s8 t8⊢;refine{_,M,l2,M,{_,Dz.of e8},λD2 a3=>?_};refine jk (K:=K) (a:=l2) (xs:=us.map λe=>V.ref e.p) (λn ys H9=>Ba H8 H9/\∃ws:List Tp,ys=ws.map (λe=>V.ref e.p)/\ws.map Tp.kv=(us.take n).map Tp.kv/\∀e∈ws,e.p≠D2/\H8 e.p=none/\H9 e.p=some (.tup [.int e.k,e.v]))
    {ak a3,[],M,M,λe he=>by cases he} (λn ys H9 _ w=>Dz.of<|w.1 _ _ e8) (λn v ys H9 hv w O=>?_) (λys H9 w O=>?_)
   .let{s9,ws,ey,ek,ew}:=w;have hn:=(Q2.mp hv).1;let{e,rfl,Z}:=BP hv;have te:=s9 _ _ (t8 e<|Q1 Z);refine{_,M,e.p,_,_,_,M,M,OO.of te,M,_,M,e.p,_,_,_,M,M,OO.of te,M,(by show 2<=sizeLine;decide),λp2 a1=>?_};have pd:p2≠D2:=λz=>by rw[z,O]at a1;cases a1
    have wl:ws.length<=us.length:=by
     have:=VT List.length ek;rw[Q0,Q0,Qe]at this;lia
    refine OA.mk hn (by rwa[ag pd.symm]) (aW<|by rw[ey,Q0];lia) {bH (s9.trans<|ak a1) a3,ws++ [⟨p2,e.k,e.v⟩],by rw[ey,Q8];rfl,?_,λf hf=>?_}
    .rw[Q8,ek,Qp,Z,Q8];rfl
    .rcases Q5.mp hf with hf|hf
     .let{g1,g2,g3}:=ew f hf;exact{g1,g2,by rw[ag g1];exact ak a1 _ _ g3}
     .rw[Q9.mp hf];exact{pd,none_of s9 a1,by rw[ag pd];exact A9}
   .let{s9,ws,ey,ek,ew}:=w;rw[Q0,Qy]at ek;have sm:=s8.trans s9;refine q H9 F' D2 ws (I.sl.same sm) (I.fr.trans<|Fr.of_same sm) (I.sl.out<|none_of s8 a3) (λnF=>pY (I.fr.trans<|Fr.of_same s8) nF a3) (by rw[O,ey]) (λe he=>?_) (by rwa[ek]) (by rwa[ek]);let{_,g2,g3}:=ew e he;exact{g3,I.sl.out<|none_of s8 g2}
def eS(e:A[j]?=some c):P4 (A.map V.ref) (j:Int)=some (.ref c):=by
 refine dC ?_;rw[Qo,e];rfl
def zE(z:x≠[])(e:x[x.length-1]?=some m):P4 (x.map V.int) (-1)=some (.int m):=by
 have hl:=Z4.mpr z;unfold P4 Pe;rw[Q0,VA (_),VB ()];show(x.map V.int)[((-1:Int)+(x.length:Int)).toNat]?=_;have:((-1:Int)+(x.length:Int)).toNat=x.length-1:=();rw[this,Qo,e];rfl
def Dn(h:i<A.length):Pe (A.map V.ref).length (i:Int)=some i:=by
 unfold Pe;rw[VB (),VB (by rw[Q0];lia)];rfl
theorem oU:∀(A:Rz)(i:Nat),(A.map V.ref).eraseIdx i=(A.eraseIdx i).map V.ref
 | [],_=>rfl
 |_::_,0=>rfl
 |a::r,i+1=>by
  show V.ref a::(r.map V.ref).eraseIdx i=V.ref a::(r.eraseIdx i).map V.ref;rw[oU r i]
theorem xV:∀(ls:Sb)(i:Nat)(y:Rn),(ls.set i y).eraseIdx i=ls.eraseIdx i
 | [],_,_=>rfl
 |_::_,0,_=>rfl
 |x::r,i+1,y=>by
  show x::(r.set i y).eraseIdx i=x::r.eraseIdx i;rw[xV r i y]
def K5(a:Rl)(k:Int)(ls:Sb)(H:Hp):Nat->St->Hp->Prop:=λm B H'=>∃(lo hi:Nat)(v4:RW),m=hi-lo/\H'=H/\B=[some (.ref a),some (.int k),some (.int (lo:Int)),some (.int (hi:Int)),v4]/\lo<=hi/\hi<=ls.length/\
 (∀(j:Nat)(x:Rn),j<lo->ls[j]?=some x->∀y∈x,y<k)/\∀(j:Nat)(x:Rn),hi<=j->ls[j]?=some x->∃y∈x,k<=y
def oq(t:NZ):Sp:=λvs H Q _=>∃(a:Rl)(k:Int)(L:Rl)(A:Rz)(ls:Sb),vs=[.ref a,.int k]/\Od t H a L A ls/\(∀l∈ls,l≠[])/\cq ls.flatten/\∀i:Nat,OJ ls k i->Q (.int (i:Int)) H
def bS(T:Txt K mg t w):E7 P w K mg base NX 1 t.g9 t.d8 [cC,eR] (oq t):=by
 refine T.DH.okl oy λ_ _ _ s H vs Q E hr h _=>?_;intro X;let{a,k,L,A,ls,rfl,hb,ne,up,q}:=h;refine ah (N7 2 ai)
   (ah (N7 3<|aD aC {_} T.bG a7 (aa (aH DA M) ae))
   (bU (λx=>(kZ VU (ar dz M2 O8<|ax _)
    x)) ?_))
 refine ah (N7 4<|aq bf (aq bN M2 O8) ai)
   (aw (aM (ar dz (aP aK (aP aK (aH DA M) OX<|λ_ _=>M) (uv oi ai)<|λ_ _=>M) HW<|ax _)
    (au<|N7 2<|aq bN OX ai)
    (au<|N7 3 OX)) ?_)
 intros
 refine aw (ay M2) ?_
 intros
 let{dx,ho}:=hb.obj;have lA:((A.map V.ref).length:Int)=(ls.length:Int):=by rw[Q0,hb.len]
 refine{_,M,a,_,dx,_,_,M,ho,T.aJ,T.aB,cM,L,_,M,.inl<|Dz.of hb.lst,?_};dsimp only;rw[lA];refine{K5 a k ls H,{_,0,ls.length,none,M,M,M,Qc _,Q4 _,λj x h=>VG h (),λj x h e=>?_},?_}
 .have:=(Q2.mp e).1;lia
 rintro m B H' ⟨lo,hi,v4,rfl,rfl,rfl,h1,h2,h3,h4⟩;refine{_,M,_,M,_,_,M,M,_,M,cu (λc=>?_)<|λc=>?_}
 .have c:lo<hi:=by have:=VF c;lia
  refine{λZ H''=>∃m',m'<hi-lo/\K5 a k ls H' m' Z H'',λ_ _ h=>h,?_};refine{_,M,_,M,_,_,M,M,_,_,M,M,{(_),(_)},?_};obtain⟨I,em,m1,m2⟩:∃I:Nat,((lo:Int)+(hi:Int))/2=(I:Int)/\lo<=I/\I<hi:={(lo+hi)/2,(),(),()};dsimp only;rw[em];have hm:I<ls.length:=();have ex:ls[I]?=some ls[I]:=Q3 hm;let{b,eb,a0}:=hb.at ex;have O:=ne _ (Zm hm);let{g,eg,gm,U}:=Gz (IF up ex) O;refine{_,M,a,_,dx,_,_,M,ho,T.aJ,T.aB,cM,_,M,L,_,_,_,M,M,Dz.of hb.lst,eS eb,_,M,b,_,_,_,M,M,Dz.of a0,zE O eg,_,M,_,_,M,M,_,M,cu (λY=>?_)<|λY=>?_}
  .have Y:=VF Y;refine{_,M,_,_,M,M,hi-(I+1),(),I+1,hi,_,M,M,M,(),h2,λj x hj e y hy=>?_,h4};rcases(show j<I\/j=I by lia)with h|h
   .have:=xG up e ex h y hy g gm;lia
   .subst h;rw[ex]at e;cases e;have:=U y hy;lia
  .have Y:¬g<k:=λz=>Y (VD z);refine{_,M,I-lo,(),lo,I,_,M,M,M,(),(),h3,λj x hj e=>?_};rcases(show j=I\/I<j by lia)with h|h
   .subst h;rw[ex]at e;cases e;exact{g,gm,()}
   .let{y,hy}:=List.exists_mem_of_ne_nil x (ne x<|Q1 e);have:=xG up ex e h g gm y hy;exact{y,hy,()}
 .have c:¬lo<hi:=λz=>c (VD ());have:lo=hi:=();subst this;exact{_,M,q lo {h2,h3,λx e=>h4 lo x (Q4 _) e}}
theorem AM{k:Int}:∀{x:Rn},Ps (.int k) (x.map V.int)=decide (k∈x)
 | []=>rfl
 |a::r=>by
  have I:=AM (k:=k) (x:=r);unfold Ps at I⊢;rw[Qt,X7,I];have:Pc (.int a) (.int k)=decide (k=a):=by
   show(a==k)=_;by_cases c:a=k
   .subst c;simp
   .have O:¬k=a:=λz=>c z.symm;simp[c,O]
  rw[this];by_cases c:k=a
  .simp[c]
  .simp[c]
def EO:(x.map V.int).all nB=true:=by
 rw[List.all_map];exact Z0.mpr λ_ _=>rfl
def lE(T:Txt K mg t w):E7 P w K mg base NX 2 t.nV t.iV [cC,eR] (tJ K t):=by
 refine T.Ig.okl uc λ_ _ _ s H vs Q E hr h _=>?_;intro X;let{a,k,F,ks,rfl,O,q}:=h;refine ah (N7 2<|aT DA T.aJ T.cK (bS T) hr.mo T.cN .nil az<|aa HW ae)
   (aw (ay<|lq (bK dz M2 (aD aC {_} T.bG a7 (aa (aH DA M) ae))<|ax _)<|ft<|bK xK HW (aP aK (aH DA M) M2<|λ_ _=>M) M) ?_)
 intros
 let{dx,fs,hi,hm}:=O.ins;have q:=q H F O Fr.refl;let{L,A,ls,hb,ok,Y,hF}:=O;let{I,Z}:=hb.obj;have lA:((A.map V.ref).length:Int)=(ls.length:Int):=by rw[Q0,hb.len]
 refine{_,M,a,dx,fs,M,hi,hm _ ∅,_,M,a,k,L,A,ls,M,hb,ok.ne,ok.up,λi li=>?_};refine{_,M,_,M,a,_,I,_,_,M,Z,T.aJ,T.aB,cM,L,_,M,.inl<|Dz.of hb.lst,_,_,M,M,_,M,cu (λc=>?_)<|λc=>?_}
 .have c:=VF c;have hi:i<ls.length:=();have ex:ls[i]?=some ls[i]:=Q3 hi;let{b,eb,U}:=hb.at ex;refine{_,M,_,M,a,_,I,_,_,M,Z,T.aJ,T.aB,cM,_,M,L,_,_,_,M,M,Dz.of hb.lst,eS eb,b,_,M,.inl<|Dz.of U,M,EO,?_};show Q (.bl<|Ps (.int k)<|ls[i].map V.int) H;rw[AM];have:k∈ls[i]↔k∈ks:=by
   rw[<-Y,li.mem ok];constructor
   .exact λz=>{_,ex,z}
   .rintro ⟨x,e,z⟩;rw[ex]at e;cases e;exact z
  rw[decide_eq_decide.mpr this];exact q
 .have c:¬(i:Int)<((A.map V.ref).length:Int):=λz=>c (VD z);have:k∉ks:=λz=>by
   rw[<-Y,li.mem ok]at z;let{x,e,_}:=z;have:=(Q2.mp e).1;lia
  rw[VJ this]at q;exact q
def sw(T:Txt K mg t w):E7 P w K mg base NX 1 t.mq t.gL [cC] (rX K t):=by
 refine T.Hr.okl sf λ_ _ _ s H vs Q E Z h _=>?_;intro X;let{a,dx,rfl,ha,hd,q}:=h;refine{_,(au<|cm DA (bh ae) M)
  ,?_}
 refine{Qc _,λL I=>{_,M,a,_,dx,[],M,(by rwa[ag (am ha I)]),T.aJ,T.aB,(by show 0<1000;decide),?_}};have Y:=am ha I;refine q _ (Ov a L []) {L,[],[],{⟨dx,A9⟩,by rw[ag Y.symm];exact A9,M,(λj b l e=>by simp at e),(λi j b e=>by simp at e),(λz=>by cases z)},OE.nil,M,λb=>Iff.rfl} λb o n w=>?_;have O:b≠a:=λy=>n (.inl y);have U:b≠L:=am w I;refine{by rwa[ag O,ag U],λy=>?_};rcases y with y|y|y
 .exact O y
 .exact U y
 .cases y
def kL(t:NZ):Sp:=λvs H Q _=>∃(a L:Rl)(A:Rz)(ls:Sb)(i:Nat)(x:Rn),vs=[.ref a,.int (i:Int)]/\Od t H a L A ls/\ls[i]?=some x/\x.length=9/\ls.length<5000/\
 ∀H' A',Od t H' a L A' ((ls.set i<|x.take 4).take (i+1)++x.drop 4::(ls.set i<|x.take 4).drop (i+1))->Fr (Ov a L A) (Ov a L A') H H'->Q .non H'
def lD(T:Txt K mg t w):E7 P w K mg base NX 1 t.fJ t.dj [cC,wh] (kL t):=by
 refine T.Bs.okl kN λ_ _ _ s H vs Q E hr h _=>?_;intro X;let{a,L,A,ls,i,x,rfl,hb,ex,lx,ll,q}:=h;refine ah (N7 2<|aP aK (aH DA M) HW<|λ_ _=>M)
   (ah (N7 3<|aq bf (aD aC {_} T.bG a7 (aa M2 ae)) ai)
   (ah (yR (cQ fO M2 fP<|cZ O8)<|BR (aH DA M) HW tR)
   (aw (aO<|bR Qk PySem.F.slot_list_insert PySem.F.type_list_insert xM (aH DA M)<|aa (aq bN HW ai)<|aa (cQ fO M2 (cZ O8) fP) ae) ?_)))
 intros
 let{dx,ho}:=hb.obj;let{c,ec,hc}:=hb.at ex;have b1:i<A.length:=(Q2.mp ec).1;have a0:((x.map V.int).length:Int)=9:=by rw[Q0,lx];rfl
 refine{_,M,a,_,dx,_,_,M,ho,T.aJ,T.aB,cM,_,M,L,_,_,_,M,M,Dz.of hb.lst,eS ec,?_};refine{_,M,c,_,M,.inl<|Dz.of hc,_,_,M,M,{(_),(_)},?_};dsimp only;rw[a0];have a1:gM (x.map V.int) none (some<|9/2)=(x.take 4).map V.int:=by
  unfold gM;rw[Q0,lx];show((x.map V.int).drop 0).take (4-0)=_;rw[Zf,ZE]
 have a2:gM (x.map V.int) (some<|9/2) none=(x.drop 4).map V.int:=by
  unfold gM;rw[Q0,lx];show((x.map V.int).drop 4).take (9-4)=_;rw[Xr,Qs (by rw[Qz,Q0,lx];exact Q4 _)]
 refine{_,M,_,M,_,M,c,_,M,Dz.of hc,λI U=>?_};rw[a1];have s1:Ba H (upd H I<|.lst<|(x.take 4).map V.int):=ak U;have hb1:=hb.same s1;have a3:upd H I (.lst<|(x.take 4).map V.int) I=some (.lst<|(x.take 4).map V.int):=A9;have b2:=hb.out U;have a4:=s1 _ _ ho;have a5:=s1 _ _ hc;have a6:=s1 _ _ hb.lst;generalize upd H I (.lst<|(x.take 4).map V.int)=H1 at s1 hb1 a3 a4 a5 a6⊢;refine{_,M,a,_,dx,_,_,M,a4,T.aJ,T.aB,cM,_,M,L,_,_,_,M,M,a6,Dn b1,?_};have es:(A.map V.ref).set i (V.ref I)=(A.set i I).map V.ref:=by rw[List.map_set]
 rw[es];have O:=hb1.swap ec ex a3 b2;have cL:c≠L:=λz=>hb.nL (z▸Q1 ec);have ac:upd H1 L (.lst<|(A.set i I).map V.ref) c=some (.lst<|x.map V.int):=by rwa[ag cL]
 let{b3,af}:=O.obj;have Y:=O.lst;have f2:Fr (Ov a L A) (Ov a L<|A.set i I) H (upd H1 L<|.lst<|(A.set i I).map V.ref):=λb o n w=>by
  have w1:=s1 _ _ w;refine{by rwa[ag (λy=>n<|.inr<|.inl y)],λy=>?_};rcases y with y|y|y
  .exact n<|.inl y
  .exact n<|.inr (.inl y)
  .rcases List.mem_or_eq_of_mem_set y with y|y
   .exact n<|.inr (.inr y)
   .rw[y,U]at w;cases w
 generalize upd H1 L (.lst<|(A.set i I).map V.ref)=H2 at O ac af Y f2⊢;refine{_,M,a,_,b3,_,_,M,af,T.aJ,T.aB,cM,.inl {M,_,Dz.of Y},_,M,_,_,M,M,_,M,_,M,_,M,c,_,M,Dz.of ac,λn2 Z=>?_};rw[a2];have s3:Ba H2 (upd H2 n2<|.lst<|(x.drop 4).map V.int):=ak Z;have al:=O.same s3;have an:upd H2 n2 (.lst<|(x.drop 4).map V.int) n2=some (.lst<|(x.drop 4).map V.int):=A9;have b4:=O.out Z;have ap:=s3 _ _ Y;generalize upd H2 n2 (.lst<|(x.drop 4).map V.int)=H3 at s3 al an ap⊢;have lS:(A.set i I).length=A.length:=QN;refine{L,_,_,_,M,M,ap,(),(by rw[Q0,lS];lia),(by rw[Q0,lS,hb.len];exact aW ()),?_};have ei:((i:Int)+1).toNat=i+1:=();have b5:=al.insert (i:=i+1) (by rw[lS];lia) an b4;rw[ei];have em:((A.set i I).map V.ref).take (i+1)++V.ref n2::((A.set i I).map V.ref).drop (i+1)=((A.set i I).take (i+1)++n2::(A.set i I).drop (i+1)).map V.ref:=by
  rw[Q8,Qt,ZE,Xr]
 rw[em];refine q _ _ b5<|f2.trans (λb o n w=>?_);have w3:=s3 _ _ w;refine{by rwa[ag (λy=>n<|.inr<|.inl y)],λy=>?_};rcases y with y|y|y
 .exact n<|.inl y
 .exact n<|.inr (.inl y)
 .rcases Q5.mp y with y|y
  .exact n<|.inr (.inr<|Zg y)
  .rcases Qb.mp y with y|y
   .rw[y,Z]at w;cases w
   .exact n<|.inr (.inr<|Xb y)
def Od.insM(h:Od t H a L A ls):∃dx fs,H a=some (.ins t.bC dx fs)/\∀m,m≠(kt:Str)->fs.lookup m=none:=by
 let{dx,z}:=h.obj;exact{dx,_,z,λm I=>KO I}
def uM(T:Txt K mg t w):E7 P w K mg base NX 3 t.nY t.iW [cC,eR] (tK K t):=by
 let{O,I}:=T.g_MOST_IN_LEAF;refine T.Ih.okl ud λ_ _ _ s H vs Q E hr h _=>?_;intro X;let{a,k,F,ks,rfl,hA,hl,q1,q2}:=h;refine ah (aM (br<|aT DA T.aJ T.xc (lE T) hr.mo T.xl .nil az<|aa HW ae)
    (au bW)
    aA)
   (bU (λx=>aM (ar bX (aD aC {_} T.bG a7 (aa (aH DA M) ae)) ai<|ax _) x aA) ?_)
 refine ah (aO<|bR Qk QJ QK cp (aH DA M)<|aa (bh<|aa HW ae) ae)
   (aw pG ?_)
 intros
 refine ah (N7 2<|aD (mM M) {_} T.zP rp (aa (aT DA T.aJ T.cK (bS T) hr.mo T.cN .nil az<|aa HW ae)<|aa (aq iE (aD aC {_} T.bG a7 (aa (aH DA M) ae)) ai) ae))
   (ah (N7 3<|aP aK (aH DA M) M2<|λ_ _=>M)
   (ah (aO<|bR Qk PySem.F.slot_list_insert PySem.F.type_list_insert xM O8<|aa (aD aC {_} T.bG a7 (aa (lh M (N5.of (M':=["one"]) (N:=[cC,eR,wh,"leaf"]) (N':=[cC,eR,wh,"leaf"]) (dsc:=aj eQ) M M ∅) (dZ O8) (λ_ _ _ _ _=>(ar dz DA M2<|ax _))<|λ_ _ _ _ _=>DA) ae))<|aa HW ae)
   (aw (aM (ar C9 (aD aC {_} T.bG a7 (aa O8 ae)) (bD (v:= .int 8) {_} I {_,M})<|ax _)
    (au<|aO<|aT DA T.aJ T.Bo (lD T) hr.mo T.Bq .nil az<|aa M2 ae)
    aA) ?_)))
 intros
 let{dx,fs,hi,hm}:=hA.ins;refine{_,M,a,dx,fs,M,hi,hm _ ∅,_,M,a,k,F,ks,M,hA,λH0 F0 a6 a1=>?_};by_cases ck:k∈ks
 .rw[VD ck];refine{_,M,b7 ?_};exact(q2 ck).elim
 rw[VJ ck];refine{_,M,bL ?_};have q:=q1 ck;let{L,A,ls,hb,ok,ef,hF}:=a6;let{U,ho}:=hb.obj;have lA:((A.map V.ref).length:Int)=(ls.length:Int):=by rw[Q0,hb.len]
 have sh:=ok.short;rw[ef]at sh;have fr:Fr F (Ov a L A) H H0:=λb o n e=>{(a1 b o n e).1,λy=>(a1 b o n e).2<|(hF b).mpr y};have nk:k∉ls.flatten:=by rwa[ef]
 by_cases ce:ls=[]
 .subst ce;have eA:A=[]:=List.length_eq_zero_iff.mp hb.len;subst eA;refine{_,M,a,_,U,_,_,M,ho,T.aJ,T.aB,cM,L,_,M,.inl<|Dz.of hb.lst,M,_,M,dA M ?_};refine{_,M,a,_,U,_,_,M,ho,T.aJ,T.aB,cM,.inl {M,_,Dz.of hb.lst},_,M,(by show 1<=sizeLine;decide),λn nn=>?_};have s1:Ba H0 (upd H0 n<|.lst [.int k]):=ak nn;have hb1:=hb.same s1;have ac:upd H0 n (.lst [.int k]) n=some (.lst<|([k]:Rn).map V.int):=A9;have nF:=hb.out nn;have af:=s1 _ _ hb.lst;refine{L,_,_,M,M,af,cy (by show 0<=1000;decide),?_};have al:=hb1.insert (i:=0) (Qc _) ac nF;have an:OE [[k]]:={(λl hl=>by rw[Q9.mp hl];simp),(λl hl=>by rw[Q9.mp hl];simp),(λi x y e1 e2=>by simp at e2),by show cq [k];exact Zh _ _};refine q _ (Ov a L [n]) [k] {L,[n],[[k]],al,an,M,λb=>Iff.rfl} (λz=>?_)<|fr.trans λb o n' w=>?_
  .rw[<-ef];simp
  .have w1:=s1 _ _ w;refine{by rwa[ag (λy=>n'<|.inr<|.inl y)],λy=>?_};rcases y with y|y|y
   .exact n'<|.inl y
   .exact n'<|.inr (.inl y)
   .rw[Q9.mp y,nn]at w;cases w
 .have bt:=Z4.mpr ce;refine{_,M,a,_,U,_,_,M,ho,T.aJ,T.aB,cM,L,_,M,.inl<|Dz.of hb.lst,M,_,M,aZ (λw=>?_) ?_}
  .have:=V.int.inj w;lia
  let{ap,b1,b2,b3}:=hb.insM;refine{_,M,a,ap,b1,M,b2,b3 _ ∅,_,M,a,k,L,A,ls,M,hb,ok.ne,ok.up,λi li=>?_};refine{_,M,a,_,U,_,_,M,ho,T.aJ,T.aB,cM,L,_,M,.inl<|Dz.of hb.lst,_,_,M,M,_,_,M,?_};let{x,ad}:=li.add ok ce;have em:(if((A.map V.ref).length:Int)-1<(i:Int)then((A.map V.ref).length:Int)-1 else(i:Int))=((min i (ls.length-1):Nat):Int):=by
   rw[lA];split<;>lia
  dsimp only;rw[em];generalize min i (ls.length-1)=j at ad⊢;let{c,ec,hc}:=hb.at ad.at_;have jl:j<ls.length:=(Q2.mp ad.at_).1;have x8:=ok.le x (Q1 ad.at_);refine{_,M,a,_,U,_,_,M,ho,T.aJ,T.aB,cM,_,M,L,_,_,_,M,M,Dz.of hb.lst,eS ec,?_};refine{_,M,.inl {M,_,Dz.of hc},_,M,c,M,{_,Dz.of hc},λD hD=>?_};refine ku (K:=K) (a:=c) (xs:=x.map V.int) (λn ys H3=>H3=upd H0 D (.lst ys)/\ys=((x.take n).filter<|λz=>decide (z<k)).map V.int) ⟨M,M⟩ (λn ys H3 _ w=>Dz.of<|by rwa[w.1,ag (am hc hD)]) (λn v ys H3 hv w Y=>?_)<|λys H3 w Y=>?_
  .let{e1,e2}:=w;obtain⟨g,rfl,eg⟩:∃g:Int,v= .int g/\x[n]?=some g:=by
    rw[Qo]at hv;cases e:x[n]? with
    |none=>rw[e]at hv;cases hv
    |some g=>rw[e]at hv;cases hv;exact⟨g,M,M⟩
   have hn:n<(x.map V.int).length:=(Q2.mp hv).1;refine{_,M,_,M,_,_,M,M,_,M,?_};have fl:ys.length<=8:=by
    rw[e2,Q0];have h1:=Qm (λz=>decide (z<k)) (x.take n);have h2:(x.take n).length<=x.length:=by rw[Qe];lia
    lia
   by_cases cg:g<k
   .refine jT cg {_,M,OA.mk hn Y (cy ()) {by rw[e1,cY],?_}};rw[e2,Qp,eg,QE,Q8];simp[cg]
   .refine aZ cg<|OP.mk hn Y {e1,?_};rw[e2,Qp,eg,QE];simp[cg]
  .let{e1,e2}:=w;rw[Q0,Qy]at e2;have s3:Ba H0 H3:=by rw[e1];exact ak hD
   have b4:=hb.same s3;have b5:=s3 _ _ hc;have yl:(ys.length:Int)=((x.filter<|λz=>decide (z<k)).length:Int):=by rw[e2,Q0]
   have bv:=Qm (λz=>decide (z<k)) x;refine{D,_,M,.inl<|Dz.of Y,_,M,c,_,_,_,M,M,b5,(),(by rw[Q0];lia),(by rw[Q0];exact cy ()),?_};have ei:(x.map V.int).take (ys.length:Int).toNat++V.int k::(x.map V.int).drop (ys.length:Int).toNat=(eZ x k).map V.int:=by
    rw[yl,QR];unfold eZ;rw[Q8,Qt,ZE,Xr]
   dsimp only;rw[ei];have Z:=b4.write (y:=eZ x k) ec ad.at_;have il:=GH (l:=x) (k:=k);let{a2,a0}:=ad.set ok nk;have cF:Ov a L A c:= .inr (.inr<|Q1 ec);have f4:Fr (Ov a L A) (Ov a L A) H0 (upd H3 c<|.lst<|(eZ x k).map V.int):=λb o n w=>{by rw[ag (λy=>n<|by rwa[y])];exact s3 _ _ w,n};have a3:upd H3 c (.lst<|(eZ x k).map V.int) c=some (.lst<|(eZ x k).map V.int):=A9;generalize upd H3 c (.lst<|(eZ x k).map V.int)=H4 at Z f4 a3⊢;refine{_,M,c,_,M,.inl<|Dz.of a3,_,_,M,M,_,M,?_};have ll:((eZ x k).map V.int).length=x.length+1:=by rw[Q0,il]
   by_cases c9:x.length=8
   .refine jT (by rw[ll];lia) ?_;let{b8,ba,bb,be}:=Z.insM;have e5:(ls.set j<|eZ x k)[j]?=some (eZ x k):=by rw[Qw,VB M,VB jl]
    refine{_,M,a,b8,ba,M,bb,be _ ∅,_,M,a,L,A,_,j,_,M,Z,e5,(),by rw[QN];lia,λH6 A6 a4 f6=>?_};have er:(ls.set j<|eZ x k).set j ((eZ x k).take 4)=ls.set j ((eZ x k).take 4):=List.set_set _;rw[er]at a4;have bj:cq (ls.set j<|(eZ x k).take 4++(eZ x k).drop 4).flatten:=by rwa[QB]
    let{bl,a5}:=ok.parted ad.at_ (a:=(eZ x k).take 4) (b:=(eZ x k).drop 4) (by rw[Qe];lia) (by rw[Qz];lia) bj;rw[QB]at a5;refine q H6 _ _ {L,A6,_,a4,bl,M,λb=>Iff.rfl} (λz=>?_)<|fr.trans (f4.trans f6);rw[a5,a0,ef]
   .refine aZ (by rw[ll];lia) ?_;have bo:=ok.grown ad.at_ (y:=eZ x k) () () a2;exact q H4 _ _ {L,A,_,Z,bo,M,λb=>Iff.rfl} (λz=>by rw[a0,ef])<|fr.trans f4
def kF(t:NZ):Sp:=λvs H Q _=>∃(a L:Rl)(A:Rz)(ls:Sb)(i:Int),vs=[.ref a,.int i]/\Od t H a L A ls/\-1<=i/\i<(ls.length:Int)/\(∀l∈ls,l.length<=8)/\ls.length<5000/\
 ∀H' A' ls',Od t H' a L A' ls'->ls'=(if 0<=i then m9 ls i.toNat else ls)->Fr (Ov a L A) (Ov a L A') H H'->Q .non H'
def Gm{n:Rl}(h:b∈A.set i n):b∈A\/b=n:=List.mem_or_eq_of_mem_set h
def kH(T:Txt K mg t w):E7 P w K mg base NX 1 t.fc t.cU [cC,wh] (kF t):=by
 let{O,z}:=T.g_LEAST_IN_TWO;refine T.Bl.okl kG λ_ _ _ s H vs Q E hr h _=>?_;intro X;let{a,L,A,ls,i,rfl,hb,i0,i1,l8,ll,q}:=h;refine ah (aM (PW.pt<|kW (ar dz HW ai<|ax _)<|iD<|ar bX (aq bN HW ai) (aD aC {_} T.bG a7 (aa (aH DA M) ae))<|ax _)
    (au pG)
    aA)
   (ah (N7 2<|aq LO (aP aK (aH DA M) HW<|λ_ _=>M)<|aP aK (aH DA M) (aq bN HW ai)<|λ_ _=>M)
   (Da (λx=>aM (ar dz (aD aC {_} T.bG a7 (aa M2 ae)) (bD (v:= .int 5) {_} z {_,M})<|ax _) x aA) ?_))
 refine ah (yR M2<|BR (aH DA M) HW tR)
   (aw (aO<|bR Qk PySem.F.slot_list_pop PySem.F.type_list_pop Ax (aH DA M)<|aa (aq bN HW ai) ae) ?_)
 intros
 let{dx,ho}:=hb.obj;have lA:((A.map V.ref).length:Int)=(ls.length:Int):=by rw[Q0,hb.len]
 by_cases c0:i<0
 .refine{_,M,_,_,M,M,_,M,jT c0 ?_};exact b7<|q H A ls hb (by rw[VA ()]) Fr.refl
 refine{_,M,_,_,M,M,_,M,aZ c0 ?_};let{n,rfl}:=QU (show 0<=i by lia);have en:((n:Int)).toNat=n:=QR n;rw[VB (),en]at q;refine{_,M,_,_,M,M,_,M,a,_,dx,_,_,M,ho,T.aJ,T.aB,cM,L,_,M,.inl<|Dz.of hb.lst,M,_,M,?_};by_cases c1:n+1=ls.length
 .refine dA (VT V.int<|by rw[lA];lia) ?_;exact q H A ls hb (u0 ()).symm Fr.refl
 refine aZ (λw=>c1<|by have:=V.int.inj w;rw[lA]at this;lia) ?_;have hn:n<ls.length:=();have Y:n+1<ls.length:=();have ex:ls[n]?=some ls[n]:=Q3 hn;have ey:ls[n+1]?=some ls[n+1]:=Q3 Y;have x8:=l8 _ (Zm hn);have y8:=l8 _ (Zm Y);generalize ls[n]=x at ex x8;generalize ls[n+1]=y at ey y8;let{c,ec,hc}:=hb.at ex;let{d,ed,hd}:=hb.at ey;have al:(n:Int)+1=((n+1:Nat):Int):=M;refine{_,M,a,_,dx,_,_,M,ho,T.aJ,T.aB,cM,_,M,L,_,_,_,M,M,Dz.of hb.lst,eS ec,_,M,a,_,dx,_,_,M,ho,T.aJ,T.aB,cM,_,M,_,_,M,M,L,_,_,_,M,M,Dz.of hb.lst,eS ed,c,d,_,_,M,M,hc,hd,QX<|cy (by rw[Q0,Q0];lia),λI Z=>?_};rw[<-Q8];have s1:Ba H (upd H I<|.lst<|(x++y).map V.int):=ak Z;have hb1:=hb.same s1;have a0:upd H I (.lst<|(x++y).map V.int) I=some (.lst<|(x++y).map V.int):=A9;have nF:=hb.out Z;have a2:=s1 _ _ ho;have a3:=s1 _ _ hb.lst;generalize upd H I (.lst<|(x++y).map V.int)=H1 at s1 hb1 a0 a2 a3⊢;refine{_,M,I,_,M,.inl<|Dz.of a0,_,_,M,M,_,M,?_};have a4:(((x++y).map V.int).length:Int)=(x.length:Int)+(y.length:Int):=by rw[Q0,Q7];rfl
 rw[AJ ex ey]at q;by_cases c5:x.length+y.length<5
 .refine jT (by rw[a4];lia) ?_;rw[VB c5]at q;have nA:n<A.length:=by rwa[hb.len]
  refine{_,M,_,M,a,_,dx,_,_,M,a2,T.aJ,T.aB,cM,_,M,L,_,_,_,M,M,a3,Dn nA,?_};have es:(A.map V.ref).set n (V.ref I)=(A.set n I).map V.ref:=by rw[List.map_set]
  rw[es];have U:=hb1.swap ec ex a0 nF;let{a6,a5}:=U.obj;have a1:=U.lst;have f2:Fr (Ov a L A) (Ov a L<|A.set n I) H (upd H1 L<|.lst<|(A.set n I).map V.ref):=λb o n' w=>by
   have w1:=s1 _ _ w;refine{by rwa[ag (λy=>n'<|.inr<|.inl y)],λy=>?_};rcases y with y|y|y
   .exact n'<|.inl y
   .exact n'<|.inr (.inl y)
   .rcases Gm y with y|y
    .exact n'<|.inr (.inr y)
    .rw[y,Z]at w;cases w
  generalize upd H1 L (.lst<|(A.set n I).map V.ref)=H2 at U a5 a1 f2⊢;have lS:((A.set n I).map V.ref).length=ls.length:=by rw[Q0,QN,hb.len]
  have ac:n+1<(A.set n I).length:=by rwa[QN,hb.len]
  have sx:seqIndex? ((n:Int)+1) ((A.set n I).map V.ref).length=some (n+1):=by
   have:=seqIndex_of (k:=(n:Int)+1) (n:=((A.set n I).map V.ref).length) () (by rw[lS];lia);rw[this];congr 1
  refine{_,M,a,_,a6,_,_,M,a5,T.aJ,T.aB,cM,.inl {M,_,Dz.of a1},_,M,_,_,M,M,L,_,_,n+1,_,M,M,a1,(),(),sx,(by rw[Qo,Q3 ac];rfl),?_};have af:=U.erase (i:=n+1);have em:((A.set n I).map V.ref).eraseIdx (n+1)=((A.set n I).eraseIdx<|n+1).map V.ref:=oU _ _;rw[em];refine q _ _ _ af M<|f2.trans λb o n' w=>?_;refine{by rwa[ag (λy=>n'<|.inr<|.inl y)],λy=>?_};rcases y with y|y|y
  .exact n'<|.inl y
  .exact n'<|.inr (.inl y)
  .exact n'<|.inr (.inr<|Zd y)
 .refine aZ (by rw[a4];lia) ?_;rw[VA c5]at q;exact q H1 A ls hb1 M<|Fr.of_same s1
def oN(T:Txt K mg t w):E7 P w K mg base NX 3 t.hJ t.eh [cC,eR] (ou K t):=by
 refine T.DJ.okl oz λ_ _ _ s H vs Q E hr h _=>?_;intro X;let{a,k,F,ks,rfl,hA,hl,q1,q2}:=h;refine ah (aM (cz<|br<|aT DA T.aJ T.xc (lE T) hr.mo T.xl .nil az<|aa HW ae)
    (au bW)
    aA)
   (ah (N7 2<|aT DA T.aJ T.cK (bS T) hr.mo T.cN .nil az<|aa HW ae)
   (ah (aO<|bR Qk PySem.F.slot_list_remove PySem.F.type_list_remove Et (aP aK (aH DA M) M2<|λ_ _=>M)<|aa HW ae)
   (bU (λx=>aM (ar bX (aD aC {_} T.bG a7 (aa (aP aK (aH DA M) M2<|λ_ _=>M) ae)) ai<|ax _) x aA) ?_)))
 refine ah (aO<|bR Qk PySem.F.slot_list_pop PySem.F.type_list_pop Ax (aH DA M)<|aa M2 ae)
   (aw pG ?_)
 intros
 refine ah (aO<|aT DA T.aJ T.lI (kH T) hr.mo T.lZ .nil az<|aa M2 ae)
   (aw (aO<|aT DA T.aJ T.lI (kH T) hr.mo T.lZ .nil az<|aa (aq iE M2 ai) ae) ?_)
 intros
 let{dx,fs,hi,hm}:=hA.ins;refine{_,M,a,dx,fs,M,hi,hm _ ∅,_,M,a,k,F,ks,M,hA,λH0 F0 ac a2=>?_};by_cases ck:k∈ks
 case neg=>
  rw[VJ ck];refine{_,M,b7 ?_};exact(q2 ck).elim
 rw[VD ck];refine{_,M,bL ?_};have q:=q1 ck;let{L,A,ls,hb,ok,ef,hF}:=ac;let{af,ho}:=hb.obj;have sh:=ok.short;rw[ef]at sh;have fr:Fr F (Ov a L A) H H0:=λb o n e=>{(a2 b o n e).1,λy=>(a2 b o n e).2<|(hF b).mpr y};let{al,an,ap,b1}:=hb.insM;refine{_,M,a,al,an,M,ap,b1 _ ∅,_,M,a,k,L,A,ls,M,hb,ok.ne,ok.up,λi li=>?_};let{x,ex,hx}:=(li.mem ok).mp (by rwa[ef]);let{c,ec,hc}:=hb.at ex;have il:i<ls.length:=(Q2.mp ex).1;have bw:i<A.length:=by rwa[hb.len]
 refine{_,M,a,_,af,_,_,M,ho,T.aJ,T.aB,cM,_,M,L,_,_,_,M,M,Dz.of hb.lst,eS ec,.inl {M,_,Dz.of hc},_,M,c,x,k,M,M,hc,hx,?_};have hb1:=hb.write (y:=x.erase k) ec ex;let{up1,I}:=ok.gone ex hx;have cF:Ov a L A c:= .inr (.inr<|Q1 ec);have f1:Fr (Ov a L A) (Ov a L A) H0 (upd H0 c<|.lst<|(x.erase k).map V.int):=λb o n w=>{by rwa[ag (λy=>n<|by rw[y];exact cF)],n};have a3:upd H0 c (.lst<|(x.erase k).map V.int) c=some (.lst<|(x.erase k).map V.int):=A9;let{a4,Z}:=hb1.obj;have U:=hb1.lst;generalize upd H0 c (.lst<|(x.erase k).map V.int)=H1 at hb1 f1 a3 Z U⊢;have le:=List.length_erase_of_mem hx;refine{_,M,a,_,a4,_,_,M,Z,T.aJ,T.aB,cM,_,M,L,_,_,_,M,M,Dz.of U,eS ec,c,_,M,.inl<|Dz.of a3,M,_,M,?_};have px:=List.length_pos_of_mem hx;by_cases c0:x.length=1
 .refine dA (VT V.int<|by rw[Q0,le,c0];rfl) ?_;have en:x.erase k=[]:=List.length_eq_zero_iff.mp ();rw[en]at up1 I hb1;have sx:seqIndex? (i:Int) (A.map V.ref).length=some i:=by
   have:=seqIndex_of (k:=(i:Int)) (n:=(A.map V.ref).length) () (by rw[Q0];lia);rw[this,QR]
  refine{_,M,a,_,a4,_,_,M,Z,T.aJ,T.aB,cM,.inl {M,_,Dz.of U},_,M,L,_,_,i,_,M,M,U,(),(),sx,(by rw[Qo,ec];rfl),?_};have O:=hb1.erase (i:=i);have e2:(ls.set i ([]:Rn)).eraseIdx i=ls.eraseIdx i:=xV _ _ _;rw[e2]at O;rw[oU];let{b2,b3}:=ok.out ex c0 up1;refine q _ _ _ {L,_,_,O,b2,M,λb=>Iff.rfl} (λz=>by rw[b3,I,ef])<|(fr.trans f1).trans λb o n w=>?_;refine{by rwa[ag (λy=>n<|.inr<|.inl y)],λy=>?_};rcases y with y|y|y
  .exact n<|.inl y
  .exact n<|.inr (.inl y)
  .exact n<|.inr (.inr<|Zd y)
 .refine aZ (λw=>c0<|by have:=V.int.inj w;rw[Q0,le]at this;lia) ?_;have ny:x.erase k≠[]:=Zv ();have w1:=ok.shrunk ex ny () up1;let{b4,b5,b8,ba}:=hb1.insM;have a0:(ls.set i<|x.erase k).length=ls.length:=QN;refine{_,M,a,b4,b5,M,b8,ba _ ∅,_,M,a,L,A,_,(i:Int),M,hb1,(),by rw[a0];lia,w1.le,by rw[a0];lia,λH2 A2 Y O e2 f2=>?_};rw[VB (),QR]at e2;let{w2,a5}:=w1.join (i:=i) (λj h=>h);rw[<-e2]at w2 a5;have l2:i<=Y.length/\Y.length<=ls.length:=by
   have:=EG (ls:=ls.set i<|x.erase k) (i:=i);rw[<-e2,a0]at this;lia
  let{bb,be,bj,bl}:=O.insM;refine{_,M,a,bb,be,M,bj,bl _ ∅,_,M,_,_,M,M,a,L,A2,Y,(i:Int)-1,M,O,(),(),w2.le,(),λH3 A3 a1 bo e3 f3=>?_};have fin:OE a1/\a1.flatten=Y.flatten:=by
   by_cases ci:i=0
   .subst ci;rw[VA ()]at e3;subst e3;exact{w2.ok λj h=>(),M}
   .have ei:((i:Int)-1).toNat=i-1:=();rw[VB (),ei]at e3;let{w3,a6}:=w2.join (i:=i-1) (λj h=>());rw[<-e3]at w3 a6;exact{w3.ok λj h=>(),a6}
  let{bt,bv}:=fin;refine q H3 _ _ {L,A3,a1,bo,bt,M,λb=>Iff.rfl} (λz=>by rw[bv,a5,I,ef])<|((fr.trans f1).trans f2).trans f3
def K7(a l:Rl)(k n:Int)(ls:Sb)(H:Hp):Nat->St->Hp->Prop:=λm B H'=>∃(i:Nat),m=ls.length-i/\Ba H H'/\H l=none/\B=[some (.ref a),some (.int k),some (.int n),some (.ref l),some (.int (i:Int))]/\i<=ls.length/\H' l=some (.lst<|(((ls.take i).flatten).filter λz=>decide (k<=z)).map V.int)
def qZ(e:ls[i]?=some x):(ls.take<|i+1).flatten=(ls.take i).flatten++x:=by
 rw[Qp,e,Zk];simp
def pZ(ls:Sb)(i:Nat):ls.flatten=(ls.take i).flatten++(ls.drop i).flatten:=by rw[<-Zk,QB]
def oM(T:Txt K mg t w):E7 P w K mg base NX 2 t.hI t.d9 [cC,eR,O'] (ot K t):=by
 refine T.DI.okl ON λ_ _ _ s H vs Q E hr h _=>?_;intro X;let{a,k,n,F,ks,rfl,hA,hl,n0,q}:=h;refine ah (N7 3<|bh ae)
   (ah (N7 4<|aT DA T.aJ T.cK (bS T) hr.mo T.cN .nil az<|aa HW ae)
   (bU (λx=>(kZ VU (PW.pt<|dG (ar dz OX (aD aC {_} T.bG a7 (aa (aH DA M) ae))<|ax _)<|cI<|ar dz (aD aC {_} T.bG a7 (aa O8 ae)) M2<|ax _)
    x)) ?_))
 refine ah (aO<|bR Qk ZN ZO mH O8<|aa (lh M (N5.of (M':=["one"]) (N:=[cC,eR,O',"told",wh]) (N':=[cC,eR,O',"told",wh]) (dsc:=aj cH) M M ∅) (dZ<|aP aK (aH DA M) OX<|λ_ _=>M) (λ_ _ _ _ _=>(ar ux DA M2<|ax _))<|λ_ _ _ _ _=>DA) ae)
   (aw (yQ (i:=4) ON.nd M (Or.inl M) ai Cl) ?_)
 intros
 refine aw (ay<|cQ fO O8 fP<|cZ M2) ?_
 intros
 let{L,A,ls,hb,ok,ef,hF}:=hA;refine{Qc _,λl nl=>?_};have s0:Ba H (upd H l<|.lst []):=ak nl;have e0:upd H l (.lst []) l=some (.lst<|([]:Rn).map V.int):=A9;have U:=hb.same s0;generalize upd H l (.lst [])=H0 at s0 e0 U⊢;let{a3,a4,a5,a6}:=U.insM;refine{_,M,a,a3,a4,M,a5,a6 _ ∅,_,M,a,k,L,A,ls,M,U,ok.ne,ok.up,λi0 li=>?_};have f0:((ls.take i0).flatten).filter (λz=>decide (k<=z))=[]:=X2.mpr λz hz=>by
  have:=EM ok li z hz;simpa using this
 have lA:((A.map V.ref).length:Int)=(ls.length:Int):=by rw[Q0,hb.len]
 refine{K7 a l k n ls H,{_,i0,M,s0,nl,M,li.le,by rwa[f0]},?_};rintro m B H' ⟨i,rfl,s1,_,rfl,il,e1⟩;have hb1:=hb.same s1;let{a0,a1}:=hb1.obj;have fin:∀(done:((((ls.take i).flatten).filter λz=>decide (k<=z)).take n.toNat)=(ks.filter λz=>decide (k<=z)).take n.toNat),∀p,H' p=none->Q (.ref p) (upd H' p<|.lst<|gM ((((ls.take i).flatten).filter λz=>decide (k<=z)).map V.int) none<|some n):=λdone p np=>by
  refine q _ p (s1.trans<|ak np) ?_ ?_
  .cases e:H p with
   |none=>rfl
   |some o=>rw[s1 _ _ e]at np;cases np
  .rw[A9,vj n0,<-ZE,done]
 refine{_,M,_,M,a,_,a0,_,_,M,a1,T.aJ,T.aB,cM,L,_,M,.inl<|Dz.of hb1.lst,_,_,M,M,_,M,?_};by_cases c:i<ls.length
 .refine jT (by rw[lA];lia) ?_;refine{_,M,l,_,M,.inl<|Dz.of e1,_,M,_,_,M,M,_,M,?_};by_cases c2:((((((ls.take i).flatten).filter λz=>decide (k<=z)).map V.int).length:Nat):Int)<n
  .refine jT c2 ?_;refine{λac H''=>∃m',m'<ls.length-i/\K7 a l k n ls H m' ac H'',λ_ _ h=>h,?_};have ex:ls[i]?=some ls[i]:=Q3 c;let{b,eb,I}:=hb1.at ex;have lb:l≠b:=λz=>by
    let{b',a2,h'}:=hb.at ex;rw[eb]at a2;cases a2;rw[<-z,nl]at h';cases h'
   have al:=Qm (λz=>decide (k<=z)) (ls.take i).flatten;have af:(ls.take i).flatten.length+ls[i].length<=ks.length:=by
    rw[<-ef,pZ ls (i+1),qZ ex,Q7,Q7];lia
   refine{_,M,.inl {M,_,Dz.of e1},_,M,a,_,a0,_,_,M,a1,T.aJ,T.aB,cM,_,M,L,_,_,_,M,M,Dz.of hb1.lst,eS eb,b,M,{_,Dz.of I},λD hD=>?_};generalize ls[i]=x at ex I af⊢;refine ku (K:=K) (a:=b) (xs:=x.map V.int) (λm ys H3=>H3=upd H' D (.lst ys)/\ys=((x.take m).filter<|λz=>decide (k<=z)).map V.int) ⟨M,M⟩ (λm ys H3 _ w=>Dz.of<|by rw[w.1,ag (am I hD)];exact I) (λm v ys H3 Z w O=>?_)<|λys H3 w O=>?_
   .let{w1,Y}:=w;obtain⟨g,rfl,eg⟩:∃g:Int,v= .int g/\x[m]?=some g:=by
     rw[Qo]at Z;cases e:x[m]? with
     |none=>rw[e]at Z;cases Z
     |some g=>rw[e]at Z;cases Z;exact⟨g,M,M⟩
    have hn:m<(x.map V.int).length:=(Q2.mp Z).1;refine{_,M,_,M,_,_,M,M,_,M,?_};have fl:ys.length<=100000:=by
     rw[Y,Q0];have h1:=Qm (λz=>decide (k<=z)) (x.take m);have h2:(x.take m).length<=x.length:=by rw[Qe];lia
     lia
    by_cases cg:k<=g
    .refine jT cg {_,M,OA.mk hn O (aW fl) {by rw[w1,cY],?_}};rw[Y,Qp,eg,QE,Q8];simp[cg]
    .refine aZ cg<|OP.mk hn O {w1,?_};rw[Y,Qp,eg,QE];simp[cg]
   .let{w1,Y}:=w;rw[Q0,Qy]at Y;have s3:Ba H' H3:=by rw[w1];exact ak hD
    have e3:=s3 _ _ e1;have an:=Qm (λz=>decide (k<=z)) x;have hsz:((((ls.take i).flatten).filter λz=>decide (k<=z)).map V.int).length+ys.length<=sizeLine:=by
     rw[Y,Q0,Q0];exact QX<|aW ()
    refine{l,D,_,_,M,M,e3,O,hsz,?_};have hE:(((ls.take i).flatten).filter λz=>decide (k<=z)).map V.int++ys=(((ls.take<|i+1).flatten).filter λz=>decide (k<=z)).map V.int:=by
     rw[Y,qZ ex,QE,Q8]
    rw[hE];refine{_,M,_,_,M,M,_,?_,i+1,M,?_,nl,M,c,A9}
    .lia
    .exact bH (s1.trans s3) nl
  .refine aZ c2 ?_;refine{_,M,_,M,_,M,l,_,M,Dz.of e1,fin ?_};have:ks.filter (λz=>decide (k<=z))=((ls.take i).flatten).filter (λz=>decide (k<=z))++((ls.drop i).flatten).filter (λz=>decide (k<=z)):=by rw[<-ef,pZ ls i,QE]
   rw[this,Vl];rw[Q0]at c2;lia
 .refine aZ (by rw[lA];lia) ?_;have ei:i=ls.length:=();subst ei;refine{_,M,_,M,_,M,l,_,M,Dz.of e1,fin ?_};rw[Qy,ef]
def WDn(a l:Rl)(k:Se)(n:Int)(ls:Sb)(H:Hp):Nat->St->Hp->Prop:=λm B H'=>Ba H H'/\H l=none/\m<=ls.length/\B=[some (.ref a),some (vDn k),some (.int n),some (.ref l),some (.int<|(m:Int)-1)]/\H' l=some (.lst<|(((ls.drop m).flatten).reverse.filter<|dP k).map V.int)
def JA{c:Prop}[Decidable c]{D:kB}{A:Prop}(Pv:Sk)(main:∀z H',Pv z H'->D.nx z H')(I:c->(∀z H',Pv z H'->D.nx z H')->A)(O:Pv B H):if c then A else Kt D B H:=cu (λh=>I h main) (λ_=>main _ _ O)
def EQ(e:ls[i]?=some x):((ls.drop i).flatten).reverse=((ls.drop<|i+1).flatten).reverse++x.reverse:=by
 let{h,e}:=Q2.mp e;rw[Z2 h,e,Zi,List.reverse_append]
def ES(ok:OE ls)(I:OJ ls k i0):((ls.drop<|i0+1).flatten).reverse.filter (dP<|some k)=[]:=X2.mpr λz hz=>by
 have:=I.behind ok z (X6.mp hz);simp only[dP,VO];lia
def GZ{len:Nat}:(if((len:Int)-1<(i0:Int))then((len:Int)-1)else(i0:Int))=((min (i0+1) len:Nat):Int)-1:=by
 split<;>lia
def ET(ok:OE ls)(z:OJ ls k i0):((ls.drop<|min (i0+1) ls.length).flatten).reverse.filter (dP<|some k)=[]:=by
 rcases V7 (i0+1) ls.length with c|c
 .rw[ZR c];exact ES ok z
 .rw[Vf c,List.drop_length];rfl
def lF(T:Txt K mg t w):E7 P w K mg base NX 2 t.fK t.dq [cC,eR,O'] (kM K t):=by
 refine T.Bt.okl OH λ_ _ _ s H vs Q E hr h _=>?_;intro X;let{a,k,n,F,ks,rfl,hA,hl,n0,q}:=h;refine ah (N7 3<|bh ae)
   (ah (N7 4<|aq iE (aD aC {_} T.bG a7 (aa (aH DA M) ae)) ai)
   (bU (λx=>aM (ar C8 HW cr<|ax _) x aA) ?_))
 refine aw (N7 4<|aD (mM M) {_} T.zP rp (aa (aT DA T.aJ T.cK (bS T) hr.mo T.cN .nil az<|aa HW ae)<|aa OX ae)) ?_
 intros
 refine bU (λx=>(kZ VU (PW.pt<|dG (ar ux OX ai<|ax _)<|cI<|ar dz (aD aC {_} T.bG a7 (aa O8 ae)) M2<|ax _)
    x)) ?_
 refine ah (aO<|bR Qk ZN ZO mH O8<|aa (lh M (N5.of (M':=["one"]) (N:=[cC,eR,O',"told",wh]) (N':=[cC,eR,O',"told",wh]) (dsc:=aj cf) M M ∅) (LH {_} T.Lc (aa (aP aK (aH DA M) OX<|λ_ _=>M) ae)) (λ_ _ _ _ _=>(PW.pt<|kW (ar gv M2 cr<|ax _)<|iD<|ar gX DA M2<|ax _))<|λ_ _ _ _ _=>DA) ae)
   (aw (yQ (i:=4) OH.nd M (Or.inl M) ai Mf) ?_)
 intros
 refine aw (ay<|cQ fO O8 fP<|cZ M2) ?_
 intros
 let{L,A,ls,hb,ok,ef,hF}:=hA;refine{Qc _,λl nl=>?_};have s0:Ba H (upd H l<|.lst []):=ak nl;have e0:upd H l (.lst []) l=some (.lst<|([]:Rn).map V.int):=A9;have z:=hb.same s0;generalize upd H l (.lst [])=H0 at s0 e0 z⊢;let{a1,a2}:=z.obj;have lA:((A.map V.ref).length:Int)=(ls.length:Int):=by rw[Q0,hb.len]
 refine{_,M,a,_,a1,_,_,M,a2,T.aJ,T.aB,cM,L,_,M,.inl<|Dz.of z.lst,_,_,M,M,?_};rw[lA];refine{_,M,M,_,M,JA (λI H'=>∃m,WDn a l k n ls H m I H') (λI H' wW=>?main) (λc key=>?A) {ls.length,s0,nl,Q4 _,M,by rwa[List.drop_length]}}
 case A=>
  cases k with
  |none=>exact VG c (_)
  |some k=>
   let{a3,a4,a5,a6}:=z.insM;refine{_,M,a,a3,a4,M,a5,a6 _ ∅,_,M,a,k,L,A,ls,M,z,ok.ne,ok.up,λi0 li=>?_};refine{_,M,_,_,M,?_};dsimp only;rw[GZ];exact key _ _ {min (i0+1) ls.length,s0,nl,Nat.min_le_right _ _,M,by rwa[ET ok li]}
 case main=>
  let{m0,w0}:=wW;refine{WDn a l k n ls H,⟨m0,w0⟩,?_};rintro m B H' ⟨s1,_,ml,rfl,e1⟩;have hb1:=hb.same s1;let{ac,af}:=hb1.obj;have fin:∀(done:((((ls.drop m).flatten).reverse.filter<|dP k).take n.toNat)=(ks.reverse.filter<|dP k).take n.toNat),∀p,H' p=none->Q (.ref p) (upd H' p<|.lst<|gM ((((ls.drop m).flatten).reverse.filter<|dP k).map V.int) none<|some n):=λdone p np=>by
   refine q _ p (s1.trans<|ak np) ?_ ?_
   .cases e:H p with
    |none=>rfl
    |some o=>rw[s1 _ _ e]at np;cases np
   .rw[A9,vj n0,<-ZE,done]
  refine{_,M,_,_,M,M,_,M,?_};cases m with
  |zero=>
   refine aZ (_) ?_;refine{_,M,_,M,_,M,l,_,M,Dz.of e1,fin ?_};rw[Zf,ef]
  |succ i=>
   have im:((i+1:Nat):Int)-1=(i:Int):=();rw[im];refine jT () ?_;refine{_,M,l,_,M,.inl<|Dz.of e1,_,M,_,_,M,M,_,M,?_};by_cases c2:((((((ls.drop<|i+1).flatten).reverse.filter<|dP k).map V.int).length:Nat):Int)<n
   .refine jT c2 ?_;refine{λI H''=>∃m',m'<i+1/\WDn a l k n ls H m' I H'',λ_ _ h=>h,?_};have ex:ls[i]?=some ls[i]:=Q3 ml;let{b,eb,O}:=hb1.at ex;have ap:=Qm (dP k) ((ls.drop<|i+1).flatten).reverse;have al:((ls.drop<|i+1).flatten).reverse.length+ls[i].length<=ks.length:=by
     rw[<-ef,pZ ls (i+1),qZ ex,Q7,Q7,Z9];lia
    refine{_,M,.inl {M,_,Dz.of e1},_,M,a,_,ac,_,_,M,af,T.aJ,T.aB,cM,_,M,L,_,_,_,M,M,Dz.of hb1.lst,eS eb,b,_,M,Dz.of O,λD hD=>?_};generalize ls[i]=x at ex O al⊢;refine EX (K:=K) (a:=b) (xs:=x.map V.int) (λm ys H3=>H3=upd H' D (.lst ys)/\ys=((x.reverse.take m).filter<|dP k).map V.int) ⟨M,M⟩ (λm ys H3 _ w=>Dz.of<|by rwa[w.1,ag (am O hD)]) (λm v ys H3 hv w U=>?_)<|λys H3 w U=>?_
    .let{w1,Z}:=w;obtain⟨g,rfl,eg⟩:∃g:Int,v= .int g/\x.reverse[m]?=some g:=by
      rw[<-List.map_reverse,Qo]at hv;cases e:x.reverse[m]? with
      |none=>rw[e]at hv;cases hv
      |some g=>rw[e]at hv;cases hv;exact⟨g,M,M⟩
     have hn:m<(x.map V.int).length:=by
      have:=(Q2.mp hv).1;rwa [Z9]at this
     have fl:ys.length<=100000:=by
      rw[Z,Q0];have h1:=Qm (dP k) (x.reverse.take m);have h2:(x.reverse.take m).length<=x.reverse.length:=by rw[Qe];lia
      rw[Z9]at h2;lia
     have a0:dP k g=true->OA (x.map V.int).length m ys D (λm ys H3=>H3=upd H' D (.lst ys)/\ys=((x.reverse.take m).filter<|dP k).map V.int) (.int g) H3:=λY=>by
      refine OA.mk hn U (aW fl) {by rw[w1,cY],?_};rw[Z,Qp,eg,QE,Q8];simp[Y]
     have no:dP k g=false->OP (x.map V.int).length m ys D (λm ys H3=>H3=upd H' D (.lst ys)/\ys=((x.reverse.take m).filter<|dP k).map V.int) H3:=λY=>by
      refine OP.mk hn U {w1,?_};rw[Z,Qp,eg,QE];simp[Y]
     refine{_,M,M,_,M,?_};cases k with
     |none=>exact b7<|b7 {_,M,a0 M}
     |some k=>
      refine bL {_,M,_,M,_,_,M,M,_,M,?_};by_cases Y:g<=k
      .exact jT Y {_,M,a0<|VD Y}
      .exact aZ Y<|no (VJ Y)
    .let{w1,Z}:=w;rw[Q0,show x.length=x.reverse.length from Z9.symm,Qy]at Z;have s3:Ba H' H3:=by rw[w1];exact ak hD
     have e3:=s3 _ _ e1;have an:=Qm (dP k) x.reverse;have hsz:((((ls.drop<|i+1).flatten).reverse.filter<|dP k).map V.int).length+ys.length<=sizeLine:=by
      rw[Z,Q0,Q0];rw[Z9]at an;exact QX<|aW ()
     refine{l,D,_,_,M,M,e3,U,hsz,?_};have hE:(((ls.drop<|i+1).flatten).reverse.filter<|dP k).map V.int++ys=(((ls.drop i).flatten).reverse.filter<|dP k).map V.int:=by
      rw[Z,EQ ex,QE,Q8]
     rw[hE];refine{_,M,_,_,M,M,i,ZH _,bH (s1.trans s3) nl,nl,QX ml,M,A9}
   .refine aZ c2 ?_;refine{_,M,_,M,_,M,l,_,M,Dz.of e1,fin ?_};have:ks.reverse.filter (dP k)=((ls.drop<|i+1).flatten).reverse.filter (dP k)++((ls.take<|i+1).flatten).reverse.filter (dP k):=by rw[<-ef,pZ ls (i+1),List.reverse_append,QE]
    rw[this,Vl];rw[Q0]at c2;lia
theorem Ai:∀{a b:Rn},cq a->cq b->(∀z,z∈a↔z∈b)->a=b
 | [],[],_,_,_=>rfl
 | [],y::r,_,_,h=>by have:=(h y).mpr Q6;cases this
 |x::r,[],_,_,h=>by have:=(h x).mp Q6;cases this
 |x::r,y::r',ha,hb,h=>by
  let{O,Y}:=ZB.mp ha;let{U,Z}:=ZB.mp hb;have I:x=y:=by
   rcases Qb.mp ((h x).mp Q6)with e|e
   .exact e
   .rcases Qb.mp ((h y).mpr Q6)with e2|e2
    .exact e2.symm
    .have h1:=U x e;have h2:=O y e2;lia
  subst I;rw[Ai Y Z λz=>?_];constructor
  .intro hz;rcases Qb.mp ((h z).mp<|Qa _ hz)with e|e
   .have:=O z hz;lia
   .exact e
  .intro hz;rcases Qb.mp ((h z).mpr<|Qa _ hz)with e|e
   .have:=U z hz;lia
   .exact e
def Om.rise(h:Om K t H a F ks):cq ks:=by
 let{_,_,ls,_,ok,z,_}:=h;rw[<-z];exact ok.up
def PR.wide{l:Rl}(h:PR K F H a xs)(n:H l=none):PR K (λb=>F b\/b=l) H a xs:=by
 rcases h with⟨h,z⟩|h
 .refine .inl {h,λy=>?_};rcases y with y|y
  .exact z y
  .rcases h with h|⟨_,h⟩
   .rw[y,n]at h;cases h
   .rw[y,n]at h;cases h
 .exact .inr h
def PR.updG{l:Rl}(h:PR K (λb=>F b\/b=l) H a xs):PR K (λb=>F b\/b=l) (upd H l o) a xs:=h.fr λb u n e=>{by rwa[ag (λy=>n<|.inr y)],n}
def G9(ms:Rn)(lo hi:Se):∃cs:List Int,gM (ms.map V.int) lo hi=cs.map V.int/\cs.Sublist ms:=by
 refine{(ms.drop<|HT.sIx (ms.map V.int).length 0 lo).take<|HT.sIx (ms.map V.int).length (ms.map V.int).length hi-HT.sIx (ms.map V.int).length 0 lo,?_,?_}
 .unfold gM;rw[ZE,Xr]
 .exact(ZV _ _).trans<|List.drop_sublist _ _
def At(T:Txt K mg t w):E7 P w K mg base NX 1 t.vv t.oW [z9] zZ:=by
 refine T.CG.okl Ae λ_ _ _ s H vs Q E z h _=>?_;intro X;let{x,rfl,hx,k}:=h;refine{_,(au<|ay<|lq (aD e6 {_} T.bV bF (aa DA<|aa (pJ (v:= .ty "int") {_} T.Km Cz M) ae))<|ft<|LJ<|aD e6 {_} T.bV bF (aa DA<|aa (pJ (v:= .ty "bool") {_} T.NT JP M) ae))
  ,?_}
 cases x with
 |int i=>
  refine{_,M,_,_,_,_,M,OC.int _,L3,true,M,b7 ?_};exact{_,M,_,_,_,_,M,OC.int _,L4,_,M,k}
 |bl c=>
  refine{_,M,_,_,_,_,M,OC.bl _,L7,true,M,b7 ?_};exact{_,M,_,_,_,_,M,OC.bl _,L8,_,M,k}
 |str c=>exact{_,M,_,_,_,_,M,OC.str _,LY,false,M,bL k}
 |non=>exact{_,M,_,_,_,_,M,OC.non,LZ,false,M,bL k}
 |_=>exact hx.elim
def oJ(T:Txt K mg t w):E7 P w K mg base NX 2 t.yk t.rj [z9,"low"] BH:=by
 refine T.f8.okl BO λ_ _ _ s H vs Q E z h _=>?_;intro X;let{x,lo,rfl,hx,k}:=h;refine{_,(au<|ay<|lq (aE (At T) z.mo {_} T.LV T.CG.kp T.My .nil az (aa DA ae))<|ft<|bK ux DA HW<|ax _)
  ,?_}
 cases x with
 |int i=>exact{_,M,_,M,hx,true,M,b7 {_,M,_,M,_,_,M,M,k}}
 |bl c=>exact{_,M,_,M,hx,false,M,bL k}
 |str c=>exact{_,M,_,M,hx,false,M,bL k}
 |non=>exact{_,M,_,M,hx,false,M,bL k}
 |_=>exact hx.elim
def BU(T:Txt K mg t w):E7 P w K mg base NX 1 t.yg t.rc ["bound"] BD:=by
 refine T.ym.okl BK λ_ _ _ s H vs Q E z h _=>?_;intro X;let{x,rfl,hx,k}:=h;refine{_,(au<|ay<|pH (ar gv DA cr<|ax _) aR<|bP bO {_} T.kI fF (aa DA ae))
  ,?_}
 rcases hx with rfl|⟨i,rfl,hi⟩
 .exact{_,M,M,_,M,b7 k}
 .exact{_,M,M,_,M,bL {_,M,i,M,hi,k}}
def gw(T:Txt K mg t w):E7 P w K mg base NX 1 t.i7 t.iN [cC,"kind",wh,p7] (gb K):=by
 refine T.i8.okl tW λ_ _ _ s H vs Q E Z h _=>?_;intro X;let{p,C,dx,kd,a,e,rfl,I,cl,O,U,Y,k}:=h;refine ah (cm DA HW M)
   (ah (cm DA M2 M)
   (aw (cm DA O8 M) ?_))
 intros
 refine{_,M,_,M,p,C,dx,[],M,I,cl,O,(by show 0<1000;decide),_,M,_,M,p,C,dx,_,M,A9,cl,U,(by show 1<1000;decide),_,M,_,M,p,C,dx,_,M,A9,cl,Y,?_,?_}
 .have h1:=kY (f:=wh) (v:=a) (b6 "kind" (.str kd) []);have h2:=kY (f:="kind") (v:= .str kd) [];have h3:([]:RX).length=0:=M;lia
 rw[cY,cY];refine k _ _ (λb o q z=>by rw[ag z];exact q) A9 {?_,?_,?_,?_,?_}
 .rw[a9,VA ∅,a9,VA ∅,a9,VB M]
 .rw[a9,VA ∅,a9,VB M]
 .rw[a9,VB M]
 .rw[a9,VA ∅,a9,VA ∅,a9,VA ∅];rfl
 .rw[a9,VA ∅,a9,VA ∅,a9,VA ∅];rfl
def tkN(T:Txt K mg t w){kd:Int}(h:kd=0\/kd=1\/kd=2):Oz K (RD t kd)/\Hk K (RD t kd) "kind"/\Hk K (RD t kd) wh/\Hk K (RD t kd) p7:=by
 rcases h with rfl|rfl|rfl
 .exact⟨T.cV,T.sC,T.m8,T.cT⟩
 .exact⟨T.jo,T.BZ,T.pO,T.jf⟩
 .exact⟨T.c8,T.y9,T.gx,T.gY⟩
def Jv{kd:Int}(h:kd=0\/kd=1\/kd=2):(OQ kd).length<=5:=by
 rcases h with rfl|rfl|rfl<;>decide+kernel
def sv(T:Txt K mg t w):E7 P w K mg base NX 2 t.cW t.gK [cC] (cv t):=by
 refine T.Hq.okl r9 λ_ _ _ s H vs Q E U h _=>?_;intro X;let{p,dx,kd,fs,a,e,rfl,z,I,O,ba,be,q}:=h;refine{_,(au<|ay<|bR Z1 PySem.F.slot_str_join PySem.F.type_str_join Dd aR<|aa (bh<|aa (aH DA M)<|aa (aE (BU T) U.mo {_} T.Ew T.ym.kp T.E2 .nil az (aa (aH DA M) ae))<|aa (aE (BU T) U.mo {_} T.Ew T.ym.kp T.E2 .nil az (aa (aH DA M) ae)) ae) ae)
  ,?_}
 let{cl,n0,n1,n2}:=tkN T O.kd;let{Y,Z}:=Og.few O ba be;have kl:=Jv O.kd;refine{M,_,M,p,_,dx,fs,_,M,z,cl,n0,I.ki,_,M,p,_,dx,fs,_,M,z,cl,n1,I.at_,a,M,Y.1,_,M,p,_,dx,fs,_,M,z,cl,n2,I.end_,e,M,Z.1,(by show 3<=sizeLine;decide),λl nl=>?_};refine{Rb,l,[OQ kd,wr a,wr e],M,M,Dz.of A9,∅,?_,q _<|ak nl};have:=Y.2;have:=Z.2;simp only[Qt,Xf,List.sum_cons,List.sum_nil,Qi,ZP];lia
def mJ{x:V}(h:isF lo x=true):∃i,x= .int i/\lo<=i:=by
 cases x with
 |int i=>exact{i,M,VF h}
 |_=>cases h
def je(T:Txt K mg t w):E7 P w K mg base NX 3 t.kE t.cx [cC,wh,p7] (qD t):=by
 let{I,z}:=T.g_PLACES;have a0:=OT.nd;refine T.Fh.ok OT (λvs H Q E h=>?_)<|λa1 A outer s H vs Q E Y h=>?_
 .let{p,dx,a,e,rfl,_}:=h;rfl
 .let{p,dx,a,e,rfl,hp,sa,se,k1,k2}:=h;refine ah (aM (cz<|PW.pt<|dG (br<|aE (oJ T) Y.mo {_} T.jg T.f8.kp T.jp .nil az (aa HW<|aa ai ae))<|dG (br<|aE (oJ T) Y.mo {_} T.jg T.f8.kp T.jp .nil az (aa M2<|aa HW ae))<|cI<|ar gX M2 (bD (v:= .int 65536) {_} z {_,M})<|ax _)
   (au bW)
   aA)
     (aw (aO<|yU {_} T.AD T.m7 T.i8.kp (gw T) Y.mo T.nI .nil az (aa DA<|aa aR<|aa HW<|aa M2 ae)) ?_)
  intros
  refine{_,M,a,0,M,sa,_,M,cu (λc=>?_)<|λc=>?_}
  .let{i,rfl,i0}:=mJ c;refine{_,M,_,M,e,i,M,se,_,M,cu (λc=>?_)<|λc=>?_}
   .let{j,rfl,ij}:=mJ c;refine{_,M,_,_,M,M,_,M,?_};by_cases O:j<=65536
    .rw[VD O];exact bL {_,M,_,M,_,M,p,_,dx,_,.int i,.int j,M,hp,T.cV,T.sC,T.m8,T.cT,λH' fs k h f=>k1 ⟨i,j,M,M,i0,ij,O⟩ H' fs k h f}
    .rw[VJ O];exact b7<|(k2 λzz=>by let{i',j',U,e2,_,_,h}:=zz;cases e2;exact O h)
   .exact b7<|(k2 λZ=>by let{i',j',U,e2,_,h,_}:=Z;exact c<|by cases U;rw[e2];exact VD h)
  .exact b7<|(k2 λZ=>by let{i',j',U,_,h,_}:=Z;exact c<|by rw[U];exact VD h)
def rC(T:Txt K mg t w):E7 P w K mg base NX 3 t.vA t.gJ [cC,wh,p7] (Aa t):=by
 have Y:=Op.nd;refine T.ML.ok Op (λvs H Q E h=>?_)<|λZ A outer s H vs Q E z h=>?_
 .let{p,dx,a,e,rfl,_}:=h;rfl
 .let{p,dx,a,e,rfl,hp,sa,se,k1,k2}:=h;refine ah (aM (cz<|PW.pt<|dG (br<|aE (oJ T) z.mo {_} T.jg T.f8.kp T.jp .nil az (aa HW<|aa ai ae))<|cI<|PW.pt<|kW (ar gv M2 cr<|ax _)<|iD<|br<|aE (oJ T) z.mo {_} T.jg T.f8.kp T.jp .nil az (aa M2<|aa HW ae))
   (au bW)
   aA)
     (aw (aO<|yU {_} T.AD T.m7 T.i8.kp (gw T) z.mo T.nI .nil az (aa DA<|aa aR<|aa HW<|aa M2 ae)) ?_)
  intros
  refine{_,M,a,0,M,sa,_,M,cu (λc=>?_)<|λc=>?_}
  .let{i,rfl,i0}:=mJ c;have fin:P7 (.int i) e->gb K [.ref p,.str "up",.int i,e] H (λ_ H'=>Q .non H') E0:=λok=>{p,_,dx,"up",.int i,e,M,hp,T.jo,T.BZ,T.pO,T.jf,λH' fs k h f=>k1 ok H' fs k h f};by_cases ce:e= .non
   .exact{_,M,M,_,M,dA ce<|bL {_,M,_,M,_,M,fin {i,M,i0,.inl ce}}}
   .refine{_,M,M,_,M,aZ ce {_,M,_,M,e,i,M,se,_,M,?_}};cases I:isF i e with
    |true=>
     let{j,rfl,ij}:=mJ I;exact bL {_,M,_,M,_,M,fin {i,M,i0,.inr ⟨j,M,ij⟩}}
    |false=>
     refine b7<|(k2 λO=>?_);let{i',U,_,e2}:=O;cases U;rcases e2 with e2|⟨j',e2,h⟩
     .exact ce e2
     .rw[e2]at I;exact VV I h
  .exact b7<|(k2 λO=>by let{i',U,h,_}:=O;exact c<|by rw[U];exact VD h)
def m6(T:Txt K mg t w):E7 P w K mg base NX 3 t.qr t.eB [cC,wh,p7] (wc t):=by
 have Z:=Of.nd;refine T.Kj.ok Of (λvs H Q E h=>?_)<|λa0 A outer s H vs Q E z h=>?_
 .let{p,dx,a,e,rfl,_}:=h;rfl
 .let{p,dx,a,e,rfl,hp,sa,se,k1,k2}:=h;refine ah (aM (cz<|PW.pt<|dG (br<|aE (oJ T) z.mo {_} T.jg T.f8.kp T.jp .nil az (aa M2<|aa ai ae))<|cI<|PW.pt<|kW (ar gv HW cr<|ax _)<|iD<|br<|aE (oJ T) z.mo {_} T.jg T.f8.kp T.jp .nil az (aa HW<|aa M2 ae))
   (au bW)
   aA)
     (aw (aO<|yU {_} T.AD T.m7 T.i8.kp (gw T) z.mo T.nI .nil az (aa DA<|aa aR<|aa HW<|aa M2 ae)) ?_)
  intros
  refine{_,M,e,0,M,se,_,M,cu (λc=>?_)<|λc=>?_}
  .let{j,rfl,Y}:=mJ c;have fin:P6 a (.int j)->gb K [.ref p,.str "down",a,.int j] H (λ_ H'=>Q .non H') E0:=λok=>{p,_,dx,"down",a,.int j,M,hp,T.c8,T.y9,T.gx,T.gY,λH' fs k h f=>k1 ok H' fs k h f};by_cases ce:a= .non
   .exact{_,M,M,_,M,dA ce<|bL {_,M,_,M,_,M,fin {j,M,Y,.inl ce}}}
   .refine{_,M,M,_,M,aZ ce {_,M,_,M,a,j,M,sa,_,M,?_}};cases I:isF j a with
    |true=>
     let{i,rfl,ij}:=mJ I;exact bL {_,M,_,M,_,M,fin {j,M,Y,.inr ⟨i,M,ij⟩}}
    |false=>
     refine b7<|(k2 λO=>?_);let{j',U,_,e2}:=O;cases U;rcases e2 with e2|⟨i',e2,h⟩
     .exact ce e2
     .rw[e2]at I;exact VV I h
  .exact b7<|(k2 λO=>by let{j',U,h,_}:=O;exact c<|by rw[U];exact VD h)
def y6(T:Txt K mg t w):E7 P w K mg base NX 1 t.rQ t.lT [cC,eR] (fN t):=by
 refine T.La.okl yJ λ_ _ _ s H vs Q E U h _=>?_;intro X;let{p,dx,fs,a,e,k,rfl,I,O,{i,rfl,i0,he},Y,q}:=h;refine{_,(au<|ay<|lq (bK gX (aH DA M) HW<|ax _)<|ft<|C5 (bK gv (aH DA M) cr<|ax _)<|ft<|bK dz HW (aH DA M)<|ax _)
  ,?_}
 have q:=q H (Ba.refl H);rcases he with rfl|⟨j,rfl,Z⟩
 .have q:Q (.bl<|decide (i<=k)) H:=q;refine{_,M,p,_,dx,fs,_,M,I,T.jo,T.pO,O.at_,_,M,_,_,M,M,_,M,cu (λc=>{_,M,p,_,dx,fs,_,M,I,T.jo,T.jf,O.end_,M,_,M,dA M ?_})<|λc=>?_}
  .rw[c]at q;exact q
  .rw[QT.mpr c]at q;exact q
 .have q:Q (.bl<|decide (i<=k)&&decide (k<j)) H:=q;refine{_,M,p,_,dx,fs,_,M,I,T.jo,T.pO,O.at_,_,M,_,_,M,M,_,M,cu (λc=>{_,M,p,_,dx,fs,_,M,I,T.jo,T.jf,O.end_,M,_,M,aZ (λz=>by cases z) {_,M,_,M,p,_,dx,fs,_,M,I,T.jo,T.jf,O.end_,_,_,M,M,?_}})<|λc=>?_}
  .rw[c,Zy]at q;exact q
  .rw[QT.mpr c,Zn]at q;exact q
def uP(T:Txt K mg t w):E7 P w K mg base NX 1 t.oe t.i4 [cC,eR] (dR t):=by
 refine T.Il.okl uj λ_ _ _ s H vs Q E U h _=>?_;intro X;let{p,dx,fs,a,e,k,rfl,I,O,{j,rfl,Y,ha},Z,q}:=h;refine{_,(au<|ay<|lq (bK gX (aH DA M) HW<|ax _)<|ft<|C5 (bK gv (aH DA M) cr<|ax _)<|ft<|bK gX HW (aH DA M)<|ax _)
  ,?_}
 have q:=q H (Ba.refl H);rcases ha with rfl|⟨i,rfl,ij⟩
 .have q:Q (.bl<|decide (j<=k)) H:=q;refine{_,M,p,_,dx,fs,_,M,I,T.c8,T.gY,O.end_,_,M,_,_,M,M,_,M,cu (λc=>{_,M,p,_,dx,fs,_,M,I,T.c8,T.gx,O.at_,M,_,M,dA M ?_})<|λc=>?_}
  .rw[c]at q;exact q
  .rw[QT.mpr c]at q;exact q
 .have q:Q (.bl<|decide (j<=k)&&decide (k<=i)) H:=q;refine{_,M,p,_,dx,fs,_,M,I,T.c8,T.gY,O.end_,_,M,_,_,M,M,_,M,cu (λc=>{_,M,p,_,dx,fs,_,M,I,T.c8,T.gx,O.at_,M,_,M,aZ (λz=>by cases z) {_,M,_,M,p,_,dx,fs,_,M,I,T.c8,T.gx,O.at_,_,_,M,M,?_}})<|λc=>?_}
  .rw[c,Zy]at q;exact q
  .rw[QT.mpr c,Zn]at q;exact q
set_option genInjectivity false in
structure Pz where
 p:Addr
 mo:Int
 v:V
structure Pu(t:NZ)(H:Hp)(m l:Rl)(es:List Pz):Prop where
 ob:∃dx,H m=some (.ins t.eU dx [("made",.ref l)])
 li:H l=some (.lst<|es.map λe=>V.ref e.p)
 tu:∀e∈es,H e.p=some (.tup [.int e.mo,e.v])
def Pu.keep{m l:Rl}{es:List Pz}(h:Pu t H m l es)(z:H' m=H m)(e2:H' l=H l)(I:∀b xs,H b=some (.tup xs)->H' b=some (.tup xs)):Pu t H' m l es:={h.ob.imp λ_ e=>z.trans e,e2.trans h.li,λe he=>I _ _<|h.tu e he}
def tI(t:NZ):Sp:=λvs H Q _=>∃(a dx:Rl),vs=[.ref a]/\H a=some (.ins t.eU dx [])/\∀(H':Hp)(l:Rl),Pu t H' a l []->H l=none->(∀b o,b≠a->H b=some o->H' b=some o)->Q .non H'
def uL(T:Txt K mg t w):E7 P w K mg base NX 1 t.nU t.iU [cC] (tI t):=by
 refine T.Ie.okl ub λ_ _ _ s H vs Q E O h _=>?_;intro X;let{a,dx,rfl,ha,q}:=h;refine{_,(au<|cm DA (bh ae) M)
  ,?_}
 refine{Qc _,λl z=>{_,M,a,_,dx,[],M,(by rwa[ag (am ha z)]),T.A7,T.wY,(by show 0<1000;decide),?_}};have I:a≠l:=am ha z;exact q _ l {⟨dx,A9⟩,by rw[ag I.symm];exact A9,λe he=>by cases he} z λb o n e=>by rwa[ag n,ag (am e z)]
def tH(t:NZ):Sp:=λvs H Q _=>∃(m l:Rl)(es:List Pz)(mo:Int)(v:V),vs=[.ref m,.int mo,v]/\Pu t H m l es/\es.length<100000/\
 ∀(H':Hp)(p:Rl),Pu t H' m l (es++ [⟨p,mo,v⟩])->H p=none->(∀b o,b≠l->H b=some o->H' b=some o)->Q .non H'
def uK(T:Txt K mg t w):E7 P w K mg base NX 1 t.nS t.iT [cC,"moment",mu] (tH t):=by
 refine T.Ic.okl ua λ_ _ _ s H vs Q E U h _=>?_;intro X;let{m,l,es,mo,v,rfl,M',le,q}:=h;refine{_,(au<|aO<|bR Qk QJ QK cp (aH DA M)<|aa (cE<|aa HW<|aa M2 ae) ae)
  ,?_}
 let{dx,I}:=M'.ob;refine{_,M,m,_,dx,_,_,M,I,T.A7,T.wY,M,.inl {M,_,Dz.of M'.li},_,M,_,M,(by show 2<=sizeLine;decide),λp np=>?_};have s1:=ak (o:= .tup [.int mo,v]) np;have pl:p≠l:=λz=>by rw[z,M'.li]at np;cases np
 have O:m≠l:=λz=>by have:=M'.li;rw[<-z,I]at this;cases this
 refine{l,_,_,M,M,s1 _ _ M'.li,aW (by rw[Q0];lia),?_};refine q _ p {{dx,by rw[ag O];exact s1 _ _ I},by rw[A9,Q8];rfl,λe he=>?_} np λb o n e=>by rw[ag n];exact s1 _ _ e
 rcases Q5.mp he with he|he
 .have te:=s1 _ _ (M'.tu e he);rwa[ag (λz=>by rw[z,s1 _ _ M'.li]at te;cases te)]
 .rw[Q9.mp he];rw[ag pl];exact A9
def OM.notup(h:OM K t H a F st)(e:H b=some (.tup xs)):¬F b:=λhb=>by
 let{d,h1,h2,_}:=h;let{dx,U}:=h1.obj;have I:∀o,H b=some o->(∀ys,o≠ .tup ys)->False:=λo q n=>by rw[e]at q;exact n _ (VL q).symm
 rcases(h2 b).mp hb with rfl|rfl|rfl|hb|⟨hs,rfl⟩|hb
 .exact I _ U<|λ_ z=>by cases z
 .exact I _ h1.tbl<|λ_ z=>by cases z
 .exact I _ h1.row0.lst<|λ_ z=>by cases z
 .let{_,_,_,_,q}:=h1.row0.has hb;exact I _ q<|λ_ z=>by cases z
 .have r1:=h1.row1;cases O:st.nxt with
  |none=>rw[O]at hs;cases hs
  |some m=>rw[O]at r1;exact I _ r1.lst<|λ_ z=>by cases z
 .have r1:=h1.row1;cases O:st.nxt with
  |none=>rw[O]at r1;rw[r1.1]at hb;cases hb
  |some m=>
   rw[O]at r1;let{_,_,_,_,q}:=r1.has hb;exact I _ q<|λ_ z=>by cases z
def Om.notup(h:Om K t H a F ks)(e:H b=some (.tup xs)):¬F b:=λhb=>by
 let{L,A,ls,h1,_,_,h2}:=h;let{dx,O}:=h1.obj;have I:∀o,H b=some o->(∀ys,o≠ .tup ys)->False:=λo q n=>by rw[e]at q;exact n _ (VL q).symm
 rcases(h2 b).mp hb with rfl|rfl|hb
 .exact I _ O<|λ_ z=>by cases z
 .exact I _ h1.lst<|λ_ z=>by cases z
 .let{_,_,_,_,q}:=h1.has hb;exact I _ q<|λ_ z=>by cases z
set_option genInjectivity false in
structure Pk where
 k:Int
 m:Addr
 l:Addr
 es:List Pz
set_option genInjectivity false in
structure O9 where
 now:Int
 fl:Int
 ma:Int
 st:N4
 ks:List Int
 di:List (Addr×List V)
 pa:List Pk
 ho:List (Int×V)
noncomputable def d6:List Pk->Int->List Pz
 | [],_=> []
 |e::r,k=>if e.k=k then e.es else d6 r k
noncomputable def PB(pa:List Pk):List (Int×V):=pa.map λe=>(e.k,V.ref e.m)
def P8(now fl:Int)(s l w:Rl)(mk:Int)(p h:Rl):List (Str×V):=[("now",.int now),("floor",.int fl),(Re,.ref s),(kt,.ref l),("written",.ref w),("marks",.int mk),("past",.ref p),("holders",.ref h)]
def NoH(m:Str):Prop:=m≠("now":Str)/\m≠("floor":Str)/\m≠(Re:Str)/\m≠(kt:Str)/\m≠("written":Str)/\m≠("marks":Str)/\m≠("past":Str)/\m≠("holders":Str)
instance {m:Str}:Decidable (NoH m):=by unfold NoH;infer_instance
section
variable{now now' fl mk mk':Int}{s l w:Rl}{m:Str}
def sP:(P8 now fl s l w mk p h).lookup ("now":Str)=some (.int now):=fQ
def Mn:(P8 now fl s l w mk p h).lookup ("floor":Str)=some (.int fl):=by unfold P8;rw[bT ∅,fQ]
def u7:(P8 now fl s l w mk p h).lookup (Re:Str)=some (.ref s):=by unfold P8;rw[bT ∅,bT ∅,fQ]
def Co:(P8 now fl s l w mk p h).lookup (kt:Str)=some (.ref l):=by unfold P8;rw[bT ∅,bT ∅,bT ∅,fQ]
def Ml:(P8 now fl s l w mk p h).lookup ("written":Str)=some (.ref w):=by unfold P8;rw[bT ∅,bT ∅,bT ∅,bT ∅,fQ]
def Mm:(P8 now fl s l w mk p h).lookup ("past":Str)=some (.ref p):=by unfold P8;rw[bT ∅,bT ∅,bT ∅,bT ∅,bT ∅,bT ∅,fQ]
def GI(n:NoH m):(P8 now fl s l w mk p h).lookup m=none:=by
 let{h1,h2,z,I,O,U,Y,Z}:=n;unfold P8;rw[bT h1,bT h2,bT z,bT I,bT O,bT U,bT Y,bT Z];rfl
def IM:b6 ("now":Str) (.int now') (P8 now fl s l w mk p h)=P8 now' fl s l w mk p h:=by unfold P8;rw[b6,VB M]
def JC:(P8 now fl s l w mk p h).length<1000:=by show 8<1000;decide
end
def Ow(a w p h:Rl)(pa:List Pk):Addr->Prop:=λb=>b=a\/b=w\/b=p\/b=h\/∃e∈pa,b=e.m\/b=e.l
structure Ol(t:NZ)(H:Hp)(a s l w p h:Rl)(x:O9):Prop where
 ob:∃dx,H a=some (.ins t.bj dx<|P8 x.now x.fl s l w x.ma p h)
 wr:H w=some (.lst<|x.di.map λe=>V.ref e.1)
 dr:∀e∈x.di,H e.1=some (.tup e.2)
 pa:H p=some (.dK<|aL<|PB x.pa)
 ho:H h=some (.dK<|aL x.ho)
 mx:∀e∈x.pa,Pu t H e.m e.l e.es
 ph:p≠h
 wl:∀e∈x.pa,e.l≠w
 kd:(x.pa.map (·.k)).Nodup
 md:(x.pa.map (·.m)).Nodup
 ld:(x.pa.map (·.l)).Nodup
def aX{t u:TS}{D:kB}(M':Sk)(h1:∀nx,(∀z H',M' z H'->nx z H')->t {D with nx:=nx} B H)(h2:∀z H',M' z H'->u D z H'):zW t u D B H:=h1 (u D) h2
def EB:uX (aL kvs)=(kvs.map (·.1)).map V.int:=by
 unfold uX aL;rw[QS,QS];rfl
def bZ(s:Ba H H2)(n:H2 p=none):H p=none:=by
 cases e:H p with
 |none=>rfl
 |some o=>rw[s _ _ e]at n;cases n
def F9{f:α->β}{l:List α}(n:(l.map f).Nodup){x y:α}(hx:x∈l)(hy:y∈l)(e:f x=f y):x=y:=by
 induction l with
 |nil=>cases hx
 |cons z r O=>
  let{I,U}:=QQ.mp n;rcases Qb.mp hx with rfl|hx'<;>rcases Qb.mp hy with rfl|hy'
  .rfl
  .exact VG (Qf.mpr ⟨y,hy',e.symm⟩) I
  .exact VG (Qf.mpr ⟨x,hx',e⟩) I
  .exact O U hx' hy'
section
variable{s l w:Rl}{x:O9}{pa:List Pk}{y:Pz}
def Ol.dom(A:Ol t H a s l w p h x)(hb:Ow a w p h x.pa b):∃o,H b=some o/\∀ys,o≠ .tup ys:=by
 let{dx,I}:=A.ob;rcases hb with rfl|rfl|rfl|rfl|⟨e,he,rfl|rfl⟩
 .exact{_,I,λ_ z=>by cases z}
 .exact{_,A.wr,λ_ z=>by cases z}
 .exact{_,A.pa,λ_ z=>by cases z}
 .exact{_,A.ho,λ_ z=>by cases z}
 .let{U,O}:=(A.mx e he).ob;exact{_,O,λ_ z=>by cases z}
 .exact{_,(A.mx e he).li,λ_ z=>by cases z}
def Ol.keep(A:Ol t H a s l w p h x)(g:∀b,Ow a w p h x.pa b->H' b=H b)(z:∀b xs,H b=some (.tup xs)->H' b=some (.tup xs)):Ol t H' a s l w p h x:=
 {A.ob.imp λ_ e=>(g a<|.inl M).trans e,(g w<|.inr<|.inl M).trans A.wr,λe he=>z _ _<|A.dr e he,(g p<|.inr<|.inr<|.inl M).trans A.pa,(g h<|.inr<|.inr<|.inr<|.inl M).trans A.ho,
  λe he=>(A.mx e he).keep (g _<|.inr<|.inr<|.inr<|.inr {e,he,.inl M}) (g _<|.inr<|.inr<|.inr<|.inr {e,he,.inr M}) z,A.ph,A.wl,A.kd,A.md,A.ld}
def Ol.same(A:Ol t H a s l w p h x)(m:Ba H H'):Ol t H' a s l w p h x:=A.keep (λb hb=>by
 let{o,e,_}:=A.dom hb;rw[e];exact m _ _ e) λb xs e=>m _ _ e
def Ol.set(A:Ol t H a s l w p h x){now mk:Int}{fl:Int}:Ol t (upd H a<|.ins t.bj dx<|P8 now fl s l w mk p h) a s l w p h {x with now:=now,fl:=fl,ma:=mk}:=by
 let{Y,O}:=A.ob;have n:∀{b:Rl}{o:HO},H b=some o->(∀c d fs,o= .ins c d fs->fs.length=1)->b≠a:=λe i z=>by
  rw[z,O]at e;have:=i _ _ _ (VL e).symm;cases this
 have I:∀{b:Rl}{o:HO},H b=some o->(∀c d fs,o≠ .ins c d fs)->b≠a:=λe i=>n e λc d fs z=>VG z (i c d fs);refine{⟨dx,A9⟩,by rw[ag (I A.wr λ_ _ _ z=>by cases z)];exact A.wr,λe he=>by rw[ag (I (A.dr e he) λ_ _ _ z=>by cases z)];exact A.dr e he,by rw[ag (I A.pa λ_ _ _ z=>by cases z)];exact A.pa,
  by rw[ag (I A.ho λ_ _ _ z=>by cases z)];exact A.ho,λe he=>?_,A.ph,A.wl,A.kd,A.md,A.ld}
 have M':=A.mx e he;let{Z,U}:=M'.ob;exact M'.keep (ag<|n U λ_ _ _ z=>by cases z;rfl) (ag<|I M'.li λ_ _ _ z=>by cases z) λb xs e=>by rwa[ag (I e λ_ _ _ z=>by cases z)]
def Ol.row(A:Ol t H a s l w p h x)(O:H r=some (.tup xs)):Ol t (upd H w<|.lst<|x.di.map (λe=>V.ref e.1)++ [.ref r]) a s l w p h {x with di:=x.di++ [(r,xs)]}:=by
 let{Y,U}:=A.ob;have I:∀{b:Rl}{o:HO},H b=some o->(∀ys,o≠ .lst ys)->b≠w:=λe i z=>by
  rw[z,A.wr]at e;exact i _ (VL e).symm
 refine{{Y,by rwa[ag (I U λ_ z=>by cases z)]},by rw[A9,Q8];rfl,λe he=>?_,by rw[ag (I A.pa λ_ z=>by cases z)];exact A.pa,by rw[ag (I A.ho λ_ z=>by cases z)];exact A.ho,λe he=>?_,A.ph,A.wl,A.kd,A.md,A.ld}
 .rcases Q5.mp he with he|he
  .rw[ag (I (A.dr e he) λ_ z=>by cases z)];exact A.dr e he
  .rwa[Q9.mp he,ag (I O λ_ z=>by cases z)]
 .have M':=A.mx e he;let{dm,Z}:=M'.ob;exact M'.keep (ag<|I Z λ_ z=>by cases z) (ag<|A.wl e he) λb xs e=>by rwa[ag (I e λ_ z=>by cases z)]
noncomputable def PQ(pa:List Pk)(k:Int)(y:Pz):List Pk:=pa.map λe=>if e.k=k then{e with es:=e.es++ [y]}else e
def xJ{f:Pk->β}(hf:∀e es,f {e with es:=es}=f e):(PQ pa k y).map f=pa.map f:=by
 unfold PQ;rw[QS];refine ZM λe _=>?_;show f (if e.k=k then _ else e)=_;split
 .exact hf _ _
 .rfl
set_option tactic.hygienic true in
def yV{e:Pk}(h:e∈PQ pa k y):∃g∈pa,e.k=g.k/\e.m=g.m/\e.l=g.l/\((g.k=k/\e.es=g.es++ [y])\/(g.k≠k/\e.es=g.es)):=by
 let{g,z,rfl}:=Qf.mp h;refine{g,z,?_};split
 .rename_i c;exact{M,M,M,.inl ⟨c,M⟩}
 .rename_i c;exact{M,M,M,.inr ⟨c,M⟩}
def LM(hb:Ow a w p h (PQ pa k y) b):Ow a w p h pa b:=by
 rcases hb with z|z|z|z|⟨e,he,z⟩
 .exact .inl z
 .exact .inr<|.inl z
 .exact .inr<|.inr (.inl z)
 .exact .inr<|.inr (.inr<|.inl z)
 .let{g,I,_,e2,O,_}:=yV he;rw[e2,O]at z;exact .inr<|.inr (.inr<|.inr ⟨g,I,z⟩)
def Ol.noted(A:Ol t H a s l w p h x){e:Pk}(he:e∈x.pa)(ek:e.k=k)(M':Pu t H' e.m e.l (e.es++ [y]))(Z:∀b o,b≠e.l->H b=some o->H' b=some o):Ol t H' a s l w p h {x with pa:=PQ x.pa k y}:=by
 let{dy,ho}:=A.ob;have hl:=(A.mx e he).li;have I:∀{b:Rl}{o:HO},H b=some o->(∀ys,o≠ .lst ys)->H' b=some o:=λe i=>Z _ _ (λz=>by
  rw[z,hl]at e;exact i _ (VL e).symm) e
 refine{{dy,I ho<|λ_ z=>by cases z},Z _ _ (A.wl e he).symm A.wr,λe he=>I (A.dr e he) (λ_ z=>by cases z),?_,I A.ho (λ_ z=>by cases z),λf hf=>?_,A.ph,λf hf=>?_,?_,?_,?_}
 .show H' p=some (.dK<|aL<|PB<|PQ x.pa k y);unfold PB;rw[xJ λ_ _=>rfl];exact I A.pa λ_ z=>by cases z
 .obtain⟨g,O,e1,e2,U,⟨c,e4⟩|⟨c,e4⟩⟩:=yV hf
  .have:g=e:=F9 A.kd O he (c.trans ek.symm);subst this;rw[e2,U,e4];exact M'
  .have Y:=A.mx g O;let{dm,hm}:=Y.ob;rw[e2,U,e4];exact Y.keep ((I hm λ_ z=>by cases z).trans hm.symm) ((Z _ _ (λz=>c<|by rwa[F9 A.ld O he z]) Y.li).trans Y.li.symm) λb xs e=>I e λ_ z=>by cases z
 .let{g,O,_,_,U,_}:=yV hf;rw[U];exact A.wl g O
 .show((PQ x.pa k y).map (·.k)).Nodup;rw[xJ λ_ _=>rfl];exact A.kd
 .show((PQ x.pa k y).map (·.m)).Nodup;rw[xJ λ_ _=>rfl];exact A.md
 .show((PQ x.pa k y).map (·.l)).Nodup;rw[xJ λ_ _=>rfl];exact A.ld
def C7(pa:List Pk)(k:Int):(aI (PB pa) k=none/\k∉pa.map (·.k))\/∃e∈pa,e.k=k/\aI (PB pa) k=some (.ref e.m)/\d6 pa k=e.es:=by
 induction pa with
 |nil=>exact .inl {kK,λz=>by cases z}
 |cons e r U=>
  show(aI ((e.k,V.ref e.m)::PB r) k=none/\_)\/∃g∈e::r,g.k=k/\aI ((e.k,V.ref e.m)::PB r) k=_/\(if e.k=k then e.es else d6 r k)=_;by_cases c:e.k=k
  .exact .inr {e,Q6,c,bi c,VB c}
  .rw[bc c,VA c];rcases U with⟨I,O⟩|⟨g,Y,I,O,Z⟩
   .refine .inl {I,λz=>?_};rw[Qt]at z;rcases Qb.mp z with z|z
    .exact c z.symm
    .exact O z
   .exact .inr {g,Qa _ Y,I,O,Z}
theorem xN:∀{pa:List Pk},k∉pa.map (·.k)->d6 pa k=[]
 | [],_=>rfl
 |e::r,n=>by
  rw[Qt]at n;show(if e.k=k then e.es else d6 r k)=[];rw[VA λz=>n (by rw[z];exact Q6)];exact xN λz=>n (Qa _ z)
theorem pQ{j:Int}:∀{pa:List Pk},k∈pa.map (·.k)->d6 (PQ pa k y) j=if j=k then d6 pa k++ [y]else d6 pa j
 |e::r,n=>by
  show(if(if e.k=k then{e with es:=e.es++ [y]}else e:Pk).k=j then(if e.k=k then{e with es:=e.es++ [y]}else e:Pk).es else d6 (PQ r k y) j)=if j=k then(if e.k=k then e.es else d6 r k)++ [y]else(if e.k=j then e.es else d6 r j)
  by_cases c:e.k=k
  .rw[VB c,VB c];show(if e.k=j then e.es++ [y]else d6 (PQ r k y) j)=_;by_cases d:j=k
   .rw[VB d,VB (c.trans d.symm)]
   .rw[VA d,VA λz=>d (z.symm.trans c),VA λz=>d (z.symm.trans c)];by_cases m:k∈r.map (·.k)
    .rw[pQ m,VA d]
    .have:PQ r k y=r:=by
      unfold PQ
      conv=>rhs;rw[<-List.map_id r]
      refine ZM λg I=>VA λz=>m ?_;rw[<-z];exact Qf.mpr ⟨g,I,M⟩
     rw[this]
  .rw[VA c,VA c];have m:k∈r.map (·.k):=by
    rw[Qt]at n;rcases Qb.mp n with z|z
    .exact VG z.symm c
    .exact z
   rw[pQ m];by_cases d:j=k
   .rw[VB d,VB d,VA λz=>c (z.trans d)]
   .rw[VA d,VA d]
theorem uU{e:Pk}{j:Int}:∀{pa:List Pk},e.k∉pa.map (·.k)->d6 (pa++ [e]) j=if j=e.k then e.es else d6 pa j
 | [],_=>by
  show(if e.k=j then e.es else[])=if j=e.k then e.es else[]
  by_cases c:e.k=j
  .rw[VB c,VB c.symm]
  .rw[VA c,VA (Ne.symm c)]
 |g::r,n=>by
  rw[Qt]at n;show(if g.k=j then g.es else d6 (r++ [e]) j)=if j=e.k then e.es else(if g.k=j then g.es else d6 r j)
  rw[uU λz=>n (Qa _ z)];by_cases c:g.k=j
  .rw[VB c,VB c,VA λz=>n (by rw[<-z,<-c];exact Q6)]
  .rw[VA c,VA c]
def Ol.newk(A:Ol t H a s l w p h x){m g:Rl}(nk:k∉x.pa.map (·.k))(M':Pu t H m g [])(n1:¬Ow a w p h x.pa m)(Y:¬Ow a w p h x.pa g):Ol t (upd H p<|.dK<|aL<|PB x.pa++ [(k,.ref m)]) a s l w p h {x with pa:=x.pa++ [⟨k,m,g,[]⟩]}:=by
 let{dy,Z}:=A.ob;have I:∀{b:Rl}{o:HO},H b=some o->(∀ys,o≠ .dK ys)->b≠p:=λe i z=>by
  rw[z,A.pa]at e;exact i _ (VL e).symm
 have kp:∀{m' l':Rl}{es:List Pz}{o:HO},Pu t H m' l' es->Pu t (upd H p o) m' l' es:=λM'=>by
  let{dm,hm}:=M'.ob;exact M'.keep (ag<|I hm λ_ z=>by cases z) (ag<|I M'.li λ_ z=>by cases z) λb xs e=>by rwa[ag (I e λ_ z=>by cases z)]
 refine{{dy,by rwa[ag (I Z λ_ z=>by cases z)]},by rw[ag (I A.wr λ_ z=>by cases z)];exact A.wr,λe he=>by rw[ag (I (A.dr e he) λ_ z=>by cases z)];exact A.dr e he,?_,by rw[ag A.ph.symm];exact A.ho,λe he=>?_,A.ph,λe he=>?_,?_,?_,?_}
 .rw[A9];show _=some (HO.dK<|aL<|PB<|x.pa++ [{k,m,g,[]}]);unfold PB;rw[Q8];rfl
 .rcases Q5.mp he with he|he
  .exact kp<|A.mx e he
  .rw[Q9.mp he];exact kp M'
 .rcases Q5.mp he with he|he
  .exact A.wl e he
  .rw[Q9.mp he];exact λz=>Y (.inr<|.inl z)
 all_goals
  rw[Q8];refine Xp.mpr {?_,by simp,λu hu v O z=>?_}
 .exact A.kd
 .cases Q9.mp O;rw[z]at hu;exact nk hu
 .exact A.md
 .cases Q9.mp O;let{e,he,U}:=Qf.mp hu;exact n1<|.inr (.inr<|.inr<|.inr {e,he,.inl<|z.symm.trans U.symm})
 .exact A.ld
 .cases Q9.mp O;let{e,he,U}:=Qf.mp hu;exact Y<|.inr (.inr<|.inr<|.inr {e,he,.inr<|z.symm.trans U.symm})
end
structure OI(pa pa':List Pk)(k:Int)(y:Pz):Prop where
 of:∀j,d6 pa' j=if j=k then d6 pa k++ [y]else d6 pa j
 ky:pa'.map (·.k)=if k∈pa.map (·.k)then pa.map (·.k)else pa.map (·.k)++ [k]
structure P9(K:Wi)(t:NZ)(H:Hp)(a s l w p h:Rl)(Fs Fl:Ro)(x:O9):Prop where
 o:Ol t H a s l w p h x
 sl:OM K t H s Fs x.st
 lv:Om K t H l Fl x.ks
 a1:∀b,Fs b->¬Fl b
 a2:∀b,Ow a w p h x.pa b->¬Fs b
 a3:∀b,Ow a w p h x.pa b->¬Fl b
def PM(a w p h:Rl)(Fs Fl:Ro)(pa:List Pk):Addr->Prop:=λb=>Fs b\/Fl b\/Ow a w p h pa b
section
variable{s l w:Rl}{Fs Fs' Fl Fl':Ro}{x:O9}
def P9.slots(Wh:P9 K t H a s l w p h Fs Fl x)(S:OM K t H' s Fs' st)(f:Fr Fs Fs' H H'):P9 K t H' a s l w p h Fs' Fl {x with st:=st}/\Fr (PM a w p h Fs Fl x.pa) (PM a w p h Fs' Fl x.pa) H H':=by
 have k1:∀b,Fl b->H' b=H b/\¬Fs' b:=λb hb=>by
  let{o,e}:=Wh.lv.dom hb;have:=f b o (λz=>Wh.a1 b z hb) e;exact{this.1.trans e.symm,this.2}
 have k2:∀b,Ow a w p h x.pa b->H' b=H b/\¬Fs' b:=λb hb=>by
  let{o,e,_}:=Wh.o.dom hb;have:=f b o (Wh.a2 b hb) e;exact{this.1.trans e.symm,this.2}
 have O:=Wh.o.keep (H':=H') (λb hb=>(k2 b hb).1) λb xs e=>(f b _ (Wh.sl.notup e) e).1;exact{{⟨O.ob,O.wr,O.dr,O.pa,O.ho,O.mx,O.ph,O.wl,O.kd,O.md,O.ld⟩,S,Wh.lv.frame λb hb=>(k1 b hb).1,λb h1 h2=>(k1 b h2).2 h1,λb hb=>(k2 b hb).2,Wh.a3},λb o n e=>{(f b o (λz=>n<|.inl z) e).1,λz=>z.elim (f b o (λz=>n<|.inl z) e).2 λz=>n<|.inr z}}
def P9.leaves(Wh:P9 K t H a s l w p h Fs Fl x)(S:Om K t H' l Fl' ks)(f:Fr Fl Fl' H H'):P9 K t H' a s l w p h Fs Fl' {x with ks:=ks}/\Fr (PM a w p h Fs Fl x.pa) (PM a w p h Fs Fl' x.pa) H H':=by
 have k1:∀b,Fs b->H' b=H b/\¬Fl' b:=λb hb=>by
  let{o,e}:=Wh.sl.dom hb;have:=f b o (Wh.a1 b hb) e;exact{this.1.trans e.symm,this.2}
 have k2:∀b,Ow a w p h x.pa b->H' b=H b/\¬Fl' b:=λb hb=>by
  let{o,e,_}:=Wh.o.dom hb;have:=f b o (Wh.a3 b hb) e;exact{this.1.trans e.symm,this.2}
 have O:=Wh.o.keep (H':=H') (λb hb=>(k2 b hb).1) λb xs e=>(f b _ (Wh.lv.notup e) e).1;exact{{⟨O.ob,O.wr,O.dr,O.pa,O.ho,O.mx,O.ph,O.wl,O.kd,O.md,O.ld⟩,Wh.sl.frame λb hb=>(k1 b hb).1,S,λb h1=>(k1 b h1).2,Wh.a2,λb hb=>(k2 b hb).2},λb o n e=>{(f b o (λz=>n<|.inr<|.inl z) e).1,λz=>z.elim (λz=>n<|.inl z) λz=>z.elim (f b o (λz=>n<|.inr<|.inl z) e).2 λz=>n<|.inr (.inr z)}}
def P9.own(Wh:P9 K t H a s l w p h Fs Fl x)(O:Ol t H' a s l w p h x')(I:x'.st=x.st)(e2:x'.ks=x.ks)(f:Fr (Ow a w p h x.pa) (Ow a w p h x'.pa) H H'):P9 K t H' a s l w p h Fs Fl x'/\Fr (PM a w p h Fs Fl x.pa) (PM a w p h Fs Fl x'.pa) H H':=by
 have k1:∀b,Fs b->H' b=H b/\¬Ow a w p h x'.pa b:=λb hb=>by
  let{o,e}:=Wh.sl.dom hb;have:=f b o (λz=>Wh.a2 b z hb) e;exact{this.1.trans e.symm,this.2}
 have k2:∀b,Fl b->H' b=H b/\¬Ow a w p h x'.pa b:=λb hb=>by
  let{o,e}:=Wh.lv.dom hb;have:=f b o (λz=>Wh.a3 b z hb) e;exact{this.1.trans e.symm,this.2}
 exact{{O,by rw[I];exact Wh.sl.frame λb hb=>(k1 b hb).1,by rw[e2];exact Wh.lv.frame λb hb=>(k2 b hb).1,Wh.a1,λb h1 h2=>(k1 b h2).2 h1,λb h1 h2=>(k2 b h2).2 h1},λb o n e=>{(f b o (λz=>n<|.inr<|.inr z) e).1,λz=>z.elim (λz=>n<|.inl z) λz=>z.elim (λz=>n<|.inr<|.inl z) (f b o (λz=>n<|.inr<|.inr z) e).2}}
def P9.dom(Wh:P9 K t H a s l w p h Fs Fl x)(hb:PM a w p h Fs Fl x.pa b):∃o,H b=some o/\∀ys,o≠ .tup ys:=by
 have I:∀F:Addr->Prop,F b->(∀xs,H b=some (.tup xs)->¬F b)->∀o,H b=some o->∃o,H b=some o/\∀ys,o≠ .tup ys:=λF O n o e=>{o,e,λys z=>n ys (by rw[e,z]) O};rcases hb with hb|hb|hb
 .let{o,e}:=Wh.sl.dom hb;exact I Fs hb (λxs e=>Wh.sl.notup e) o e
 .let{o,e}:=Wh.lv.dom hb;exact I Fl hb (λxs e=>Wh.lv.notup e) o e
 .exact Wh.o.dom hb
def P9.keep(Wh:P9 K t H a s l w p h Fs Fl x)(g:∀b,PM a w p h Fs Fl x.pa b->H' b=H b)(z:∀b xs,H b=some (.tup xs)->H' b=some (.tup xs)):P9 K t H' a s l w p h Fs Fl x:=
 {Wh.o.keep (λb hb=>g b<|.inr<|.inr hb) z,Wh.sl.frame λb hb=>g b<|.inl hb,Wh.lv.frame λb hb=>g b<|.inr<|.inl hb,Wh.a1,Wh.a2,Wh.a3}
end
structure OK(x:O9):Prop where
 ks:∀z,z∈x.ks↔(aI x.st.kv z).isSome=true
 n0:0<=x.now
 m0:0<=x.ma
 dl:(x.di.length:Int)=x.now+x.ma
 pl:(x.pa.length:Int)<=x.now
 el:∀j,((d6 x.pa j).length:Int)<=x.now
 sl:(x.st.kv.length:Int)<=x.now
 hn:(x.ho.map (·.1)).Nodup
 hv:∀p∈x.ho,x.fl<=p.1/\p.1<=x.now/\∃n:Int,p.2= .int n/\0<n
 fb:0<=x.fl/\x.fl<=x.now
 up:∀j,(d6 x.pa j).Pairwise (λa b=>a.mo<b.mo)/\∀y∈d6 x.pa j,y.mo<=x.now
def OR(K:Wi)(t:NZ)(H:Hp)(a:Rl)(F:Ro)(x:O9):Prop:=∃s l w p h Fs Fl,P9 K t H a s l w p h Fs Fl x/\OK x/\∀b,F b↔PM a w p h Fs Fl x.pa b
section
variable{x:O9}
def OR.ins(A:OR K t H a F x):∃dx fs,H a=some (.ins t.bj dx fs)/\(∀m,NoH m->fs.lookup m=none)/\fs.lookup ("now":Str)=some (.int x.now)/\fs.lookup ("floor":Str)=some (.int x.fl):=by
 let{s,l,w,p,h,Fs,Fl,Wh,_}:=A;let{dx,e}:=Wh.o.ob;exact{dx,_,e,λm z=>GI z,sP,Mn}
def OR.ok(A:OR K t H a F x):OK x:=by
 let{s,l,w,p,h,Fs,Fl,Wh,O,_}:=A;exact O
def OR.dom(A:OR K t H a F x)(hb:F b):∃o,H b=some o/\∀ys,o≠ .tup ys:=by
 let{s,l,w,p,h,Fs,Fl,Wh,_,g}:=A;exact Wh.dom<|(g b).mp hb
def OR.out(A:OR K t H a F x)(e:H b=none):¬F b:=λz=>by
 let{o,q,_}:=A.dom z;rw[q]at e;cases e
def OR.keep(A:OR K t H a F x)(g:∀b,F b->H' b=H b)(z:∀b xs,H b=some (.tup xs)->H' b=some (.tup xs)):OR K t H' a F x:=by
 let{s,l,w,p,h,Fs,Fl,Wh,O,f}:=A;exact{s,l,w,p,h,Fs,Fl,Wh.keep (λb hb=>g b<|(f b).mpr hb) z,O,f}
def OR.same(A:OR K t H a F x)(m:Ba H H'):OR K t H' a F x:=A.keep (λb hb=>by
 let{o,e,_}:=A.dom hb;rw[e];exact m _ _ e) λb xs e=>m _ _ e
def OR.upd(A:OR K t H a F x)(n:¬F q)(I:∀xs,H q≠some (.tup xs)):OR K t (L2.upd H q o) a F x:=A.keep (λb hb=>ag λz=>n<|z▸hb) λb xs e=>by rwa[ag λz=>I xs (by rw[<-z];exact e)]
end
def tN(t:NZ):Sp:=λvs H Q _=>∃(a s l w p h r:Rl)(k:Int)(x:O9)(v:V)(xs:Rq),vs=[.ref a,.ref r,v]/\Ol t H a s l w p h x/\H r=some (.tup xs)/\P4 xs 1=some (.int k)/\x.di.length<50000/\x.pa.length<50000/\(d6 x.pa k).length<50000/\
 ∀(H':Hp)(pa':List Pk)(q:Rl),Ol t H' a s l w p h {x with now:=x.now+1,di:=x.di++ [(r,xs)],pa:=pa'}->OI x.pa pa' k {q,x.now+1,v}->Fr (Ow a w p h x.pa) (Ow a w p h pa') H H'->Q (.int<|x.now+1) H'
def lG(T:Txt K mg t w):E7 P w K mg base NX 3 t.n9 t.iZ [cC,"row",mu] (tN t):=by
 refine T.Ik.okl ui λ_ _ _ s H vs Q E hr h _=>?_;intro X;let{a,s,l,wr,p,h,r,k,x,v,xs,rfl,A,ht,hk,l1,l2,l3,q}:=h;refine ah (N7 3<|aP jS HW ai<|λ_ _=>M)
   (ah (mE DA ai Cn)
   (ah (aO<|bR Qk QJ QK cp (aH DA M)<|aa HW ae)
   (ah (aO<|aT (bR Zj Vn PySem.F.type_dict_setdefault Es (aH DA M)<|aa O8<|aa (lf T.Nl (uL T) hr.mo {_} T.No T.HP .nil az) ae) T.A7 T.Hv (uK T) hr.mo T.HN .nil az<|aa (aH DA M)<|aa M2 ae)
   (aw (ay<|aH DA M) ?_))))
 intros
 let{dx,ho}:=A.ob;refine{_,M,r,_,_,_,M,M,OO.of ht,hk,?_};refine{_,M,a,_,dx,_,_,M,ho,T.a6,T.jP,sP,_,_,M,M,dx,_,ho,JC,?_};rw[IM];have A1:=A.set (now:=x.now+1) (mk:=x.ma) (fl:=x.fl) (dx:=dx);have o1:∀b o,b≠a->H b=some o->upd H a (.ins t.bj dx<|P8 (x.now+1) x.fl s l wr x.ma p h) b=some o:=λb o n e=>by rwa[ag n]
 have ra:r≠a:=λz=>by rw[z,ho]at ht;cases ht
 have U:=o1 _ _ ra ht;generalize upd H a (.ins t.bj dx<|P8 (x.now+1) x.fl s l wr x.ma p h)=H1 at A1 o1 U⊢;let{a3,a0}:=A1.ob;refine{_,M,a,_,a3,_,_,M,a0,T.a6,T.qR,Ml,.inl {M,_,Dz.of A1.wr},_,M,wr,_,_,M,M,A1.wr,aW (by rw[Q0];show x.di.length<=_;lia),?_};have Y:=A1.row U;have o2:∀b o,¬Ow a wr p h x.pa b->H b=some o->upd H1 wr (.lst<|x.di.map (λe=>V.ref e.1)++ [.ref r]) b=some o:=λb o n e=>by rw[ag λz=>n (.inr<|.inl z)];exact o1 _ _ (λz=>n<|.inl z) e
 generalize upd H1 wr (.lst<|x.di.map (λe=>V.ref e.1)++ [.ref r])=H2 at Y o2⊢;let{a4,a1}:=Y.ob;refine{_,M,a,_,a4,_,_,M,a1,T.a6,T.wZ,Mm,.inr<|.inr<|.inl {M,.inl {_,Y.pa}},_,M,λm dm nm nd a5=>{m,dm,M,A9,λH4 g M4 ng o4=>{M,?_}}};have s3:Ba H2 (upd (upd H2 dm<|.own m) m<|.ins t.eU dm []):=bH (ak nd) nm;have s4:Ba H2 H4:=λb o e=>o4 b o (λz=>by rw[z,nm]at e;cases e) (s3 b o e);have Z:=bZ s3 ng;have A4:=Y.same s4;have om:¬Ow a wr p h x.pa m:=λz=>by let{o,e,_}:=Y.dom z;rw[nm]at e;cases e
 have og:¬Ow a wr p h x.pa g:=λz=>by let{o,e,_}:=Y.dom z;rw[Z]at e;cases e
 have o5:∀b o,¬Ow a wr p h x.pa b->H b=some o->H4 b=some o/\b≠m/\b≠g:=λb o n e=>{s4 _ _<|o2 b o n e,λz=>(by have:=o2 b o n e;rw[z,nm]at this;cases this),λz=>(by have:=o2 b o n e;rw[z,Z]at this;cases this)};clear s3 s4 o4 o2 o1 A1 Y a1 a0 ho A ng nm nd a5 Z U ht;refine{p,_,Sum.inl k,.ref m,M,M,A4.pa,(by rw[dM];exact aW<|by show(PB x.pa).length<=_;unfold PB;rw[Q0];lia),λu hu=>?A,λhn=>?Wh}
 case' A=>
  have hu:aI (aL<|PB x.pa) (Sum.inl k:Key)=some u:=hu;rw[N8]at hu;obtain⟨e,he,O,ev,em⟩:∃e∈x.pa,e.k=k/\aI (PB x.pa) k=some (.ref e.m)/\d6 x.pa k=e.es:=by
   rcases C7 x.pa k with⟨z,_⟩|z
   .rw[z]at hu;cases hu
   .exact z
  rw[ev]at hu;cases hu;obtain⟨I,A5,he,N,f5⟩:∃I,Ol t H4 a s l wr p h {x with now:=x.now+1,di:=x.di++ [(r,xs)],pa:=I}/\e∈I/\(∀y,OI x.pa (PQ I k y) k y)/\Fr (Ow a wr p h x.pa) (Ow a wr p h I) H H4:=
   {x.pa,A4,he,λy=>{λj=>pQ<|Qf.mpr ⟨e,he,O⟩,by rw[xJ λ_ _=>M,VB (Qf.mpr ⟨e,he,O⟩)]},λb o n e=>{(o5 b o n e).1,n}}
  have le:e.es.length<50000:=by rwa[<-em]
  clear A4 em ev o5
 case' Wh=>
  have hn:aI (aL<|PB x.pa) (Sum.inl k:Key)=none:=hn;rw[N8]at hn;have nk:k∉x.pa.map (·.k):=by
   rcases C7 x.pa k with⟨_,z⟩|⟨e,_,_,z,_⟩
   .exact z
   .rw[z]at hn;cases hn
  have ep:bp (aL<|PB x.pa) (Sum.inl k:Key) (.ref m)=aL (PB x.pa++ [(k,.ref m)]):=by
   rw[jh];unfold bp;rw[cO,hn];rfl
  rw[ep];obtain⟨e,ee,O,le⟩:∃e:Pk,e={k,m,g,[]}/\e.k=k/\e.es.length<50000:={_,M,M,by show 0<50000;decide};obtain⟨I,A5,he,N,f5⟩:∃I,Ol t (upd H4 p<|.dK<|aL<|PB x.pa++ [(k,.ref m)]) a s l wr p h {x with now:=x.now+1,di:=x.di++ [(r,xs)],pa:=I}/\e∈I/\(∀y,OI x.pa (PQ I k y) k y)/\Fr (Ow a wr p h x.pa) (Ow a wr p h I) H (upd H4 p<|.dK<|aL<|PB x.pa++ [(k,.ref m)]):=by
   refine{x.pa++ [e],ee▸A4.newk nk M4 om og,Qv _ Q6,λy=>{λj=>?_,?_},λb o n eb=>{?_,λz=>?_}}
   .have a2:e.k∉x.pa.map (·.k):=by rwa[O]
    rw[pQ (by rw[Q8];exact Qv _<|Q9.mpr O.symm),uU a2,uU a2,VB O.symm,xN nk,ee];by_cases c:j=k
    .rw[VB c,VB c]
    .rw[VA c,VA c,VA c]
   .rw[xJ λ_ _=>M,VA nk,Q8,<-O];rfl
   .rw[ag λz=>n (.inr<|.inr<|.inl z)];exact(o5 b o n eb).1
   .rcases z with z|z|z|z|⟨e',ac,z⟩
    .exact n<|.inl z
    .exact n<|.inr (.inl z)
    .exact n<|.inr (.inr<|.inl z)
    .exact n<|.inr (.inr<|.inr<|.inl z)
    .rcases Q5.mp ac with y|y
     .exact n<|.inr (.inr<|.inr<|.inr ⟨e',y,z⟩)
     .rw[Q9.mp y,ee]at z;exact z.elim (o5 b o n eb).2.1 (o5 b o n eb).2.2
  have em:V.ref m=V.ref e.m:=by rw[ee]
  clear A4 M4 o5 om og hn nk ep;generalize upd H4 p (.dK<|aL<|PB x.pa++ [(k,.ref m)])=H5 at A5 f5⊢;rw[em]
 all_goals
  have M5:=A5.mx e he;let{dy,hm}:=M5.ob;let{af,al}:=A5.ob;refine{e.m,dy,_,M,hm,bT ∅,_,M,a,_,af,_,_,M,al,T.a6,T.jP,sP,_,M,e.m,e.l,e.es,_,v,M,M5,(),λH6 y M6 ny o6=>?_};have A6:=A5.noted he O M6 o6;let{an,ap}:=A6.ob;refine{_,M,a,_,an,_,_,M,ap,T.a6,T.jP,sP,q _ _ y A6 (N _)<|f5.trans λb o n eb=>{o6 b o (λz=>n<|.inr<|.inr<|.inr<|.inr {e,he,.inr z}) eb,λz=>n<|LM z}}
def O9.new:O9:={0,0,0,N4.new,[],[],[],[]}
def O9.new_ok:OK O9.new:={λz=>{(λy=>by cases y),(λy=>by cases y)},(_),(_),M,(_),λ_=>by show((0:Nat):Int)<=0;decide,(_),Zq,(λ_ z=>by cases z),(_),λ_=>{VY,(λy z=>by cases z)}}
def iG{f:Str}{nx:Hp->Prop}(k:∀H',H' a=some (.ins C dx<|b6 f v fs)->(∀b,b≠a->H' b=H b)->nx H'):nx (upd H a<|.ins C dx<|b6 f v fs):=k _ A9 λ_ n=>ag n
def xg{n m:Nat}(h:Nat.ble (n+1) m=true):n<m:=Nat.le_of_ble_eq_true h
def tL(K:Wi)(t:NZ):Sp:=λvs H Q _=>∃(a dx:Rl),vs=[.ref a]/\H a=some (.ins t.bj dx [])/\∀H' F,OR K t H' a F O9.new->Fr (λb=>b=a) F H H'->Q .non H'
def uN(T:Txt K mg t w):E7 P w K mg base NX 4 t.nZ t.iX [cC] (tL K t):=by
 refine T.Ii.okl uf λ_ _ _ s H vs Q E hr h _=>?_;intro X;let{a,dx,rfl,ha,q}:=h;refine ah (cm DA ai M)
   (ah (cm DA ai M)
   (ah (cm DA (lf T.Nk (uI T) hr.mo {_} T.Nn T.HL .nil az) M)
   (ah (cm DA (lf T.MM (sw T) hr.mo {_} T.MN T.Hh .nil az) M)
   (ah (cm DA (bh ae) M)
   (ah (cm DA ai M)
   (ah (cm DA jd M)
   (aw (cm DA jd M) ?_)))))))
 intros
 refine{_,M,a,_,dx,[],M,ha,T.a6,T.jP,xg (by kernel_rfl),iG λH1 h1 o1=>?_};refine{_,M,a,_,dx,_,M,h1,T.a6,T.Gb,xg (by kernel_rfl),iG λH2 h2 o2=>?_};refine λs ds ns U a2=>{s,ds,M,A9,by rw[ag a2];exact A9,λH3 Fs S3 f3=>{M,?_}};have k3:∀b o,H2 b=some o->H3 b=some o/\¬Fs b:=λb o e=>f3 b o (λz=>z.elim (λz=>by rw[z,ns]at e;cases e) λz=>by rw[z,U]at e;cases e) (bH (ak U) ns _ _ e);let{h3,na}:=k3 _ _ h2;refine{_,M,a,_,dx,_,M,h3,T.a6,T.cR,xg (by kernel_rfl),iG λH4 h4 o4=>?_};have S4:=S3.frame (H':=H4) λb hb=>o4 b λz=>na (z▸hb);refine λl dl nl Y a3=>{l,dl,M,A9,by rw[ag a3];exact A9,λH5 Fl L5 f5=>{M,?_}};have k5:∀b o,H4 b=some o->H5 b=some o/\¬Fl b:=λb o e=>f5 b o (λz=>z.elim (λz=>by rw[z,nl]at e;cases e) λz=>by rw[z,Y]at e;cases e) (bH (ak Y) nl _ _ e);let{h5,nb}:=k5 _ _ h4;refine{_,M,a,_,dx,_,M,h5,T.a6,T.fu,xg (by kernel_rfl),iG λI h6 o6=>?_};have L6:=L5.frame (H':=I) λb hb=>o6 b λz=>nb (z▸hb);have S6:=(S4.same λb o e=>(k5 b o e).1).frame (H':=I) λb hb=>o6 b λz=>na (z▸hb);have ap:∀b,Fs b->¬Fl b:=λb hb=>by
  let{o,e}:=S4.dom hb;exact(k5 b o e).2
 have k6:∀b o,b≠a->H b=some o->I b=some o/\¬Fs b/\¬Fl b:=λb o n e=>by
  let{e3,n3}:=k3 b o (by rwa[o2 b n,o1 b n]);let{e5,n5}:=k5 b o (by rwa[o4 b n]);exact{by rwa[o6 b n],n3,n5}
 clear f3 k3 f5 k5 S4 L5 S3 ns U a2 nl Y a3 h1 h2 h3 h4 h5 o1 o2 o4 o6;refine{Qc _,λwr nw=>{_,M,a,_,dx,_,M,ak nw _ _ h6,T.a6,T.qR,xg (by kernel_rfl),iG λH7 h7 o7=>?_}};refine{_,M,a,_,dx,_,M,h7,T.a6,T.Ga,xg (by kernel_rfl),iG λH8 h8 o8=>?_};refine λp np=>{_,M,a,_,dx,_,M,ak np _ _ h8,T.a6,T.wZ,xg (by kernel_rfl),iG λH9 h9 o9=>?_};refine λh nh=>{_,M,a,_,dx,_,M,ak nh _ _ h9,T.a6,T.Er,xg (by kernel_rfl),iG λa4 ac a5=>?_};have kk:∀{A Wh:Hp}{q:Rl}{u:HO},A q=none->(∀b,b≠a->Wh b=upd A q u b)->∀b o,b≠a->A b=some o->Wh b=some o:=λnq e b o n h=>by rwa[e b n,ag (am h nq)]
 have wa:=(am h6 nw).symm;have pa':=(am h8 np).symm;have Z:=(am h9 nh).symm;have e8:∀b o,b≠a->I b=some o->H8 b=some o:=λb o n e=>by rw[o8 b n];exact kk nw o7 b o n e
 have e9:=kk np o9;have a0:=kk nh a5;have w8:H8 wr=some (.lst []):=by rw[o8 _ wa,o7 _ wa];exact A9
 have p9:H9 p=some (.dK []):=by rw[o9 _ pa'];exact A9
 have a1:∀b o,b≠a->I b=some o->a4 b=some o:=λb o n e=>a0 b o n (e9 b o n<|e8 b o n e);have O:Ol t a4 a s l wr p h O9.new:={{dx,ac.trans<|by kernel_rfl},a0 _ _ wa<|e9 _ _ wa w8,(λe he=>by cases he),a0 _ _ pa' p9,by rw[a5 _ Z];exact A9,(λe he=>by cases he),am p9 nh,(λe he=>by cases he),Zq,Zq,Zq};have fresh:∀b,(b=wr\/b=p\/b=h)->I b=none:=λb hb=>by
  cases e:I b with
  |none=>rfl
  |some o=>
   rcases hb with rfl|rfl|rfl
   .rw[nw]at e;cases e
   .rw[e8 _ _ pa' e]at np;cases np
   .rw[e9 _ _ Z (e8 _ _ Z e)]at nh;cases nh
 have ow:∀b,Ow a wr p h [] b->b=a\/I b=none:=λb hb=>by
  rcases hb with z|z|z|z|⟨e,he,_⟩
  .exact .inl z
  .exact .inr<|fresh b (.inl z)
  .exact .inr<|fresh b (.inr<|.inl z)
  .exact .inr<|fresh b (.inr<|.inr z)
  .cases he
 refine q _ (PM a wr p h Fs Fl []) {s,l,wr,p,h,Fs,Fl,{O,S6.frame λb hb=>?_,L6.frame λb hb=>?_,ap,λb hb z=>?_,λb hb z=>?_},O9.new_ok,λ_=>Iff.rfl} λb o n e=>?_
 .let{o,e}:=S6.dom hb;rw[e];exact a1 b o (λz=>na<|z▸hb) e
 .let{o,e}:=L6.dom hb;rw[e];exact a1 b o (λz=>nb<|z▸hb) e
 .rcases ow b hb with y|y
  .exact na<|y▸z
  .exact S6.out y z
 .rcases ow b hb with y|y
  .exact nb<|y▸z
  .exact L6.out y z
 .let{c1,c2,c3}:=k6 b o n e;refine{a1 b o n c1,λz=>?_};rcases z with z|z|z
  .exact c2 z
  .exact c3 z
  .rcases ow b z with y|y
   .exact n y
   .rw[c1]at y;cases y
def OR.klen{x:O9}(A:OR K t H a F x):(x.ks.length:Int)<=x.now:=by
 let{s,l,w,p,h,Fs,Fl,Wh,O,_}:=A;let{L,A,ls,_,ok,e,_}:=Wh.lv;have nd:x.ks.Nodup:=by
  rw[<-e];exact List.Pairwise.imp (λh z=>()) ok.up
 have:=eY (S:=x.st.kv.map (·.1)) nd λz hz=>mem_keys.mpr ((O.ks z).mp hz);rw[Q0]at this;have:=O.sl;lia
def OK.noted{x:O9}{y:Pz}(O:OK x)(N:OI x.pa pa' k y):(pa'.length:Int)<=x.now+1/\∀j,((d6 pa' j).length:Int)<=x.now+1:=by
 constructor
 .have h1:=O.pl;have h2:=VT List.length N.ky;rw[Q0]at h2;split at h2
  .rw[Q0]at h2;lia
  .rw[Q7,Q0,Zs]at h2;lia
 .intro j;rw[N.of];split
  .have:=O.el k;rw[Q7,Zs];lia
  .have:=O.el j;lia
def OK.hv1{x:O9}(O:OK x):∀p∈x.ho,x.fl<=p.1/\p.1<=x.now+1/\∃n:Int,p.2= .int n/\0<n:=λp z=>{(O.hv p z).1,by have:=(O.hv p z).2.1;lia,(O.hv p z).2.2}
def OK.fb1{x:O9}(O:OK x):0<=x.fl/\x.fl<=x.now+1:={O.fb.1,by have:=O.fb.2;lia}
def OK.up1{x:O9}{y:Pz}(O:OK x)(N:OI x.pa pa' k y)(e:y.mo=x.now+1):∀j,(d6 pa' j).Pairwise (λa b=>a.mo<b.mo)/\∀z∈d6 pa' j,z.mo<=x.now+1:=λj=>by
 rw[N.of];let{U,I}:=O.up k;split
 .refine{Qj.mpr {U,Zh _ _,λa ha b hb=>?_},λz hz=>?_}
  .rw[Q9.mp hb,e];have:=I a ha;lia
  .rcases Q5.mp hz with hz|hz
   .have:=I z hz;lia
   .rw[Q9.mp hz,e];exact ZT _
 .let{Y,Z}:=O.up j;exact{Y,λz hz=>by have:=Z z hz;lia}
def v9(K:Wi)(t:NZ):Sp:=λvs H Q _=>∃(a:Rl)(k i:Int)(F:Ro)(x:O9),vs=[.ref a,.int k,.int i]/\OR K t H a F x/\0<=k/\x.now+x.ma<4000/\
 ∀(H':Hp)(F':Ro)(ks':Rn)(r q:Rl)(pa':List Pk),OR K t H' a F' {x with now:=x.now+1,st:=x.st.put k (.int i),ks:=ks',di:=x.di++ [(r,[.str "put",.int k,.int i])],pa:=pa'}->OI x.pa pa' k {q,x.now+1,.int i}->Fr F F' H H'->Q (.int<|x.now+1) H'
set_option tactic.hygienic true in
def wU(T:Txt K mg t w):E7 P w K mg base NX 5 t.qp t.ko [cC,eR,mu] (v9 K t):=by
 refine T.Kh.okl wE λ_ _ _ s H vs Q E hr h _=>?_;intro X;let{a,k,i,F,x,rfl,A,k0,l1,q}:=h;refine ah (aM (cz<|br<|aT (aH DA M) T.aG T.zc (m5 T) hr.mo T.zC .nil az<|aa HW ae)
    (au<|aO<|aT (aH DA M) T.aJ T.Hw (uM T) hr.mo T.HQ .nil az<|aa HW ae)
    aA)
   (ah (aO<|aT (aH DA M) T.aG T.Jf (wS T) hr.mo T.JY .nil az<|aa HW<|aa M2 ae)
   (aw (ay<|aT DA T.a6 T.xf (lG T) hr.mo T.xn .nil az<|aa (cE<|aa aR<|aa HW<|aa M2 ae)<|aa M2 ae) ?_))
 intros
 have kl:=A.klen;let{s,l,wr,p,h,Fs,Fl,Wh,O,g}:=A;have n0:=O.n0;have m0:=O.m0;have sl:=O.sl;let{dx,ho}:=Wh.o.ob;let{ds,fs,hs,hm}:=Wh.sl.ins
 (try dsimp only)
 refine aX (λB H2=>∃(Y I:Ro)(U:Rn),B=[some (.ref a),some (.int k),some (.int i)]/\P9 K t H2 a s l wr p h Y I {x with ks:=U}/\(∀z,z∈U↔z=k\/z∈x.ks)/\Fr (PM a wr p h Fs Fl x.pa) (PM a wr p h Y I x.pa) H H2) (λnx go=>?_)<|λB H2 w=>?_
 .refine{_,M,a,_,dx,_,_,M,ho,T.a6,T.cR,u7,s,ds,fs,M,hs,hm _ ∅,_,M,s,k,Fs,x.st,M,Wh.sl,k0,λH1 a0 S1 f1=>?_};let{B1,g1}:=Wh.slots S1 f1;let{a1,a2}:=B1.o.ob;let{dl,fl,hl,a3}:=B1.lv.ins;cases ev:(aI x.st.kv k).isSome with
  |true=>
   refine{_,M,cu (λc=>?_)<|λ_=>?_}
   .cases c
   .exact go _ _ {a0,Fl,x.ks,M,B1,λz=>{.inr,λy=>y.elim (λy=>by rw[y];exact(O.ks k).mpr ev) id},g1}
  |false=>
   have nk:k∉x.ks:=λz=>by have:=(O.ks k).mp z;rw[ev]at this;cases this
   refine{_,M,cu (λ_=>?_)<|λc=>?_}
   .refine{_,M,a,_,a1,_,_,M,a2,T.a6,T.fu,Co,l,dl,fl,M,hl,a3 _ ∅,_,M,l,k,Fl,x.ks,M,B1.lv,(),λ_ H2 I U L2 mem f2=>?_,λz=>VG z nk};let{B2,g2}:=B1.leaves L2 f2;exact go _ _ {a0,I,U,M,B2,mem,g1.trans g2}
   .exact VG M c
 .let{Y,I,U,rfl,B2,mem,g2}:=w;let{a4,a5}:=B2.o.ob;let{ac,af,al,an}:=B2.sl.ins;refine{_,M,a,_,a4,_,_,M,a5,T.a6,T.cR,u7,s,ac,af,M,al,an _ ∅,_,M,_,M,s,k,i,Y,x.st,M,B2.sl,k0,(),λH3 Z S3 f3=>?_};let{B3,g3}:=B2.slots S3 f3;let{ap,b1}:=B3.o.ob;refine{_,M,a,ap,_,M,b1,GI ∅,_,M,_,M,(by show 3<=sizeLine;decide),λr nr=>?_};have s4:=ak (o:= .tup [.str "put",.int k,.int i]) nr;have ht:upd H3 r (.tup [.str "put",.int k,.int i]) r=some (.tup [.str "put",.int k,.int i]):=A9;have B4:P9 K t (upd H3 r<|.tup [.str "put",.int k,.int i]) a s l wr p h Z I _:=B3.keep (λb hb=>by
   let{o,e,_}:=B3.dom hb;rw[e];exact s4 _ _ e) λb xs e=>s4 _ _ e
  have g4:=(g2.trans g3).trans (Fr.of_same s4);generalize upd H3 r (.tup [.str "put",.int k,.int i])=H4 at B4 ht g4⊢;have dl:=O.dl;have pl:=O.pl;have el:=O.el k;refine{_,M,a,s,l,wr,p,h,r,k,_,.int i,_,M,B4.o,ht,M,by show x.di.length<50000;lia,by show x.pa.length<50000;lia,by show(d6 x.pa k).length<50000;lia,λH5 pa' y O5 N f5=>?_};let{B5,g5}:=B4.own O5 M M f5;let{N1,N2}:=O.noted N;have ek:(x.st.put k<|.int i).kv=bp x.st.kv k (.int i):=N4.three_kv;refine q H5 (PM a wr p h Z I pa') U r y pa' {s,l,wr,p,h,Z,I,B5,{λz=>?_,by show 0<=x.now+1;lia,m0,?_,N1,N2,?_,O.hn,O.hv1,O.fb1,O.up1 N M},λ_=>Iff.rfl} N ?_
  .show z∈U↔(aI (x.st.put k<|.int i).kv z).isSome=true;rw[mem,ek,<-mem_keys,pT,O.ks];split
   .rename_i c
    rw[mem_keys];exact{λy=>y.elim (λy=>y▸c) id,.inr}
   .rw[Q5,Q9,mem_keys];exact{λy=>y.elim .inr .inl,λy=>y.elim .inr .inl}
  .show((x.di++ [(r,_)]).length:Int)=x.now+1+x.ma;rw[Q7,Zs];lia
  .show((x.st.put k<|.int i).kv.length:Int)<=x.now+1;rw[ek];have:=dN x.st.kv k (.int i);lia
  .exact λb o n e=>(g4.trans g5) b o (λz=>n<|(g b).mpr z) e
def tM(K:Wi)(t:NZ):Sp:=λvs H Q E=>∃(a:Rl)(k:Int)(F:Ro)(x:O9),vs=[.ref a,.int k]/\OR K t H a F x/\0<=k/\x.now+x.ma<4000/\
 ((aI x.st.kv k).isSome=true->∀(H':Hp)(F':Ro)(ks':Rn)(r q:Rl)(pa':List Pk),OR K t H' a F' {x with now:=x.now+1,st:=x.st.drop k,ks:=ks',di:=x.di++ [(r,[.str P',.int k])],pa:=pa'}->OI x.pa pa' k {q,x.now+1,.non}->Fr F F' H H'->Q (.int<|x.now+1) H')/\
 (aI x.st.kv k=none->False)
def uO(T:Txt K mg t w):E7 P w K mg base NX 6 t.n8 t.iY [cC,eR] (tM K t):=by
 refine T.Ij.okl ug λ_ _ _ s H vs Q E hr h _=>?_;intro X;let{a,k,F,x,rfl,A,k0,l1,q,qx}:=h;refine ah (aO<|aT (aH DA M) T.aG T.Hu (uJ T) hr.mo T.HM .nil az<|aa HW ae)
   (ah (aO<|aT (aH DA M) T.aJ T.Dh (oN T) hr.mo T.DE .nil az<|aa HW ae)
   (aw (ay<|aT DA T.a6 T.xf (lG T) hr.mo T.xn .nil az<|aa (cE<|aa aR<|aa HW ae)<|aa cr ae) ?_))
 intros
 have kl:=A.klen;let{s,l,wr,p,h,Fs,Fl,Wh,O,g}:=A;have n0:=O.n0;have m0:=O.m0;have sl:=O.sl;let{dx,ho}:=Wh.o.ob;let{ds,fs,hs,hm}:=Wh.sl.ins
 (try dsimp only)
 refine{_,M,a,_,dx,_,_,M,ho,T.a6,T.cR,u7,s,ds,fs,M,hs,hm _ ∅,_,M,s,k,Fs,x.st,M,Wh.sl,k0,λev=>{(),λH1 I S1 f1=>?_},λhn=>(qx hn).elim}
 .let{Z,g1}:=Wh.slots S1 f1;let{a0,a1}:=Z.o.ob;let{dl,fl,hl,a2}:=Z.lv.ins;refine{_,M,a,_,a0,_,_,M,a1,T.a6,T.fu,Co,l,dl,fl,M,hl,a2 _ ∅,_,M,l,k,Fl,x.ks,M,Z.lv,(),λ_ H2 U Y L2 mem f2=>?_,λz=>VG ((O.ks k).mpr ev) z};let{B3,g3}:=Z.leaves L2 f2;let{a3,a4}:=B3.o.ob;refine{_,M,a,a3,_,M,a4,GI ∅,_,M,(by show 2<=sizeLine;decide),λr nr=>?_};have s4:=ak (o:= .tup [.str P',.int k]) nr;have ht:upd H2 r (.tup [.str P',.int k]) r=some (.tup [.str P',.int k]):=A9;have B4:P9 K t (upd H2 r<|.tup [.str P',.int k]) a s l wr p h I U _:=B3.keep (λb hb=>by
   let{o,e,_}:=B3.dom hb;rw[e];exact s4 _ _ e) λb xs e=>s4 _ _ e
  have g4:=(g1.trans g3).trans (Fr.of_same s4);generalize upd H2 r (.tup [.str P',.int k])=H4 at B4 ht g4⊢;have dl:=O.dl;have pl:=O.pl;have el:=O.el k;refine{a,s,l,wr,p,h,r,k,_,.non,_,M,B4.o,ht,M,by show x.di.length<50000;lia,by show x.pa.length<50000;lia,by show(d6 x.pa k).length<50000;lia,λH5 pa' y O5 N f5=>?_};let{B5,g5}:=B4.own O5 M M f5;let{N1,N2}:=O.noted N;have ek:(x.st.drop k).kv=bB x.st.kv k:=N4.three_kv;refine q ev H5 (PM a wr p h I U pa') Y r y pa' {s,l,wr,p,h,I,U,B5,{λz=>?_,by show 0<=x.now+1;lia,m0,?_,N1,N2,?_,O.hn,O.hv1,O.fb1,O.up1 N M},λ_=>Iff.rfl} N ?_
  .show z∈Y↔(aI (x.st.drop k).kv z).isSome=true;rw[mem,ek,cX,O.ks];by_cases c:z=k
   .rw[VB c];exact{λy=>VG c y.1,λy=>by cases y}
   .rw[VA c];exact{λy=>y.2,λy=>⟨c,y⟩}
  .show((x.di++ [(r,_)]).length:Int)=x.now+1+x.ma;rw[Q7,Zs];lia
  .show((x.st.drop k).kv.length:Int)<=x.now+1;rw[ek];have:(bB x.st.kv k).length<=x.st.kv.length:=Qm _ _;lia
  .exact λb o n e=>(g4.trans g5) b o (λz=>n<|(g b).mpr z) e
def Pl(t:NZ)(H:Hp)(p:Rl)(up:Bool)(a e:V):Prop:=∃dx fs,H p=some (.ins (if up=true then t.da else t.b8) dx fs)/\zG (if up=true then "up" else "down") fs a e/\if up=true then P7 a e else P6 a e
def rD(up:Bool)(a:V)(ks:Rn):List Int:=match up,a with
 |true,.int i=>ks.filter λz=>decide (i<=z)
 |false,.int i=>ks.reverse.filter (dP<|some i)
 |_,_=>ks.reverse.filter (dP none)
def yv(K:Wi)(t:NZ):Sp:=λvs H Q _=>∃(l p:Rl)(n:Int)(up:Bool)(a e:V)(F:Ro)(ks:Rn),vs=[.ref l,.ref p,.int n]/\Om K t H l F ks/\Pl t H p up a e/\ks.length<4096/\0<=n/\
 ∀(H':Hp)(r:Rl),Ba H H'->H r=none->H' r=some (.lst<|((rD up a ks).take n.toNat).map V.int)->Q (.ref r) H'
def yZ(T:Txt K mg t w):E7 P w K mg base NX 3 t.rM t.lO [kt,hW,O'] (yv K t):=by
 refine T.Bj.okl yF λ_ _ _ s H vs Q E O h _=>?_;intro X;let{l,p,n,up,a,e,F,ks,rfl,L,Z,l1,I,q}:=h;refine bU (λx=>aM (br<|aD (fW K M) {_} T.bV bF (aa HW<|aa (bD (v:= .ref t.da) {_} T.Gg M) ae)) x aA) ?_;refine aw (ay<|aT DA T.aJ T.Dg (oM T) O.mo T.DD .nil az<|aa (aH HW M)<|aa M2 ae) ?_
 intros
 refine aw (ay<|aT DA T.aJ T.Bp (lF T) O.mo T.Br .nil az<|aa (aH HW M)<|aa M2 ae) ?_
 intros
 let{dx,fs,z,U,ok}:=Z;let{dl,fl,hl,Y}:=L.ins;cases up with
 |true=>
  have z:H p=some (.ins t.da dx fs):=z;let{i,rfl,i0,_}:=(show P7 a e from ok);exact{_,M,_,_,_,_,M,OC.ins z T.jo T.kJ.1 T.kJ.2 T.kJ.3 T.kJ.4,T.GB,_,M,b7 {_,M,l,dl,fl,M,hl,Y _ ∅,_,M,p,_,dx,fs,_,M,z,T.jo,T.pO,U.at_,_,M,l,i,n,F,ks,M,L,l1,I,q}}
 |false=>
  have z:H p=some (.ins t.b8 dx fs):=z;let{j,rfl,j0,ha}:=(show P6 a e from ok);refine{_,M,_,_,_,_,M,OC.ins z T.c8 T.dQ.1 T.dQ.2 T.dQ.3 T.dQ.4,T.Cj,_,M,bL {_,M,l,dl,fl,M,hl,Y _ ∅,_,M,p,_,dx,fs,_,M,z,T.c8,T.gx,U.at_,_,M,?_}};rcases ha with rfl|⟨i,rfl,_⟩
  .exact⟨l,none,n,F,ks,M,L,l1,I,q⟩
  .exact{l,some i,n,F,ks,M,L,l1,I,q}
def rT(t:NZ):Sp:=λvs H Q _=>∃(p:Rl)(up:Bool)(a e:V)(k:Int),vs=[.ref p,.int k]/\Pl t H p up a e/\(if up=true then P7 (.int<|k+1) e else P6 (.int<|k-1) e)/\
 ∀(H':Hp)(r:Rl),Ba H H'->H r=none->Pl t H' r up (.int<|if up=true then k+1 else k-1) e->Q (.ref r) H'
def si(T:Txt K mg t w):E7 P w K mg base NX 5 t.l9 t.gF [hW,eR] (rT t):=by
 refine T.vE.okl rY λ_ _ _ s H vs Q E hr h _=>?_;intro X;let{p,up,a,e,k,rfl,TK,I,q}:=h;refine bU (λx=>aM (br<|aD (fW K M) {_} T.bV bF (aa DA<|aa (bD (v:= .ref t.da) {_} T.Gg M) ae)) x aA) ?_;refine aw (ay<|mF T.Nj (rC T) hr.mo {_} T.Gg T.CB .nil az (aa (aq bN HW ai)<|aa (aH DA M) ae)) ?_
 intros
 refine aw (ay<|mF T.Ja (m6 T) hr.mo {_} T.Jc T.zD .nil az (aa (aq iE HW ai)<|aa (aH DA M) ae)) ?_
 intros
 let{dx,fs,O,tf,ok}:=TK;have kp:∀{H1 H':Hp}{r:Rl},Ba H H1->H r=none->Oy r H1 H'->Ba H H':=λs n k b o e=>k b o (s b o e) λz=>by rw[z,n]at e;cases e
 cases up with
 |true=>
  have O:H p=some (.ins t.da dx fs):=O;have I:P7 (.int<|k+1) e:=I;have se:Sc e:=by
   obtain⟨_,_,_,he|⟨j,he,_⟩⟩:=I
   .rw[he];exact VW
   .rw[he];exact T0 _
  refine{_,M,_,_,_,_,M,OC.ins O T.jo T.kJ.1 T.kJ.2 T.kJ.3 T.kJ.4,T.GB,_,M,b7 {_,M,_,_,M,M,_,M,p,_,dx,fs,_,M,O,T.jo,T.jf,tf.end_,λr dr U nd a0=>{r,dr,_,_,M,A9,T0 _,se,λ_ H' fs' Y h' Z=>{M,?_},λz=>VG I z}}};exact q H' r (kp (bH (ak nd) U) U Y) U ⟨dr,fs',h',Z,I⟩
 |false=>
  have O:H p=some (.ins t.b8 dx fs):=O;have I:P6 (.int<|k-1) e:=I;have se:Sc e:=by
   let{_,he,_}:=I;rw[he];exact T0 _
  refine{_,M,_,_,_,_,M,OC.ins O T.c8 T.dQ.1 T.dQ.2 T.dQ.3 T.dQ.4,T.Cj,_,M,bL {_,M,_,_,M,M,_,M,p,_,dx,fs,_,M,O,T.c8,T.gY,tf.end_,λr dr U nd a0=>{r,dr,_,_,M,A9,T0 _,se,λ_ H' fs' Y h' Z=>{M,?_},λz=>VG I z}}};exact q H' r (kp (bH (ak nd) U) U Y) U ⟨dr,fs',h',Z,I⟩
def hK(up:Bool):V->V->Int->Bool:=if up=true then hU else hD
def b9(up:Bool)(a e:V)(ks:Rn):List Int:=(if up=true then ks else ks.reverse).filter (hK up a e)
theorem gR{α:Type}{h:α->Bool}:∀{xs:List α}{n:Nat},xs.Pairwise (λx y=>h y=true->h x=true)->(xs.take n).filter h=(xs.filter h).take n
 | [],n,_=>by rw[Xs,List.filter_nil,Xs]
 |x::r,0,_=>rfl
 |x::r,n+1,w=>by
  let{O,I}:=ZB.mp w;rw[XY];by_cases c:h x=true
  .rw[List.filter_cons_of_pos c,List.filter_cons_of_pos c,XY,gR I]
  .have z:r.filter h=[]:=X2.mpr λy hy U=>c (O y hy U);rw[List.filter_cons_of_neg c,List.filter_cons_of_neg c,gR I,z,Xs,Xs]
def Ep{a:V}{n:Nat}(ok:if up=true then P7 a e else P6 a e)(r:cq ks):((rD up a ks).take n).filter (hK up a e)=(b9 up a e ks).take n:=by
 cases up with
 |true=>
  let{i,rfl,i0,he}:=(show P7 a e from ok);have q:∀z,hU (.int i) e z=true->decide (i<=z)=true:=λz hz=>by
   rcases he with rfl|⟨j,rfl,_⟩
   .exact hz
   .exact(QL.mp hz).1
  show((ks.filter λz=>decide (i<=z)).take n).filter (hU (.int i) e)=(ks.filter<|hU (.int i) e).take n;rw[gR,List.filter_filter]
  .congr 1;refine V6 λz _=>?_;cases c:hU (.int i) e z with
   |true=>rw[q z c];rfl
   |false=>rfl
  .have O:(ks.filter λz=>decide (i<=z)).Pairwise (· < ·):=List.Pairwise.filter _ r;refine List.Pairwise.imp_of_mem (λ{x y} hx hy lt I=>?_) O;have hx:=(QC.mp hx).2;rcases he with rfl|⟨j,rfl,_⟩
   .exact hx
   .refine QL.mpr {hx,VD ?_};have:=VF (QL.mp I).2;lia
 |false=>
  let{j,rfl,Z,ha}:=(show P6 a e from ok);have U:ks.reverse.Pairwise (λx y=>y<x):=XM.mpr r;obtain⟨k,Y,ea⟩:∃k,rD false a ks=ks.reverse.filter (dP k)/\∀z,hD a (.int j) z=(decide (j<=z)&&dP k z):=by
   rcases ha with rfl|⟨i,rfl,_⟩
   .exact{none,M,λz=>(Bool.and_true _).symm}
   .exact{some i,M,λz=>M}
  rw[Y];show((ks.reverse.filter<|dP k).take n).filter (hD a<|.int j)=(ks.reverse.filter<|hD a<|.int j).take n;rw[gR,List.filter_filter]
  .congr 1;refine V6 λz _=>?_;rw[ea];cases dP k z<;>cases decide (j<=z)<;>rfl
  .have O:(ks.reverse.filter<|dP k).Pairwise (λx y=>y<x):=List.Pairwise.filter _ U;refine List.Pairwise.imp_of_mem (λ{x y} hx hy lt I=>?_) O;have hx:=(QC.mp hx).2;rw[ea]at I⊢;refine QL.mpr {VD ?_,hx};have:=VF (QL.mp I).1;lia
def Ek{a:V}{k':Int}(ok:if up=true then P7 a e else P6 a e)(r:cq ks)(h:(b9 up a e ks)[i]?=some k)(h':(b9 up a e ks)[i+1]?=some k'):if up=true then P7 (.int<|k+1) e else P6 (.int<|k-1) e:=by
 let{hi,I}:=Q2.mp h;let{hi',z}:=Q2.mp h';have m:=(QC.mp (I▸Zm hi:k∈b9 up a e ks)).2;have m':=(QC.mp (z▸Zm hi':k'∈b9 up a e ks)).2;cases up with
 |true=>
  let{i,rfl,i0,he}:=(show P7 a e from ok);have lt:k<k':=by
   have:=(Zb.mp<|List.Pairwise.filter (hU (.int i) e) r) _ _ hi hi' (ZH _);rwa[<-I,<-z]
  have m:hU (.int i) e k=true:=m;have m':hU (.int i) e k'=true:=m';rcases he with rfl|⟨j,rfl,_⟩
  .have:=VF m;exact{k+1,M,(),.inl M}
  .have:=VF (QL.mp m).1;have:=VF (QL.mp m').2;exact{k+1,M,(),.inr {j,M,()}}
 |false=>
  let{j,rfl,O,ha}:=(show P6 a e from ok);have U:ks.reverse.Pairwise (λx y=>y<x):=XM.mpr r;have lt:k'<k:=by
   have:=(Zb.mp<|List.Pairwise.filter (hD a<|.int j) U) _ _ hi hi' (ZH _);rwa[<-I,<-z]
  have m':hD a (.int j) k'=true:=m';have:j<=k':=by
   rcases ha with rfl|⟨i,rfl,_⟩
   .exact VF m'
   .exact VF (QL.mp m').1
  exact{j,M,O,.inr {k-1,M,()}}
def NxK(t:NZ)(H H':Hp)(p:Rl)(up:Bool)(e:V)(hs:Rn)(m:Nat)(v:V):Prop:=if hs.length<=m then v= .non else if m=0 then v= .ref p else ∃(q:Rl)(k:Int),hs[m-1]?=some k/\v= .ref q/\H q=none/\Pl t H' q up (.int<|if up=true then k+1 else k-1) e
def sO{xs:Rn}{x:V}(h:(xs.map V.int)[i]?=some x):∃k:Int,x= .int k/\xs[i]?=some k:=by
 rw[Qo]at h;cases e:xs[i]? with
 |none=>rw[e]at h;cases h
 |some k=>rw[e]at h;cases h;exact⟨k,M,M⟩
def xU{P:Sh}{xs:Rn}(e:xs[i]?=some k):(xs.take<|i+1).filter P=(xs.take i).filter P++(if P k=true then[k]else[]):=by
 rw[Qp,e,QE];by_cases c:P k=true
 .rw[VB c];simp[c]
 .rw[VA c];simp[c]
def GS(P:Sh)(xs:Rn)(i:Nat):((xs.take i).filter P).length<=xs.length:=by
 have h1:=Qm P (xs.take i);have h2:(xs.take i).length<=xs.length:=by rw[Qe];lia
 lia
def Pl.same{a:V}(h:Pl t H p up a e)(s:Ba H H'):Pl t H' p up a e:=by
 let{dx,fs,z,r}:=h;exact{dx,fs,s _ _ z,r}
def Pl.ok{a:V}(h:Pl t H p up a e):if up=true then P7 a e else P6 a e:=by
 let{dx,fs,z,I,ok}:=h;exact ok
def F7{a:V}{z:Int}(h:z∈rD up a ks):z∈ks:=by
 unfold rD at h;split at h
 .exact(QC.mp h).1
 .exact X6.mp (QC.mp h).1
 .exact X6.mp (QC.mp h).1
def F8{a:V}:(rD up a ks).length<=ks.length:=by
 unfold rD;split
 .exact Qm _ _
 .exact Qr (Qm _ _)<|QY Z9
 .exact Qr (Qm _ _)<|QY Z9
def dHK:DOr (D1 t.da<|fN t) (D1 t.b8<|dR t) (if up=true then t.da else t.b8) (if up=true then fN t else dR t):=by
 cases up
 .exact .inr ⟨M,M⟩
 .exact .inl ⟨M,M⟩
def JB{a:V}{E:XK}(h:H p=some (.ins (if up=true then t.da else t.b8) dx fs))(f:zG (if up=true then "up" else "down") fs a e)(ok:if up=true then P7 a e else P6 a e)(z:0<=k)
  (q:∀H',Ba H H'->Q (.bl<|hK up a e k) H'):(if up=true then fN t else dR t) [.ref p,.int k] H Q E:=by
 cases up
 .exact⟨p,dx,fs,a,e,k,M,h,f,ok,z,q⟩
 .exact⟨p,dx,fs,a,e,k,M,h,f,ok,z,q⟩
def rV(K:Wi)(t:NZ):Sp:=λvs H Q _=>∃(l p:Rl)(n:Int)(up:Bool)(a e:V)(F:Ro)(ks:Rn),vs=[.ref l,.ref p,.int n]/\Om K t H l F ks/\Pl t H p up a e/\ks.length<4096/\(∀k∈ks,0<=k)/\
 ∀(H':Hp)(r g:Rl)(v:V),Ba H H'->H r=none->H g=none->H' r=some (.tup [.ref g,v])->H' g=some (.lst<|((b9 up a e ks).take n.toNat).map V.int)->NxK t H H' p up e (b9 up a e ks) n.toNat v->Q (.ref r) H'
def sr(T:Txt K mg t w):E7 P w K mg base NX 6 t.mh t.gH [kt,hW,L'] (rV K t):=by
 refine T.vG.okl OW λ_ _ _ s H vs Q E hr h _=>?_;intro X;let{l,p,n,up,a,e,F,ks,rfl,L,TK,l1,k0,q}:=h;refine ah (N7 3<|aD (rn M) {_} T.Kl Cy (aa M2<|aa ai ae))
   (ah (FR (i:=4) M (N5.of (M':=[eR]) (N:=[kt,hW,L',O',"held",u4]) (N':=[kt,hW,L',O',"held",u4]) (dsc:=aj dU) M M ∅) (dZ<|aE (yZ T) hr.mo {_} T.KM T.Bj.kp T.KZ .nil az (aa DA<|aa HW<|aa (aq bN O8 ai) ae)) (λ_ _ _ _ _=>(br<|FT (kk:=1) (zn (lM T.jo T.KK (y6 T) T.K2 (_))<|lM T.c8 T.Hz (uP T) T.HU (_)) hr.mo M2<|aa DA ae)) (λ_ _ _ _ _=>DA) OW.nd M M)
   (ah (N7 5<|cQ fO OX fP<|cZ O8)
   (ah (aM (ar bX (aD aC {_} T.bG a7 (aa OX ae)) (aD aC {_} T.bG a7 (aa PP ae))<|ax _)
    (au<|ay<|cE<|aa PP<|aa cr ae)
    aA)
   (ah (aM (ar bX (aD aC {_} T.bG a7 (aa PP ae)) ai<|ax _)
    (au<|ay<|cE<|aa PP<|aa HW ae)
    aA)
   (aw (ay<|cE<|aa PP<|aa (aE (si T) hr.mo {_} T.Go T.vE.kp T.He .nil az (aa HW<|aa (aP aK PP (uv oi ai)<|λ_ _=>M) ae)) ae) ?_)))))
 intros
 have RK:=L.rise;refine{_,M,n,0,M,?_};obtain⟨m,em⟩:∃m:Nat,n.toNat=m:={_,M};have e0:(if(0:Int)>n then(0:Int)else n)=(m:Int):=by
  rw[<-em];split<;>lia
 rw[e0];rw[em]at q;have ok:=TK.ok;refine{_,M,_,M,_,M,_,_,M,M,l,p,(m:Int)+1,up,a,e,F,ks,M,L,TK,l1,(),λH1 g1 s1 a5 h1=>?_};rw[show((m:Int)+1).toNat=m+1 by lia]at h1;obtain⟨ns,Y⟩:∃ns,(rD up a ks).take (m+1)=ns:={_,M};have fl:=Ep (n:=m+1) ok RK;rw[Y]at h1 fl;have nl:ns.length<=4096:=by
  rw[<-Y];have h1:=F8 (up:=up) (a:=a) (ks:=ks);rw[Qe];lia
 have n0:∀z∈ns,0<=z:=λz hz=>k0 z (F7<|Zg<|Y▸hz);refine{g1,M,{_,Dz.of h1},λD hD=>?_};refine ku (K:=K) (a:=g1) (xs:=ns.map V.int) (λi ys H2=>Ba H1 H2/\ys=((ns.take i).filter<|hK up a e).map V.int) {ak hD,M} (λi ys H2 _ w=>Dz.of<|w.1 _ _ h1) (λi x ys H2 hx w I=>?_)<|λys H2 w I=>?_
 .let{s2,ey}:=w;have hi:i<(ns.map V.int).length:=(Q2.mp hx).1;let{g,rfl,eg}:=sO hx;let{dx,fs,hp,tf,_}:=TK.same (s1.trans s2);have a6:=GS (hK up a e) ns i;refine{_,M,p,_,dx,fs,_,M,hp,tf.ho,dHK,_,M,JB hp tf ok (n0 g<|Q1 eg) λH3 s3=>{_,M,?_}};by_cases c:hK up a e g=true
  .rw[c];refine b7 {_,M,OA.mk hi (s3 _ _ I) (aW<|by rw[ey,Q0];lia) {bH (s2.trans s3) hD,?_}};rw[ey,xU eg,VB c,Q8];rfl
  .rw[QT.mpr c];refine bL<|OP.mk hi (s3 _ _ I) {s2.trans s3,?_};rw[ey,xU eg,VA c,ZC]
 let{s2,ey}:=w;rw[ey,Q0,Qy,fl]at I;clear ey h1 Y fl nl n0;have Z:=s1.trans s2;obtain⟨hs,a0⟩:∃hs,b9 up a e ks=hs:={_,M};rw[a0]at I q;refine{_,M,_,M,(m:Int),M,D,_,M,Dz.of I,λg ng=>?_};rw[vj (XZ m),<-ZE,show((m:Int)).toNat=m by lia,List.take_take,ZR (Za m)];have a1:H g=none:=bZ Z ng;have U:upd H2 g (.lst<|(hs.take m).map V.int) g=some (.lst<|(hs.take m).map V.int):=A9;have a2:upd H2 g (.lst<|(hs.take m).map V.int) D=some (.lst<|(hs.take<|m+1).map V.int):=by rw[ag (am I ng)];exact I
 have s3:=Z.trans (ak (o:= .lst<|(hs.take m).map V.int) ng);generalize upd H2 g (.lst<|(hs.take m).map V.int)=H3 at U a2 s3⊢;clear I ng s2 Z s1 hD;refine{_,M,D,_,M,.inl<|Dz.of a2,_,M,g,_,M,.inl<|Dz.of U,M,_,M,?_};by_cases c:hs.length<=m
 .refine dA ?_ {_,M,(by show 2<=sizeLine;decide),λr O=>?_}
  .rw[Qs (),Qs c]
  .refine q _ r g .non (s3.trans<|ak O) (bZ s3 O) a1 A9 (by rwa[ag (am U O)]) ?_;unfold NxK;rw[VB c]
 refine aZ ?_ ?_
 .intro z;have z:=V.int.inj z;rw[Q0,Q0,Qe,Qe]at z;lia
 refine{_,M,g,_,M,.inl<|Dz.of U,M,_,M,?_};by_cases d:m=0
 .refine dA ?_ {_,M,_,M,(by show 2<=sizeLine;decide),λr O=>?_}
  .rw[d];rfl
  .refine q _ r g (.ref p) (s3.trans<|ak O) (bZ s3 O) a1 A9 (by rwa[ag (am U O)]) ?_;unfold NxK;rw[VA c,VB d]
 refine aZ ?_ ?_
 .intro z;have z:=V.int.inj z;rw[Q0,Qe]at z;lia
 obtain⟨k,ek⟩:∃k,hs[m-1]?=some k:={_,Q3 ()};obtain⟨k',a3⟩:∃k',hs[m-1+1]?=some k':={_,Q3 ()};have ob:=Ek ok RK (a0▸ek) (a0▸a3);refine{_,M,_,M,_,M,_,M,g,_,_,.int k,M,M,Dz.of U,?_,p,up,a,e,k,M,TK.same s3,ob,λH4 b s4 nb a4=>{(by show 2<=sizeLine;decide),λr O=>?_}}
 .refine zE (λz=>?_) ?_
  .have:=VT List.length z;rw[Qe]at this;have:([]:Rn).length=0:=M;lia
  .rwa[Qe,ZR (),Xq ()]
 refine q _ r g (.ref b) ((s3.trans s4).trans<|ak O) (bZ (s3.trans s4) O) a1 A9 (by rw[ag (am (s4 _ _ U) O)];exact s4 _ _ U) ?_;unfold NxK;rw[VA c,VA d];exact{b,k,ek,M,bZ s3 nb,a4.same<|ak O}
def wb(K:Wi)(t:NZ):Sp:=λvs H Q _=>∃(a:Rl)(k:Int)(v:V)(F:Ro)(x:O9),vs=[.ref a,.int k]/\OR K t H a F x/\0<=k/\aI x.st.kv k=some v/\∀H' F',OR K t H' a F' x->Fr F F' H H'->Q v H'
def wV(T:Txt K mg t w):E7 P w K mg base NX 5 t.qq t.kq [cC,eR] (wb K t):=by
 refine T.Ki.okl wF λ_ _ _ s H vs Q E Z h _=>?_;intro X;let{a,k,v,F,x,rfl,A,k0,Y,q}:=h;refine{_,(au<|ay<|aT (aH DA M) T.aG T.Jg (wT T) Z.mo T.JZ .nil az<|aa HW ae)
  ,?_}
 let{s,l,wr,p,h,Fs,Fl,Wh,O,g}:=A;let{dx,ho}:=Wh.o.ob;let{ds,fs,hs,hm}:=Wh.sl.ins;refine{_,M,a,_,dx,_,_,M,ho,T.a6,T.cR,u7,s,ds,fs,M,hs,hm _ ∅,_,M,s,k,Fs,x.st,M,Wh.sl,k0,λv' I H1 U S1 f1=>?_,λz=>by rw[Y]at z;cases z};rw[Y]at I;cases I;let{B1,g1}:=Wh.slots S1 f1;exact q H1 (PM a wr p h U Fl x.pa) {s,l,wr,p,h,U,Fl,B1,O,λ_=>Iff.rfl} λb o n e=>g1 b o (λz=>n<|(g b).mpr z) e
def NxH(t:NZ)(H H':Hp)(F':Ro)(p:Rl)(up:Bool)(e:V)(hs:Rn)(m:Nat)(v:V):Prop:=if hs.length<=m then v= .non else if m=0 then v= .ref p else ∃(q:Rl)(k:Int),hs[m-1]?=some k/\v= .ref q/\H q=none/\¬F' q/\Pl t H' q up (.int<|if up=true then k+1 else k-1) e
def Lv(K:Wi)(t:NZ)(more:Rq):Sp:=λvs H Q _=>∃(a p:Rl)(n:Int)(up:Bool)(av e:V)(F:Ro)(x:O9),vs=[.ref a,.ref p,.int n]++more/\OR K t H a F x/\Pl t H p up av e/\¬F p/\x.ks.length<4096/\(∀k∈x.ks,0<=k)/\
 ∀(H':Hp)(F':Ro)(r g:Rl)(v:V)(ts:List Tp),OR K t H' a F' x->Fr F F' H H'->PgA H H' F F' r g v ts->ts.map (·.k)=(b9 up av e x.ks).take n.toNat->(∀e∈ts,aI x.st.kv e.k=some e.v)->NxH t H H' F' p up e (b9 up av e x.ks) n.toNat v->Q (.ref r) H'
def kC(K:Wi)(t:NZ):Sp:=Lv K t []
def OR.lvs{x:O9}(A:OR K t H a F x):∃(dx:Rl)(fs:RX)(l:Rl)(Fl:Ro),H a=some (.ins t.bj dx fs)/\fs.lookup (kt:Str)=some (.ref l)/\Om K t H l Fl x.ks:=by
 let{s,l,wr,p,h,Fs,Fl,Wh,O,g}:=A;let{dx,z}:=Wh.o.ob;exact{dx,_,l,Fl,z,Co,Wh.lv}
def AO{a:V}{z:Int}(h:z∈b9 up a e ks):z∈ks:=by
 have h:=(QC.mp h).1;cases up
 .exact X6.mp h
 .exact h
def GK{a:V}:(b9 up a e ks).length<=ks.length:=by
 refine Qr (Qm _ _) ?_;cases up
 .exact QY Z9
 .exact Q4 _
def sj(T:Txt K mg t w):E7 P w K mg base NX 7 t.mf t.gG [Rc,hW,L'] (kC K t):=by
 refine T.vF.okl rZ λ_ _ _ s H vs Q E hr h _=>?_;intro X;let{a,p,n,up,av,e,F,x,rfl,A,TK,np,l1,k0,q}:=h;refine ah (N7 3<|aE (sr T) hr.mo {_} T.Gq T.vG.kp T.Hg .nil az (aa (aH DA M)<|aa HW<|aa M2 ae))
   (aw (ay<|cE<|aa (pI M (N5.of (M':=[eR]) (N:=[Rc,hW,L',u4]) (N':=[Rc,hW,L',u4]) (dsc:=aj dS) M M ∅) (dZ<|aP jS O8 ai<|λ_ _=>M)<|λ_ _ _ _ _=>(cE<|aa DA<|aa (aT HW T.a6 T.Ji (wV T) hr.mo T.Ka .nil az<|aa DA ae) ae))<|aa (aP jS O8 ai<|λ_ _=>M) ae) ?_)
 intros
 let{dx,fs,l,Fl,ho,hl,L}:=A.lvs;refine{_,M,a,_,dx,fs,_,M,ho,T.a6,T.fu,hl,_,M,_,M,l,p,n,up,av,e,Fl,x.ks,M,L,TK,l1,k0,λH1 r1 g1 v s1 a4 a5 a1 Y nx=>?_};have A1:=A.same s1;have f1:Fr F F H H1:=Fr.of_same s1;clear TK;obtain⟨pk,Z⟩:∃pk,(b9 up av e x.ks).take n.toNat=pk:={_,M};have pm:∀z∈pk,z∈x.ks:=λz hz=>AO (Zg<|Z▸hz);have pl:pk.length<=4096:=by
  have:=GK (up:=up) (a:=av) (e:=e) (ks:=x.ks);rw[<-Z,Qe];lia
 rw[Z]at Y q;refine{_,M,r1,_,_,_,M,M,OO.of a1,M,g1,M,{_,Dz.of Y},λD hD=>?_};refine jk (K:=K) (a:=g1) (xs:=pk.map V.int) (λi ys H2=>∃(I:Ro)(ts:List Tp),OR K t H2 a I x/\Fr F I H1 H2/\¬I D/\ys=ts.map (λe=>V.ref e.p)/\ts.map (·.k)=pk.take i/\∀e∈ts,H2 e.p=some (.tup [.int e.k,e.v])/\¬I e.p/\aI x.st.kv e.k=some e.v) {F,[],A1.same<|ak hD,Fr.of_same<|ak hD,A1.out hD,M,M,λe he=>VG he Z7} (λi ys H2 _ w=>?_) (λi y ys H2 hy w O=>?_)<|λys H2 w O=>?_
 .let{I,ts,A2,U,_}:=w;exact Dz.of (U _ _ (A.out a5) Y).1
 .let{I,ts,A2,U,nD,ey,ek,tu}:=w;have hi:i<(pk.map V.int).length:=(Q2.mp hy).1;let{k,rfl,hk}:=sO hy;have km:=pm k (Q1 hk);let{v2,a2}:=Zw.mp ((A1.ok.ks k).mp km);let{d2,ac,af,al,_}:=A2.ins;refine{_,M,_,M,a,d2,ac,M,af,al _ ∅,_,M,a,k,v2,I,x,M,A2,k0 k km,a2,λH3 F3 A3 f3=>{(by show 2<=sizeLine;decide),λb nb=>?_}};let{an,a3}:=f3 _ _ nD O;have sb:Ba H3 (upd H3 b<|.tup [.int k,v2]):=ak nb;have hb:upd H3 b (.tup [.int k,v2]) b=some (.tup [.int k,v2]):=A9;generalize upd H3 b (.tup [.int k,v2])=H4 at sb hb⊢;have A4:=A3.same sb;have ap:=A3.out nb;have f4:Fr F F3 H1 H4:=U.trans (f3.trans<|Fr.of_same sb);have a0:=sb _ _ an;have tl:ts.length<=4096:=by
   have:=VT List.length ek;rw[Q0,Qe]at this;lia
  refine OA.mk hi a0 (aW<|by rw[ey,Q0];lia) {F3,ts++ [⟨b,k,v2⟩],A4.upd a3 (λxs z=>by rw[a0]at z;cases z),λc o n e=>{by rw[ag (am e hD)];exact(f4 c o n e).1,(f4 c o n e).2},a3,by rw[ey,Q8];rfl,by rw[Q8,ek,Qp,hk];rfl,λe he=>?_};have key:H4 e.p=some (.tup [.int e.k,e.v])/\¬F3 e.p/\aI x.st.kv e.k=some e.v:=by
   rcases Q5.mp he with he|he
   .let{t1,t2,t3}:=tu e he;let{t4,t5}:=f3 _ _ t2 t1;exact{sb _ _ t4,t5,t3}
   .rw[Q9.mp he];exact⟨hb,ap,a2⟩
  refine{?_,key.2};rw[ag (λz=>by rw[z,a0]at key;cases key.1)];exact key.1
 let{I,ts,A2,U,nD,ey,ek,tu}:=w;rw[ey]at O;rw[Q0,Qy]at ek;have b1:=U _ _ (A.out a4) a1;refine{_,M,r1,_,_,_,M,M,OO.of b1.1,M,(by show 2<=sizeLine;decide),λr nr=>?_};have s3:Ba H2 (upd H2 r<|.tup [.ref D,v]):=ak nr;have hr:upd H2 r (.tup [.ref D,v]) r=some (.tup [.ref D,v]):=A9;have nF:=A2.out nr;generalize upd H2 r (.tup [.ref D,v])=H3 at s3 hr⊢;have f3:Fr F I H H3:=f1.trans (U.trans<|Fr.of_same s3);refine q H3 I r D v ts (A2.same s3) f3 {hr,s3 _ _ O,λe he=>{s3 _ _ (tu e he).1,(tu e he).2.1},{λz=>?_,nF},{λ_=>bZ s1 hD,nD}} ek (λe he=>(tu e he).2.2) ?_
 .cases eo:H r with
  |none=>rfl
  |some o=>rw[((f1.trans U) _ _ z eo).1]at nr;cases nr
 .unfold NxK at nx;unfold NxH;by_cases c:(b9 up av e x.ks).length<=n.toNat
  .rw[VB c]at nx⊢;exact nx
  .rw[VA c]at nx⊢;by_cases d:n.toNat=0
   .rw[VB d]at nx⊢;exact nx
   .rw[VA d]at nx⊢;let{b,k,ek,ev,nb,dy,fy,hy,ry}:=nx;let{h2,n2}:=U _ _ (A.out nb) hy;exact{b,k,ek,ev,nb,n2,dy,fy,s3 _ _ h2,ry}
noncomputable def vJ(JM j r:Int):Int:=if j<(r/JM+1)*JM then j else(r/JM+1)*JM
def aV(JM j i:Int):Nat->Int
 |0=>i
 |n+1=>vJ JM j (aV JM j i n)
def FC{j r:Int}(z:0<JM)(h:r<j):r<vJ JM j r/\vJ JM j r<=j:=by
 have:=Xd r z;unfold vJ;split<;>lia
theorem pF{JM j i:Int}(I:0<JM)(h:i<=j):∀n:Nat,(∀x<n,aV JM j i x<j)->i<=aV JM j i n/\aV JM j i n<=j/\(0<n->vJ JM j i<=aV JM j i n)
 |0,_=>{ZT _,h,λz=>VG z (_)}
 |n+1,w=>by
  let{a,b,c}:=pF I h n λx hx=>w x ();let{d,e}:=FC I (w n ());refine{show i<=vJ JM j (aV JM j i n) by lia,e,λ_=>?_};cases n with
  |zero=>exact ZT _
  |succ m=>exact Int.le_trans (c ()) (XA d)
structure Pb(st:N4)(lo hi:Int)(ps:Rs):Prop where
 so:ps.Pairwise BQ
 me:∀k v,(k,v)∈ps↔(k,v)∈st.kv/\lo<=OB k/\OB k<hi
def Pb.app(h:Pb st lo m ps)(g:Pb st m hi qs)(l1:lo<=m)(I:m<=hi):Pb st lo hi (ps++qs):=by
 refine{Qj.mpr {h.so,g.so,λx hx y hy=> .inl ?_},λk v=>?_}
 .have a:=((h.me x.1 x.2).mp hx).2;have b:=((g.me y.1 y.2).mp hy).2;lia
 .rw[Q5,h.me,g.me];constructor
  .rintro (⟨x,y,z⟩|⟨x,y,z⟩)
   .exact{x,y,()}
   .exact{x,(),z}
  .rintro ⟨x,y,z⟩;by_cases d:OB k<m
   .exact .inl ⟨x,y,d⟩
   .exact .inr {x,(),z}
def Pb.uniq(h:Pb st lo hi ps)(g:Pb st lo hi qs):ps=qs:=by
 have nd:∀{l:Rs},l.Pairwise BQ->l.Nodup:=λw=>w.imp λ{a b} z e=>by
  rw[e]at z;unfold BQ at z;lia
 refine List.Perm.eq_of_pairwise (λx y _ _ h1 h2=>?_) h.so g.so<|(Vz (nd h.so)<|nd g.so).mpr λx=>(h.me x.1 x.2).trans (g.me x.1 x.2).symm;unfold BQ at h1 h2;lia
def Pb.len(h:Pb st lo hi ps):ps.length<=st.kv.length:=by
 refine eY (h.so.imp λ{a b} z e=>?_) λx hx=>((h.me x.1 x.2).mp hx).1;rw[e]at z;unfold BQ at z;lia
structure PgS(st:N4)(i j n:Int)(m:Nat)(ps:Rs):Prop where
 rw:Pb st i (aV (65536/st.low) j i m) ps
 go:∀x<m,aV (65536/st.low) j i x<j
 le:∀x,0<x->x<m->∀qs,Pb st i (aV (65536/st.low) j i x) qs->(qs.length:Int)<n/\(x:Int)<4*n
 st:aV (65536/st.low) j i m=j\/(0<m/\(n<=ps.length\/4*n<=m))
def RN(t:NZ)(H:Hp)(p:Rl)(i j:Int):Prop:=∃(dx:Rl)(fs:RX),H p=some (.ins t.aQ dx fs)/\zG Re fs (.int i) (.int j)/\0<=i/\i<=j/\j<=65536
def RN.fr{i j:Int}(h:RN t H p i j)(n:¬F p)(f:Fr F F' H H'):RN t H' p i j/\¬F' p:=by
 let{dx,fs,z,r}:=h;exact{{dx,fs,(f _ _ n z).1,r},(f _ _ n z).2}
def RG(t:NZ)(H H':Hp)(F F':Ro)(r j:Int)(v:V):Prop:=if r=j then v= .non else ∃q:Addr,v= .ref q/\(¬F q->H q=none)/\¬F' q/\RN t H' q r j
def qC(K:Wi)(t:NZ):Sp:=λvs H Q _=>∃(a p:Rl)(n i j:Int)(F:Ro)(st:N4),vs=[.ref a,.ref p,.int n]/\OM K t H a F st/\RN t H p i j/\¬F p/\1<=n/\n<=1000/\st.kv.length<4096/\(∀p∈st.kv,∃i:Int,p.2= .int i)/\
 ∀(H':Hp)(F':Ro)(r g:Rl)(v:V)(ts:List Tp)(m:Nat),OM K t H' a F' st->Fr F F' H H'->PgA H H' F F' r g v ts->PgS st i j n m (ts.map Tp.kv)->RG t H H' F F' (aV (65536/st.low) j i m) j v->Q (.ref r) H'
structure R7(K:Wi)(t:NZ)(H H':Hp)(a p l:Rl)(F F':Ro)(st:N4)(i j:Int)(m:Nat)(ts:List Tp):Prop where
 sl:OM K t H' a F' st
 fr:Fr F F' H H'
 tk:RN t H' p i j
 np:¬F' p
 ol:¬F' l
 li:H' l=some (.lst<|ts.map λe=>V.ref e.p)
 tu:∀e∈ts,H' e.p=some (.tup [.int e.k,e.v])/\¬F' e.p
 rw:Pb st i (aV (65536/st.low) j i m) (ts.map Tp.kv)
 go:∀x<m,aV (65536/st.low) j i x<j
def R7.move{l:Rl}{i j:Int}{m:Nat}(h:R7 K t H H' a p l F F' st i j m ts)(s1:OM K t H1 a F1 st)(z:Fr F' F1 H' H1):R7 K t H H1 a p l F F1 st i j m ts:=
 {s1,h.fr.trans z,(h.tk.fr h.np z).1,(h.tk.fr h.np z).2,(z _ _ h.ol h.li).2,(z _ _ h.ol h.li).1,λe he=>z _ _ (h.tu e he).2 (h.tu e he).1,h.rw,h.go}
def qP(T:Txt K mg t w):E7 P w K mg base NX 5 t.kD t.fB [Re,hW,L'] (qC K t):=by
 let{O,I}:=T.g_STRETCHES_A_KEY;refine T.sG.okl OU λ_ _ _ s H vs Q E hr h _=>?_;intro X;let{a,p,n,i,j,F,st,rfl,hA,TK,np,n1,n2,l4,iv,q}:=h;refine ah (N7 3<|bh ae)
   (ah (N7 4<|aH HW M)
   (ah (N7 5 ai)
   (bU (λx=>(kZ VU (ar dz OX (aH HW M)<|ax _)
    x)) ?_)))
 refine ah (N7 6<|aD (mM M) {_} T.zP rp (aa (aT DA T.aG T.xa (lB T) hr.mo T.xj .nil az<|aa OX ae)<|aa (aH HW M) ae))
   (ah (aO<|bR Qk ZN ZO mH O8<|aa (aT DA T.aG T.Ht (uH T) hr.mo T.HK .nil az<|aa OX<|aa Pg ae) ae)
   (ah (N7 4 Pg)
   (ah (yQ (i:=5) OU.nd M (Or.inl M) ai Cl)
   (aw (aM (PW.pt<|kW (ar ux (aD aC {_} T.bG a7 (aa O8 ae)) M2<|ax _)<|iD<|ar ux PP (aq eI (bD (v:= .int 4) {_} I {_,M}) M2)<|ax _)
    (au FS)
    aA) ?_))))
 intros
 refine ah (aM (ar bX OX (aH HW M)<|ax _)
    (au<|ay<|cE<|aa O8<|aa cr ae)
    aA)
   (aw (ay<|cE<|aa O8<|aa (mF T.Cb (je T) hr.mo {_} T.oO T.sF .nil az (aa OX<|aa (aH HW M) ae)) ae) ?_)
 intros
 have z:O0 st:=let⟨_,_,_,_,_,z⟩:=hA;z
 let{s4,s5}:=bM (fA z);let{_,_,R}:=ut (fA z);have W0:=R.wpos';let{dx,fs,U,tf,i0,ij,j1}:=id TK;refine{Qc _,λl nl=>?_};have W1:R7 K t H (upd H l<|.lst []) a p l F F st i j 0 []:={hA.new nl,Fr.of_same<|ak nl,{dx,fs,by rwa[ag (am U nl)],tf,i0,ij,j1},np,hA.out nl,A9,(λe he=>by cases he),{VY,λk v=>{λh=>by(cases h),λh=>by have:=h.2;simp only[aV]at this;lia}},λx hx=>VG hx<|XF x};refine{_,M,p,_,dx,fs,_,M,by rwa[ag (am U nl)],T.cV,T.m8,tf.at_,?_}
 (try dsimp only)
 generalize upd H l (.lst [])=H1 at W1⊢;clear U tf dx fs;show zW (Fw _ _) _ _ _ H1;refine aX (λB H'=>∃(F':Ro)(m:Nat)(ts:List Tp)(Z:RW),B=[some (.ref a),some (.ref p),some (.int n),some (.ref l),some (.int<|aV (65536/st.low) j i m),some (.int m),Z]/\R7 K t H H' a p l F F' st i j m ts/\PgS st i j n m (ts.map Tp.kv)) (λnx go=>?_)<|λB H2 w=>?_
 .refine{λmm B H'=>∃(F':Ro)(m:Nat)(ts:List Tp)(Z:RW),mm=(j-aV (65536/st.low) j i m).toNat/\B=[some (.ref a),some (.ref p),some (.int n),some (.ref l),some (.int<|aV (65536/st.low) j i m),some (.int m),Z]/\R7 K t H H' a p l F F' st i j m ts/\(∀x,0<x->x<=m->∀qs,Pb st i (aV (65536/st.low) j i x) qs->(qs.length:Int)<n/\(x:Int)<4*n),{_,F,0,[],none,M,M,W1,λx x0 xm=>VG x0 ()},λmm B H' w=>?_};let{F',m,ts,Z,rfl,a6,w,lt}:=w;subst a6;let{dx,fs,U,tf,_}:=id w.tk;let{r0,r1,_}:=pF W0 ij m w.go;refine{_,M,_,M,p,_,dx,fs,_,M,U,T.cV,T.cT,tf.end_,_,_,M,M,_,M,cu (λc=>?_)<|λc=>?_}
  .have c:=VF c;let{r2,r3}:=FC W0 c;refine{λa2 H2=>∃(F2:Ro)(a0:List Tp)(Z:RW),a2=[some (.ref a),some (.ref p),some (.int n),some (.ref l),some (.int<|aV (65536/st.low) j i<|m+1),some (.int (m+1:Nat)),Z]/\R7 K t H H2 a p l F F2 st i j (m+1) a0/\(a0.length:Int)<n/\((m+1:Nat):Int)<4*n,λa2 H2 g=>?_,?_}
   .let{F2,a0,Z,e,w2,b1,b2}:=g;refine{_,?_,F2,m+1,a0,Z,M,e,w2,λx x0 xm qs hq=>?_}
    .show(j-vJ (65536/st.low) j (aV (65536/st.low) j i m)).toNat<_;lia
    .rcases V0 xm with xm|rfl
     .exact lt x x0 () qs hq
     .rw[hq.uniq w2.rw,Q0];exact⟨b1,b2⟩
   let{ac,af,al,an}:=w.sl.ins;refine{_,M,a,ac,af,M,al,an _ ∅,_,M,a,_,F',st,M,w.sl,(),(),λH2 F2 s2 f2=>?_};have w2:=w.move s2 f2;let{ap,b3,b4,b5,_}:=id w2.tk;refine{_,M,p,_,ap,b3,_,M,b4,T.cV,T.cT,b5.end_,_,_,M,?_}
   (try dsimp only)
   change lL 6 (V.int<|aV (65536/st.low) j i<|m+1) _ _ _;let{b8,ba,bb,be}:=w2.sl.ins;refine{_,M,.inl {M,_,Dz.of w2.li},_,M,a,b8,ba,M,bb,be _ ∅,_,M,_,M,a,_,_,F2,st,M,w2.sl,l4,iv,λH3 F3 l1 ts1 s3 f3 o3 n3 e3 u3 bj bl=>?_};have Y:=w2.move s3 f3;have a1:Pb st i (aV (65536/st.low) j i<|m+1) ((ts++ts1).map Tp.kv):=by
    rw[Q8];exact Y.rw.app ⟨bj,bl⟩ r0<|XA r2
   have ln:=a1.len;rw[Q0,Q7]at ln;have a3:∀{p:Rl}{xs:Rq},H3 p=some (.tup xs)->p≠l:=λ{p xs} e z=>by rw[z,Y.li]at e;cases e
   have w4:R7 K t H (upd H3 l<|.lst<|ts.map (λe=>V.ref e.p)++ts1.map (λe=>V.ref e.p)) a p l F F3 st i j (m+1) (ts++ts1):=by
    refine{Y.sl.upd Y.ol,Y.fr.upd_new λ_=>nl,?_,Y.np,Y.ol,by rw[A9,Q8],λe he=>?_,a1,λx hx=>?_}
    .let{dx,fs,U,r}:=Y.tk;exact{dx,fs,by rwa[ag λz=>by rw[z,Y.li]at U;cases U],r}
    .rcases Q5.mp he with he|he
     .exact{by rw[ag (a3 (Y.tu e he).1)];exact(Y.tu e he).1,(Y.tu e he).2}
     .exact{by rw[ag (a3 (u3 e he).1)];exact(u3 e he).1,(u3 e he).2}
    .rcases V0 (Nat.le_of_lt_succ hx)with hx|rfl
     .exact w.go x hx
     .exact c
   refine{l,l1,_,_,M,M,Y.li,e3,by rw[Q0,Q0];exact QX<|aW (),?_}
   (try dsimp only)
   generalize upd H3 l (.lst<|ts.map (λe=>V.ref e.p)++ts1.map (λe=>V.ref e.p))=H4 at w4⊢;have pg:(n<=((ts++ts1).length:Int)\/4*n<=((m+1:Nat):Int))->PgS st i j n (m+1) ((ts++ts1).map Tp.kv):=λo=>{a1,w4.go,λx x0 xm=>lt x x0 (),.inr {Nat.succ_pos m,by rw[Q0];exact o}};refine{_,M,_,M,_,_,M,M,?_}
   (try dsimp only)
   have em:((m:Int)+1)=((m+1:Nat):Int):=();rw[em];refine{_,M,l,_,M,.inl<|Dz.of w4.li,_,M,_,_,M,M,_,M,cu (λc1=>?_)<|λc1=>?_}
   .have c1:=VF c1;rw[Q0]at c1;exact b7<|go _ _ {F3,m+1,ts++ts1,_,M,w4,pg<|.inl c1}
   refine{_,M,_,M,_,_,M,M,.inl {(_),(_)},_,_,M,M,_,M,cu (λc2=>?_)<|λc2=>?_}
   .exact go _ _ {F3,m+1,ts++ts1,_,M,w4,pg<|.inr (VF c2)}
   .have c1:¬n<=(((ts++ts1).map λe=>V.ref e.p).length:Int):=λy=>c1 (VD y);have c2:¬4*n<=((m+1:Nat):Int):=λy=>c2 (VD y);rw[Q0]at c1;exact{F3,ts++ts1,_,M,w4,(),()}
  .have c:¬aV (65536/st.low) j i m<j:=λy=>c (VD y);exact go _ _ {F',m,ts,Z,M,w,w.rw,w.go,λx x0 xm=>lt x x0 (),.inl ()}
 let{F2,m,ts,Z,rfl,w,pg}:=w;let{r0,r1,_}:=pF W0 ij m w.go;let{dx,fs,U,tf,_}:=id w.tk;refine{_,M,_,M,p,_,dx,fs,_,M,U,T.cV,T.cT,tf.end_,M,_,M,cu (λc=>?_)<|λc=>?_}
 .have c:aV (65536/st.low) j i m=j:=V.int.inj (VF c);refine{_,M,(by show 2<=sizeLine;decide),λr nr=>?_};have s5:=ak (o:= .tup [.ref l,.non]) nr;refine q _ F2 r l .non ts m (w.sl.new nr) (w.fr.trans<|Fr.of_same s5) {A9,s5 _ _ w.li,λe he=>{s5 _ _ (w.tu e he).1,(w.tu e he).2},{λnF=>pY w.fr nF nr,w.sl.out nr},{λ_=>nl,w.ol}} pg ?_;unfold RG;rw[VB c]
 .have c:¬aV (65536/st.low) j i m=j:=λz=>c (VD<|by rw[z]);have ok:okS (.int<|aV (65536/st.low) j i m) (.int j):={_,_,M,M,(),(),j1};refine{_,M,_,M,_,M,p,_,dx,fs,_,M,U,T.cV,T.cT,tf.end_,λx dr nx nd bt=>?_};refine{x,dr,_,_,M,A9,T0 _,T0 _,λ_ H' fs' a4 h' bo=>{M,(by show 2<=sizeLine;decide),λr nr=>?_},λz=>VG ok z};have s5:Ba H2 (upd H' r<|.tup [.ref l,.ref x]):=(qE nx nd a4).trans (ak nr);have a5:H2 r=none:=bZ (qE nx nd a4) nr;have xr:x≠r:=λz=>by rw[z,nr]at h';cases h'
  refine q _ F2 r l (.ref x) ts m (w.sl.same s5) (w.fr.trans<|Fr.of_same s5) {A9,s5 _ _ w.li,λe he=>{s5 _ _ (w.tu e he).1,(w.tu e he).2},{λnF=>pY w.fr nF a5,w.sl.out a5},{λ_=>nl,w.ol}} pg ?_;unfold RG;rw[VA c];exact{x,M,λnF=>pY w.fr nF nx,w.sl.out nx,dr,fs',by rwa[ag xr],bo,(),(),j1}
def P9.newb{s l w:Rl}{Fs Fs' Fl:Ro}{x:O9}(Wh:P9 K t H a s l w p h Fs Fl x)(n:¬Fs b->H b=none)(n':¬Fs' b):¬PM a w p h Fs' Fl x.pa b:=λz=>by
 rcases z with z|z|z
 .exact n' z
 .let{o,e}:=Wh.lv.dom z;rw[n λy=>Wh.a1 b y z]at e;cases e
 .let{o,e,_}:=Wh.o.dom z;rw[n (Wh.a2 b z)]at e;cases e
noncomputable def PY:V->Int
 | .int i=>i|_=>0
def MB(st:N4)(ks:Rn)(kd n:Int)(av e:V)(ps:Rs)(r:RW):Prop:=
 (kd=0/\∃m,PgS st (PY av) (PY e) n m ps/\r=if aV (65536/st.low) (PY e) (PY av) m=PY e then none else some (.int<|aV (65536/st.low) (PY e) (PY av) m))\/
 ∃up:Bool,kd=(if up=true then 1 else 2)/\ps.map (·.1)=(b9 up av e ks).take n.toNat/\(∀p∈ps,aI st.kv p.1=some p.2)/\r=if(b9 up av e ks).length<=n.toNat then none else((b9 up av e ks)[n.toNat-1]?).map λk=> .int (if up=true then k+1 else k-1)
structure CK(t:NZ)(H':Hp)(F':Ro)(st:N4)(kd n:Int)(av e v:V)(ts:List Tp)(a':V)(R:Sh):Prop where
 rest:(v= .non/\R=λ_=>false)\/∃q:Addr,v= .ref q/\CD t H' q kd a' e/\Og kd a' e/\¬F' q/\R=hN kd a' e/\(kd=0->PY av<=PY a')
 less:∀k,0<=k->R k=true->hN kd av e k=true
 nd:(ts.map (·.k)).Nodup
 me:∀k v,(k,v)∈ts.map Tp.kv↔(k,v)∈st.kv/\hN kd av e k=true/\R k=false
 tell:∀ks,cq ks->(∀z,z∈ks↔(aI st.kv z).isSome=true)->MB st ks kd n av e (ts.map Tp.kv) (if v= .non then none else some a')
 far:v= .non\/n<=ts.length\/(kd=0/\PY av/(65536/st.low)+4*n<=PY a'/(65536/st.low))
theorem xH{JM j i:Int}(z:0<JM):∀m:Nat,(∀x≤m,aV JM j i x≠j)->aV JM j i m/JM=i/JM+m
 |0,_=>(Int.add_zero _).symm
 |m+1,h=>by
  have I:=xH z m λx hx=>h x ();have e:aV JM j i (m+1)=(aV JM j i m/JM+1)*JM:=by
   have:=h (m+1) (Q4 _);show vJ JM j (aV JM j i m)=_;change vJ JM j (aV JM j i m)≠j at this;unfold vJ at this⊢;split
   .rw[VB (by assumption)]at this;exact VG M this
   .rfl
  rw[e,Int.mul_ediv_cancel _ (QZ z),I];lia
def qX{i j:Int}:hN 0 (.int i) (.int j) k=true↔i<=OB k/\OB k<j:=by
 show(decide (i<=tz (k%65536))&&decide (tz (k%65536)<j))=true↔_;rw[Qq,VO,VO];exact Iff.rfl
def CC{i j:Int}{m:Nat}(I:0<65536/st.low)(i0:0<=i)(U:i<=j)(g:PgS st i j n m (ts.map Tp.kv))(x:RG t H H' F F' (aV (65536/st.low) j i m) j v):∃a' R,CK t H' F' st 0 n (.int i) (.int j) v ts a' R:=by
 let{r1,r2,_}:=pF I U m g.go;have nd:(ts.map (·.k)).Nodup:=by
  refine QM.mpr<|(QM.mp g.rw.so).imp λ{a b} h e=>?_;have h:OB a.k<OB b.k\/(OB a.k=OB b.k/\a.k<b.k):=h;rw[e]at h;lia
 unfold RG at x;by_cases ej:aV (65536/st.low) j i m=j
 .rw[VB ej]at x;refine{.non,λ_=>false,.inl ⟨x,M⟩,λk _ h=>VG h Qg,nd,λk v=>?_,(λks _ _=> .inl {M,m,g,by rw[VB x];exact(VB ej).symm}),.inl x};rw[g.rw.me,ej,qX];exact{λh=>⟨h.1,h.2,M⟩,λh=>⟨h.1,h.2.1⟩}
 .rw[VA ej]at x;let{q,O,_,Y,dx,fs,hq,Z,q0,q1,q2}:=x;refine{_,hN 0 (.int<|aV (65536/st.low) j i m)<|.int j,.inr {q,O,⟨dx,fs,hq,Z⟩,.inl {M,_,_,M,M,q0,q1,q2},Y,M,λ_=>r1},λk _ h=>?_,nd,λk v=>?_,(λks _ _=> .inl {M,m,g,by rw[VA λz=>by rw[O]at z;cases z];exact(VA ej).symm}),?_}
  .rw[qX]at h⊢;lia
  .rw[g.rw.me,qX,<-Xw,qX];constructor
   .rintro ⟨h1,h2,h3⟩;exact{h1,{h2,()},()}
   .rintro ⟨h1,⟨h2,h3⟩,h4⟩;exact{h1,h2,()}
  .rcases g.st with z|⟨_,z|z⟩
   .exact VG z ej
   .rw[Q0]at z;exact .inr<|.inl z
   .refine .inr<|.inr {M,?_};have ne:∀x≤m,aV (65536/st.low) j i x≠j:=λx hx=>by
     rcases V0 hx with h|rfl
     .have:=g.go x h;lia
     .exact ej
    show i/(65536/st.low)+4*n<=aV (65536/st.low) j i m/(65536/st.low);rw[xH I m ne];lia
def uw(up:Bool)(x y:Int):Prop:=if up=true then x<y else y<x
def AN{a:V}(r:cq ks):(b9 up a e ks).Pairwise (uw up):=by
 unfold b9 uw;cases up
 .exact List.Pairwise.filter _<|XM.mpr r
 .exact List.Pairwise.filter _ r
def Ox{a:V}{z:Int}:z∈b9 up a e ks↔z∈ks/\hK up a e z=true:=by
 unfold b9;rw[QC];cases up
 .rw[VA Qg,X6]
 .rw[VB M]
def Ft{m:Nat}{z:Int}(r:l.Pairwise (uw up))(h:l[m-1]?=some k)(O:1<=m):z∈l.take m↔z∈l/\(z=k\/uw up z k):=by
 have w:=Zb.mp r;let{hk,I}:=Q2.mp h;have as:∀{x y:Int},uw up x y->¬(y=x\/uw up y x):=λ{x y} h1 h2=>by
  unfold uw at h1 h2;cases up
  .rw[VA Qg]at h1 h2;lia
  .rw[VB M]at h1 h2;lia
 constructor
 .intro hz;let{i,hi,e}:=QG hz;rw[Qe]at hi;rw[X0]at e;refine{Zg hz,?_};rcases V4 i (m-1)with c|c
  .have:=w i (m-1) () hk c;rw[e,I]at this;exact .inr this
  .have:i=m-1:=();subst this;exact .inl<|e.symm.trans I
 .rintro ⟨hz,o⟩;let{i,hi,rfl}:=QG hz;rcases V4 i m with c|c
  .exact List.mem_take_iff_getElem.mpr {i,(),M}
  .have:=w (m-1) i hk hi ();rw[I]at this;exact VG o<|as this
def Lh{a:V}(h:Pl t H p up a e):CD t H p (if up=true then 1 else 2) a e/\Og (if up=true then 1 else 2) a e:=by
 let{dx,fs,z,I,ok}:=h;cases up
 .exact{⟨dx,fs,z,I⟩,.inr<|.inr ⟨M,ok⟩}
 .exact{⟨dx,fs,z,I⟩,.inr<|.inl ⟨M,ok⟩}
def Mo:hN (if up=true then 1 else 2)=hK up:=by cases up<;>rfl
def vp{a:V}{z:Int}(ok:if up=true then P7 a e else P6 a e)(hk:hK up a e k=true):hK up (.int<|if up=true then k+1 else k-1) e z=true↔hK up a e z=true/\¬(z=k\/uw up z k):=by
 unfold uw;cases up with
 |true=>
  rw[VB M,VB M];let{i,rfl,i0,he}:=(show P7 a e from ok);rcases he with rfl|⟨j,rfl,_⟩
  .have h1:=VF (show decide (i<=k)=true from hk);show decide (k+1<=z)=true↔decide (i<=z)=true/\_;rw[VO,VO];lia
  .have h1:=VF (QL.mp<|show(decide (i<=k)&&decide (k<j))=true from hk).1;show(decide (k+1<=z)&&decide (z<j))=true↔(decide (i<=z)&&decide (z<j))=true/\_;rw[Qq,Qq,VO,VO,VO];lia
 |false=>
  rw[VA Qg,VA Qg];let{j,rfl,I,ha}:=(show P6 a e from ok);rcases ha with rfl|⟨i,rfl,_⟩
  .show(decide (j<=z)&&decide (z<=k-1))=true↔decide (j<=z)=true/\_;rw[Qq,VO,VO];lia
  .have h1:=VF (QL.mp<|show(decide (j<=k)&&decide (k<=i))=true from hk).2;show(decide (j<=z)&&decide (z<=k-1))=true↔(decide (j<=z)&&decide (z<=i))=true/\_;rw[Qq,Qq,VO,VO,VO];lia
def E5(nd:(st.kv.map (·.1)).Nodup)(r:cq ks)(mk:∀z,z∈ks↔(aI st.kv z).isSome=true)(n1:1<=n)(ok:if up=true then P7 av e else P6 av e)
  (Z:ts.map (·.k)=(b9 up av e ks).take n.toNat) (ev:∀e∈ts,aI st.kv e.k=some e.v) (x:NxH t H H' F' p up e (b9 up av e ks) n.toNat v):∃a' R,CK t H' F' st (if up=true then 1 else 2) n av e v ts a' R:=by
 have ho:=AN (up:=up) (a:=av) (e:=e) r;have O:(ts.map (·.k)).Nodup:=by
  rw[Z];refine(ho.sublist<|ZV _ _).imp λ{a b} h e=>?_;unfold uw at h;rw[e]at h;split at h<;>lia
 have me:∀(k:Int)(v:V),(k,v)∈ts.map Tp.kv↔(k,v)∈st.kv/\k∈(b9 up av e ks).take n.toNat:=λk v=>by
  rw[<-Z,Qf,Qf];constructor
  .rintro ⟨d,hd,h1⟩;have h2:d.k=k:=VT Prod.fst h1;have U:d.v=v:=VT Prod.snd h1;have:=gZ (ev d hd);rw[h2,U]at this;exact⟨this,d,hd,h2⟩
  .rintro ⟨h1,d,hd,rfl⟩;have:=ev d hd;rw[eV nd h1]at this;exact{d,hd,by unfold Tp.kv;rw[VL this]}
 have ik:∀{k:Int}{v:V},(k,v)∈st.kv->k∈ks:=λh=>(mk _).mpr (by rw[eV nd h];rfl);have tl:∀{r:RW},(r=if(b9 up av e ks).length<=n.toNat then none else((b9 up av e ks)[n.toNat-1]?).map λk=> .int<|if up=true then k+1 else k-1)->∀I,cq I->(∀z,z∈I↔(aI st.kv z).isSome=true)->MB st I (if up=true then 1 else 2) n av e (ts.map Tp.kv) r:=λ{q} hq I r' mk'=>by
  have e1:I=ks:=Ai r' r λz=>(mk' z).trans (mk z).symm;subst e1;refine .inr {up,M,by rwa[QS],λp hp=>?_,hq};let{d,hd,rfl}:=Qf.mp hp;exact ev d hd
 unfold NxH at x;split at x
 .refine{.non,λ_=>false,.inl ⟨x,M⟩,λk _ h=>VG h Qg,O,λk v=>?_,tl (by rw[VB x,VB (by assumption)]),.inl x};rw[me,Qs (by assumption),Ox,Mo];exact{λh=>⟨h.1,h.2.2,M⟩,λh=>{h.1,ik h.1,h.2.1}}
 .rw[VA ()]at x;let{q,k0,h0,Y,_,nq,TQ}:=x;have hk:=(Ox.mp<|Q1 h0).2;let{t1,t2}:=Lh TQ;refine{_,hN (if up=true then 1 else 2) (.int<|if up=true then k0+1 else k0-1) e,.inr {q,Y,t1,t2,nq,M,λz=>by cases up<;>cases z},λk _ h=>?_,O,λk v=>?_,tl (by rw[VA (show ¬v= .non from λz=>by rw[Y]at z;cases z),VA (show ¬(b9 up av e ks).length<=n.toNat by assumption),h0];rfl),.inr<|.inl ?_}
  .rw[Mo]at h⊢;exact((vp ok hk).mp h).1
  .rw[me,Ft ho h0 (),Ox,Mo,<-Xw,vp ok hk];constructor
   .rintro ⟨h1,⟨_,h2⟩,U⟩;exact{h1,h2,λz=>z.2 U}
   .rintro ⟨h1,h2,U⟩;exact{h1,{ik h1,h2},Classical.byContradiction λz=>U ⟨h2,z⟩}
  .have:=VT List.length Z;rw[Q0,Qe]at this;lia
def Lu(K:Wi)(t:NZ):Sp:=λvs H Q _=>∃(a p:Rl)(n kd:Int)(av e:V)(F:Ro)(x:O9),vs=[.ref a,.ref p,.int n,.non]/\OR K t H a F x/\CD t H p kd av e/\Og kd av e/\¬F p/\1<=n/\n<=1000/\x.st.kv.length<4096/\x.ks.length<4096/\(∀k∈x.ks,0<=k)/\(∀p∈x.st.kv,∃i:Int,p.2= .int i)/\
 ∀(H':Hp)(F':Ro)(r g:Rl)(v:V)(ts:List Tp)(a':V)(R:Sh),OR K t H' a F' x->Fr F F' H H'->PgA H H' F F' r g v ts->CK t H' F' x.st kd n av e v ts a' R->Q (.ref r) H'
def LR(T:Txt K mg t w):E7 P w K mg base NX 8 t.K4 t.AX [Rc,hW,L',"sieve"] (Lu K t):=by
 have a2:=Pw.nd;refine T.NM.ok Pw (λvs H Q E h=>?_)<|λa3 A outer s H vs Q E hr h=>?_
 .let{a,p,n,kd,av,e,F,x,rfl,_}:=h;rfl
 .let{a,p,n,kd,av,e,F,x,rfl,A,TK,on,np,n1,n2,l4,lk,k0,iv,q}:=h;refine Ni (λx y=>aM (br<|aD (fW K M) {_} T.bV bF (aa HW<|aa (bD (v:= .ref t.aQ) {_} T.oO M) ae)) x y) ?_;refine aw (N7 4<|aE (qP T) hr.mo {_} T.Fc T.sG.kp T.Fg .nil az (aa (aH DA M)<|aa HW<|aa M2 ae)) ?_
  intros
  refine aw (N7 4<|aE (sj T) hr.mo {_} T.Gp T.vF.kp T.Hf .nil az (aa DA<|aa HW<|aa M2 ae)) ?_
  intros
  refine ah (aM (ar gv O8 cr<|ax _)
   (au<|ay OX)
   aA)
     (aw bW ?_)
  intros
  let{dx,fs,I,tf}:=id TK;have nd:(x.st.kv.map (·.1)).Nodup:=by
   let{s,l,wr,p,h,Fs,Fl,Wh,O,g}:=A;let{_,_,_,_,nd,_}:=Wh.sl;exact nd
  have ri:cq x.ks:=by
   let{_,_,_,_,_,_,L}:=A.lvs;exact L.rise
  have Y:∀(up:Bool){Q':VK}{E':XK},kd=(if up=true then 1 else 2)->(∀v H',Q v H'->Q' v H')->kC K t [.ref a,.ref p,.int n] H Q' E':=λup Q' E' Z hQ=>by
   have ok:if up=true then P7 av e else P6 av e:=by
    subst Z;cases up
    .exact on.d
    .exact on.u
   refine{a,p,n,up,av,e,F,x,M,A,{dx,fs,?_,?_,ok},np,lk,k0,λH' F' r g v ts A' f' pg ek ev nx=>?_}
   .subst Z;cases up<;>exact I
   .subst Z;cases up<;>exact tf
   .let{a',R,U}:=E5 nd ri A.ok.ks n1 ok ek ev nx;rw[<-Z]at U;exact hQ _ _<|q H' F' r g v ts a' R A' f' pg U
  rcases on.kd with rfl|rfl|rfl
  .have I:H p=some (.ins t.aQ dx fs):=I;let{i,j,rfl,rfl,i0,ij,j1}:=on.s;let{s,l,wr,pp,h,Fs,Fl,Wh,O,g}:=A;let{a0,ho}:=Wh.o.ob;have W0:0<65536/x.st.low:=by
    have z:O0 x.st:=let⟨_,_,_,_,_,z⟩:=Wh.sl;z
    let{_,_,R}:=ut (fA z);exact R.wpos'
   refine{_,M,_,_,_,_,M,OC.ins I T.cV T.oh.1 T.oh.2 T.oh.3 T.oh.4,T.Ck,_,M,b7 {_,M,a,_,a0,_,_,M,ho,T.a6,T.cR,u7,_,M,_,M,s,p,n,i,j,Fs,x.st,M,Wh.sl,⟨dx,fs,I,tf,i0,ij,j1⟩,λz=>np<|(g p).mpr<|.inl z,n1,n2,l4,iv,λH' Fs' r gg v ts m S' f' pg ps nx=>{_,M,M,_,M,dA M {_,M,?_}}}};let{B1,g1}:=Wh.slots S' f';have up:∀{b:Rl},¬F b->¬Fs b:=λn z=>n ((g _).mpr<|.inl z);have A':OR K t H' a (PM a wr pp h Fs' Fl x.pa) x:={s,l,wr,pp,h,Fs',Fl,B1,O,λ_=>Iff.rfl};have a1:RG t H H' F (PM a wr pp h Fs' Fl x.pa) (aV (65536/x.st.low) j i m) j v:=by
    unfold RG at nx⊢;split
    .rw[VB (by assumption)]at nx;exact nx
    .rw[VA (by assumption)]at nx;let{y,e1,e2,e3,e4}:=nx;exact{y,e1,λn=>e2<|up n,Wh.newb e2 e3,e4}
   let{a',R,U}:=CC W0 i0 ij ps a1;refine q H' _ r gg v ts a' R A' (λb o n e=>g1 b o (λz=>n<|(g b).mpr z) e) {pg.tu,pg.li,λe he=>{(pg.rw e he).1,λz=>?_},{λn=>pg.nr.1<|up n,Wh.newb pg.nr.1 pg.nr.2},λn=>pg.ng.1<|up n,Wh.newb pg.ng.1 pg.ng.2} U;let{o,e',n}:=A'.dom z;rw[(pg.rw e he).1]at e';exact n _ (VL e').symm
  .have I:H p=some (.ins t.da dx fs):=I;refine{_,M,_,_,_,_,M,OC.ins I T.jo T.kJ.1 T.kJ.2 T.kJ.3 T.kJ.4,T.HE,_,M,bL {_,M,_,M,_,M,Y true M λv H' h=>{_,M,M,_,M,dA M {_,M,h}}}}
  .have I:H p=some (.ins t.b8 dx fs):=I;refine{_,M,_,_,_,_,M,OC.ins I T.c8 T.dQ.1 T.dQ.2 T.dQ.3 T.dQ.4,T.Fd,_,M,bL {_,M,_,M,_,M,Y false M λv H' h=>{_,M,M,_,M,dA M {_,M,h}}}}
def rW(K:Wi):Sp:=λvs H Q _=>∃(a:Rl)(ns:Rn)(k:Int),vs=[.ref a,.int k]/\Dz K H a (ns.map V.int)/\0<=k/\Q (.int<|ns.getD k.toNat 0) H
def ss(T:Txt K mg t w):E7 P w K mg base NX 1 t.mi t.gI [jj,nC] (rW K):=by
 refine T.eC.okl r6 λ_ _ _ s H vs Q E O h _=>?_;intro X;let{a,ns,i,rfl,hS,I,k}:=h;refine ah (aM (ar dz HW (aD aC {_} T.bG a7 (aa DA ae))<|ax _)
    (au<|ay<|aP aK DA HW<|λ_ _=>M)
    aA)
   (aw (ay ai) ?_)
 intros
 refine{_,M,_,M,a,_,M,.inl hS,_,_,M,M,_,M,?_};refine cu (λc=>?_)<|λc=>?_
 .have c:=VF c;rw[Q0]at c;exact{_,M,_,M,a,_,_,_,M,M,hS,vn I c,k}
 .have c:¬i<((ns.map V.int).length:Int):=λz=>c (VD z);rw[Q0]at c;rw[Hc c]at k;exact k
def vS:Sp:=λvs H Q _=>∃k:Int,vs=[.int k]/\Q (.int<|tz<|k%65536) H
def mZ(T:Txt K mg t w):E7 P w K mg base NX 1 t.qg t.j6 [eN] vS:=by
 refine T.qw.okl ww λ_ _ _ s H vs Q E O h _=>?_;intro X;let{n,rfl,q}:=h;refine ah (N7 1<|aq aY DA ai)
   (ah (N7 2 ai)
   (ah (gu VU M (fZ {_} T.my (aa ai ae)) (PZ 3)
    (gj (N7 2<|aq bN (aq eI ai M2)<|aq aY HW ai)
    (au<|N7 1<|aq bf HW ai)))
   (aw (ay M2) ?_)))
 intros
 have z:=Qx n (show(65536:Int)≠0 by decide);refine{_,M,_,_,M,M,(by show(0:Int)<65536;decide),?_}
 (try dsimp only)
 generalize n%65536=m at z q⊢;have I:((m.toNat/2^0:Nat):Int)=m:=by rw[Nat.pow_zero,Nat.div_one];lia
 refine{16,M,(_),(_),qY (n:=16) (λi B H'=>∃v,H'=H/\B=[some (.int n),some (.int ((m.toNat/2^i:Nat):Int)),some (.int ((rv i m.toNat:Nat):Int)),v]) ?_ ?_ ?_}
 .refine{none,M,?_};rw[I];rfl
 .rintro i B H' hi ⟨v,rfl,rfl⟩;refine{_,M,_,_,M,M,.inl {(_),(_)},_,M,_,_,M,M,(by show(0:Int)<2;decide),_,_,M,M,_,M,_,_,M,M,{(_),(_)},?_};refine{some<|.int<|0+(i:Int),M,?_};rw[<-xA i m.toNat,<-xB i m.toNat,Xz];rfl
 .rintro B H' ⟨v,rfl,rfl⟩;unfold tz at q;exact{_,M,q}
def RsT(H:Hp)(C:Rl)(E:XK):Prop:=∀(ea:Rl)(od:RV)(H':Hp),NN H' ea od C []->Ba H H'->E (.ref ea) od H'
def qL{E:XK}{H0:Hp}{bm:Rr}(Y:rq K C bm)(s:Ba H H0)(k:RsT H C E){D:kB}{x:Str}:FK K (CS C<|Kw (tC<|.str x) Fx) E D B H0:=by
 refine{(by show 1<=1000;decide),λea z=>{ea,C,none,bm,M,A9,Y,?_}};rw[cY];refine k ea none _ {A9,.inl ⟨M,M⟩} λb o q=>?_;have q:=s b o q;rw[ag (am q z)];exact q
def dg(c:Nat):Bool:=decide (c∈sg (Rg:Str))
def NG{c:Nat}(h:dg c=true):48<=c/\c<=57:=by
 have h:c∈[48,49,50,51,52,53,54,55,56,57]:=VF h;simp at h;omega (config:={})
def Jy(c:Nat):(!(Builtin.Str.occurrences (Rg:Str) {#[c]} 0 (Rg:Str).length 1).isEmpty)=dg c:=StrLaws.found_one _ c
def xo(z:Str):Bool:=(decide (1<=(z.length:Int))&&decide ((z.length:Int)<=60))&&(!(decide ((sg z).head?=some 48)&&decide (z≠("0":Str))))&&(sg z).all dg
def sZ:Sp:=λvs H Q _=>∃z:Str,vs=[.str z]/\z.length<=100000/\∀H',Ba H H'->Q (.bl<|xo z) H'
def RE:("0":Str)={#[48]}:=by decide+kernel
def strM:("-":Str)={#[45]}:=by decide+kernel
def Ci:PySem.W.kitOne K (.type "str") (.type "str")=some true/\PySem.W.kitOne K (.type "int") (.type "str")=some false/\PySem.W.kitOne K (.type "NoneType") (.type "str")=some false/\PySem.W.kitOne K (.type "bool") (.type "str")=some false/\PySem.W.kitOne K (.type gt) (.type "str")=some false/\PySem.W.kitOne K (.type l6) (.type "str")=some false:=
 {by kernel_rfl,by kernel_rfl,by kernel_rfl,by kernel_rfl,by kernel_rfl,by kernel_rfl}
def uD(T:Txt K mg t w):E7 P w K mg base NX 1 t.nK t.iI [Ra] sZ:=by
 let{Z,O}:=T.g_FIGURES;let{U,I}:=T.g_MOST_FIGURES;refine T.xq.okl tS λ_ _ _ s H vs Q E hr h _=>?_;intro X;let{z,rfl,zl,q}:=h;refine ah (aM (cz<|Ak gX gX ai (aD zo {_} T.bG a7 (aa DA ae))<|bD (v:= .int 60) {_} I {_,M})
    (au<|ay gW)
    aA)
   (ah (aM (PW.pt<|dG (br<|bR Z1 Xh Xi qS DA<|aa aR ae)<|cI<|ar Ar DA aR<|ax _)
    (au<|ay gW)
    aA)
   (aw (ay<|aD (EZ M) {_} T.NU Mv (aa (pI M (N5.of (M':=["sign"]) (N:=[Ra]) (N':=[Ra]) (dsc:=aj eO) M M ∅) (LG DA)<|λ_ _ _ _ _=>(bK Eh DA (bD (v:= .str Rg) {_} O {_,M}) M)) ae)) ?_))
 intros
 have big:100000<=sizeLine:=by decide
 unfold xo at q;have last:(decide (1<=(z.length:Int))&&decide ((z.length:Int)<=60))=true->(!(decide ((sg z).head?=some 48)&&decide (z≠("0":Str))))=true->∀H',Ba H H'->Q (.bl<|((sg z).map dg).all id) H':=λh1 h2 H' s=>by
  have:=q H' s;rw[h1,h2,Zy,Zy]at this;rwa[List.all_map]
 have a0:(decide (1<=(z.length:Int))&&decide ((z.length:Int)<=60))=true->(!(decide ((sg z).head?=some 48)&&decide (z≠("0":Str))))=true->∀D,H D=none->∀ys,ys=((sg z).map dg).map V.bl->∀H2,H2=upd H D (.lst ys)->H2 D=some (.lst ys)->∃(p:Rl)(bs:List Bool),[V.ref D]=[.ref p]/\Dz K H2 p (bs.map V.bl)/\Q (.bl<|bs.all id) H2:=λh1 h2 D hD ys ey H2 e2 Y=>
  {D,(sg z).map dg,M,Dz.of (by rw[Y,ey]),last h1 h2 H2<|by rw[e2];exact ak hD}
 refine{_,M,z,M,(),_,_,M,M,_,M,?_};by_cases c1:(1:Int)<=(z.length:Int)
 .refine jT c1 {_,_,M,M,_,M,?_};by_cases c2:(z.length:Int)<=60
  .rw[VD c1,VD c2]at q last a0;rw[VD c2];refine bL ?_;refine{_,M,M,z,_,M,M,_,M,?_};rw[show(Str.ofString "0")={#[48]} from RE,sX];have fin:(!(decide ((sg z).head?=some 48)&&decide (z≠("0":Str))))=true->∀D,H D=none->∃JM:Nat->Nat->List V->Hp->Prop,(∃m,JM 0 m [] (upd H D<|.lst []))/\∀i m ys H2,JM i m ys H2->H2 D=some (.lst ys)->
     ((R5 z).stop i H2/\∃(p:Rl)(bs:List Bool),[V.ref D]=[.ref p]/\Dz K H2 p (bs.map V.bl)/\Q (.bl<|bs.all id) H2)\/((R5 z).go i H2/\∀x H3,(R5 z).yld i H2 x H3->tOp (λx y H Q=>∃i j,x= .str i/\y= .str j/\Q (.bl<|!(Builtin.Str.occurrences j i 0 j.length 1).isEmpty) H) (Iq 0) (tC<|.str Rg) (some x::[some (V.str z)]) H3 λy H4=>H4 D=some (.lst ys)/\ys.length<sizeLine/\∃m',m'<m/\JM (i+1) m' (ys++ [y]) (upd H4 D<|.lst<|ys++ [y])):=λh2 D hD=>by
    refine Hb (z:=z) (λi ys H2=>H2=upd H D (.lst ys)/\ys=(((sg z).take i).map dg).map V.bl) ⟨M,M⟩ (λi c ys H2 hc w Y=>?_)<|λys H2 w Y=>?_
    .have hi:i<z.cps.size:=by
      rcases V4 i z.cps.size with g|g
      .exact g
      .rw[Array.getElem?_eq_none g]at hc;cases hc
     have a1:(sg z)[i]?=some c:=by rw[<-hc];simp[sg]
     have l1:ys.length<=100000:=by
      rw[w.2,Q0,Q0,Qe];have:=dD z;lia
     refine{_,M,_,_,M,M,?_};rw[Jy];refine OA.mk hi Y (aW ()) {by rw[w.1,cY],?_};rw[w.2,Qp,a1,Q8,Q8];rfl
    .refine a0 M h2 D hD ys ?_ H2 w.1 Y;rw[w.2,Qs];have:=dD z;have:z.length=z.cps.size:=M;lia
   by_cases c3:(sg z).head?=some 48
   .rw[VD c3];refine b7 {_,M,M,_,M,?_};by_cases c4:z=("0":Str)
    .refine AL (by rw[c4,RE]) ?_;exact{_,M,z,M,λD hD=>fin (by simp[c4]) D hD}
    .refine Nu (λy=>c4<|(V.str.inj y).trans RE.symm) ?_;have:=q H (Ba.refl _);rw[VD c3,VD c4]at this;exact this
   .rw[VJ c3];refine bL ?_;exact{_,M,z,M,λD hD=>fin (by simp[c3]) D hD}
  .rw[VJ c2];refine b7 ?_;rw[VJ c2,Xj]at q;exact q H<|Ba.refl _
 .refine aZ c1 ?_;rw[VJ c1]at q;exact{_,M,b7<|q H (Ba.refl _)}
noncomputable def Pn(z:Str):Bool:=decide ((sg z).head?=some 45)
def Oq(z:Str):Str:=if Pn z=true then Txt.slice z (some 1) none else z
def acc(z:Str):Bool:=xo (Oq z)&&!(Pn z&&decide (Oq z=("0":Str)))
def JG(z:Str):(Oq z).length<=z.length:=by
 unfold Oq;split
 .exact Txt.slice_le _ _ _
 .exact Q4 _
def Cr(z:Str):sg z=if Pn z=true then 45::sg (Oq z)else sg (Oq z):=by
 unfold Oq;by_cases c:Pn z=true
 .rw[VB c,VB c,Ab];have h:(sg z).head?=some 45:=VF c;cases e:sg z with
  |nil=>rw[e]at h;cases h
  |cons a r=>rw[e]at h;cases h;rfl
 .rw[VA c,VA c]
def E6{z:Str}(h:acc z=true)(hl:z.length<=640):∃n,PySem.intText? z=some n:=by
 unfold acc xo at h;rw[Qq,Qq,Qq,Qq]at h;let{{{{h1,_},_},O},_}:=h;have ad:PySem.NumText.AllDigits (sg<|Oq z):=λc hc=>NG (Z0.mp O c hc);have I:sg (Oq z)≠[]:=λe=>by
  have h1:=VF h1;rw[dD,e]at h1;simp at h1
 have fs:=Cr z;by_cases c:Pn z=true
 .rw[VB c]at fs;exact{_,PySem.intText_neg fs ad I ()}
 .rw[VA c]at fs;exact{_,PySem.intText_digits (by show PySem.NumText.AllDigits (sg z);rwa[fs]) (by show sg z≠[];rw[fs];exact I) ()}
def Mr{z:Str}(h:xo (Oq z)=true):z.length<=640:=by
 unfold xo at h;rw[Qq,Qq,Qq]at h;have h2:=VF h.1.1.2;have fs:=Cr z;have l1:=dD z;have I:=dD (Oq z);rw[fs]at l1;split at l1
 .rw[Qi]at l1;lia
 .lia
def vL(K:Wi)(t:NZ):Sp:=λvs H Q E=>(∃z:Str,vs=[.str z]/\z.length<=100000/\(acc z=true->∀n H',PySem.intText? z=some n->Ba H H'->Q (.int n) H')/\(acc z=false->RsT H t.lX E))\/
 (∃(x:V)(ty:Rp),vs=[x]/\OC K H x ty/\PySem.W.kitOne K ty (.type "str")=some false/\RsT H t.lX E)
def Iy{t u:TS}{D:kB}(M':Sk)(h1:∀nx,(∀z H',M' z H'->nx z H')->t {D with nx:=nx} B H)(h2:∀z H',M' z H'->u D z H'):zW t u D B H:=h1 (u D) h2
def mY(T:Txt K mg t w):E7 P w K mg base (RC P w) 2 t.qa t.jX [Ra] (vL K t):=by
 have a0:=Oe.nd;refine T.qu.okX Oe (λvs H Q E h=>?_)<|λa1 A outer s H vs Q E hr h=>?_
 .rcases h with⟨z,rfl,_⟩|⟨x,ty,rfl,_⟩<;>rfl
 .refine ah (aM (cz<|br<|aD e6 {_} T.bV bF (aa DA<|aa (pJ (v:= .ty "str") {_} T.kI fF M) ae))
   (au<|Al M CQ<|xI T.mB T.Cm {_} T.Eu (aa aR ae))
   aA)
     (ah (N7 1<|bR Z1 Xh Xi qS DA<|aa aR ae)
     (ah (N7 2<|pH (br HW) (cQ FF DA (cZ ai) fP) DA)
     (ah (aM (PW.pt<|kW (cz<|br<|aE (uD T) hr.mo {_} T.HB T.xq.kp T.HG .nil az (aa M2 ae))<|iD<|PW.pt<|dG (br HW)<|cI<|ar bX M2 aR<|ax _)
   (au<|Al M CQ<|xI T.mB T.Cm {_} T.Eu (aa aR ae))
   aA)
     (aw (ay<|bP nG {_} T.Km Cz (aa DA ae)) ?_))))
  intros
  have big:100000<=sizeLine:=by decide
  rcases h with⟨z,rfl,Y,q1,Z⟩|⟨x,ty,rfl,ht,hk,q⟩
  .refine{_,M,_,_,_,_,M,OC.str _,Ci.1,true,M,bL ?_};refine{_,M,M,z,_,M,M,?_};rw[show(Str.ofString "-")={#[45]} from strM,sX,show decide ((sg z).head?=some 45)=Pn z from rfl];have fl:=JG z
   (try dsimp only)
   refine Iy (λO H'=>O=[some (.str z),some (.bl<|Pn z),some (.str<|Oq z)]/\H'=H) (λnx go=>?_)<|λO H' w=>?_
   .refine{_,M,_,M,cu (λc=>?_)<|λc=>?_}
    .refine{_,M,_,M,z,M,(),go _ _ {?_,M}};unfold Oq;rw[VB c];rfl
    .refine{_,M,go _ _ {?_,M}};unfold Oq;rw[VA c];rfl
   let{U,eH}:=w;rw[U,eH];clear U eH;refine{_,M,Oq z,M,(),λH1 s1=>{_,M,?_}};unfold acc at q1 Z;cases ea:xo (Oq z)with
   |false=>
    refine b7 ?_;refine b7 ?_;exact qL T.mB s1<|Z (by rw[ea];rfl)
   |true=>
    refine bL {_,M,_,M,?_};have Y:=Mr ea;have ok:(!(Pn z&&decide (Oq z=("0":Str))))=true->∃n,PySem.intText? z=some n/\∀H',Ba H' H'->Ba H H'->Q (.int n) H':=λh=>by
     have ac:acc z=true:=by unfold acc;rw[ea,h];rfl
     let{n,I}:=E6 ac Y;exact{n,I,λH' _ s=>q1 (by rw[ea,h];rfl) n H' I s}
    cases eb:Pn z with
    |true=>
     refine b7 {_,M,M,_,M,?_};by_cases c:Oq z=("0":Str)
     .refine dA (by rw[c]) ?_;exact qL T.mB s1<|Z (by rw[ea,eb,VD c];rfl)
     .refine aZ (λy=>c<|V.str.inj y) ?_;let{n,I,k}:=ok (by rw[eb,VJ c];rfl);exact{_,M,z,n,M,I,Y,k H1 (Ba.refl _) s1}
    |false=>
     refine bL ?_;refine bL ?_;let{n,I,k}:=ok (by rw[eb];rfl);exact{_,M,z,n,M,I,Y,k H1 (Ba.refl _) s1}
  .refine{_,M,_,_,_,_,M,ht,hk,false,M,b7 ?_};exact qL T.mB (Ba.refl _) q
def G0{c:Nat}(z:48<=c)(h1:c<=57):dg c=true:=by
 have e:sg (Rg:Str)=[48,49,50,51,52,53,54,55,56,57]:=by decide+kernel
 unfold dg;rw[e];refine VD ?_;simp;lia
def LS{i:Int}(z:0<=i):sg (Str.ofString<|toString i)=(Nat.toDigits 10 i.toNat).map Char.toNat:=by
 let{m,rfl}:=QU z;exact PySem.W.KIN.signs_num m
def sL(m:Nat):∀c∈(Nat.toDigits 10 m).map Char.toNat,48<=c/\c<=57:=λc hc=>by
 let{ch,z,e}:=Qf.mp hc;rw[<-e];exact PyProof.Rows.digit_range<|Nat.isDigit_of_mem_toDigits (_) (_) z
def uQ(m:Nat):(Nat.toDigits 10 m).map Char.toNat≠[]:=λe=>by
 have h:0<(Nat.toDigits 10 m).length:=Nat.length_toDigits_pos;rw[List.map_eq_nil_iff.mp e]at h;exact VG h (_)
def uR(m:Nat):0<m->((Nat.toDigits 10 m).map Char.toNat).head?≠some 48:=by
 induction m using Nat.strongRecOn with
 |_ m z=>
  intro h;by_cases c:m<10
  .rw[Nat.toDigits_of_lt_base c];have d:∀d:Nat,d<10->0<d->(Nat.digitChar d).toNat≠48:=by decide
   intro e;exact d m c h<|VL e
  .have I:m%10<10:=Nat.mod_lt m (_);have t:Nat.toDigits 10 (m/10)++Nat.toDigits 10 (m%10)=Nat.toDigits 10 (10*(m/10)+m%10):=Nat.toDigits_append_toDigits (_) () I;rw[Nat.div_add_mod]at t;rw[<-t,Q8];have:=z (m/10) () ();cases q:(Nat.toDigits 10<|m/10).map Char.toNat with
   |nil=>exact VG q<|uQ _
   |cons a r=>rw[q]at this;exact this
def rb(a:V):Prop:=a= .non\/∃i:Int,a= .int i/\0<=i/\i<10^39
def CL{i:Int}(Y:0<=i)(h1:i<10^39):acc (wr<|.int i)=true/\PySem.intText? (wr<|.int i)=some i/\wr (.int i)≠("-":Str)/\32∉sg (wr<|.int i)/\(wr<|.int i).length<=40:=by
 have Z:(wr<|.int i).length<=40:=by
  have h:(toString i).length<=39+1:=PySem.int_text_length_le10 (_) ();show(Str.ofString<|toString i).length<=40;rw[Str.ofString_eq_toList];show((toString i).toList.map Char.toNat).toArray.size<=40;rwa[Qh,Q0]
 have e:sg (wr<|.int i)=(Nat.toDigits 10 i.toNat).map Char.toNat:=LS Y;have ad:=sL i.toNat;have I:=uQ i.toNat;have O:=uR i.toNat;rw[<-e]at ad I O;have vb:PySem.NumText.digitsVal (sg<|wr<|.int i)=i.toNat:=by rw[e];exact PySem.W.KIN.val_back _
 have hd:(sg<|wr<|.int i).head?≠some 45:=λq=>by
  have:=ad 45 (List.mem_of_mem_head? q);lia
 have z0:(sg<|wr<|.int i).head?=some 48->wr (.int i)=("0":Str):=λq=>by
  rcases QW i.toNat with z|z
  .obtain rfl:i=0:=();show Str.ofString (toString (0:Int))=_;decide+kernel
  .exact VG q<|O z
 generalize wr (.int i)=z at*;have U:Pn z=false:=VJ hd;have fz:Oq z=z:=by unfold Oq;rw[U];rfl
 have l1:1<=z.length:=by
  rw[dD];cases q:sg z with
  |nil=>exact VG q I
  |cons a r=>simp
 refine{?_,?_,?_,?_,Z}
 .unfold acc xo;rw[U,fz,Zn,Bool.not_false,Bool.and_true,VD (show(1:Int)<=(z.length:Int) by lia),VD (show(z.length:Int)<=60 by lia)];have a1:(sg z).all dg=true:=Z0.mpr λc hc=>G0 (ad c hc).1 (ad c hc).2;rw[a1];by_cases c:(sg z).head?=some 48
  .rw[VJ (show ¬z≠("0":Str) from λq=>q<|z0 c),Xj];rfl
  .rw[VJ c];rfl
 .have r:=PySem.intText_digits (x:=z) ad I ();rw[r];show some ((PySem.NumText.digitsVal (sg z):Nat):Int)=some i;rw[vb];congr 1;lia
 .intro q;exact hd<|by rw[q];decide+kernel
 .intro q;have:=ad 32 q;lia
def rb.free{a:V}(h:rb a):32∉sg (wr a)/\(wr a).length<=40:=by
 rcases h with rfl|⟨i,rfl,z,h1⟩
 .exact{∅,∅}
 .exact{(CL z h1).2.2.2.1,(CL z h1).2.2.2.2}
def rb.bd{a:V}(h:rb a):RJ a:=by
 rcases h with rfl|⟨i,rfl,z,h1⟩
 .exact VW
 .exact Int.lt_trans h1 (_)
def Ls:(Rb:Str)={#[32]}:=by decide+kernel
def mC{kd:Int}{a:V}(hk:kd=0\/kd=1\/kd=2)(ha:rb a)(he:rb e):Txt.split (bg (OQ kd) a e) (Rb:Str)=[OQ kd,wr a,wr e]/\(bg (OQ kd) a e).length<=100:=by
 have k1:32∉sg (OQ kd)/\(OQ kd).length<=5:=by rcases hk with rfl|rfl|rfl<;>exact{∅,∅}
 constructor
 .unfold bg;rw[Ls];refine oj (by simp) λx hx=>?_;rcases Qb.mp hx with rfl|hx
  .exact k1.1
  rcases Qb.mp hx with rfl|hx
  .exact ha.free.1
  .rw[Q9.mp hx];exact he.free.1
 .unfold bg;rw[fR];have:=ha.free.2;have:=he.free.2;have:=k1.2;have s1:(Rb:Str).length=1:=by decide+kernel
  show(OQ kd++(Rb:Str)++(wr a++(Rb:Str)++wr e)).length<=100;rw[Str.length_append,Str.length_append,Str.length_append,Str.length_append,s1];lia
def M3(x:String):sg (Str.ofString x)=x.toList.map Char.toNat:=by
 rw[Str.ofString_eq_toList]
def y7{i:Int}(h0: -(10^60)<i)(h1:i<10^60):acc (Str.ofString<|toString i)=true/\PySem.intText? (Str.ofString<|toString i)=some i/\∀c∈sg (Str.ofString<|toString i),c=45\/(48<=c/\c<=57):=by
 have dl:∀m:Nat,m<10^60->((Nat.toDigits 10 m).map Char.toNat).length<=60:=λm h=>by rw[Q0];exact(Nat.length_toDigits_le_iff (_) (_)).mpr h
 have aF:∀{z:Str}{m:Nat},m<10^60->sg z=(Nat.toDigits 10 m).map Char.toNat->xo z=true:=λ{z m} hm e=>by
  have ad:=sL m;have O:=uR m;have I:=uQ m;have ln:=dl m hm;rw[<-e]at ad O I ln;have l1:1<=z.length:=by
   rw[dD];cases q:sg z with
   |nil=>exact VG q I
   |cons a r=>simp
  have l2:z.length<=60:=by rwa[dD]
  unfold xo;rw[VD (show(1:Int)<=(z.length:Int) by lia),VD (show(z.length:Int)<=60 by lia),Z0.mpr λc hc=>G0 (ad c hc).1 (ad c hc).2];by_cases c:(sg z).head?=some 48
  .have z0:z=("0":Str):=by
    rcases QW m with y|y
    .rw[y]at e;refine yD<|e.trans ?_;decide+kernel
    .exact VG c<|O y
   rw[VJ (show ¬z≠("0":Str) from λq=>q z0),Xj];rfl
  .rw[VJ c];rfl
 rcases Int.lt_or_le i 0 with neg|pos
 .obtain⟨k,rfl⟩:∃k:Nat,i= -((k+1:Nat):Int):={i.natAbs-1,()};have e:sg (Str.ofString<|toString ((k+1:Nat):Int))=(Nat.toDigits 10<|k+1).map Char.toNat:=PySem.W.KIN.signs_num (k+1);have es:sg (Str.ofString<|toString<|-((k+1:Nat):Int))=45::(Nat.toDigits 10<|k+1).map Char.toNat:=by
   rw[M3]at e⊢;show("-"++toString (k+1)).toList.map Char.toNat=_;rw[String.toList_append,Q8];exact VT (45:: ·) e
  generalize Str.ofString (toString<|-((k+1:Nat):Int))=z at es;have U:Pn z=true:=VD (by rw[es];rfl);have fs:=Cr z;rw[VB U,es]at fs;have fs':sg (Oq z)=(Nat.toDigits 10<|k+1).map Char.toNat:=(List.cons.inj fs).2.symm;have Y:=aF () fs';have ad:=sL (k+1);have I:=uQ (k+1);have Z:PySem.NumText.digitsVal ((Nat.toDigits 10<|k+1).map Char.toNat)=k+1:=PySem.W.KIN.val_back _;have nz:Oq z≠("0":Str):=λq=>by
   have O:=uR (k+1) ();rw[<-fs',q]at O;exact O ∅
  have lz:z.length<=61:=by
   have:=dl (k+1) ();rw[dD,es,Qi];lia
  refine{?_,?_,λc hc=>?_}
  .unfold acc;rw[Y,U,VJ nz];rfl
  .rw[PySem.intText_neg es ad I (),Z]
  .rw[es]at hc;rcases Qb.mp hc with h|h
   .exact .inl h
   .exact .inr<|ad c h
 .let{m,rfl}:=QU pos;have es:sg (Str.ofString<|toString (m:Int))=(Nat.toDigits 10 m).map Char.toNat:=PySem.W.KIN.signs_num m;generalize Str.ofString (toString (m:Int))=z at es;have ad:=sL m;have I:=uQ m;have Z:PySem.NumText.digitsVal ((Nat.toDigits 10 m).map Char.toNat)=m:=PySem.W.KIN.val_back _;have Y:=aF () es;have lz:z.length<=61:=by
   have:=dl m ();rw[dD,es];lia
  have hd:(sg z).head?≠some 45:=λq=>by
   rw[es]at q;have:=ad 45 (List.mem_of_mem_head? q);lia
  have U:Pn z=false:=VJ hd;have fz:Oq z=z:=by unfold Oq;rw[U];rfl
  refine{?_,?_,λc hc=> .inr<|ad c (by rwa[<-es])}
  .unfold acc;rw[fz,Y,U];rfl
  .have r:=PySem.intText_digits (x:=z) (by show PySem.NumText.AllDigits (sg z);rwa[es]) (by show sg z≠[];rw[es];exact I) ();rw[r];show some ((PySem.NumText.digitsVal (sg z):Nat):Int)=some (m:Int);rw[es,Z]
def vP:Sp:=λvs H Q _=>∃a,vs=[.str (wr a)]/\rb a/\∀H',Ba H H'->Q a H'
def wM(T:Txt K mg t w):E7 P w K mg base NX 3 t.qe t.j3 ["word"] vP:=by
 refine T.qv.okl wq λ_ _ _ s H vs Q E I h _=>?_;intro X;let{a,rfl,ha,q}:=h;refine ah (aM (ar bX DA aR<|ax _)
    (au<|ay cr)
    aA)
   (aw (C3<|au<|ay<|aE (mY T) I.mo {_} T.ze T.qu.kp T.zu .nil FW (aa DA ae)) ?_)
 intros
 rcases ha with rfl|⟨i,rfl,O,h1⟩
 .exact{_,M,M,_,M,dA M<|q H (Ba.refl _)}
 .let{U,rd,Y,_,Z}:=CL O h1;refine{_,M,M,_,M,aZ (λy=>Y<|V.str.inj y) ?_};refine{_,M,.inl {_,M,(),λ_ n H' z s=>?_,λe=>by rw[U]at e;cases e}};rw[rd]at z;cases z;exact q H' s
def vM(t:NZ):Sp:=λvs H Q _=>∃(kd:Int)(a e:V),vs=[.str (bg (OQ kd) a e)]/\Og kd a e/\rb a/\rb e/\∀H' p,Ba H H'->H p=none->CD t H' p kd a e->Q (.ref p) H'
def Ju:¬V.str ("up":Str)=V.str (Re:Str):=λy=>VG (V.str.inj y) ∅
def Jt:¬V.str ("down":Str)=V.str (Re:Str):=λy=>VG (V.str.inj y) ∅
def Js:¬V.str ("down":Str)=V.str ("up":Str):=λy=>VG (V.str.inj y) ∅
def Ca{N:Rl}{kd:Str}{ok:V->V->Prop}{a:V}{E:XK}(I:ok a e)(O:Sc a)(U:Sc e)(x dx:Rl)(nx:H x=none)(nd:H dx=none)
  (q:∀H' fs,Ba H H'->H' x=some (.ins C dx fs)->zG kd fs a e->Q .non H'):CU C N kd ok [.ref x,a,e] (upd (upd H dx<|.own x) x<|.ins C dx []) Q E:=
 {x,dx,a,e,M,A9,O,U,λ_ H' fs k h f=>q H' fs (qE nx nd k) h f,λz=>VG I z}
def wJ(T:Txt K mg t w):E7 P w K mg base NX 5 t.qb t.jY [Ra] (vM t):=by
 let{I,z}:=T.g_WORDS_OF_TOKEN;refine T.zI.okl wj λ_ _ _ s H vs Q E Y h _=>?_;intro X;let{kd,a,e,rfl,O,ha,he,q}:=h;refine ah (aM (cz<|br<|aD e6 {_} T.bV bF (aa DA<|aa (pJ (v:= .ty "str") {_} T.kI fF M) ae))
    (au bW)
    aA)
   (ah (N7 1<|bR Z1 XC XD uT DA<|aa aR ae)
   (ah (aM (ar Ar (aD aC {_} T.bG a7 (aa HW ae)) (bD (v:= .int 3) {_} z {_,M})<|ax _)
    (au bW)
    aA)
   (ah (N7 2<|aE (wM T) Y.mo {_} T.zf T.qv.kp T.zx .nil az (aa (aP aK HW ai<|λ_ _=>M) ae))
   (ah (N7 3<|aE (wM T) Y.mo {_} T.zf T.qv.kp T.zx .nil az (aa (aP aK HW ai<|λ_ _=>M) ae))
   (ah (aM (ar bX (aP aK HW ai<|λ_ _=>M) aR<|ax _)
    (au<|ay<|mF T.Cb (je T) Y.mo {_} T.oO T.sF .nil az (aa M2<|aa O8 ae))
    aA)
   (ah (aM (ar bX (aP aK HW ai<|λ_ _=>M) aR<|ax _)
    (au<|ay<|mF T.Nj (rC T) Y.mo {_} T.Gg T.CB .nil az (aa M2<|aa O8 ae))
    aA)
   (ah (aM (ar bX (aP aK HW ai<|λ_ _=>M) aR<|ax _)
    (au<|ay<|mF T.Ja (m6 T) Y.mo {_} T.Jc T.zD .nil az (aa M2<|aa O8 ae))
    aA)
   (aw bW ?_))))))))
 intros
 let{sp,ln}:=mC O.kd ha he;let{sa,se}:=O.sc;refine{_,M,_,_,_,_,M,OC.str _,Ci.1,true,M,bL ?_};refine{_,M,M,_,_,M,M,∅,(),λl nl=>?_};rw[show(Str.ofString Rb)=(Rb:Str) from rfl,sp];have s1:=ak (o:= .lst<|[OQ kd,wr a,wr e].map V.str) nl;have Z:upd H l (.lst<|[OQ kd,wr a,wr e].map V.str) l=some (.lst [.str (OQ kd),.str (wr a),.str (wr e)]):=A9;generalize upd H l (.lst<|[OQ kd,wr a,wr e].map V.str)=H1 at s1 Z⊢;refine{_,M,l,_,M,.inl<|Dz.of Z,M,_,M,AL M ?_};refine{_,M,l,_,_,_,M,M,Dz.of Z,M,a,M,ha,λH2 s2=>?_};have e2:=s2 _ _ Z;refine{_,M,l,_,_,_,M,M,Dz.of e2,M,e,M,he,λH3 s3=>?_};have U:=s3 _ _ e2;have s:=(s1.trans s2).trans s3;rcases O.kd with rfl|rfl|rfl
 .refine{_,M,l,_,_,_,M,M,Dz.of U,M,M,_,M,dA M {_,M,_,M,λx dx nx nd ne=>?_}};exact Ca O.s sa se x dx nx nd λH' fs s' h f=>{M,q H' x (s.trans s') (bZ s nx) ⟨dx,fs,h,f⟩}
 .refine{_,M,l,_,_,_,M,M,Dz.of U,M,M,_,M,aZ Ju {_,M,l,_,_,_,M,M,Dz.of U,M,M,_,M,dA M {_,M,_,M,λx dx nx nd ne=>?_}}};exact Ca O.u sa se x dx nx nd λH' fs s' h f=>{M,q H' x (s.trans s') (bZ s nx) ⟨dx,fs,h,f⟩}
 .refine{_,M,l,_,_,_,M,M,Dz.of U,M,M,_,M,aZ Jt {_,M,l,_,_,_,M,M,Dz.of U,M,M,_,M,aZ Js {_,M,l,_,_,_,M,M,Dz.of U,M,M,_,M,dA M {_,M,_,M,λx dx nx nd ne=>?_}}}};exact Ca O.d sa se x dx nx nd λH' fs s' h f=>{M,q H' x (s.trans s') (bZ s nx) ⟨dx,fs,h,f⟩}
def js{i:Int}(I: -(10^60)<i)(h1:i<10^60):i.natAbs.log2<1920:=by
 rcases QW i.natAbs with z|z
 .rw[z];decide
 .refine(Nat.log2_lt<|ZU z).mpr ?_;have:i.natAbs<10^60:=();exact Nat.lt_trans this<|Qu (show 10^60<2^200 by decide) (Nat.pow_le_pow_right (_) (_))
def fL{i:Int}(z: -(10^60)<i)(h1:i<10^60):(Str.ofString<|toString i).length<=61:=by
 have h:(toString i).length<=60+1:=PySem.int_text_length_le10 (_) ();rw[Str.ofString_eq_toList];show((toString i).toList.map Char.toNat).toArray.size<=61;rwa[Qh,Q0]
def PL(p:Int×Int):Str:=Str.ofString (toString p.1)++(Rb:Str)++Str.ofString (toString p.2)
def CV{p:Int×Int}(h: -(10^60)<p.1/\p.1<10^60/\-(10^60)<p.2/\p.2<10^60):(PL p).length<=123:=by
 unfold PL;rw[bq,bq];have h1:=fL h.1 h.2.1;have h2:=fL h.2.2.1 h.2.2.2;have z:(Rb:Str).length=1:=by decide+kernel
 lia
def DU:Sp:=λvs H Q _=>∃k v:Int,vs=[.int k,.int v]/\(-(10^60)<k/\k<10^60/\-(10^60)<v/\v<10^60)/\Q (.str<|PL (k,v)) H
def Ei(T:Txt K mg t w):E7 P w K mg base NX 1 t.Bf t.vh [eR,mu] DU:=by
 refine T.Hn.okl D4 λ_ _ _ s H vs Q E z h _=>?_;intro X;let{k,v,rfl,b,q}:=h;refine{_,(au<|ay<|LK DA HW)
  ,?_}
 have l1:=CV (p:=(k,v)) b;have I:(PL (k,v)).length=(Str.ofString (toString k)++(Rb:Str)).length+(Str.ofString<|toString v).length:=bq _ _;have big:1000<=sizeLine:=by decide
 exact{_,M,k,M,js b.1 b.2.1,(),_,M,v,M,js b.2.2.1 b.2.2.2,by show(PL (k,v)).length<=sizeLine;lia,q}
def JK{f:α->V}(us zs:List α)(w:Nat):gM ((us++zs).map f) (some (us.length:Int)) (some<|(us.length:Int)+(w:Int))=(zs.take w).map f:=by
 unfold gM HT.sIx;dsimp only;rw[VA (),VA (),Q0,Q7,Q8];rw[show(us.length:Int).toNat=us.length from rfl,show((us.length:Int)+(w:Int)).toNat=us.length+w by lia,ZR (by lia:us.length<=us.length+zs.length)];rw[List.drop_left' (by rw[Q0]),ZE];rcases V7 w zs.length with c|c
 .rw[show min (us.length+w) (us.length+zs.length)-us.length=w by lia]
 .rw[show min (us.length+w) (us.length+zs.length)-us.length=zs.length by lia,Qs (by rw[Q0];exact Q4 _),Qs (by rw[Q0];exact c)]
noncomputable def zd(th:Str)(n:Int):Bool:=if th=("VALUE":Str)then true else if th=("MANY":Str)then decide (1<=n)&&decide (n<=100)else decide (0<=n)
def DV:Sp:=λvs H Q _=>∃(z:Str)(n:Int),vs=[.str z,.int n]/\Q (.bl<|zd z n) H
def Ej(T:Txt K mg t w):E7 P w K mg base NX 1 t.Bg t.vi [z9,"number"] DV:=by
 let{O,I}:=T.g_MOST_KEYS;refine T.Ho.okl D8 λ_ _ _ s H vs Q E Z h _=>?_;intro X;let{z,n,rfl,q}:=h;refine ah (aM (ar bX DA aR<|ax _)
    (au<|ay gW)
    aA)
   (ah (aM (ar bX DA aR<|ax _)
    (au<|ay<|Aq gX gX ai HW<|bD (v:= .int 100) {_} I {_,M})
    aA)
   (aw (ay<|bK ux HW ai<|ax _) ?_))
 intros
 unfold zd at q;by_cases U:z=("VALUE":Str)
 .rw[VB U]at q;exact{_,M,M,_,M,dA (by rw[U]) q}
 rw[VA U]at q;refine{_,M,M,_,M,aZ (λy=>U<|V.str.inj y) ?_};by_cases Y:z=("MANY":Str)
 .rw[VB Y]at q;refine{_,M,M,_,M,dA (by rw[Y]) ?_};refine{_,M,_,_,M,M,_,M,cu (λc=>?_)<|λc=>?_}
  .rw[c,Zy]at q;exact{_,_,M,M,q}
  .rw[Xw]at c;rw[c,Zn]at q;exact q
 rw[VA Y]at q;exact{_,M,M,_,M,aZ (λy=>Y<|V.str.inj y) {_,M,_,_,M,M,q}}
theorem FB{m:Nat}:∀{ws:Ry},(∀x∈ws,x.length<=m)->(ws.map (·.length)).sum<=ws.length*m
 | [],_=>by simp
 |a::r,h=>by
  have:=FB (ws:=r) λx hx=>h x (Qa _ hx);have:=h a Q6;simp only[Qt,List.sum_cons,Qi,Vi,Nat.one_mul];lia
abbrev nu(n:Int):Str:=Str.ofString (toString n)
inductive Tg where
 |num(n:Int)
 |tok(kd:Int)(a e:V)
def Tg.ws:Tg->List Str
 | .num n=> [nu n]
 | .tok kd a e=> [OQ kd,wr a,wr e]
def Tg.ok(th:Str):Tg->Prop
 | .num n=>th≠(Rh:Str)/\-(10^60)<n/\n<10^60/\zd th n=true
 | .tok kd a e=>th=(Rh:Str)/\Og kd a e/\rb a/\rb e
def Tg.at(t:NZ)(H0 H:Hp):Tg->V->Prop
 | .num n,v=>v= .int n
 | .tok kd a e,v=>∃p,v= .ref p/\H0 p=none/\CD t H p kd a e
def Tg.same{H0:Hp}{g:Tg}(h:g.at t H1 H v)(z:Ba H0 H1)(s:∀p C dx fs,H p=some (.ins C dx fs)->H' p=some (.ins C dx fs)):g.at t H0 H' v:=by
 cases g with
 |num n=>exact h
 |tok kd a e=>
  let{p,I,np,dx,fs,e2,O}:=h;exact{p,I,bZ z np,dx,fs,s _ _ _ _ e2,O}
def vN(t:NZ):Sp:=λvs H Q _=>∃(th:Str)(g:Tg),vs=[.str th,.str (Txt.join (Rb:Str) g.ws)]/\g.ok th/\∀H' v,Ba H H'->g.at t H H' v->Q v H'
def Nt{s x:Str}:Txt.join s [x]=x:=by
 rw[fR];rfl
def wK(T:Txt K mg t w):E7 P w K mg base NX 6 t.qc t.jZ [z9,Ra] (vN t):=by
 refine T.zJ.okl wm λ_ _ _ s H vs Q E z h _=>?_;intro X;let{th,g,rfl,ok,q}:=h;refine ah (C3 (gj (aM (ar bX DA aR<|ax _)
    (au<|ay<|aE (wJ T) z.mo {_} T.Jk T.zI.kp T.JR .nil az (aa HW ae))
    aA)
    (au<|N7 2<|aE (mY T) z.mo {_} T.ze T.qu.kp T.zu .nil FW (aa HW ae))))
   (ah (aM (cz<|br<|aE (Ej T) z.mo {_} T.Nr T.Ho.kp T.NK .nil az (aa DA<|aa M2 ae))
    (au bW)
    aA)
   (aw (ay M2) ?_))
 intros
 cases g with
 |tok kd a e=>
  let{rfl,on,ra,Y}:=ok;refine{_,M,M,_,M,dA M ?_};exact{_,M,kd,a,e,M,on,ra,Y,λH' p s np tk=>q H' _ s ⟨p,M,np,tk⟩}
 |num n=>
  let{Z,I,O,mb}:=ok;let{ac,it,_}:=y7 I O;have ln:=fL I O;refine{_,M,M,_,M,aZ (λy=>Z<|V.str.inj y) ?_};rw[show Tg.ws (.num n)=[nu n] from rfl,Nt];refine{_,M,.inl {_,M,Qr ln (_),λ_ m H' U s=>?_,λe=>by rw[ac]at e;cases e}};rw[it]at U;cases U;refine{_,M,_,M,th,n,M,?_};rw[mb];exact{_,M,bL {_,M,q H' _ s M}}
def Tg.fr{g:Tg}{th:Str}(h:g.ok th):(∀z∈g.ws,z.length<=61/\32∉sg z)/\(g.ws.length:Int)=(if th=(Rh:Str)then 3 else 1):=by
 cases g with
 |num n=>
  let{Y,I,O,_}:=h;refine{λz m=>?_,by rw[VA Y];rfl};rw[Q9.mp m];refine{fL I O,λy=>?_};have:=(y7 I O).2.2 32 y;lia
 |tok kd a e=>
  let{rfl,on,ra,U}:=h;refine{λz m=>?_,by rw[VB M];rfl};rcases Qb.mp m with rfl|m
  .rcases on.kd with rfl|rfl|rfl<;>exact{∅,∅}
  rcases Qb.mp m with rfl|m
  .exact{Qr ra.free.2 (_),ra.free.1}
  .rw[Q9.mp m];exact{Qr U.free.2 (_),U.free.1}
noncomputable def dO(gs:List (Str×Tg)):List Str:=gs.flatMap λg=>g.2.ws
def RtO(t:NZ)(H:Hp)(f l d:Rl)(gs:List (Str×Tg))(i:Nat)(B:St)(H':Hp):Prop:=∃(u v:RW)(kvs:RY),B=[some (.ref f),some (.ref l),some (.ref d),some (.int ((dO<|gs.take i).length:Int)),u,v]/\Ba H H'/\H' d=some (.dK kvs)/\kvs.length<=i/\∀g∈gs.take i,∃y,aI kvs (Sum.inr g.1)=some y/\g.2.at t H H' y
def sY(K:Wi)(t:NZ):Sp:=λvs H Q _=>∃(f l:Rl)(gs:List (Str×Tg)),vs=[.ref f,.ref l]/\(∀H',Ba H H'->OO K H' f ((gs.map (·.1)).map V.str))/\H l=some (.lst<|(dO gs).map V.str)/\(gs.map (·.1)).Nodup/\gs.length<=3/\(∀g∈gs,g.2.ok g.1)/\
 ∀H' d kvs,Ba H H'->H' d=some (.dK kvs)->(∀g∈gs,∃y,aI kvs (Sum.inr g.1)=some y/\g.2.at t H H' y)->Q (.ref d) H'
def uB(T:Txt K mg t w):E7 P w K mg base NX 7 t.nJ t.iH ["form","words"] (sY K t):=by
 let{O,I}:=T.g_WORDS_OF_TOKEN;refine T.xp.okl Oa λ_ _ _ s H vs Q E hr h _=>?_;intro X;let{f,l,gs,rfl,a1,hl,nd,gl,gk,q}:=h;refine ah (N7 2 jd)
   (ah (N7 3 ai)
   (bU (λx=>(gu VU M (LF DA) (PZ 4)
    x)) ?_))
 refine ah (N7 5<|pH (ar bX OX aR<|ax _) (bD (v:= .int 3) {_} I {_,M}) ai)
   (ah (sI (eF hr) M2 OX (aE (wK T) hr.mo {_} T.Jl T.zJ.kp T.JS .nil az (aa OX<|aa (bR Z1 PySem.F.slot_str_join PySem.F.type_str_join Dd aR<|aa (cQ fO HW (cZ O8)<|cZ<|aq bN O8 PP) ae) ae)) M)
   (aw (yQ (i:=3) Oa.nd M (Or.inl M) PP Cl) ?_))
 intros
 refine ah (aM (ar Ar O8 (aD aC {_} T.bG a7 (aa HW ae))<|ax _)
    (au bW)
    aA)
   (aw (ay M2) ?_)
 intros
 refine λd hd=>{_,M,f,M,{_,a1 _<|ak hd},?_};refine GO (a:=f) (xs:=(gs.map (·.1)).map V.str) (RtO t H f l d gs) {none,none,[],M,ak hd,A9,Q4 _,λg m=>VG m Z7} (λi B H' _ w=>?_) (λi y B H' hy w=>?_)<|λB H' w=>?_
 .let{u,v,kvs,rfl,s1,_}:=w;exact a1 _ s1
 .let{u,v,kvs,rfl,s1,Z,kl,g}:=w;have a0:=s1 _ _ hl;obtain⟨⟨th,tg⟩,rfl,Y⟩:∃e:Str×Tg,y= .str e.1/\gs[i]?=some e:=by
   rw[Qo,Qo]at hy;cases c:gs[i]? with
   |none=>rw[c]at hy;cases hy
   |some e=>rw[c]at hy;cases hy;exact⟨e,M,M⟩
  have hi:i<gs.length:=(Q2.mp Y).1;have tk:=gk _ (Q1 Y);let{tz,tl}:=Tg.fr (g:=tg) (th:=th) tk;have et:gs.take (i+1)=gs.take i++ [(th,tg)]:=by
   rw[Qp,Y];rfl
  have ed:gs=gs.take i++(th,tg)::gs.drop (i+1):=by
   conv=>lhs;rw[<-QB i gs,Z2 hi]
   congr 2;exact VL<|(Q3 hi).symm.trans Y
  have a5:∀g∈gs.take i,g.1≠th:=λg m e=>by
   have h:=nd;rw[ed,Q8]at h;exact(Xp.mp h).2.2 g.1 (QO m) th Q6 e
  obtain⟨us,U⟩:∃us,dO (gs.take i)=us:={_,M};obtain⟨zr,a2⟩:∃zr,dO (gs.drop<|i+1)=zr:={_,M};have ew:dO gs=us++(tg.ws++zr):=by
   conv=>lhs;rw[ed]
   unfold dO at U a2⊢;rw[Xe,V8,U,a2]
  have a6:(dO<|gs.take<|i+1).length=us.length+tg.ws.length:=by
   rw[et];unfold dO at U⊢;rw[Xe,U,Q7,V8,List.flatMap_nil,ZC]
  rw[U];refine aX (λB H2=>B=[some (.ref f),some (.ref l),some (.ref d),some (.int (us.length:Int)),some (.str th),some (.int (tg.ws.length:Int))]/\H2=H') (λnx go=>?_)<|λB H2 w=>?_
  .rw[tl]at go;by_cases c:th=(Rh:Str)
   .rw[VB c]at go;exact{_,M,M,_,M,dA (by rw[c])<|go _ _ ⟨M,M⟩}
   .rw[VA c]at go;exact{_,M,M,_,M,aZ (λy=>c<|V.str.inj y)<|go _ _ ⟨M,M⟩}
  let{a3,eH}:=w;rw[a3,eH];clear a3 eH;have t3:tg.ws.length<=3:=by cases tg<;>simp[Tg.ws]
  refine{_,M,M,_,M,_,M,_,M,_,M,_,M,_,_,M,M,_,M,l,_,M,Dz.of a0,λr nr=>?_};have s2:=ak (o:= .lst<|gM ((dO gs).map V.str) (some (us.length:Int))<|some<|(us.length:Int)+(tg.ws.length:Int)) nr;have hr:upd H' r (.lst<|gM ((dO gs).map V.str) (some (us.length:Int))<|some<|(us.length:Int)+(tg.ws.length:Int)) r=some (.lst<|tg.ws.map V.str):=by rw[A9,ew,JK,Vp M]
  generalize upd H' r (.lst<|gM ((dO gs).map V.str) (some (us.length:Int))<|some<|(us.length:Int)+(tg.ws.length:Int))=H1 at s2 hr⊢;refine{_,r,tg.ws,M,M,Dz.of hr,∅,?_,?_}
  .have h1:=FB (m:=61) λz m=>(tz z m).1;lia
  refine{th,tg,M,tk,λH2 v2 s3 ac=>?_};have a4:=s3 _ _ (s2 _ _ Z);refine{_,M,_,M,d,_,M,PD.k (k:=Sum.inr _) a4<|cy (),?_};refine{_,M,_,M,_,_,M,M,?_};have ik:∀p C dx fs,H2 p=some (.ins C dx fs)->upd H2 d (.dK<|bp kvs (Sum.inr th) v2) p=some (.ins C dx fs):=λp C dx fs e=>by
   rwa[ag λz=>by rw[z,a4]at e;cases e]
  refine{_,_,bp kvs (Sum.inr th) v2,by rw[a6];rfl,bH ((s1.trans s2).trans s3) hd,A9,Qr (dN _ _ _) (),λg' m=>?_};rw[et]at m;rcases Q5.mp m with m|m
  .let{y,e1,e2}:=g g' m;refine{y,?_,Tg.same (g:=g'.2) e2 (Ba.refl _) λp C dx fs e=>ik _ _ _ _<|s3 _ _ (s2 _ _ e)};rwa[du,VA λz=>a5 g' m (Sum.inr.inj z)]
  .rw[Q9.mp m];exact{v2,by rw[du,VB M],Tg.same (g:=tg) ac (s1.trans s2) ik}
 .let{u,v,kvs,rfl,s1,Z,kl,g}:=w;have a0:=s1 _ _ hl;rw[Q0,Q0,Qy]at g;rw[Q0,Q0,Qy];exact{_,M,_,M,l,_,M,.inl<|Dz.of a0,M,_,M,AL (by rw[Q0]) {_,M,q H' d kvs s1 Z g}}
def Ha{f:α->V}{ms:List α}{g:Int}(h:0<=g):gM (ms.map f) (some g) none=(ms.drop g.toNat).map f:=by
 unfold gM HT.sIx;dsimp only;rw[VA (),Xr];rcases V7 g.toNat (ms.map f).length with c|c
 .rw[ZR c];exact Qs<|by rw[Qz];lia
 .rw[Vf c,List.drop_of_length_le c,List.drop_of_length_le (Q4 _),Xs]
inductive E9:Str->List Str->Prop
 |put:E9 ("put":Str) [("KEY":Str),("VALUE":Str)]
 |drop:E9 (P':Str) [("KEY":Str)]
 |page:E9 (u4:Str) [(Rh:Str),("MANY":Str)]
def Dq(T:Txt K mg t w){z:Ry}(h:E9 w0 z):((∃a,Pm t.pK w0=some (.ref a)/\∀H:Hp,OO K H a (z.map V.str))/\z.Nodup/\z.length<=3)/\w0≠("past":Str)/\32∉sg w0/\w0.length<=61/\w0∉[("open":Str),("read":Str),("close":Str),("follow":Str),("show":Str),("covers":Str),("total":Str),("stop":Str)]:=by
 cases h
 .exact{{T.kt_FORMS_put,∅,(_)},∅,∅,∅,∅}
 .exact{{T.kt_FORMS_drop,∅,(_)},∅,∅,∅,∅}
 .exact{{T.kt_FORMS_page,∅,(_)},∅,∅,∅,∅}
def Ld(I:∀g∈gs,g.2.ok g.1):(∀z∈dO gs,z.length<=61/\32∉sg z)/\(dO gs).length<=3*gs.length:=by
 induction gs with
 |nil=>exact{λz m=>VG m Z7,Q4 _}
 |cons g r O=>
  let{h1,h2}:=O λg m=>I g (Qa _ m);let{U,_}:=Tg.fr (I g Q6);have e:dO (g::r)=g.2.ws++dO r:=by unfold dO;rw[V8]
  rw[e];refine{λz m=>(Q5.mp m).elim (U z)<|h1 z,?_};rw[Q7,Qi];have:g.2.ws.length<=3:=by cases g.2<;>simp[Tg.ws]
  lia
def GF{m:Nat}{ws:Ry}(h:∀x∈ws,x.length<=m):(Txt.join (Rb:Str) ws).length<=ws.length*(m+1):=by
 rw[fR];have I:(Rb:Str).length=1:=by decide+kernel
 induction ws with
 |nil=>exact Qr (m:=0) ∅ (Qc _)
 |cons a r z=>
  have i:=z λx hx=>h x (Qa _ hx);have ha:=h a Q6;rw[Qi,Vi];cases r with
  |nil=>show a.length<=_;lia
  |cons b r=>
   show(a++(Rb:Str)++Str.join (Rb:Str) (b::r)).length<=_;rw[bq,bq];lia
def vO(K:Wi)(t:NZ):Sp:=λvs H Q _=>∃(w0:Str)(gs:List (Str×Tg)),vs=[.str (Txt.join (Rb:Str) (w0::dO gs))]/\E9 w0 (gs.map (·.1))/\(∀g∈gs,g.2.ok g.1)/\
 ∀H' p d kvs,Ba H H'->H' p=some (.tup [.str w0,.ref d])->H' d=some (.dK kvs)->(∀g∈gs,∃y,aI kvs (Sum.inr g.1)=some y/\g.2.at t H H' y)->Q (.ref p) H'
def wL(T:Txt K mg t w):E7 P w K mg base NX 8 t.qd t.j2 ["row"] (vO K t):=by
 refine T.zK.okl wn λ_ _ _ s H vs Q E U h _=>?_;intro X;refine ah (aM (cz<|br<|aD e6 {_} T.bV bF (aa DA<|aa (pJ (v:= .ty "str") {_} T.kI fF M) ae))
    (au bW)
    aA)
   (ah (N7 1<|bR Z1 XC XD uT DA<|aa aR ae)
   (ah (N7 2<|aP aK HW ai<|λ_ _=>M)
   (ah (aM (qM<|Eg {_} T.Gh T.GE M2)
    (au bW)
    aA)
   (ah (N7 3<|aE (uB T) U.mo {_} T.HA T.xp.kp T.HF .nil az (aa (C6 {_} T.Gh T.GE M2 (λ_ _=>M))<|aa (cQ fO HW (cZ ai) fP) ae))
   (ah (aM (PW.pt<|dG (ar bX M2 aR<|ax _)<|cI<|br<|aD (fW K M) {_} T.bV bF (aa (gV (eF U) O8 aR<|λ_ _=>M)<|aa (bD (v:= .ref t.aQ) {_} T.oO M) ae))
    (au bW)
    aA)
   (aw (ay<|cE<|aa M2<|aa O8 ae) ?_))))))
 intros
 let{w0,gs,rfl,fm,Y,q}:=h;let{{{fa,kd,sq},nd,tl},O,fw,lw,_}:=Dq T fm;rw[Q0]at tl;let{Z,wl}:=Ld Y;have sp:Txt.split (Txt.join (Rb:Str) (w0::dO gs)) (Rb:Str)=w0::dO gs:=by
  rw[Ls];refine oj (c:=32) (List.cons_ne_nil _ _) λa ha=>?_;rcases Qb.mp ha with rfl|ha
  .exact fw
  .exact(Z a ha).2
 have jl:(Txt.join (Rb:Str) (w0::dO gs)).length<=700:=by
  have:=GF (m:=61) (ws:=w0::dO gs) λz m=>by
   rcases Qb.mp m with rfl|m
   .exact lw
   .exact(Z z m).1
  rw[Qi]at this;lia
 refine{_,M,_,_,_,_,M,OC.str _,Ci.1,true,M,bL ?_};refine{_,M,M,_,_,M,M,∅,(),λl nl=>?_};rw[show(Str.ofString Rb)=(Rb:Str) from rfl,sp];have s1:=ak (o:= .lst<|(w0::dO gs).map V.str) nl;have I:upd H l (.lst<|(w0::dO gs).map V.str) l=some (.lst<|(w0::dO gs).map V.str):=A9;generalize upd H l (.lst<|(w0::dO gs).map V.str)=H1 at s1 I⊢;refine{_,M,l,_,_,_,M,M,Dz.of I,dC (j:=0) (v:= .str w0) M,?_};refine{_,M,_,M,_,M,?_};rw[kd];refine bL ?_;refine{_,M,_,_,M,kd,_,M,_,M,l,_,M,Dz.of I,λr nr=>?_};refine{fa,r,gs,M,λH' _=>sq H',A9.trans ?_,nd,tl,Y,λH2 d kvs s2 hd g=>?_}
 .congr 2;exact Ha (f:=V.str) (ms:=w0::dO gs) (g:=1)<|by simp
 have s3:=(s1.trans<|ak nr).trans s2;refine{_,M,M,_,M,aZ (λy=>O<|V.str.inj y) ?_};refine{_,M,_,M,(by show 2<=sizeLine;decide),λp np=>q _ p d kvs (s3.trans<|ak np) A9 (ak np _ _ hd) λg' m=>?_};let{y,I,e2}:=g g' m;exact{y,I,Tg.same (g:=g'.2) e2 (s1.trans<|ak nr) λb C dx fs e=>ak np _ _ e}
def Di{x:Rl}{I:Ro}(nx:H x=none)(nd:H dx=none)(f:Fr I F (upd (upd H dx<|.own x) x<|.ins C dx []) H1)(Y:∀b,I b->b=x\/b=dx):Fr (λ_=>False) F H H1:=λb o _ e=>by
 have O:=am e nx;have U:=am e nd;exact f b o (λz=>(Y b z).elim O U)<|by rwa[ag O,ag U]
def Ob(K:Wi)(t:NZ)(H:Hp)(d:Rl)(G:Ro)(x:O9):Prop:=∃(dx h:Rl)(c:V)(F:Ro),H d=some (.ins t.fE dx [(Rc,.ref h),("copier",c)])/\OR K t H h F x/\¬F d/\∀b,G b↔b=d\/F b
def Ob.same{d:Rl}{x:O9}(D:Ob K t H d G x)(s:Ba H H'):Ob K t H' d G x:=by
 let{dx,h,c,F,hd,A,z,g}:=D;exact{dx,h,c,F,s _ _ hd,A.same s,z,g}
def Ob.out{d l:Rl}{x:O9}(D:Ob K t H d G x)(n:H l=none):¬G l:=by
 let{dx,h,c,F,hd,A,I,iff}:=D;intro z;rcases(iff l).mp z with rfl|z
 .rw[hd]at n;cases n
 .exact A.out n z
def Ob.upd{d:Rl}{x:O9}(D:Ob K t H d G x)(n:¬G q)(I:∀xs,H q≠some (.tup xs)):Ob K t (L2.upd H q o) d G x:=by
 let{dx,h,c,F,hd,A,O,iff}:=D;exact{dx,h,c,F,by rwa[ag λz=>n ((iff q).mpr<|.inl z.symm)],A.upd (λz=>n<|(iff q).mpr<|.inr z) I,O,iff}
def wd(K:Wi)(t:NZ):Sp:=λvs H Q _=>∃(d dx:Rl),vs=[.ref d]/\H d=some (.ins t.fE dx [])/\∀H' G,Ob K t H' d G O9.new->Fr (λb=>b=d) G H H'->Q .non H'
def wX(T:Txt K mg t w):E7 P w K mg base NX 6 t.qt t.kr [cC] (wd K t):=by
 refine T.Kk.okl wG λ_ _ _ s H vs Q E hr h _=>?_;intro X;let{d,dx,rfl,ha,q}:=h;refine ah (cm DA (lf T.Nm (uN T) hr.mo {_} T.Np T.HR .nil az) M)
   (aw (cm DA cr M) ?_)
 intros
 refine λx U nx nd ne=>{x,U,M,A9,λH1 F A f=>{M,?_}};have f0:=Di nx nd f λb h=> .inl h;let{O,I}:=f0 _ _ id ha;refine{_,M,d,_,dx,[],M,O,T.kx,T.iF,xg (by kernel_rfl),iG λH2 h2 Y=>?_};refine{_,M,d,_,dx,_,M,h2,T.kx,T.Gc,xg (by kernel_rfl),iG λH3 h3 Z=>?_};have A3:OR K t H3 x F O9.new:=A.keep (λb hb=>by rw[Z b λz=>I (z▸hb),Y b λz=>I (z▸hb)]) λb xs e=>by
  have n:b≠d:=λz=>by rw[z,O]at e;cases e
  rwa[Z b n,Y b n]
 exact q H3 _ {dx,x,.non,F,h3.trans (by kernel_rfl),A3,I,λ_=>Iff.rfl} λb o n e=>by
  let{e1,n1}:=f0 b o id e;exact{by rwa[Z b n,Y b n],λz=>z.elim n n1}
def Ob.go{d:Rl}{c:V}{I:O9}(hd:H d=some (.ins t.fE dx [(Rc,.ref h),("copier",c)]))(O:¬F d)(iff:∀b,G b↔b=d\/F b)(A1:OR K t H1 h F1 I)(z:Fr F F1 H H1):Ob K t H1 d (λb=>b=d\/F1 b) I/\Fr G (λb=>b=d\/F1 b) H H1:=
 {{dx,h,c,F1,(z _ _ O hd).1,A1,(z _ _ O hd).2,λ_=>Iff.rfl},λb o n e=>by
  let{U,Y}:=z b o (λy=>n<|(iff b).mpr<|.inr y) e;exact{U,λy=>y.elim (λy=>n<|(iff b).mpr<|.inl y) Y}}
def R4(K:Wi)(t:NZ)(H:Hp)(d:Rl)(G:Ro)(x:O9)(ts:Ry)(Q:VK):Prop:=∀(H':Hp)(G':Ro)(l:Rl),Ob K t H' d G' x->Fr G G' H H'->¬G' l->(¬G l->H l=none)->H' l=some (.lst<|ts.map V.str)->Q (.ref l) H'
def Dr{l:Rl}(f:Fr G G1 H H1)(n:H1 l=none)(g:¬G l):H l=none:=by
 cases e:H l with
 |none=>rfl
 |some o=>rw[(f _ _ g e).1]at n;cases n
def Ob.tell{d l:Rl}{x:O9}{ts:Ry}(D:Ob K t H1 d G1 x)(f:Fr G G1 H H1)(n:H1 l=none)(q:R4 K t H d G x ts Q):Q (.ref l) (L2.upd H1 l<|.lst<|ts.map V.str):=
 q _ G1 l (D.same<|ak n) (f.trans<|Fr.of_same<|ak n) (D.out n) (Dr f n) A9
def R4.on{d:Rl}{x:O9}{ts:Ry}(q:R4 K t H d G x ts Q)(s:Ba H H1):R4 K t H1 d G x ts Q:=λH' G' l D f n z e=>q H' G' l D ((Fr.of_same s).trans f) n (λg=>bZ s<|z g) e
def PutX(x x':O9)(k v:Int):Prop:=x'.now=x.now+1/\x'.ma=x.ma/\x'.st=x.st.put k (.int v)
def Hs(x x':O9)(k:Int):Prop:=x'.now=x.now+1/\x'.ma=x.ma/\x'.st=x.st.drop k
def vQ(K:Wi)(t:NZ):Sp:=λvs H Q _=>∃(d g:Rl)(G:Ro)(x:O9)(kvs:RY)(k v:Int),vs=[.ref d,.ref g]/\Ob K t H d G x/\H g=some (.dK kvs)/\aI kvs (Sum.inr ("KEY":Str))=some (.int k)/\aI kvs (Sum.inr ("VALUE":Str))=some (.int v)/\0<=k/\x.now+x.ma<4000/\
 ∀x',PutX x x' k v->R4 K t H d G x' [] Q
def wN(T:Txt K mg t w):E7 P w K mg base NX 6 t.kA t.j4 ["desk",Rf] (vQ K t):=by
 refine T.zL.okl wt λ_ _ _ s H vs Q E z h _=>?_;intro X;let{d,g,G,x,kvs,k,v,rfl,{dx,h,c,F,hd,A,Z,iff},U,ek,ev,b,I,q}:=h;refine ah (aO<|aT (aH DA M) T.a6 T.Jh (wU T) z.mo T.J2 .nil az<|aa (gV (eF z) HW aR<|λ_ _=>M)<|aa (gV (eF z) HW aR<|λ_ _=>M) ae)
   (aw (ay<|bh ae) ?_)
 intros
 have dg:=OS.k (k:=Sum.inr ("KEY":Str)) U;rw[ek]at dg;have Y:=OS.k (k:=Sum.inr ("VALUE":Str)) U;rw[ev]at Y;let{dh,fh,hh,O,_}:=A.ins;refine{_,M,d,_,dx,_,_,M,hd,T.kx,T.iF,M,h,dh,fh,M,hh,O _ ∅,_,M,g,_,M,dg,_,M,g,_,M,Y,h,k,v,F,x,M,A,b,I,λH1 F1 a0 r p pa' A1 _ f1=>?_};let{D1,g1}:=Ob.go hd Z iff A1 f1;exact{(by show 0<=sizeLine;decide),λl I=>D1.tell g1 I<|q _ ⟨M,M,M⟩}
def tq(K:Wi)(t:NZ):Sp:=λvs H Q _=>∃(d g:Rl)(G:Ro)(x:O9)(kvs:RY)(k:Int),vs=[.ref d,.ref g]/\Ob K t H d G x/\H g=some (.dK kvs)/\aI kvs (Sum.inr ("KEY":Str))=some (.int k)/\0<=k/\x.now+x.ma<4000/\(aI x.st.kv k).isSome=true/\
 ∀x',Hs x x' k->R4 K t H d G x' [] Q
def uF(T:Txt K mg t w):E7 P w K mg base NX 7 t.i6 t.iK ["desk",Rf] (tq K t):=by
 refine T.xu.okl tU λ_ _ _ s H vs Q E U h _=>?_;intro X;let{d,g,G,x,kvs,k,rfl,{dx,h,c,F,hd,A,Y,iff},Z,ek,b,I,is,q}:=h;refine ah (aO<|aT (aH DA M) T.a6 T.Hx (uO T) U.mo T.HS .nil az<|aa (gV (eF U) HW aR<|λ_ _=>M) ae)
   (aw (ay<|bh ae) ?_)
 intros
 have dg:=OS.k (k:=Sum.inr ("KEY":Str)) Z;rw[ek]at dg;let{dh,fh,hh,O,_}:=A.ins;refine{_,M,d,_,dx,_,_,M,hd,T.kx,T.iF,M,h,dh,fh,M,hh,O _ ∅,_,M,g,_,M,dg,h,k,F,x,M,A,b,I,λ_ H1 F1 a0 r p pa' A1 _ f1=>?_,λz=>by rw[z]at is;cases is};let{D1,g1}:=Ob.go hd Y iff A1 f1;exact{(by show 0<=sizeLine;decide),λl I=>D1.tell g1 I<|q _ ⟨M,M,M⟩}
def RM(v:V)(kd:Int)(a e:V):Str:=if v= .non then(p7:Str)else(J':Str)++bg (OQ kd) a e
def P5(ts:List Tp):List Str:=ts.map λu=>PL (u.k,PY u.v)
def Ten(u:Tp):Prop:= -(10^60)<u.k/\u.k<10^60/\∃i:Int,u.v= .int i/\-(10^60)<i/\i<10^60
def yu(K:Wi)(t:NZ):Sp:=λvs H Q _=>∃(r g:Rl)(v:V)(ts:List Tp)(kd:Int)(a e:V),vs=[.ref r]/\H r=some (.tup [.ref g,v])/\H g=some (.lst<|ts.map λe=>V.ref e.p)/\(∀u∈ts,H u.p=some (.tup [.int u.k,u.v])/\Ten u)/\ts.length<=4096/\(v= .non\/∃q,v= .ref q/\CD t H q kd a e/\Og kd a e/\rb a/\rb e)/\
 ∀H' l,Ba H H'->H l=none->H' l=some (.lst<|(P5 ts++ [RM v kd a e]).map V.str)->Q (.ref l) H'
def yY(T:Txt K mg t w):E7 P w K mg base NX 3 t.rL t.lN [u4] (yu K t):=by
 refine T.Bi.okl Oj λ_ _ _ s H vs Q E hr h _=>?_;intro X;let{r,g,v,ts,kd,a,e,rfl,Y,hg,tu,tl,hv,q}:=h;refine ah (yP (i:=1) M (N5.of (M':=["row"]) (N:=[u4,"texts",hW]) (N':=[u4,"texts",hW]) (dsc:=aj gT) M M ∅) (dZ<|aP jS DA ai<|λ_ _=>M) (λ_ _ _ _ _=>(aE (Ei T) hr.mo {_} T.Nq T.Hn.kp T.NJ .nil az (aa (aP (pV K M) DA ai<|λ_ _=>M)<|aa (aP (pV K M) DA ai<|λ_ _=>M) ae))) Oj.nd M M)
   (ah (N7 2<|aP jS DA ai<|λ_ _=>M)
   (ah (aO<|bR Qk QJ QK cp HW<|aa (pH (ar gv M2 cr<|ax _) aR<|aq bu aR<|Ef (kk:=2) (zn (lM T.cV T.Ev (sv T) T.lY (_))<|zn (lM T.jo T.KJ (sv T) T.lY (_))<|lM T.c8 T.Hy (sv T) T.lY (_)) hr.mo M2) ae)
   (aw (ay HW) ?_)))
 intros
 refine{_,M,r,_,_,_,M,M,OO.of Y,M,g,M,{_,Dz.of hg},λD hD=>?_};refine jk (K:=K) (a:=g) (xs:=ts.map λe=>V.ref e.p) (λi ys H2=>Ba H H2/\ys=(P5<|ts.take i).map V.str) {ak hD,M} (λi ys H2 _ w=>Dz.of<|w.1 _ _ hg) (λi y ys H2 hy w I=>?_)<|λys H2 w I=>?_
 .let{O,Z}:=w;have hi:i<(ts.map λe=>V.ref e.p).length:=(Q2.mp hy).1;let{u,rfl,eu}:=BP hy;let{hu,k0,k1,j,ej,j0,j1}:=tu u (Q1 eu);have U:=O _ _ hu;rw[ej]at U;refine{_,M,u.p,_,_,_,M,M,OO.of U,M,_,M,u.p,_,_,_,M,M,OO.of U,M,u.k,j,M,⟨k0,k1,j0,j1⟩,?_};have ii:i<ts.length:=by rw[Q0]at hi;exact hi
  refine OA.mk hi I (aW<|by rw[Z,Q0];unfold P5;rw[Q0,Qe];lia) {bH O hD,?_};rw[Z];unfold P5;rw[Qp,eu,Q8,Q8];show _++ [V.str (PL (u.k,j))]=_++ [V.str (PL (u.k,PY u.v))];rw[ej];rfl
 let{O,Z}:=w;rw[Z,Q0,Qy]at I;refine{_,M,r,_,_,_,M,M,OO.of<|O _ _ Y,M,?_};refine{_,M,.inl {M,_,Dz.of I},?_};have rl:(P5 ts).length<=4096:=by unfold P5;rwa[Q0]
 have sd:∀{z:Str},Ba H (upd H2 D<|.lst<|(P5 ts).map V.str++ [V.str z]):=λ{z}=>bH O hD;have hd:∀{z:Str},upd H2 D (.lst<|(P5 ts).map V.str++ [V.str z]) D=some (.lst<|(P5 ts++ [z]).map V.str):=λ{z}=>by rw[A9,Q8];rfl
 unfold RM at q;rcases hv with rfl|⟨y,rfl,⟨dy,fy,hy,ty⟩,on,ra,re⟩
 .rw[VB M]at q;refine{_,M,M,_,M,dA M ?_};exact{D,_,_,M,M,I,aW (by rw[Q0];lia),_,M,q _ D sd hD hd}
 .rw[VA λz=>by cases z]at q;have wl:=(mC on.kd ra re).2;refine{_,M,M,_,M,aZ (λz=>by cases z) ?_};refine{_,M,y,_,dy,fy,_,M,O _ _ hy,ty.wo,dWN on.kd,y,dy,kd,fy,a,e,M,O _ _ hy,ty,on,ra.bd,re.bd,λH3 s3=>?_};refine{_,_,M,M,?_,?_}
  .have:(Str.ofString J').length=5:=by decide+kernel
   have big:1000<=sizeLine:=by decide
   lia
  exact{D,_,_,M,M,s3 _ _ I,aW (by rw[Q0];lia),_,M,q _ D (bH (O.trans s3) hD) hD<|by rw[A9,Q8];rfl}
def Ph(x:O9):Prop:=x.st.kv.length<4096/\∀p∈x.st.kv,0<=p.1/\p.1<10^38/\∃i:Int,p.2= .int i/\-(10^60)<i/\i<10^60
def OR.nd{x:O9}(A:OR K t H a F x):(x.st.kv.map (·.1)).Nodup:=by
 let{s,l,wr,p,h,Fs,Fl,Wh,O,g}:=A;let{_,_,_,_,nd,_}:=Wh.sl;exact nd
def OR.rise{x:O9}(A:OR K t H a F x):cq x.ks:=by
 let{_,_,_,_,_,_,L}:=A.lvs;exact L.rise
def OR.kl{x:O9}(A:OR K t H a F x):x.ks.length<=x.st.kv.length:=by
 have I:x.ks.Nodup:=A.rise.imp λh=>Int.ne_of_lt h;have:=eY I (S:=x.st.kv.map (·.1)) λz hz=>mem_keys.mpr ((A.ok.ks z).mp hz);rwa [Q0]at this
def Ph.key{x:O9}(Wh:Ph x)(h:k∈x.st.kv.map (·.1)):0<=k/\k<10^38:=by
 let{p,z,rfl}:=Qf.mp h;exact{(Wh.2 p z).1,(Wh.2 p z).2.1}
def Db{x:O9}{kd:Int}(U:CK t H' F' x.st kd n av e v ts a' R)(Y:v≠ .non)(Z:cq x.ks)(ks:∀z,z∈x.ks↔(aI x.st.kv z).isSome=true)(Wh:Ph x):Og kd a' e/\rb a':=by
 rcases U.rest with⟨y,_⟩|⟨q,_,_,ok,_⟩
 .exact VG y Y
 refine{ok,?_};have tl:=U.tell x.ks Z ks;rw[VA Y]at tl;rcases tl with⟨rfl,_⟩|⟨up,rfl,_,_,I⟩
 .let{i,j,rfl,rfl,i0,ij,j1}:=ok.s;exact .inr {i,M,i0,()}
 .split at I
  .cases I
  cases O:(b9 up av e x.ks)[n.toNat-1]? with
  |none=>rw[O]at I;cases I
  |some k=>
   rw[O]at I;obtain rfl:a'= .int (if up=true then k+1 else k-1):=VL I;let{k0,k1}:=Wh.key (mem_keys.mpr<|(ks k).mp<|AO<|Q1 O);refine .inr {_,M,?_};cases up with
   |true=>exact{by show 0<=k+1;lia,by show k+1<10^39;lia}
   |false=>
    obtain⟨j,_,j0,hz|⟨i,hi,ji⟩⟩:=ok.d
    .cases hz
    .have:=V.int.inj hi;exact{by rw[this];lia,by show k-1<10^39;lia}
def PgT(K:Wi)(t:NZ)(H:Hp)(d:Rl)(G:Ro)(x:O9)(kd n:Int)(av e:V)(Q:VK):Prop:=∀(H1:Hp)(F1:Ro)(ts:List Tp)(v a':V)(R:Sh),CK t H1 F1 x.st kd n av e v ts a' R->(∀u∈ts,Ten u)->cq x.ks->(∀z,z∈x.ks↔(aI x.st.kv z).isSome=true)->(x.st.kv.map (·.1)).Nodup->(v≠ .non->Og kd a' e/\rb a')->R4 K t H d G x (P5 ts++ [RM v kd a' e]) Q
def tj(K:Wi)(t:NZ):Sp:=λvs H Q _=>∃(d g p:Rl)(G:Ro)(x:O9)(kvs:RY)(n kd:Int)(av e:V),vs=[.ref d,.ref g]/\Ob K t H d G x/\H g=some (.dK kvs)/\aI kvs (Sum.inr (Rh:Str))=some (.ref p)/\aI kvs (Sum.inr ("MANY":Str))=some (.int n)/\CD t H p kd av e/\¬G p/\Og kd av e/\1<=n/\n<=100/\Ph x/\rb e/\PgT K t H d G x kd n av e Q
def uE(T:Txt K mg t w):E7 P w K mg base NX 9 t.i5 t.iJ ["desk",Rf] (tj K t):=by
 refine T.xt.okl tT λ_ _ _ s H vs Q E O h _=>?_;intro X;let{d,g,p,G,x,kvs,n,kd,av,e,rfl,{dx,h,c,F,hd,A,nf,iff},Y,et,en,TK,np,on,n1,n2,Wh,re,q}:=h;refine{_,(au<|ay<|aE (yY T) O.mo {_} T.KL T.Bi.kp T.KY .nil az (aa (aE (LR T) O.mo {_} T.NW T.NM.kp T.MA.choose_spec.1 T.MA.choose_spec.2 az (aa (aH DA M)<|aa (gV (eF O) HW aR<|λ_ _=>M)<|aa (gV (eF O) HW aR<|λ_ _=>M) ae)) ae))
  ,?_}
 have Z:=OS.k (k:=Sum.inr (Rh:Str)) Y;rw[et]at Z;have dn:=OS.k (k:=Sum.inr ("MANY":Str)) Y;rw[en]at dn;have kl:=A.kl;have bl:=Wh.1;refine{_,M,d,_,dx,_,_,M,hd,T.kx,T.iF,M,_,M,g,_,M,Z,_,M,g,_,M,dn,h,p,n,kd,av,e,F,x,M,A,TK,on,(λz=>np<|(iff p).mpr<|.inr z),n1,(),bl,(),λk hk=>(Wh.key<|mem_keys.mpr<|(A.ok.ks k).mp hk).1,λp hp=>{_,(Wh.2 p hp).2.2.choose_spec.1},λH1 F1 r g1 v ts a' R A1 f1 pg U=>?_};let{D1,f2}:=Ob.go hd nf iff A1 f1;have I:∀u∈ts,Ten u:=λu hu=>by
  let{b0,b1,i,ei,i0,i1}:=Wh.2 _ ((U.me u.k u.v).mp<|Qf.mpr ⟨u,hu,M⟩).1;exact{(),(),i,ei,i0,i1}
 have tl:ts.length<=4096:=by
  have:=eY U.nd (S:=x.st.kv.map (·.1)) λz hz=>by
   let{u,hu,rfl}:=Qf.mp hz;exact Qf.mpr {_,((U.me u.k u.v).mp<|Qf.mpr ⟨u,hu,M⟩).1,M}
  rw[Q0,Q0]at this;lia
 refine{r,g1,v,ts,kd,a',e,M,pg.tu,pg.li,λu hu=>{(pg.rw u hu).1,I u hu},tl,?_,λH2 l s2 nl hl=>?_}
 .rcases U.rest with⟨y,_⟩|⟨y,ey,tk,ok,_⟩
  .exact .inl y
  .exact .inr {y,ey,tk,ok,(Db U (by rw[ey];exact λz=>by cases z) A.rise A.ok.ks Wh).2,re}
 .exact q H1 F1 ts v a' R U I A.rise A.ok.ks A.nd (λnv=>Db U nv A.rise A.ok.ks Wh) H2 _ l (D1.same s2) (f2.trans<|Fr.of_same s2) (D1.out nl) (Dr f2 nl) hl
inductive Pf(K:Wi)(t:NZ)(H:Hp)(d:Rl)(G:Ro)(x:O9)(Q:VK):Str->List (Str×Tg)->Prop
 |put(k v:Int):0<=k->k<10^60->-(10^60)<v->v<10^60->x.now+x.ma<4000->(∀x',PutX x x' k v->R4 K t H d G x' [] Q)->Pf K t H d G x Q ("put":Str) [(("KEY":Str),.num k),(("VALUE":Str),.num v)]
 |drop(k:Int):0<=k->k<10^60->x.now+x.ma<4000->(aI x.st.kv k).isSome=true->(∀x',Hs x x' k->R4 K t H d G x' [] Q)->Pf K t H d G x Q (P':Str) [(("KEY":Str),.num k)]
 |page(kd n:Int)(av e:V):Og kd av e->rb av->rb e->1<=n->n<=100->Ph x->PgT K t H d G x kd n av e Q->Pf K t H d G x Q (u4:Str) [((Rh:Str),.tok kd av e),(("MANY":Str),.num n)]
def Pf.frm{d:Rl}{x:O9}(a:Pf K t H d G x Q w0 gs):E9 w0 (gs.map (·.1))/\∀g∈gs,g.2.ok g.1:=by
 have I:("KEY":Str)≠(Rh:Str):=by decide+kernel
 have O:("VALUE":Str)≠(Rh:Str):=by decide+kernel
 have mt:("MANY":Str)≠(Rh:Str):=by decide+kernel
 have mk:∀{n:Int},0<=n->zd ("KEY":Str) n=true:=λ{n} h=>by
  unfold zd;rw[VA ∅,VA ∅];exact VD h
 have mv:∀{n:Int},zd ("VALUE":Str) n=true:=λ{n}=>by
  unfold zd;rw[VB M]
 have U:∀{n:Int},1<=n->n<=100->zd ("MANY":Str) n=true:=λ{n} h1 h2=>by
  unfold zd;rw[VA ∅,VB M,VD h1,VD h2];rfl
 cases a with
 |put k v b0 z Y Z=>
  refine{.put,λg m=>?_};rcases Qb.mp m with rfl|m
  .exact{I,(),z,mk b0}
  .rw[Q9.mp m];exact⟨O,Y,Z,mv⟩
 |drop k b0 z=>
  refine{.drop,λg m=>?_};rw[Q9.mp m];exact{I,(),z,mk b0}
 |page kd n av e on ra re n1 n2=>
  refine{.page,λg m=>?_};rcases Qb.mp m with rfl|m
  .exact⟨M,on,ra,re⟩
  .rw[Q9.mp m];exact{mt,(),(),U n1 n2}
def Jz{l:Ry}:Ps (.str w0) (l.map V.str)=decide (w0∈l):=by
 induction l with
 |nil=>rfl
 |cons a r I=>
  have e:Ps (.str w0) ((a::r).map V.str)=(Pc (.str a) (.str w0)||Ps (.str w0) (r.map V.str)):=M;rw[e,I];have e2:Pc (.str a) (.str w0)=decide (w0=a):=by
   by_cases c:w0=a
   .rw[c];simp[Pc]
   .rw[VJ c];simp[Pc];exact λz=>c z.symm
  rw[e2,<-Bool.decide_or];congr 1;exact propext<|by rw[Qb]
def yA(K:Wi)(t:NZ):Sp:=λvs H Q _=>∃(d:Rl)(G:Ro)(x:O9)(w0:Str)(gs:List (Str×Tg)),vs=[.ref d,.str (Txt.join (Rb:Str) (w0::dO gs))]/\Ob K t H d G x/\Pf K t H d G x Q w0 gs
def jO(T:Txt K mg t w):E7 P w K mg base NX 10 t.rR t.lW [cC,"row"] (yA K t):=by
 refine T.Lb.okl yK λ_ _ _ s H vs Q E hr h _=>?_;intro X;let{d,G,x,w0,gs,rfl,D,a}:=h;refine ah (N7 2<|aE (wL T) hr.mo {_} T.Jm T.zK.kp T.JT .nil az (aa HW ae))
   (ah (N7 3<|aP jS M2 ai<|λ_ _=>M)
   (ah (aM (PW.pt<|dG (ar xK O8 (bD (v:= .ref t.lK) {_} T.Jb M) M)<|cI<|ar gv (aH DA M) cr<|ax _)
    (au bW)
    aA)
   (ah (N7 4<|C6 {_} T.LT T.Md O8 (λ_ _=>M))
   (aw (ay<|FU (kk:=9) (KR (Cs T.zL.kp (wN T) T.JU (_))<|KR (Cs T.xu.kp (uF T) T.HI (_))<|Cs T.xt.kp (uE T) T.HH (_)) hr.mo OX az<|aa DA<|aa (aP jS M2 ai<|λ_ _=>M) ae) ?_))))
 intros
 let{fm,gk}:=a.frm;let{_,a1,_,_,Z}:=Dq T fm;refine{_,M,w0,gs,M,fm,gk,λH1 p g kvs s Y hg I=>?_};refine{_,M,p,_,_,_,M,M,OO.of Y,M,?_};refine{_,M,t.lK,_,M,.inr<|T.Jr _,M,M,_,M,cu (λc=>VG c ?_)<|λ_=>?_}
 .show ¬Ps (.str w0) ([("open":Str),("read":Str),("close":Str),("follow":Str),("show":Str),("covers":Str),("total":Str),("stop":Str)].map V.str)=true;rw[Jz,VJ Z];exact Qg
 have D1:=D.same s;cases a with
 |put k v b0 b1 b2 b3 nl q=>
  let{y1,O,rfl}:=I _ Q6;let{y2,e2,rfl}:=I _ (Qa _ Q6);refine{_,M,_,_,M,T.GC,_,M,_,_,M,.inl ⟨M,M⟩,_,M,_,M,p,_,_,_,M,M,OO.of Y,M,?_};exact{d,g,G,x,kvs,k,v,M,D1,hg,O,e2,b0,nl,λx' z=>(q x' z).on s}
 |drop k b0 b1 nl is q=>
  let{y1,O,rfl}:=I _ Q6;refine{_,M,_,_,M,T.Ff,_,M,_,_,M,.inr<|.inl ⟨M,M⟩,_,M,_,M,p,_,_,_,M,M,OO.of Y,M,?_};exact{d,g,G,x,kvs,k,M,D1,hg,O,b0,nl,is,λx' z=>(q x' z).on s}
 |page kd n av e on ra re n1 n2 Wh q=>
  let{y1,O,tp,rfl,a0,TK}:=I _ Q6;let{y2,e2,rfl}:=I _ (Qa _ Q6);refine{_,M,_,_,M,T.Fe,_,M,_,_,M,.inr<|.inr ⟨M,M⟩,_,M,_,M,p,_,_,_,M,M,OO.of Y,M,?_};exact{d,g,tp,G,x,kvs,n,kd,av,e,M,D1,hg,O,e2,TK,D.out a0,on,n1,n2,Wh,re,λH2 F2 ts v a' R U h1 h2 h3 h4 h5=>(q H2 F2 ts v a' R U h1 h2 h3 h4 h5).on s}
def vV:Sp:=λvs H Q _=>∃c k:Int,vs=[.int c,.int k]/\∀z:Int,Q (.int z) H
def wQ(T:Txt K mg t w):E7 P w K mg base NX 1 t.qj t.j9 [nj,nC] vV:=by
 refine T.zN.okl wz λ_ _ _ s H vs Q E hr h _=>?_;intro X;let{c,k,rfl,q}:=h;refine ah (N7 2<|aq aY (aq eI (aq bN (aq bN DA<|aq eI ai HW) ai) ai) ai)
   (ah (N7 2<|aq aY (aq eI M2<|aq bN (aq bf M2 ai) ai) ai)
   (aw (ay<|aq aY (aq eI M2<|aq bN (aq bf M2 ai) ai) ai) ?_))
 intros
 have I:(0:Int)<2147483647:=by decide
 have O:∀z:Int,0<=z%2147483647/\z%2147483647<2147483647:=λz=>{Qx _ (_),QD _ (_)};refine{_,M,_,M,_,_,M,M,.inl {(_),(_)},_,_,M,M,_,_,M,M,_,_,M,M,.inr {(_),(_)},_,_,M,M,I,?_};dsimp only;generalize ((c+7853*k+1)*48271)=z0;let{Y,Z}:=O z0;generalize z0%2147483647=U at Y Z⊢;refine{_,M,_,M,_,_,M,M,{(_),(_)},_,_,M,M,_,_,M,M,.inl {(),()},_,_,M,M,I,?_};dsimp only;generalize U*(U/1009+69621)=z2;let{b0,b1}:=O z2;generalize z2%2147483647=z3 at b0 b1⊢;exact{_,M,_,M,_,_,M,M,{(_),(_)},_,_,M,M,_,_,M,M,.inl {(),()},_,_,M,M,I,q _}
def vU:Sp:=λvs H Q _=>∃c mn way:Int,vs=[.int c,.int mn,.int way]/\0<=mn/\mn<=100/\
 ∀(H':Hp)(l:Rl)(xs:Rn),Ba H H'->H l=none->H' l=some (.lst<|xs.map V.int)->xs.length=mn.toNat->Q (.ref l) H'
def wP(T:Txt K mg t w):E7 P w K mg base NX 2 t.qi t.j8 [nj,nE,zp] vU:=by
 refine T.qz.okl wy λ_ _ _ s H vs Q E hr h _=>?_;intro X;let{c,O,U,rfl,m0,m1,q}:=h;refine ah (N7 3<|bh ae)
   (bU (λx=>(gu VU M (fZ {_} T.my (aa HW ae)) (PZ 4)
    x)) ?_)
 refine KI (λx y=>aM (ar bX (aq aY M2 ai) ai<|ax _) x y) ?_;refine ah (aO<|bR Qk QJ QK cp O8<|aa (aq aY DA<|aq lu ai ai) ae)
   (aw (N7 0<|aq FY DA<|aq lu ai ai) ?_)
 intros
 refine aw (aO<|bR Qk QJ QK cp O8<|aa (aE (wQ T) hr.mo {_} T.Jo T.zN.kp T.JW .nil az (aa DA<|aa OX ae)) ae) ?_
 intros
 refine aw (ay O8) ?_
 intros
 have Y:(0:Int)<10^(12:Int).toNat:=by decide
 refine{Qc _,λl Z=>?_};refine{_,M,O,M,(),(),u9 (n:=O.toNat) (λi B H'=>∃(c:Int)(v4:RW)(xs:Rn),B=[some (.int c),some (.int O),some (.int U),some (.ref l),v4]/\Ba H H'/\H' l=some (.lst<|xs.map V.int)/\xs.length=i)
  {c,_,[],M,ak Z,A9,M} (λi B H' hi w=>?_) (λB H' w=>?_)}
 .let{c,v4,xs,I,s,e,lx}:=w;subst I;have add:∀z:Int,Ba H (upd H' l<|.lst<|xs.map V.int++ [.int z])/\upd H' l (.lst<|xs.map V.int++ [.int z]) l=some (.lst<|(xs++ [z]).map V.int)/\(xs++ [z]).length=i+1:=λz=>
   {bH s Z,by rw[A9,Q8];rfl,by rw[Q7,lx];rfl}
  refine{_,M,_,_,M,M,(by show(0:Int)<2;decide),M,_,M,cu (λ_=>?_)<|λ_=>?_}
  .refine{_,M,.inl {M,_,Dz.of e},_,M,_,_,M,M,{(_),(_),(_)},_,_,M,M,Y,l,_,_,M,M,e,aW (by rw[Q0];lia),?_};refine{_,M,_,_,M,M,{(_),(_),(_)},_,_,M,M,{(_),(_)},?_};let{g1,g2,g3}:=add (c%10^(12:Int).toNat);exact{_,_,_,M,g1,g2,g3}
  .refine{_,M,.inl {M,_,Dz.of e},_,M,_,M,c,_,M,λz=>{l,_,_,M,M,e,aW (by rw[Q0];lia),?_}};let{g1,g2,g3}:=add z;exact{_,_,_,M,g1,g2,g3}
 .let{c,v4,xs,I,s,e,lx}:=w;subst I;exact{_,M,q H' l xs s Z e lx}
noncomputable def R1(kd:Int)(lo hi:V):V:=if kd=2 then hi else lo
noncomputable def R0(kd:Int)(lo hi:V):V:=if kd=2 then lo else hi
structure Bn(kd:Int)(lo:Int)(hi:V):Prop where
 ok:Og kd (R1 kd (.int lo) hi) (R0 kd (.int lo) hi)
 l0:0<=lo
 l1:lo<10^39
 hr:rb hi
def Bn.ra{kd:Int}{hi:V}(h:Bn kd lo hi):rb (R1 kd (.int lo) hi)/\rb (R0 kd (.int lo) hi):=by
 unfold R1 R0;split
 .exact{h.hr,.inr ⟨lo,M,h.l0,h.l1⟩}
 .exact{.inr ⟨lo,M,h.l0,h.l1⟩,h.hr}
def vT:Sp:=λvs H Q _=>∃(kd lo k:Int)(hi:V),vs=[.int kd,.int lo,hi,.int k]/\Bn kd lo hi/\Q (.bl<|hN kd (R1 kd (.int lo) hi) (R0 kd (.int lo) hi) k) H
def m4(T:Txt K mg t w):E7 P w K mg base NX 2 t.qh t.j7 [ff,gr,fx,eN] vT:=by
 refine T.qy.okl wx λ_ _ _ s H vs Q E O h _=>?_;intro X;let{kd,lo,k,hi,rfl,Wh,q}:=h;refine bU (λx=>aM (ar bX DA ai<|ax _) x aA) ?_;refine aw (ay<|Aq gX dz HW (aE (mZ T) O.mo {_} T.zg T.qw.kp T.zy .nil az (aa O8 ae)) M2) ?_
 intros
 refine bU (λx=>aM (ar bX DA ai<|ax _) x aA) ?_;refine aw (ay<|lq (bK gX HW O8<|ax _)<|ft<|C5 (bK gv M2 cr<|ax _)<|ft<|bK dz O8 M2<|ax _) ?_
 intros
 refine aw (ay<|lq (bK gX HW O8<|ax _)<|ft<|C5 (bK gv M2 cr<|ax _)<|ft<|bK gX O8 M2<|ax _) ?_
 intros
 let{ok,Y,l1,U}:=Wh;rcases ok.kd with rfl|rfl|rfl
 .let{i,j,I,rfl,_}:=(show okS (.int lo) hi from ok.s);cases I;have q:Q (.bl<|decide (lo<=tz (k%65536))&&decide (tz (k%65536)<j)) H:=q;refine{_,M,M,_,M,dA M ?_};refine{_,M,_,M,k,M,_,_,M,M,_,M,cu (λc=>{_,M,_,_,M,M,?_})<|λc=>?_}
  .rw[c,Zy]at q;exact q
  .rw[QT.mpr c,Zn]at q;exact q
 .refine{_,M,M,_,M,aZ (λz=>by cases z) {_,M,M,_,M,dA M ?_}};obtain⟨i,I,i0,rfl|⟨j,rfl,_⟩⟩:=(show P7 (.int lo) hi from ok.u)
  .have q:Q (.bl<|decide (lo<=k)) H:=q;refine{_,M,_,M,_,_,M,M,_,M,cu (λc=>{_,M,M,_,M,dA M ?_})<|λc=>?_}
   .rw[c]at q;exact q
   .rw[QT.mpr c]at q;exact q
  .have q:Q (.bl<|decide (lo<=k)&&decide (k<j)) H:=q;refine{_,M,_,M,_,_,M,M,_,M,cu (λc=>{_,M,M,_,M,aZ (λz=>by cases z) {_,M,_,M,_,_,M,M,?_}})<|λc=>?_}
   .rw[c,Zy]at q;exact q
   .rw[QT.mpr c,Zn]at q;exact q
 .refine{_,M,M,_,M,aZ (λz=>by cases z) {_,M,M,_,M,aZ (λz=>by cases z) ?_}};obtain⟨j,I,Z,rfl|⟨i,rfl,_⟩⟩:=(show P6 hi (.int lo) from ok.d)
  .have q:Q (.bl<|decide (lo<=k)) H:=q;refine{_,M,_,M,_,_,M,M,_,M,cu (λc=>{_,M,M,_,M,dA M ?_})<|λc=>?_}
   .rw[c]at q;exact q
   .rw[QT.mpr c]at q;exact q
  .have q:Q (.bl<|decide (lo<=k)&&decide (k<=i)) H:=q;refine{_,M,_,M,_,_,M,M,_,M,cu (λc=>{_,M,M,_,M,aZ (λz=>by cases z) {_,M,_,M,_,_,M,M,?_}})<|λc=>?_}
   .rw[c,Zy]at q;exact q
   .rw[QT.mpr c,Zn]at q;exact q
def yx:Sp:=λvs H Q _=>∃(kd k:Int),vs=[.int kd,.int k]/\0<=kd/\kd<3/\∀H' p x y,Ba H H'->H p=none->H' p=some (.tup [.int x,.int y])->(x,y)=(if kd=0 then(OB k,k)else if kd=1 then(k,0)else(-k,0))->Q (.ref p) H'
def y3(T:Txt K mg t w):E7 P w K mg base NX 2 t.rO t.lQ [ff,eN] yx:=by
 refine T.rS.okl yH λ_ _ _ s H vs Q E O h _=>?_;intro X;let{kd,k,rfl,k0,k1,q}:=h;refine bU (λx=>aM (ar bX DA ai<|ax _) x aA) ?_;refine aw (ay<|cE<|aa (aE (mZ T) O.mo {_} T.zg T.qw.kp T.zy .nil az (aa HW ae))<|aa HW ae) ?_
 intros
 refine aw (ay<|cE<|aa (aP aK (bh<|aa HW<|aa (aq iE ai HW) ae) (aq iE DA ai)<|λ_ _=>M)<|aa ai ae) ?_
 intros
 rcases(show kd=0\/kd=1\/kd=2 by lia)with rfl|rfl|rfl
 .refine{_,M,M,_,M,dA M {_,M,k,M,_,M,(by show 2<=sizeLine;decide),λp np=>?_}};exact q _ p _ _ (ak np) np A9 M
 .refine{_,M,M,_,M,aZ (λz=>by cases z) {_,M,_,M,_,_,M,M,(by show 2<=sizeLine;decide),λl I=>{_,M,_,_,M,M,l,_,_,_,M,M,Dz.of A9,dC (j:=0) (v:= .int k) M,(by show 2<=sizeLine;decide),λp np=>?_}}};exact q _ p _ _ ((ak I).trans<|ak np) (bZ (ak I) np) A9 M
 .refine{_,M,M,_,M,aZ (λz=>by cases z) {_,M,_,M,_,_,M,M,(by show 2<=sizeLine;decide),λl I=>{_,M,_,_,M,M,l,_,_,_,M,M,Dz.of A9,dC (j:=1) (v:= .int<|0-k) M,(by show 2<=sizeLine;decide),λp np=>?_}}};exact q _ p _ _ ((ak I).trans<|ak np) (bZ (ak I) np) A9<|by rw[VA (_),VA (_),Int.zero_sub]
def vR:Sp:=λvs H Q _=>∃(kd lo:Int)(hi:V),vs=[.int kd,.int lo,hi]/\Bn kd lo hi/\∀H',Ba H H'->Q (.str<|bg (OQ kd) (R1 kd (.int lo) hi)<|R0 kd (.int lo) hi) H'
def wO(T:Txt K mg t w):E7 P w K mg base NX 1 t.qf t.j5 [ff,gr,fx] vR:=by
 refine T.zM.okl wv λ_ _ _ s H vs Q E hr h _=>?_;intro X;let{kd,lo,hi,rfl,Wh,q}:=h;refine ah (N7 3 aR)
   (ah (aM (ar C8 M2 cr<|ax _)
    (au<|N7 3<|bP bO {_} T.kI fF (aa M2 ae))
    aA)
   (bU (λx=>aM (ar bX DA ai<|ax _) x aA) ?_))
 refine aw (ay<|aq bu (aq bu (aq bu aR O8) aR)<|bP bO {_} T.kI fF (aa HW ae)) ?_
 intros
 refine aw (ay<|aq bu (aq bu (aq bu (aP aK (bh<|aa aR<|aa aR ae) DA<|λ_ _=>M)<|bP bO {_} T.kI fF (aa HW ae)) aR) O8) ?_
 intros
 let{ok,U,l1,I}:=Wh;have f1:(wr<|.int lo).length<=40:=(CL U l1).2.2.2.2;have f2:=I.free.2;have big:1000<=sizeLine:=by decide
 have b1:(Rb:Str).length=1:=by decide+kernel
 have Y:∀{i:Int},0<=i->i<10^39->i.natAbs.log2<1920:=λh0 h1=>KP h0 ();refine aX (λB H'=>B=[some (.int kd),some (.int lo),some hi,some (.str ("-":Str))]/\H'=H) (λnx go=>go _ _ ⟨M,M⟩)<|λB H1 w=>?_;let{rfl,rfl}:=w;refine aX (λB H'=>B=[some (.int kd),some (.int lo),some hi,some (.str<|wr hi)]/\H'=H1) (λnx go=>?_)<|λB H1 w=>?_
 .rcases I with rfl|⟨i,rfl,i0,i1⟩
  .exact{_,M,M,_,M,bL<|go _ _ ⟨M,M⟩}
  .exact{_,M,M,_,M,b7 {_,M,_,M,Y i0 i1,go _ _ ⟨M,M⟩}}
 let{rfl,rfl}:=w;have Z:∀{z:Str},z.length<=6->(z++wr hi).length<=46/\(z++wr hi++(Rb:Str)).length<=47/\(z++wr (.int lo)).length<=46/\(z++wr (.int lo)++(Rb:Str)).length<=47:=λh=>by
  simp only[bq];lia
 rcases ok.kd with rfl|rfl|rfl
 .refine{_,M,M,_,M,aZ (λz=>by cases z) ?_};have O:(Str.ofString "slots ").length<=6:=by decide+kernel
  let{_,_,m1,m2}:=Z O;refine{(by show 2<=sizeLine;decide),λl nl=>{_,M,l,_,_,_,M,M,Dz.of A9,dC (j:=0) M,_,M,_,M,Y U l1,_,_,M,M,by show _+(wr<|.int lo).length<=_;lia,_,_,M,M,by show(Str.ofString "slots "++wr (.int lo)).length+(Rb:Str).length<=_;lia,_,M,_,_,M,M,by show(Str.ofString "slots "++wr (.int lo)++(Rb:Str)).length+_<=_;lia,?_}};have e:bg (OQ 0) (R1 0 (.int lo) hi) (R0 0 (.int lo) hi)=("slots ":Str)++wr (.int lo)++(Rb:Str)++wr hi:=sT Lw;rw[e]at q;exact q _<|ak nl
 .refine{_,M,M,_,M,aZ (λz=>by cases z) ?_};have O:(Str.ofString "up ").length<=6:=by decide+kernel
  let{_,_,m1,m2}:=Z O;refine{(by show 2<=sizeLine;decide),λl nl=>{_,M,l,_,_,_,M,M,Dz.of A9,dC (j:=1) M,_,M,_,M,Y U l1,_,_,M,M,by show _+(wr<|.int lo).length<=_;lia,_,_,M,M,by show(Str.ofString "up "++wr (.int lo)).length+(Rb:Str).length<=_;lia,_,M,_,_,M,M,by show(Str.ofString "up "++wr (.int lo)++(Rb:Str)).length+_<=_;lia,?_}};have e:bg (OQ 1) (R1 1 (.int lo) hi) (R0 1 (.int lo) hi)=("up ":Str)++wr (.int lo)++(Rb:Str)++wr hi:=sT up_;rw[e]at q;exact q _<|ak nl
 .refine{_,M,M,_,M,dA M ?_};have O:(Str.ofString "down ").length<=6:=by decide+kernel
  let{m1,m2,_}:=Z O;refine{_,M,_,_,M,M,(),_,_,M,M,by show _+(Rb:Str).length<=_;lia,_,M,_,M,Y U l1,_,_,M,M,by show _+(wr<|.int lo).length<=_;change (Str.ofString "down "++wr hi++Str.ofString Rb).length<=47 at m2;lia,?_};have e:bg (OQ 2) (R1 2 (.int lo) hi) (R0 2 (.int lo) hi)=("down ":Str)++wr hi++(Rb:Str)++wr (.int lo):=sT NF;rw[e]at q;exact q H1<|Ba.refl _
def tw:Sp:=λvs H Q _=>∃(c kd:Int),vs=[.int c,.int kd]/\0<=kd/\kd<3/\∀H' p lo hi,Ba H H'->H' p=some (.tup [.int lo,hi])->Bn kd lo hi->Q (.ref p) H'
def uG(T:Txt K mg t w):E7 P w K mg base NX 1 t.nM t.iM [nj,ff] tw:=by
 refine T.xv.okl tV λ_ _ _ s H vs Q E hr h _=>?_;intro X;let{c,kd,rfl,k0,k1,q}:=h;refine ah (N7 2<|aq aY (aq bf DA ai)<|aP aK (bh<|aa ai<|aa ai ae) (aq aY DA ai)<|λ_ _=>M)
   (ah (N7 3<|aq bf DA ai)
   (bU (λx=>aM (ar bX HW ai<|ax _) x aA) ?_))
 refine aw (ay<|cE<|aa M2<|aa (aP aK (bh<|aa ai<|aa (aq bN M2<|aq aY O8<|aq iE ai M2) ae) (aq aY (aq bf DA ai) ai)<|λ_ _=>M) ae) ?_
 intros
 refine aw (ay<|cE<|aa M2<|aa (aP aK (bh<|aa cr<|aa (aq bN M2<|aq aY O8<|aq lu ai ai) ae) (aq aY (aq bf DA ai) ai)<|λ_ _=>M) ae) ?_
 intros
 have O:∀{z n:Int},0<n->0<=z%n/\z%n<n:=λh=>{Qx _<|QZ h,QD _ h};let{m,hm,p0,p1}:=An (c:=c) (n:=2) (L:=[.int 1,.int 30000]) (P:=λm=>0<m/\m<=30000) {{(_),(_)},{(_),(_)},trivial} M (_);refine{_,M,_,_,M,M,{(_),(_)},(by show 2<=sizeLine;decide),λl nl=>{_,M,_,_,M,M,(by show(0:Int)<2;decide),l,_,_,_,M,M,Dz.of A9,hm,_,_,M,M,p0,?_}};have s1:=ak (o:= .lst [.int 1,.int 30000]) nl;let{I,l1}:=O (z:=c/4) p0
 (try dsimp only)
 generalize upd H l (.lst [.int 1,.int 30000])=H1 at s1⊢;generalize c/4%m=lo at I l1⊢;refine{_,M,_,_,M,M,{(_),(_)},?_}
 (try dsimp only)
 generalize c/120000=far;obtain rfl|kn:kd=0\/kd≠0:=()
 .let{f0,f1}:=O (z:=far) (show 0<65537-lo by lia);let{j,U,j0,j1}:=An (c:=c/2) (n:=2) (L:=[.int 65536,.int (lo+far%(65537-lo))]) (P:=λj=>lo<=j/\j<=65536) {{(),(_)},{(),()},trivial} M (_);refine{_,M,M,_,M,dA M {_,M,_,M,_,M,_,M,_,_,M,M,_,_,M,M,(),_,_,M,M,(by show 2<=sizeLine;decide),λg Y=>{_,M,_,_,M,M,{(_),(_)},_,_,M,M,(by show(0:Int)<2;decide),g,_,_,_,M,M,Dz.of A9,U,(by show 2<=sizeLine;decide),λp np=>?_}}};exact q _ p lo (.int j) ((s1.trans<|ak Y).trans<|ak np) A9 {.inl ⟨M,lo,j,M,M,I,j0,j1⟩,I,(),.inr {j,M,(),()}}
 .let{f0,f1}:=O (z:=far) (show(0:Int)<10^(10:Int).toNat by decide);have Z:(10:Int)^(10:Int).toNat=10^10:=M;let{v,U,mj}:=Nh (c:=c/2) (n:=2) (L:=[.non,.int (lo+far%10^(10:Int).toNat)]) M (_);refine{_,M,M,_,M,aZ (λz=>kn<|V.int.inj z) {_,M,_,M,_,M,_,_,M,M,{(_),(_),(_)},_,_,M,M,(_),_,_,M,M,(by show 2<=sizeLine;decide),λg Y=>{_,M,_,_,M,M,{(_),(_)},_,_,M,M,(by show(0:Int)<2;decide),g,_,_,_,M,M,Dz.of A9,U,(by show 2<=sizeLine;decide),λp np=>?_}}};refine q _ p lo v ((s1.trans<|ak Y).trans<|ak np) A9 ?_;have hv:v= .non\/∃i:Int,v= .int i/\lo<=i/\i<10^11:=by
   rcases Qb.mp mj with h|h
   .exact .inl h
   .exact .inr {_,Q9.mp h,(),by rw[Z]at f1⊢;lia}
  have a0:rb v:=hv.imp id λ⟨i,e,i0,i1⟩=>{i,e,(),()};refine{?_,I,(),a0};rcases(show kd=1\/kd=2 by lia)with rfl|rfl
  .exact .inr<|.inl {M,lo,M,I,hv.imp id λzz=>by let{i,e,i0,_}:=zz;exact⟨i,e,i0⟩}
  .exact .inr<|.inr {M,lo,M,I,hv.imp id λzz=>by let{i,e,i0,_}:=zz;exact⟨i,e,i0⟩}
def Cq{kv:Rs}{z:Sh}(nd:(kv.map (·.1)).Nodup)(U:(ts.map (·.k)).Nodup)(I:∀k v,(k,v)∈ts.map Tp.kv↔(k,v)∈kv/\R k=true/\z k=false)(le:∀p∈kv,z p.1=true->R p.1=true):(kv.filter λp=>R p.1).length=(kv.filter λp=>z p.1).length+ts.length:=by
 have O:kv.Nodup:=(QM.mp nd).imp λh e=>h (VT Prod.fst e);have Y:(ts.map Tp.kv).Nodup:=QM.mpr ((QM.mp U).imp λh e=>h<|VT Prod.fst e);have Z:(kv.filter λp=>R p.1).Perm ((kv.filter λp=>z p.1)++ts.map Tp.kv):=by
  refine(Vz (List.Pairwise.filter _ O)<|Xp.mpr {List.Pairwise.filter _ O,Y,λx hx y hy e=>?_}).mpr λx=>?_
  .have h1:=(QC.mp hx).2;have h2:=((I y.1 y.2).mp hy).2.2;rw[e,h2]at h1;cases h1
  .rw[Q5,QC,QC,I x.1 x.2];constructor
   .rintro ⟨h1,h2⟩;cases c:z x.1 with
    |true=>exact .inl ⟨h1,M⟩
    |false=>exact .inr ⟨h1,h2,M⟩
   .rintro (⟨h1,h2⟩|⟨h1,h2,_⟩)
    .exact{h1,le x h1 h2}
    .exact⟨h1,h2⟩
 have:=Z.length_eq;rwa [Q7,Q0]at this
def Pr(kd:Int)(st:N4)(a:V):Int:=if kd=0 then st.low-PY a/(65536/st.low)else 0
def RI(st:N4)(R:Sh):Nat:=(st.kv.filter λp=>R p.1).length
def KH{kd:Int}{a:V}(z:O0 st)(ok:Og kd a e):0<=Pr kd st a/\Pr kd st a<=256:=by
 unfold Pr;split
 .have l:=fA z;have p:=bM l;have w:∀x∈([4,8,16,32,64,128,256]:Rn),65536/(65536/x)=x/\0<65536/x:=by decide
  let{O,I}:=w _ l;subst kd;let{i,j,rfl,rfl,i0,U,Y}:=ok.s;have h1:=XG i0 (XA I);have h2:=Vh I (show i<=65536 by lia);rw[O]at h2;show 0<=st.low-i/(65536/st.low)/\st.low-i/(65536/st.low)<=256;lia
 .lia
def pot{kd:Int}(U:CK t H' F' st kd n av e v ts a' R)(z:O0 st)(nd:(st.kv.map (·.1)).Nodup)(k0:∀k∈st.kv.map (·.1),0<=k)(Z:5<=n)(I:v≠ .non):20+4*(RI st R:Int)+Pr kd st a'<=4*(RI st (hN kd av e):Int)+Pr kd st av:=by
 have sp:=Cq nd U.nd U.me λp O=>U.less p.1 (k0 _<|QO O);have Y:0<65536/st.low:=by
  let{_,_,R}:=ut (fA z);exact R.wpos'
 have ps:Pr kd st a'<=Pr kd st av:=by
  rcases U.rest with⟨y,_⟩|⟨q,_,_,_,_,_,m⟩
  .exact VG y I
  .unfold Pr;split
   .have:=Vh Y (m<|by assumption);lia
   .exact ZT _
 unfold RI;rcases U.far with y|y|⟨y,w⟩
 .exact VG y I
 .lia
 .unfold Pr;rw[VB y,VB y];lia
def Iz{v:Int}:Txt.join (Rb:Str) (("put":Str)::dO [(("KEY":Str),.num k),(("VALUE":Str),.num v)])=("put ":Str)++nu k++(Rb:Str)++nu v:=by
 have e:("put":Str)++(Rb:Str)=("put ":Str):=by decide+kernel
 show Txt.join (Rb:Str) [("put":Str),nu k,nu v]=_;rw[<-e,fR];show("put":Str)++(Rb:Str)++(nu k++(Rb:Str)++nu v)=_;simp only[Str.append_assoc]
def FI:Txt.join (Rb:Str) ((P':Str)::dO [(("KEY":Str),.num k)])=("drop ":Str)++nu k:=by
 have e:(P':Str)++(Rb:Str)=("drop ":Str):=by decide+kernel
 show Txt.join (Rb:Str) [(P':Str),nu k]=_;rw[<-e,fR];rfl
def FH{kd:Int}{a:V}:Txt.join (Rb:Str) ((u4:Str)::dO [((Rh:Str),.tok kd a e),(("MANY":Str),.num n)])=("page ":Str)++bg (OQ kd) a e++(Rb:Str)++nu n:=by
 have z:(u4:Str)++(Rb:Str)=("page ":Str):=by decide+kernel
 show Txt.join (Rb:Str) [(u4:Str),OQ kd,wr a,wr e,nu n]=_;rw[<-z,fR];unfold bg;rw[fR];show(u4:Str)++(Rb:Str)++(OQ kd++(Rb:Str)++(wr a++(Rb:Str)++(wr e++(Rb:Str)++nu n)))=(u4:Str)++(Rb:Str)++(OQ kd++(Rb:Str)++(wr a++(Rb:Str)++wr e))++(Rb:Str)++nu n;simp only[Str.append_assoc]
structure Oo(K:Wi)(t:NZ)(H:Hp)(d k:Rl)(G:Ro)(x:O9)(b:Int):Prop where
 D:Ob K t H d G x
 di:H k=some (.dK<|aL x.st.kv)
 nk:¬G k
 kb:∀p∈x.st.kv,0<=p.1/\p.1<b/\∃i:Int,p.2= .int i/\-(10^60)<i/\i<10^60
 le:x.st.kv.length<=200
 ma:x.ma=0
def Oo.same{d k:Rl}{x:O9}{b:Int}(J:Oo K t H d k G x b)(s:Ba H H'):Oo K t H' d k G x b:={J.D.same s,s _ _ J.di,J.nk,J.kb,J.le,J.ma}
def Oo.fr{d k:Rl}{x:O9}{b:Int}(J:Oo K t H d k G x b)(D:Ob K t H' d G' x)(f:Fr G G' H H'):Oo K t H' d k G' x b:={D,(f _ _ J.nk J.di).1,(f _ _ J.nk J.di).2,J.kb,J.le,J.ma}
def Oo.bd{d k:Rl}{x:O9}{b:Int}(J:Oo K t H d k G x b)(h:b<=10^38):Ph x:={by have:=J.le;lia,λp z=>{(J.kb p z).1,by have:=(J.kb p z).2.1;lia,(J.kb p z).2.2}}
def Oo.wide{d k:Rl}{x:O9}{b b':Int}(J:Oo K t H d k G x b)(h:b<=b'):Oo K t H d k G x b':={J.D,J.di,J.nk,λp z=>{(J.kb p z).1,by have:=(J.kb p z).2.1;lia,(J.kb p z).2.2},J.le,J.ma}
def Oo.drop{d k:Rl}{z:Ro}{x:O9}{b ky:Int}(J:Oo K t H d k G x b)(h1:H1 k=some (.dK<|aL<|bB x.st.kv ky))(px:Hs x x' ky)(D2:Ob K t H2 d z x')(O:Fr G z H1 H2):Oo K t H2 d k z x' b:=by
 have kv:x'.st.kv=bB x.st.kv ky:=by rw[px.2.2];exact N4.three_kv
 let{h2,U}:=O _ _ J.nk h1;have sub:∀p∈bB x.st.kv ky,p∈x.st.kv:=λp I=>(QC.mp I).1;refine{D2,by rwa[kv],U,by rw[kv];exact λp I=>J.kb p<|sub p I,?_,px.2.1.trans J.ma};rw[kv];exact Qr (Qm _ _) J.le
def Ob.ob{d:Rl}{x:O9}(D:Ob K t H d G x):∃dx h c,H d=some (.ins t.fE dx [(Rc,.ref h),("copier",c)]):=by
 let{dx,h,c,F,hd,_}:=D;exact⟨dx,h,c,hd⟩
def IN{kv:Rs}{p:Int×V}(h:p∈bp kv k v):p∈kv\/p=(k,v):=by
 unfold bp at h;split at h
 .let{q,hq,e}:=Qf.mp h;by_cases c:q.1=k
  .rw[VB c,c]at e;exact .inr e.symm
  .rw[VA c]at e;exact .inl<|e▸hq
 .rcases Q5.mp h with y|y
  .exact .inl y
  .exact .inr<|Q9.mp y
def ER{kv:Rs}(h:aI kv k=none):bB kv k=kv:=by
 unfold bB;refine List.filter_eq_self.mpr λp z=>?_;rw[VO];intro e;have:=mem_keys.mp (Qf.mpr ⟨p,z,e⟩);rw[h]at this;cases this
def IP{kv:Rs}(c:(aI kv k).isSome=true\/kv.length<200)(l:kv.length<=200):(bp kv k v).length<=200:=by
 have e:=VT List.length (pT (kv:=kv) (k:=k) (v:=v));rw[Q0]at e;rw[e];split
 .rwa[Q0]
 .rw[Q7,Q0];rcases c with c|c
  .exact VG c<|by assumption
  .show kv.length+1<=200;lia
def Wk(G:Ro)(k:Rl):Addr->Prop:=λb=>G b\/b=k
def Fr.wk{d:Rl}(f:Fr F F' H H'):Fr (Wk F d) (Wk F' d) H H':=λb o n I=>{(f b o (λz=>n<|.inl z) I).1,λz=>z.elim (f b o (λz=>n<|.inl z) I).2 λz=>n<|.inr z}
def Fr.wu{d:Rl}:Fr (Wk F d) (Wk F d) H (upd H d o):=λb o n I=>{by rw[ag λz=>n (.inr z)];exact I,n}
def z7(K:Wi)(t:NZ):Sp:=λvs H Q _=>∃(d k:Rl)(ky v:Int)(G:Ro)(x:O9)(b:Int),vs=[.ref d,.ref k,.int ky,.int v]/\Oo K t H d k G x b/\b<=10^38/\0<=ky/\ky<b/\-(10^60)<v/\v<10^60/\x.now<3900/\
 ∀H' G' x',Oo K t H' d k G' x' b->x'.now<=x.now+1->Fr (Wk G k) (Wk G' k) H H'->(∀z,(aI x.st.kv z).isSome=true->(aI x'.st.kv z).isSome=true)->Q (.bl true) H'
set_option tactic.hygienic true in
def rB(T:Txt K mg t w):E7 P w K mg base NX 11 t.vx t.oX [lm,ge,eN,"_law_value"] (z7 K t):=by
 refine T.vH.okl Af λ_ _ _ s H vs Q E I h _=>?_;intro X;let{d,k,ky,v,G,x,b,rfl,J,b1,k0,k1,O,U,nw,q}:=h;refine bU (λx=>aM (PW.pt<|kW (qM<|BS (eF I) M2 HW)<|iD<|ar dz (aD EY {_} T.bG a7 (aa HW ae)) ai<|ax _) x aA) ?_;refine ah (sI (eF I) HW M2 O8 M)
   (aw (ay<|bK (uy K M I.u20) (aT DA T.kx T.rE (jO T) I.mo T.rK .nil az<|aa (aq bu (aq bu (aq bu aR<|bP bO {_} T.kI fF (aa M2 ae)) aR)<|bP bO {_} T.kI fF (aa O8 ae)) ae) (bh ae)<|ax _) ?_)
 intros
 refine aw (ay gW) ?_
 intros
 have Y:∀{n:Int},-(10^60)<n->n<10^60->(Str.ofString<|toString n).length<=61:=λh0 h1=>fL h0 h1;have big:1000<=sizeLine:=by decide
 have b5:(Str.ofString "put ").length=4:=by decide+kernel
 have b1:(Str.ofString Rb).length=1:=by decide+kernel
 have lk:=Y (n:=ky) () ();have lv:=Y O U;have l1:(Str.ofString "put "++Str.ofString (toString ky)).length<=65:=by rw[bq];lia
 have l2:(Str.ofString "put "++Str.ofString (toString ky)++Str.ofString Rb).length<=66:=by rw[bq];lia
 rename_i B1 b2 Wh
 have bd:∀D:kB,D.rt=Q->((aI x.st.kv ky).isSome=true\/x.st.kv.length<200)->b2 D [some (.ref d),some (.ref k),some (.int ky),some (.int v)] H:=λD eD c=>by
  have le:=J.le;refine{_,M,_,M,_,M,k,_,M,PD.k (k:=Sum.inl ky) J.di (by rw[dM];exact aW ()),?_};rw[jh];have D1:Ob K t (upd H k<|.dK<|aL<|bp x.st.kv ky<|.int v) d G x:=J.D.upd J.nk λxs z=>by rw[J.di]at z;cases z
  have Z:Fr (Wk G k) (Wk G k) H (upd H k<|.dK<|aL<|bp x.st.kv ky<|.int v):=Fr.wu;have h1:upd H k (.dK<|aL<|bp x.st.kv ky<|.int v) k=some (.dK<|aL<|bp x.st.kv ky<|.int v):=A9;generalize upd H k (.dK<|aL<|bp x.st.kv ky<|.int v)=H1 at D1 Z h1⊢;let{dx,hh,cc,hd}:=D1.ob;refine{_,M,d,dx,_,M,hd,(by kernel_rfl),_,M,_,M,js () (),_,_,M,M,(),_,_,M,M,(),_,M,_,M,js O U,_,_,M,M,(),?_};refine{d,G,x,("put":Str),_,by rw[Iz];rfl,D1,.put ky v k0 () O U (by have:=J.ma;lia) λx' px H2 G2 l D2 f2 a0 a1 hl=>?_};refine{Qc _,λp np=>{l,p,[],M,M,Dz.of (by rwa[ag (am hl np)]),Dz.of A9,?_}};rw[eD];have D3:=D2.same (ak (o:= .lst []) np);have kv:x'.st.kv=bp x.st.kv ky (.int v):=by rw[px.2.2];exact N4.three_kv
  let{h2,n2}:=f2 _ _ J.nk h1;refine q _ G2 x' {D3,?_,n2,?_,?_,px.2.1.trans J.ma} (by rw[px.1];lia) ?_ ?_
  .rw[kv];exact ak np _ _ h2
  .rw[kv];intro p hp;rcases IN hp with h|rfl
   .exact J.kb p h
   .exact⟨k0,k1,v,M,O,U⟩
  .rw[kv];exact IP c le
  .exact(Z.trans f2.wk).trans<|Fr.of_same (ak np)
  .intro z hz;rw[kv,du];split
   .rfl
   .exact hz
 refine{_,M,_,M,k,_,M,OS.k (k:=Sum.inl ky) J.di,_,M,?_};rw[N8];refine cu (λc=>b7<|bd _ M<|.inl c)<|λc=>?_;refine{_,M,k,_,M,J.di,_,_,M,M,_,M,cu (λy=>?_)<|λy=>?_}
 .have y:=VF y;rw[dM]at y;exact bd _ M<|.inr ()
 .exact q H G x J () Fr.refl λz hz=>hz
def z8(K:Wi):Sp:=λvs H Q _=>∃(l:Rl)(ks:Rn)(c b:Int),vs=[.ref l,.int c]/\H l=some (.lst<|ks.map V.int)/\ks.length<=200/\(∀z∈ks,0<=z/\z<b)/\10^11<=b/\∀H' z,Ba H H'->0<=z->z<b+2->Q (.int z) H'
set_option tactic.hygienic true in
def Au(T:Txt K mg t w):E7 P w K mg base NX 1 t.vz t.oY ["_law_keys","_law_draw"] (z8 K):=by
 refine T.CH.okl Ag λ_ _ _ s H vs Q E hr h _=>?_;intro X;let{l,ks,c,b,rfl,hl,ll,kb,b0,q}:=h;refine bU (λx=>aM (PW.pt<|kW (ar (uy K M hr.u20) DA (bh ae)<|ax _)<|iD<|ar bX (aq aY HW ai) ai<|ax _) x aA) ?_;refine aw (ay<|aq aY (aq bf HW ai)<|aP aK (bh<|aa ai<|aa ai<|aa (aq lu ai ai) ae) (aq aY (aq bf HW ai) ai)<|λ_ _=>M) ?_
 intros
 refine ah (N7 2<|aP aK DA (aq aY (aq bf HW ai)<|aD aC {_} T.bG a7 (aa DA ae))<|λ_ _=>M)
   (bU (λx=>aM (ar bX (aq aY HW ai) ai<|ax _) x aA) ?_)
 refine aw (ay<|aD (rn M) {_} T.Kl Cy (aa ai<|aa (aq iE (aq bN M2<|aq aY (aq bf HW ai) ai) ai) ae)) ?_
 intros
 refine aw (ay<|aq bN (aq aY M2 ai)<|aq eI ai<|aq aY (aq bf HW ai) ai) ?_
 intros
 have O:∀{z n:Int},0<n->0<=z%n/\z%n<n:=λh=>{Qx _<|QZ h,QD _ h}
 rename_i b1 b2 B3 B2 Wh
 have bd:∀(D:kB)(H1:Hp),D.rt=Q->Ba H H1->b1 D [some (.ref l),some (.int c),none] H1:=λD H1 eD s1=>by
  let{m,hm,Y,p1}:=An (c:=c/9) (n:=3) (L:=[.int 300,.int 65536,.int (10^(10:Int).toNat)]) (P:=λm=>0<m/\m<=10^10) {{(_),(_)},{(_),(_)},{(_),(_)},trivial} M (_);let{e0,e1}:=O (z:=c/3) Y;refine{_,M,_,_,M,M,{(_),(_)},_,_,M,M,{(_),(_),(_)},(by show 3<=sizeLine;decide),λg ng=>{_,M,_,_,M,M,{(_),(_)},_,_,M,M,(by show(0:Int)<3;decide),g,_,_,_,M,M,Dz.of A9,hm,_,_,M,M,Y,?_}};rw[eD];exact q _ _ (s1.trans<|ak ng) e0 ()
 refine{_,M,Qc _,λp np=>{l,p,ks.map V.int,M,M,Dz.of (by rwa[ag (am hl np)]),Dz.of A9,_,M,?_}};have s1:=ak (o:= .lst []) np;have I:=s1 _ _ hl;generalize upd H p (.lst [])=H1 at s1 I⊢;cases ks with
 |nil=>exact b7<|bd _ _ M s1
 |cons a r=>
  refine bL {_,M,_,_,M,M,(by show(0:Int)<3;decide),M,_,M,cu (λ_=>bd _ _ M s1)<|λ_=>?_};have len:(((a::r).map V.int).length:Int)=((a::r).length:Int):=by rw[Q0]
  have Z:(0:Int)<((a::r).length:Int):=by rw[Qi];lia
  let{i0,i1}:=O (z:=c/3) Z;obtain⟨z,ez⟩:∃z,(a::r)[(c/3%((a::r).length:Int)).toNat]?=some z:={_,Q3 ()};have U:P4 ((a::r).map V.int) (c/3%((a::r).length:Int))=some (.int z):=by
   have:c/3%((a::r).length:Int)=((c/3%((a::r).length:Int)).toNat:Int):=();rw[this];refine dC ?_;rw[Qo,ez];rfl
  let{z0,z1}:=kb z (Q1 ez);refine{_,M,_,M,_,_,M,M,{(_),(_)},_,M,l,_,M,.inl<|Dz.of I,_,_,M,M,by rwa[len],l,_,_,_,M,M,Dz.of I,by rwa[len],?_};refine{_,M,_,_,M,M,(by show(0:Int)<3;decide),M,_,M,cu (λ_=>?_)<|λ_=>?_}
  .let{g0,g1}:=O (z:=c/1200) (show(0:Int)<5 by decide);refine{_,M,_,M,_,_,M,M,{(_),(_)},_,_,M,M,(by show(0:Int)<5;decide),_,_,M,M,_,_,M,M,_,_,M,?_};refine q H1 _ s1 ?_ ?_<;>split<;>lia
  .let{g0,g1}:=O (z:=c/1200) (show(0:Int)<9 by decide);let{f0,f1}:=O (z:=z) (show(0:Int)<65536 by decide);refine{_,M,_,_,M,M,(by show(0:Int)<65536;decide),_,M,_,_,M,M,{(_),(_)},_,_,M,M,(by show(0:Int)<9;decide),_,_,M,M,.inl {(_),(_)},_,_,M,M,?_};exact q H1 _ s1 () ()
def vW(K:Wi)(t:NZ):Sp:=λvs H Q _=>∃(d k sy l:Rl)(G:Ro)(x:O9)(b:Int)(cs:Rn)(tl:Rs),vs=[.ref d,.ref k,.ref sy,.ref l]/\Oo K t H d k G x b/\10^11<=b/\b<=10^37/\x.now<3800/\H l=some (.lst<|cs.map V.int)/\¬Wk G k l/\cs.length=3/\H sy=some (.dK<|aL tl)/\¬Wk G k sy/\tl.length<=200/\(∀z,(aI tl z).isSome=true->(aI x.st.kv z).isSome=true)/\
 ∀H' G' x' tl',Oo K t H' d k G' x' (b+2)->x'.now<=x.now+2->H' sy=some (.dK<|aL tl')->¬Wk G' k sy->(∀z,(aI tl' z).isSome=true->(aI tl z).isSome=true/\(aI x'.st.kv z).isSome=true)->tl'.length<=tl.length->(∀b o,b≠sy->¬Wk G k b->H b=some o->H' b=some o/\¬Wk G' k b)->Q (.bl true) H'
def wR(T:Txt K mg t w):E7 P w K mg base NX 12 t.qk t.kf [lm,ge,ly,gp] (vW K t):=by
 refine T.zO.okl wA λ_ _ _ s H vs Q E hr h _=>?_;intro X;let{d,k,sy,l,G,x,b,cs,tl,rfl,J,b0,b1,nw,hl,nl,cl,hs,ns,sl,su,q}:=h;refine ah (N7 4<|bP (Cv hr.hd) {_} T.NR JN (aa HW ae))
   (ah (N7 5 gW)
   (bU (λx=>aM (ar C9 (aq aY (aP aK O8 ai<|λ_ _=>M) ai) ai<|ax _) x aA) ?_))
 refine aw (N7 5<|aE (rB T) hr.mo {_} T.Cg T.vH.kp T.CA .nil az (aa DA<|aa HW<|aa (aE (Au T) hr.mo {_} T.LW T.CH.kp T.Mz .nil az (aa OX<|aa (aP aK O8 ai<|λ_ _=>M) ae))<|aa (aq iE (aq aY (aP aK O8 ai<|λ_ _=>M)<|aq lu ai ai)<|aq eI ai<|aq lu ai ai) ae)) ?_
 intros
 refine bU (λx=>aM (PW.pt<|dG (ar dz (aq aY (aP aK O8 ai<|λ_ _=>M) ai) ai<|ax _)<|cI<|ar (FX K M hr.u20) OX (bh ae)<|ax _) x aA) ?_;refine ah (N7 6<|aP aK OX (aq aY (aq bf (aP aK O8 ai<|λ_ _=>M) ai)<|aD aC {_} T.bG a7 (aa OX ae))<|λ_ _=>M)
   (ah (aO<|bR Zj X3 XJ za HW<|aa Pg ae)
   (ah (aM (qM<|BS (eF hr) Pg M2)
    (au<|aO<|bR Zj X3 XJ za M2<|aa Pg ae)
    aA)
   (aw (N7 5<|lq PP<|ft<|bK (uy K M hr.u20) (aT DA T.kx T.rE (jO T) hr.mo T.rK .nil az<|aa (aq bu aR<|bP bO {_} T.kI fF (aa Pg ae)) ae) (bh ae)<|ax _) ?_)))
 intros
 refine aw (ay PP) ?_
 intros
 have m0:∀{z n:Int},0<n->0<=z%n/\z%n<n:=λh=>{Qx _<|QZ h,QD _ h};have a1:∀{i:Nat},i<3->∃z:Int,P4 (cs.map V.int) (i:Int)=some (.int z):=λ{i} h=>{cs[i]'(),dC<|by rw[Qo,Q3 ()];rfl};let{c0,e0}:=a1 (i:=0) (_);let{c1,e1}:=a1 (i:=1) (_);let{c2,e2}:=a1 (i:=2) (_);refine{_,M,k,_,M,.inl J.di,λls I=>?_};rw[EB];obtain⟨ks,a2⟩:∃ks:List Int,x.st.kv.map (·.1)=ks:={_,M};have kl:ks.length<=200:=by rw[<-a2,Q0];exact J.le
 have kb:∀z∈ks,0<=z/\z<b/\(aI x.st.kv z).isSome=true:=λz hz=>by
  rw[<-a2]at hz;let{p,hp,rfl}:=Qf.mp hz;exact{(J.kb p hp).1,(J.kb p hp).2.1,mem_keys.mp hz}
 rw[a2];have s1:=ak (o:= .lst<|ks.map V.int) I;have a3:upd H ls (.lst<|ks.map V.int) ls=some (.lst<|ks.map V.int):=A9;have an:¬Wk G k ls:=λz=>z.elim (J.D.out I) λz=>by rw[z,J.di]at I;cases I
 have bj:ls≠sy:=λz=>by rw[z,hs]at I;cases I
 (try dsimp only)
 generalize upd H ls (.lst<|ks.map V.int)=H1 at s1 a3⊢;have J1:=(J.same s1).wide (show b<=b+2 by lia);have Z:=s1 _ _ hl;refine aX (λB H'=>B=[some (.ref d),some (.ref k),some (.ref sy),some (.ref l),some (.ref ls),some (.bl true),none]/\H'=H1) (λnx go=>go _ _ ⟨M,M⟩)<|λB H2 w=>?_;let{rfl,rfl}:=w;refine aX (λB H'=>B=[some (.ref d),some (.ref k),some (.ref sy),some (.ref l),some (.ref ls),some (.bl true),none]/\∃G1 x1,Oo K t H' d k G1 x1 (b+2)/\x1.now<=x.now+1/\Fr (Wk G k) (Wk G1 k) H2 H'/\∀z,(aI x.st.kv z).isSome=true->(aI x1.st.kv z).isSome=true) (λnx go=>?_)<|λB H3 w=>?_
 .refine{_,M,l,_,_,_,M,M,Dz.of Z,e0,_,_,M,M,(by show(0:Int)<4;decide),_,_,M,M,_,M,cu (λ_=>?_)<|λ_=>?_}
  .refine{_,M,_,M,_,M,_,M,l,_,_,_,M,M,Dz.of Z,e1,ls,ks,c1,b,M,a3,kl,λz hz=>{(kb z hz).1,(kb z hz).2.1},b0,λH4 z s4 z0 z1=>?_};let{v0,v1}:=m0 (z:=c2) (show(0:Int)<10^(12:Int).toNat by decide);have ap:(10:Int)^(12:Int).toNat=10^12:=M;have a5:(10:Int)^(11:Int).toNat=10^11:=M;refine{_,M,l,_,_,_,M,M,Dz.of<|s4 _ _ Z,e2,_,_,M,M,{(_),(_),(_)},_,_,M,M,(_),_,_,M,M,{(_),(_),(_)},_,_,M,M,.inl {(_),(_)},_,_,M,M,?_};refine{d,k,z,_,G,x,b+2,M,J1.same s4,(),z0,z1,by rw[a5];lia,by rw[a5];rw[ap]at v1⊢;lia,(),λH5 G5 x5 J5 n5 f5 mo=>?_};exact go _ _ {M,G5,x5,J5,n5,(Fr.of_same s4).trans f5,mo}
  .exact go _ _ {M,G,x,J1,(),Fr.refl,λz hz=>hz}
 let{rfl,G3,x3,J3,n3,f3,mo}:=w;let{a6,bo}:=f3 _ _ nl Z;let{O,be}:=f3 _ _ an a3;let{ac,U}:=f3 _ _ ns (s1 _ _ hs);refine aX (λB H'=>∃v,B=[some (.ref d),some (.ref k),some (.ref sy),some (.ref l),some (.ref ls),some (.bl true),v]/\∃G1 x1 tl',Oo K t H' d k G1 x1 (b+2)/\x1.now<=x.now+2/\H' sy=some (.dK<|aL tl')/\¬Wk G1 k sy/\(∀z,(aI tl' z).isSome=true->(aI tl z).isSome=true/\(aI x1.st.kv z).isSome=true)/\tl'.length<=tl.length/\(∀b o,b≠sy->¬Wk G3 k b->H3 b=some o->H' b=some o/\¬Wk G1 k b)) (λnx go=>?_)<|λB H4 w=>?_
 .have skip:∀H',Ba H3 H'->nx [some (.ref d),some (.ref k),some (.ref sy),some (.ref l),some (.ref ls),some (.bl true),none] H':=λH' s=>go _ _ {none,M,G3,x3,tl,J3.same s,(),s _ _ ac,U,λz hz=>{hz,mo z<|su z hz},Q4 _,λb o _ n e=>{s _ _ e,n}};refine{_,M,l,_,_,_,M,M,Dz.of a6,e0,_,_,M,M,(by show(0:Int)<4;decide),_,_,M,M,_,M,cu (λ_=>?_)<|λ_=>skip _ (Ba.refl _)};refine{_,M,Qc _,λp np=>{ls,p,ks.map V.int,M,M,Dz.of (by rwa[ag (am O np)]),Dz.of A9,_,M,?_}};have s4:=ak (o:= .lst []) np;generalize upd H3 p (.lst [])=H4 at s4⊢;clear np;cases ks with
  |nil=>exact bL<|skip _ s4
  |cons a r=>
   refine b7 ?_;have len:(((a::r).map V.int).length:Int)=((a::r).length:Int):=by rw[Q0]
   have lp:(0:Int)<((a::r).length:Int):=by rw[Qi];lia
   let{i0,i1}:=m0 (z:=c0/4) lp;obtain⟨z,ez⟩:∃z,(a::r)[(c0/4%((a::r).length:Int)).toNat]?=some z:={_,Q3 ()};have b2:P4 ((a::r).map V.int) (c0/4%((a::r).length:Int))=some (.int z):=by
    have:c0/4%((a::r).length:Int)=((c0/4%((a::r).length:Int)).toNat:Int):=();rw[this];refine dC ?_;rw[Qo,ez];rfl
   let{z0,z1,zs}:=kb z (Q1 ez);let{v,ev}:=Zw.mp (mo z zs);have J4:=J3.same s4;have a0:=s4 _ _ O;have a4:=s4 _ _ ac;have sk:sy≠k:=λe=>U (.inr e);refine aX (λB H'=>B=[some (.ref d),some (.ref k),some (.ref sy),some (.ref l),some (.ref ls),some (.bl true),some (.int z)]/\H'=H4) (λnx go=>?_)<|λB H5 w=>?_
   .exact{_,M,_,M,l,_,_,_,M,M,Dz.of<|s4 _ _ a6,e0,_,_,M,M,{(_),(_)},_,M,ls,_,M,.inl<|Dz.of a0,_,_,M,M,by rwa[len],ls,_,_,_,M,M,Dz.of a0,by rwa[len],go _ _ ⟨M,M⟩}
   let{rfl,rfl}:=w;refine aX (λB H'=>B=[some (.ref d),some (.ref k),some (.ref sy),some (.ref l),some (.ref ls),some (.bl true),some (.int z)]/\Ob K t H' d G3 x3/\H' k=some (.dK<|aL<|bB x3.st.kv z)/\Fr (Wk G3 k) (Wk G3 k) H5 H') (λnx go=>?_)<|λB H5 w=>?_
   .refine{_,M,.inr<|.inr<|.inl {M,.inl {_,J4.di}},_,M,k,_,Sum.inl z,v,M,M,J4.di,N8.trans ev,?_};rw[oR];exact go _ _ {M,J4.D.upd J4.nk (λxs z=>by rw[J4.di]at z;cases z),A9,Fr.wu}
   let{rfl,D5,h5,f5}:=w;let{Y,_}:=f5 _ _ U a4;refine aX (λB H'=>B=[some (.ref d),some (.ref k),some (.ref sy),some (.ref l),some (.ref ls),some (.bl true),some (.int z)]/\Ob K t H' d G3 x3/\H' k=some (.dK<|aL<|bB x3.st.kv z)/\H' sy=some (.dK<|aL<|bB tl z)/\∀b o,b≠sy->H5 b=some o->H' b=some o) (λnx go=>?_)<|λB H6 w=>?_
   .have dg:=OS.k (k:=Sum.inl z) Y;rw[N8]at dg;refine{_,M,_,M,sy,_,M,dg,_,M,?_};cases et:aI tl z with
    |none=>
     refine bL<|go _ _ {M,D5,h5,?_,λb o _ e=>e};rw[Y];congr 3;exact(ER et).symm
    |some y=>
     refine b7 {_,M,.inr<|.inr<|.inl {M,.inl {_,Y}},_,M,sy,_,Sum.inl z,y,M,M,Y,N8.trans et,?_};rw[oR];refine go _ _ {M,D5.upd (λe=>U<|.inl e) (λxs z=>by rw[Y]at z;cases z),by rwa[ag (Ne.symm sk)],A9,λb o n e=>by rwa[ag n]}
   let{rfl,D6,h6,b3,k6}:=w;let{dx,hh,cc,hd}:=D6.ob;have lk:(Str.ofString<|toString z).length<=61:=fL () ();have big:1000<=sizeLine:=by decide
   have b5:(Str.ofString "drop ").length=5:=by decide+kernel
   refine{_,M,_,M,b7 {_,M,d,dx,_,M,hd,(by kernel_rfl),_,M,_,M,js () (),_,_,M,M,(),?_}};refine{d,G3,x3,(P':Str),_,by rw[FI];rfl,D6,.drop z z0 () (by have:=J3.ma;lia) (mo z zs) λx' px H7 G7 l7 D7 f7 bt _ af=>?_};refine{Qc _,λp np=>{l7,p,[],M,M,Dz.of (by rwa[ag (am af np)]),Dz.of A9,?_}};have s8:=ak (o:= .lst []) np;have kv:x'.st.kv=bB x3.st.kv z:=by rw[px.2.2];exact N4.three_kv
   let{b4,b8}:=f7.wk (d:=k) _ _ U b3;refine go _ _ {_,M,G7,x',bB tl z,(J3.drop h6 px D7 f7).same s8,by rw[px.1];lia,s8 _ _ b4,b8,λy hy=>?_,Qm _ _,λb o n1 n2 e=>?_}
   .rw[cX]at hy;rw[kv,cX];split at hy
    .cases hy
    .rw[VA (by assumption)];exact{hy,mo y<|su y hy}
   .let{e7,n7}:=f7.wk (d:=k) _ _ n2 (k6 b o n1 (f5 _ _ n2<|s4 _ _ e).1);exact{s8 _ _ e7,n7}
 let{v,rfl,G4,x4,ba,J4,n4,a4,bb,tm,al,f4}:=w;refine{_,M,q H4 G4 x4 ba J4 n4 a4 bb tm al λb o n1 n2 e=>?_};let{e3,n3}:=f3 _ _ n2 (s1 _ _ e);exact f4 b o n1 n3 e3
def Jq{k:Key}(h:(aL kvs)[i]?=some (k,v)):∃g:Int,k=Sum.inl g/\(kvs.map (·.1))[i]?=some g:=by
 unfold aL at h;rw[Qo]at h;rw[Qo];cases e:kvs[i]? with
 |none=>rw[e]at h;cases h
 |some p=>rw[e]at h;cases h;exact⟨p.1,M,M⟩
def xC{d D:Rl}{ob:Obj}{kvs:RY}{ys:Rq}(hd:H d=some (.dK kvs))(hD:upd H d (.frz ob<|.dK kvs) D=none):Ba H (upd (upd (upd H d<|.frz ob<|.dK kvs) D<|.lst ys) d<|.dK kvs)/\upd (upd (upd H d<|.frz ob<|.dK kvs) D<|.lst ys) d (.dK kvs) D=some (.lst ys)/\H D=none/\upd (upd H d<|.frz ob<|.dK kvs) D (.lst ys) d=some (.frz ob<|.dK kvs):=by
 have nd:D≠d:=λz=>by rw[z,A9]at hD;cases hD
 have I:H D=none:=by rw[ag nd]at hD;exact hD
 refine{λb o e=>?_,by rw[ag nd,A9],I,by rw[ag (Ne.symm nd),A9]};by_cases c:b=d
 .subst c;rwa[A9,<-hd]
 .rwa[ag c,ag (am e I),ag c]
def rk(kd:Int)(a b:Int):Prop:=if kd=0 then OB a<OB b\/(OB a=OB b/\a<b)else if kd=1 then a<b else b<a
def yz(K:Wi):Sp:=λvs H Q _=>∃(g k sn:Rl)(ts:List Tp)(kv:Rs)(zs:Rn)(kd lo:Int)(hi:V),vs=[.ref g,.ref k,.ref sn,.int kd,.int lo,hi]/\H g=some (.lst<|(P5 ts).map V.str)/\H k=some (.dK<|aL kv)/\H sn=some (.lst<|zs.map V.int)/\g≠sn/\Bn kd lo hi/\(∀u∈ts,Ten u/\aI kv u.k=some u.v/\hN kd (R1 kd (.int lo) hi) (R0 kd (.int lo) hi) u.k=true)/\(zs++ts.map (·.k)).Pairwise (rk kd)/\zs.length+ts.length<=90000/\
 ∀H',(∀c o,c≠sn->H c=some o->H' c=some o)->H' sn=some (.lst ((zs++ts.map (·.k)).map V.int))->Q (.bl true) H'
def y4(T:Txt K mg t w):E7 P w K mg base NX 3 t.rP t.lR ["_law_texts",ge,nX,ff,gr,fx] (yz K):=by
 refine T.Bk.okl yI λ_ _ _ s H vs Q E Z h _=>?_;intro X;let{g,k,sn,ts,kv,zs,kd,lo,hi,rfl,hg,hk,hs,gs,Wh,a1,so,ln,q}:=h;refine bU (λx=>(gu VU M (dZ DA) (PZ 6)
    x)) ?_
 refine ah (N7 7<|bR Z1 XC XD uT Pg<|aa aR ae)
   (ah (N7 8<|bP nG {_} T.Km Cz (aa (aP aK RH ai<|λ_ _=>M) ae))
   (ah (aM (PW.pt<|kW (ar Ar (aD aC {_} T.bG a7 (aa RH ae)) ai<|ax _)<|kW (qM<|qN (eF Z) R9 HW)<|iD<|ar Ar (aP aK RH ai<|λ_ _=>M) (bP bO {_} T.kI fF (aa (gV (eF Z) HW R9<|λ_ _=>M) ae))<|ax _)
    (au<|ay gW)
    aA)
   (ah (aM (cz<|br<|aE (m4 T) Z.mo {_} T.zh T.qy.kp T.zA .nil az (aa O8<|aa OX<|aa PP<|aa R9 ae))
    (au<|ay gW)
    aA)
   (ah (aM (PW.pt<|dG (ar (FX K M Z.u20) M2 (bh ae)<|ax _)<|cI<|cz<|ar (LN<|ZS (Nat.le_add_right _ 20) Z.u20) (aE (y3 T) Z.mo {_} T.AF T.rS.kp T.Bd .nil az (aa O8<|aa (aP aK M2 (uv oi ai)<|λ_ _=>M) ae)) (aE (y3 T) Z.mo {_} T.AF T.rS.kp T.Bd .nil az (aa O8<|aa R9 ae))<|ax _)
    (au<|ay gW)
    aA)
   (aw (aO<|bR Qk QJ QK cp M2<|aa R9 ae) ?_)))))
 intros
 refine aw (ay gW) ?_
 intros
 have U:0<=kd/\kd<3:=by rcases Wh.ok.kd with rfl|rfl|rfl<;>decide
 have big:1000<=sizeLine:=by decide
 refine{_,M,g,M,{_,Dz.of hg},xT (K:=K) (a:=g) (xs:=(P5 ts).map V.str) (λi B H'=>∃(v6 v7 v8:RW),B=[some (.ref g),some (.ref k),some (.ref sn),some (.int kd),some (.int lo),some hi,v6,v7,v8]/\(∀c o,c≠sn->H c=some o->H' c=some o)/\H' sn=some (.lst ((zs++(ts.take i).map (·.k)).map V.int))) {none,none,none,M,λ_ _ _ h=>h,by rwa[List.take_zero,Xf,ZC]} (λi B H' _ w=>?_) (λi z B H1 hz w=>?_)<|λB H' w=>?_}
 .let{_,_,_,rfl,kp,_}:=w;exact Dz.of<|kp _ _ gs hg
 .let{v6,v7,v8,rfl,kp,a3}:=w;obtain⟨u,rfl,eu⟩:∃u,z= .str (PL (u.k,PY u.v))/\ts[i]?=some u:=by
   unfold P5 at hz;rw[Qo,Qo]at hz;cases c:ts[i]? with
   |none=>rw[c]at hz;cases hz
   |some u=>rw[c]at hz;cases hz;exact⟨u,M,M⟩
  have hi':i<ts.length:=(Q2.mp eu).1;let{{k0,k1,j,ej,j0,j1},a2,uh}:=a1 u (Q1 eu);rw[ej]at a2⊢;show zW _ _ _ _ H1;have fk:=y7 k0 k1;have fj:=y7 j0 j1;have lk:=fL k0 k1;have lj:=fL j0 j1;have sp:Txt.split (PL (u.k,j)) (Rb:Str)=[nu u.k,nu j]:=by
   have e:PL (u.k,j)=Txt.join (Rb:Str) [nu u.k,nu j]:=by rw[fR];rfl
   rw[e,Ls];refine oj (c:=32) (List.cons_ne_nil _ _) λa ha=>?_;rcases Qb.mp ha with rfl|ha
   .intro y;have:=fk.2.2 32 y;lia
   .rw[Q9.mp ha];intro y;have:=fj.2.2 32 y;lia
  have rl:=CV (p:=(u.k,j)) ⟨k0,k1,j0,j1⟩;refine aX (λB H'=>∃l,B=[some (.ref g),some (.ref k),some (.ref sn),some (.int kd),some (.int lo),some hi,some (.str<|PL (u.k,j)),some (.ref l),v8]/\Ba H1 H'/\H' l=some (.lst [.str (nu u.k),.str (nu j)])) (λnx go=>?_)<|λB H2 w=>?_
  .refine{_,M,M,_,_,M,M,∅,by show(PL (u.k,j)).length<=_;lia,λl nl=>?_};refine go _ _ {l,M,ak nl,?_};rw[A9];show some (HO.lst<|(Txt.split (PL (u.k,j)) (Rb:Str)).map V.str)=_;rw[sp];rfl
  let{l,rfl,s2,e2}:=w;have a6:=s2 _ _ (kp _ _ (λe=>by rw[e,hs]at hk;cases hk) hk);have I:=s2 _ _ a3;have dg:=OS.k (k:=Sum.inl u.k) a6;rw[N8,a2]at dg;refine aX (λB H'=>B=[some (.ref g),some (.ref k),some (.ref sn),some (.int kd),some (.int lo),some hi,some (.str<|PL (u.k,j)),some (.ref l),some (.int u.k)]/\H'=H2) (λnx go=>{_,M,l,_,_,_,M,M,Dz.of e2,M,_,u.k,M,fk.2.1,Qr lk (_),go _ _ ⟨M,M⟩})<|λB H3 w=>?_;let{rfl,rfl}:=w;refine aX (λB H'=>B=[some (.ref g),some (.ref k),some (.ref sn),some (.int kd),some (.int lo),some hi,some (.str<|PL (u.k,j)),some (.ref l),some (.int u.k)]/\H'=H3) (λnx go=>?_)<|λB H3 w=>?_
  .exact{_,M,l,_,M,.inl<|Dz.of e2,M,_,M,AL M {_,M,_,M,k,_,M,dg,_,M,bL {_,M,l,_,_,_,M,M,Dz.of e2,M,_,M,_,M,k,_,M,dg,j,M,js j0 j1,M,_,M,AL M<|go _ _ ⟨M,M⟩}}}
  let{rfl,rfl}:=w;refine aX (λB H'=>B=[some (.ref g),some (.ref k),some (.ref sn),some (.int kd),some (.int lo),some hi,some (.str<|PL (u.k,j)),some (.ref l),some (.int u.k)]/\H'=H3) (λnx go=>?_)<|λB H3 w=>?_
  .refine{_,M,_,M,_,M,_,M,kd,lo,u.k,hi,M,Wh,_,M,?_};rw[uh];exact bL<|go _ _ ⟨M,M⟩
  let{rfl,rfl}:=w;obtain⟨ws,Y⟩:∃ws,zs++(ts.take i).map (·.k)=ws:={_,M};have ac:(ws++ [u.k]).Pairwise (rk kd):=by
   have e:zs++ts.map (·.k)=(ws++ [u.k])++(ts.drop<|i+1).map (·.k):=by
    conv=>lhs;rw[<-QB (i+1) ts,Q8,<-Ql]
    rw[Qp,eu,Q8,<-Ql,Y];rfl
   rw[e]at so;exact(Qj.mp so).1
  have wl:ws.length<=90000:=by
   rw[<-Y,Q7,Q0,Qe];lia
  rw[Y]at I;refine aX (λB H'=>B=[some (.ref g),some (.ref k),some (.ref sn),some (.int kd),some (.int lo),some hi,some (.str<|PL (u.k,j)),some (.ref l),some (.int u.k)]/\Ba H3 H') (λnx go=>?_)<|λB H4 w=>?_
  .refine{_,M,Qc _,λp np=>{sn,p,ws.map V.int,M,M,Dz.of (by rw[ag (am I np)];exact I),Dz.of A9,_,M,?_}};have s3:=ak (o:= .lst []) np;have O:=s3 _ _ I;generalize upd H3 p (.lst [])=H6 at s3 O⊢;by_cases ne:ws=[]
   .rw[ne];exact bL<|go _ _ ⟨M,s3⟩
   obtain⟨y,ey⟩:∃y,ws[ws.length-1]?=some y:={_,Q3<|by have:=Z4.mpr ne;lia};have ry:rk kd y u.k:=(Qj.mp ac).2.2 y (Q1 ey) u.k Q6;have em:((ws.map V.int).isEmpty !=true)=true:=by
    cases ws with
    |nil=>exact VG M ne
    |cons a r=>rfl
   rw[em];refine b7 {_,M,_,M,_,M,sn,_,_,.int y,M,M,Dz.of O,zE ne ey,kd,y,M,U.1,U.2,λH4 p4 a4 b4 s4 _ h4 e4=>?_};refine{_,M,_,M,kd,u.k,M,U.1,U.2,λH5 p5 a5 b5 s5 _ h5 e5=>?_};refine{p4,p5,[a4,b4],[a5,b5],M,M,OO.of<|s5 _ _ h4,OO.of h5,_,M,?_};have lt:HT.lexLt [a4,b4] [a5,b5]=true:=by
    let{rfl,rfl}:=W7 (e4.trans {_}:(a4,b4)=((if kd=0 then(OB y,y)else if kd=1 then(y,0)else(-y,0)).1,(if kd=0 then(OB y,y)else if kd=1 then(y,0)else(-y,0)).2));let{rfl,rfl}:=W7 (e5.trans {_}:(a5,b5)=((if kd=0 then(OB u.k,u.k)else if kd=1 then(u.k,0)else(-u.k,0)).1,(if kd=0 then(OB u.k,u.k)else if kd=1 then(u.k,0)else(-u.k,0)).2));rw[HT.lexLt_cons,HT.lexLt_cons];unfold rk at ry;rcases Wh.ok.kd with rfl|rfl|rfl
    .rw[VB M]at ry;simp only[if_true];split
     .rw[VA ()];exact VD ()
     .exact VD ()
    .rw[VA (_),VB M]at ry;show(if y=u.k then _ else decide (y<u.k))=true;rw[VA ()];exact VD ry
    .rw[VA (_),VA (_)]at ry;show(if-y= -u.k then _ else decide (-y< -u.k))=true;rw[VA ()];exact VD ()
   rw[lt];exact bL<|go _ _ {M,(s3.trans s4).trans s5}
  let{rfl,s3}:=w;have O:=s3 _ _ I;refine{_,M,.inl {M,_,Dz.of O},_,M,sn,_,_,M,M,O,aW (by rw[Q0];lia),?_};refine{_,_,_,M,λc o n e=>by rw[ag n];exact s3 _ _<|s2 _ _<|kp c o n e,?_};rw[A9,Qp,eu,Q8 (l₁:=ts.take i),<-Ql,Y,Q8 (l₁:=ws)];rfl
 .let{_,_,_,rfl,kp,a0}:=w;unfold P5 at a0;rw[Q0,Q0,Qy]at a0;exact q H' kp a0
def BI{z:Str}{n:Nat}(O:0<n)(h:n<z.length):sg (Txt.slice z (some (n:Int)) none)=(sg z).drop n:=by
 have L:=dD z;have I:∀is:List Nat,is.filterMap (z.cps[·]?)=is.filterMap ((sg z)[·]?):=λis=>by congr 1;funext i;simp[sg]
 have e:Builtin.Str.strSliceIndices (some (n:Int)) none 1 z.length=Builtin.Str.strSliceIndices (some ((n:Nat):Int)) (some (z.length:Int)) 1 z.length:=by
  unfold Builtin.Str.strSliceIndices;simp;rw[VA (show ¬((z.length:Nat):Int)<0 by lia)];congr 1;lia
 rw[tO z _ _ _ (e.trans<|StrLaws.strSliceIndices_plain (a:=n) (b:=z.length) ()<|Q4 _) (I _)];rw[VA (by simp;lia)];rw[StrLaws.picks (sg z) (z.length-n) n ()];exact Qs<|by rw[Qz];lia
def FG(a b:Str):sg (a++b)=sg a++sg b:=by
 unfold sg;rw[Str.cps_append,QF]
def F6{w:Str}(h:0<w.length):Txt.slice ((J':Str)++w) (some 5) none=w:=by
 have I:(J':Str).length=5:=by decide+kernel
 refine yD ?_;have:=BI (z:=(J':Str)++w) (n:=5) (_) (by rw[bq];lia);rw[show(some (5:Int))=some ((5:Nat):Int) from rfl,this,FG];exact List.drop_left'<|by rw[<-dD];exact I
def Aw{w:Str}:Txt.startswith ((J':Str)++w) (J':Str)=true:=by
 have z:(J':Str).length=5:=by decide+kernel
 unfold Txt.startswith
 rw[StrLaws.subAt_eq];have e:(((J':Str)++w).cps.toList.drop 0).take (J':Str).length=(J':Str).cps.toList:=by
  have:=FG (J':Str) w;unfold sg at this;rw[Zf,this];exact Vp<|by show(J':Str).cps.toList.length=_;rw[<-dD]
 rw[Qq];refine{VD (by rw[bq];lia),?_};rw[e];simp
def IY{w:Str}:¬V.str ((J':Str)++w)=V.str (p7:Str):=λe=>by
 have z:(J':Str).length=5:=by decide+kernel
 have I:(p7:Str).length=3:=by decide+kernel
 have:=VT Str.length (V.str.inj e);rw[bq]at this;lia
def Fq{kd:Int}{r:RW}(h:MB st ks kd n av e (ts.map Tp.kv) r)(z:cq ks):(ts.map (·.k)).Pairwise (rk kd):=by
 rcases h with⟨rfl,m,g,_⟩|⟨up,rfl,I,_,_⟩
 .refine QM.mpr<|(QM.mp g.rw.so).imp λ{a b} h=>?_;unfold rk;rwa[VB M]
 .have e2:(ts.map Tp.kv).map (·.1)=ts.map (·.k):=by rw[QS];rfl
  rw[<-e2,I];refine((AN (up:=up) z).sublist<|ZV _ _).imp λ{a b} h=>?_;unfold rk;unfold uw at h;cases up
  .rwa[VA (_),VA (_)]
  .rwa[VA (_),VB M]
def IW{kd u y:Int}{a:V}(o:Og kd a e)(o':Og kd a' e)(h1:hN kd a e u=true)(h2:hN kd a' e u=false)(z:hN kd a' e y=true):rk kd u y:=by
 unfold rk;rcases o.kd with rfl|rfl|rfl
 .let{i,j,rfl,rfl,_}:=o.s;let{I,U,rfl,e2,_}:=o'.s;cases e2;rw[qX]at h1 z;rw[<-Xw,qX]at h2;rw[VB M];lia
 .rw[VA (_),VB M];let{i,rfl,_,he}:=o.u;let{I,rfl,_,_}:=o'.u;rcases he with rfl|⟨j,rfl,_⟩
  .have h1:decide (i<=u)=true:=h1;have h2:decide (I<=u)=false:=h2;have z:decide (I<=y)=true:=z;have:=VF h1;have:=VV h2;have:=VF z;lia
  .have h1:(decide (i<=u)&&decide (u<j))=true:=h1;have h2:(decide (I<=u)&&decide (u<j))=false:=h2;have z:(decide (I<=y)&&decide (y<j))=true:=z;rw[Qq]at h1 z;rw[h1.2,Bool.and_true]at h2;have:=VV h2;have:=VF z.1;lia
 .rw[VA (_),VA (_)];let{j,rfl,_,ha}:=o.d;let{U,e2,_,O}:=o'.d;cases e2;have hu:j<=u:=by
   rcases ha with rfl|⟨i,rfl,_⟩
   .exact VF<|show decide (j<=u)=true from h1
   .have h1:(decide (j<=u)&&decide (u<=i))=true:=h1;rw[Qq]at h1;exact VF h1.1
  rcases O with rfl|⟨I,rfl,_⟩
  .have h2:decide (j<=u)=false:=h2;exact VG hu<|VV h2
  .have h2:(decide (j<=u)&&decide (u<=I))=false:=h2;have z:(decide (j<=y)&&decide (y<=I))=true:=z;rw[VD hu,Zy]at h2;rw[Qq]at z;have:=VV h2;have:=VF z.2;lia
structure PH(K:Wi)(t:NZ)(H:Hp)(d k sy sn ce:Rl)(G:Ro)(x:O9)(b:Int)(cs zs:Rn)(tl:Rs)(kd:Int)(av e a':V):Prop where
 J:Oo K t H d k G x b
 hc:H ce=some (.lst<|cs.map V.int)/\¬Wk G k ce
 hs:H sy=some (.dK<|aL tl)/\¬Wk G k sy
 hn:H sn=some (.lst<|zs.map V.int)/\¬Wk G k sn
 cn:ce≠sn
 so:zs.Pairwise (rk kd)
 be:∀z∈zs,∀y,0<=y->hN kd a' e y=true->rk kd z y
 st:∀z,(aI tl z).isSome=true->(aI x.st.kv z).isSome=true/\(hN kd av e z=true->hN kd a' e z=true\/z∈zs)
 sl:tl.length<=200
 le:∀z,0<=z->hN kd a' e z=true->hN kd av e z=true
def Ob.kept{d sn:Rl}{x:O9}(D:Ob K t H d G x)(n:¬G sn)(U:∀xs,H sn≠some (.tup xs))(I:∀c o,c≠sn->H c=some o->H' c=some o):Ob K t H' d G x:=by
 let{dx,h,c,F,hd,A,Y,iff}:=D;refine{dx,h,c,F,I _ _ (λz=>n<|(iff sn).mpr<|.inl z.symm) hd,A.keep (λb hb=>?_)<|λb xs e=>I b _ (λz=>U xs<|z▸e) e,Y,iff};let{o,O,_}:=A.dom hb;rw[O];exact I b o (λz=>n<|(iff sn).mpr<|.inr<|z▸hb) O
def Ob.sz{d:Rl}{x:O9}(D:Ob K t H d G x):O0 x.st:=by
 let{dx,h,c,F,hd,A,I,iff}:=D;let{s,l,wr,p,h,Fs,Fl,Wh,O,g}:=A;let{_,_,_,_,_,z}:=Wh.sl;exact z
def EW{ws:Ry}{x:Str}:gM ((ws++ [x]).map V.str) none (some<|-1)=ws.map V.str:=by
 unfold gM HT.sIx;dsimp only;rw[VB (_),Q0,Q7];rw[show(-1+((ws.length+ [x].length:Nat):Int)).toNat=ws.length by show(-1+((ws.length+1:Nat):Int)).toNat=_;lia,Zf,Nat.sub_zero,Q8];exact Vp<|by rw[Q0]
def zF{ws:Ry}{x:Str}:P4 ((ws++ [x]).map V.str) (-1)=some (.str x):=by
 unfold P4 Pe;rw[Q0,Q7,VA (_),VB (by show-((ws.length+1:Nat):Int)<=-1;lia)];rw[show(-1+((ws.length+ [x].length:Nat):Int)).toNat=ws.length by show(-1+((ws.length+1:Nat):Int)).toNat=_;lia,Q8];simp
section
variable{d k sy sn ce:Rl}{x:O9}{b b':Int}{cs zs:Rn}{tl tl':Rs}{kd:Int}
def PH.wide(w:PH K t H d k sy sn ce G x b cs zs tl kd av e a')(h:b<=b'):PH K t H d k sy sn ce G x b' cs zs tl kd av e a':={w.J.wide h,w.hc,w.hs,w.hn,w.cn,w.so,w.be,w.st,w.sl,w.le}
def PH.fr(w:PH K t H d k sy sn ce G x b cs zs tl kd av e a')(D:Ob K t H' d G' x)(f:Fr G G' H H'):PH K t H' d k sy sn ce G' x b cs zs tl kd av e a':=
 {w.J.fr D f,f.wk _ _ w.hc.2 w.hc.1,f.wk _ _ w.hs.2 w.hs.1,f.wk _ _ w.hn.2 w.hn.1,w.cn,w.so,w.be,w.st,w.sl,w.le}
def PH.same(w:PH K t H d k sy sn ce G x b cs zs tl kd av e a')(s:Ba H H'):PH K t H' d k sy sn ce G x b cs zs tl kd av e a':=w.fr (w.J.D.same s) (Fr.of_same s)
def PH.deed(w:PH K t H d k sy sn ce G x b cs zs tl kd av e a')(J:Oo K t H' d k G' x' b')(hs:H' sy=some (.dK<|aL tl'))(ns:¬Wk G' k sy)(O:∀z,(aI tl' z).isSome=true->(aI tl z).isSome=true/\(aI x'.st.kv z).isSome=true)(I:tl'.length<=tl.length)(f:∀b o,b≠sy->¬Wk G k b->H b=some o->H' b=some o/\¬Wk G' k b):PH K t H' d k sy sn ce G' x' b' cs zs tl' kd av e a':=by
 have U:ce≠sy:=λz=>by have h:=w.hc.1;rw[z,w.hs.1]at h;cases h
 have Y:sn≠sy:=λz=>by have h:=w.hn.1;rw[z,w.hs.1]at h;cases h
 exact{J,f _ _ U w.hc.2 w.hc.1,⟨hs,ns⟩,f _ _ Y w.hn.2 w.hn.1,w.cn,w.so,w.be,λz hz=>{(O z hz).2,(w.st z (O z hz).1).2},Qr I w.sl,w.le}
def PH.page(w:PH K t H d k sy sn ce G x b cs zs tl kd av e a')(U:∀c o,c≠sn->H c=some o->H' c=some o)(I:(ts.map (·.k)).Pairwise (rk kd))(Y:∀k v,(k,v)∈ts.map Tp.kv↔(k,v)∈x.st.kv/\hN kd a' e k=true/\R k=false):
  Oo K t H' d k G x b/\(zs++ts.map (·.k)).Pairwise (rk kd)/\(∀z,(aI tl z).isSome=true->(aI x.st.kv z).isSome=true/\(hN kd av e z=true->R z=true\/z∈zs++ts.map (·.k))):=by
 have O:∀{z:Int},z∈ts.map (·.k)->∃v,(z,v)∈x.st.kv/\hN kd a' e z=true/\R z=false:=λh=>by
  let{u,hu,rfl}:=Qf.mp h;exact{u.v,(Y u.k u.v).mp<|QO (f:=Tp.kv) hu}
 refine{{w.J.D.kept (λz=>w.hn.2<|.inl z) (λxs e=>by rw[w.hn.1]at e;cases e) U,U _ _ (λz=>w.hn.2<|.inr z.symm) w.J.di,w.J.nk,w.J.kb,w.J.le,w.J.ma},Qj.mpr {w.so,I,λz hz y hy=>?_},λz hz=>{(w.st z hz).1,λh=>?_}}
 .let{v,Z,h1,_}:=O hy;exact w.be z hz y (w.J.kb _ Z).1 h1
 .rcases(w.st z hz).2 h with h1|h1
  .cases c:R z with
   |true=>exact .inl M
   |false=>
    let{v,ev}:=Zw.mp (w.st z hz).1;let{u,hu,eu}:=Qf.mp ((Y z v).mpr {gZ ev,h1,c});exact .inr<|Q5.mpr (.inr<|Qf.mpr {u,hu,VT Prod.fst eu})
  .exact .inr<|Q5.mpr (.inl h1)
end
def EI:(l.map V.int).all nB=true:=Z0.mpr λx hx=>by
 let{i,_,rfl}:=Qf.mp hx;rfl
def Jx{g:Int}(h:g∈l):Ps (.int g) (l.map V.int)=true:=Vb.mpr {.int g,QO h,by simp[Pc]}
abbrev PJ(sc d k:Rl)(way fst kd lo:Int)(hi:V)(c1:Int)(r:List (Option V)):St:=some (.ref sc)::some (.ref d)::some (.ref k)::some (.int way)::some (.int fst)::some (.int kd)::some (.int lo)::some hi::some (.int c1)::r
def FD(K:Wi):Sp:=λvs H Q _=>∃(a:Rl)(ns:Rn),vs=[.ref a]/\Dz K H a (ns.map V.int)/\ns.length<=63/\∀H',Q (.bl true) H'
set_option tactic.hygienic true in
def LQ(T:Txt K mg t w):E7 P w K mg base NX 13 t.K3 t.Dy [jj] (FD K):=by
 refine T.NL.okl OY λ_ _ _ s H vs Q E hr h _=>?_;intro X;let{sc,ns,rfl,hS,bw,q}:=h;refine ah (N7 1<|lf T.NP (wX T) hr.mo {_} T.NQ T.Kb .nil az)
   (ah (N7 2 jd)
   (ah (N7 3<|aE (ss T) hr.mo {_} T.gE T.eC.kp T.gN .nil az (aa DA<|aa ai ae))
   (ah (N7 4<|aq bf O8 ai)
   (ah (yO (i:=5) OY.nd M (Or.inr M)<|aq aY OX ai)
   (ah (yR (aE (uG T) hr.mo {_} T.HC T.xv.kp T.HJ .nil az (aa (aq bf OX ai)<|aa PP ae))<|yS M<|eX (sK (i:=6) OY.nd M<|Or.inr M)<|eX (sK (i:=7) OY.nd M<|Or.inr M) sJ)
   (ah (yO (i:=8) OY.nd M (Or.inr M)<|aE (ss T) hr.mo {_} T.gE T.eC.kp T.gN .nil az (aa DA<|aa ai ae))
   (ah (yP (i:=9) M (N5.of (M':=["_law_draw"]) (N:=[jj,lm,ge,zp,Ri,ff,gr,fx,Rj,"_law_some","_law_j",eN,ly,nX,lV,Rk,nC,nE,gp,wf]) (N':=[jj,lm,ge,zp,Ri,ff,gr,fx,Rj,"_law_some","_law_j",eN,ly,nX,lV,Rk,nC,nE,gp,wf]) (dsc:=aj xF) M M ∅) (dZ<|aE (wP T) hr.mo {_} T.zi T.qz.kp T.zB .nil az (aa R9<|aa (aq aY (aq bf (aE (ss T) hr.mo {_} T.gE T.eC.kp T.gN .nil az (aa DA<|aa ai ae)) ai) ai)<|aa O8 ae)) (λ_ _ _ _ _=>(aq aY (aq bf DA ai)<|aP (AK K M) (bh<|aa ai<|aa (aq lu ai ai) ae) (aq aY DA ai)<|λ_ _=>M)) OY.nd M M)
   (bU (λx=>aM (ar bX (aq aY (aE (ss T) hr.mo {_} T.gE T.eC.kp T.gN .nil az (aa DA<|aa ai ae)) ai) ai<|ax _) x aA) ?_))))))))
 refine aw (yP (i:=9) M (N5.of (M':=["_law_j"]) (N:=[jj,lm,ge,zp,Ri,ff,gr,fx,Rj,"_law_some","_law_j",eN,ly,nX,lV,Rk,nC,nE,gp,wf]) (N':=[jj,lm,ge,zp,Ri,ff,gr,fx,Rj,"_law_some","",eN,ly,nX,lV,Rk,nC,nE,gp,wf]) (dsc:=aj xF) M M ∅) (fZ {_} T.my (aa (aq bN ai<|aq aY (aq bf R9 ai) ai) ae)) (λ_ _ _ _ _=>(aq bN (aq aY (aq bf pv9 ai)<|aq lu ai ai)<|aq eI (aP (AK K M) (bh<|aa ai<|aa ai<|aa ai<|aa ai ae) (aq aY pv9 ai)<|λ_ _=>M) DA)) OY.nd M M) ?_
 intros
 refine bU (λx=>(gu VU M (IQ {_} T.Kn (aa pv9 ae)) (yS M<|eX (PZ 10)<|eX (PZ 11) sJ)
    x)) ?_
 refine aw (aM (cz<|br<|aE (rB T) hr.mo {_} T.Cg T.vH.kp T.CA .nil az (aa HW<|aa M2<|aa pv11<|aa (aq iE pv10 ai) ae))
    (au<|ay gW)
    aA) ?_
 intros
 refine ah (N7 12<|bP Cw {_} T.NS JO (aa M2 ae))
   (ah (yO (i:=13) OY.nd M (Or.inr M)<|bh ae)
   (ah (N7 14<|aE (wO T) hr.mo {_} T.Jn T.zM.kp T.JV .nil az (aa PP<|aa Pg<|aa RH ae))
   (ah (N7 15<|cQ fO DA (cZ ai)<|cZ ai)
   (bU (λx=>(gu VU M (fZ {_} T.my (aa ai ae)) (PZ 16)
    x)) ?_))))
 refine ah (N7 17 ai)
   (bU (λx=>aM (ar dz (pv 16) (aD aC {_} T.bG a7 (aa pv15 ae))<|ax _) x aA) ?_)
 refine ah (N7 18<|aE (wP T) hr.mo {_} T.zi T.qz.kp T.zB .nil az (aa (aq bN (aP aK pv15 (pv 16)<|λ_ _=>M)<|aq eI (pv 16)<|aq aY O8 ai)<|aa ai<|aa O8 ae))
   (ah (N7 17<|aq bN ai<|aq aY (aq bf (aP aK (pv 18) ai<|λ_ _=>M) ai) ai)
   (aw (aM (cz<|br<|aE (wR T) hr.mo {_} T.Jp T.zO.kp T.JX .nil az (aa HW<|aa M2<|aa pv12<|aa (pv 18) ae))
    (au<|ay gW)
    aA) ?_))
 intros
 refine ah (N7 19<|aT HW T.kx T.rE (jO T) hr.mo T.rK .nil az<|aa (aq bu (aq bu (aq bu aR pv14) aR)<|bP bO {_} T.kI fF (aa (pv 17) ae)) ae)
   (ah (aM (PW.pt<|kW (ar (uy K M hr.u20) (pv 19) (bh ae)<|ax _)<|iD<|cz<|br<|aE (y4 T) hr.mo {_} T.KN T.Bk.kp T.K0 .nil az (aa (cQ fO (pv 19) fP<|cZ<|uv oi ai)<|aa M2<|aa pv13<|aa PP<|aa Pg<|aa RH ae))
    (au<|ay gW)
    aA)
   (bU (λx=>aM (ar bX (aP aK (pv 19) (uv oi ai)<|λ_ _=>M) aR<|ax _) x aA) ?_))
 refine aw (ay<|bK (uy K M hr.u20) (IS<|lh M (N5.of (M':=[eN]) (N:=[jj,lm,ge,zp,Ri,ff,gr,fx,Rj,"_law_some","_law_j",eN,ly,nX,lV,Rk,nC,nE,gp,wf]) (N':=[jj,lm,ge,zp,Ri,ff,gr,fx,Rj,"_law_some","_law_j","",ly,nX,lV,Rk,nC,nE,gp,wf]) (dsc:=aj xF) M M ∅) (IR pv12) (λ_ _ _ _ _=>(PW.pt<|dG (br<|aE (m4 T) hr.mo {_} T.zh T.qy.kp T.zA .nil az (aa Pg<|aa RH<|aa R9<|aa DA ae))<|cI<|ar (wH K M) DA pv14 M))<|λ_ _ _ _ _=>DA) (bh ae)<|ax _) ?_
 intros
 refine ah (aM (cz<|br<|bR Z1 Xh Xi qS (aP aK (pv 19) (uv oi ai)<|λ_ _=>M)<|aa aR ae)
    (au<|ay gW)
    aA)
   (aw (N7 14<|cQ FF (aP aK (pv 19) (uv oi ai)<|λ_ _=>M) (cZ ai) fP) ?_)
 intros
 refine aw (ay gW) ?_
 intros
 rename_i b4 b3 e2 e3 b2 b1 e4 e5 e7 e8 e9 ea b0 eb ec ed ef eh B9 B8 B7 B6 B5 B4 B3 B2 B1 B0
 have m0:∀{z n:Int},0<n->0<=z%n/\z%n<n:=λh=>{Qx _<|QZ h,QD _ h};refine λd dx nx nd ne=>{d,dx,M,A9,λH1 G1 D1 f1=>{M,?_}};have f0:=Di nx nd f1 λb h=> .inl h;have cS:=(PR.of (F:=λ_=>False) hS λ_ _ z=>z).fr f0;clear f0 f1 hS nx nd ne;refine λk nk=>?_;have J0:Oo K t (upd H1 k<|.dK []) d k G1 O9.new (10^11):={D1.same<|ak nk,A9,D1.out nk,(λp hp=>by cases hp),(_),M};have cS:=(cS.wide nk).updG (o:= .dK [])
 (try dsimp only)
 generalize upd H1 k (.dK [])=H2 at J0 cS⊢;clear nk D1;obtain⟨I,ew⟩:∃c:Int,ns.getD (0:Int).toNat 0=c:={_,M};obtain⟨c1,d5⟩:∃c:Int,ns.getD (1:Int).toNat 0=c:={_,M};obtain⟨c2,bz⟩:∃c:Int,ns.getD (2:Int).toNat 0=c:={_,M};refine{_,M,sc,ns,0,M,cS.sq,(_),?_};rw[ew];refine{_,M,_,_,M,M,{(_),(_)},?_}
 (try dsimp only)
 generalize I/2=Z;refine{_,M,_,_,M,M,(by show(0:Int)<3;decide),?_}
 (try dsimp only)
 let{c0,c3}:=m0 (z:=Z) (show(0:Int)<3 by decide);obtain⟨kd,c4⟩:∃kd,Z%3=kd:={_,M};rw[c4]at c0 c3⊢;refine{_,M,_,_,M,M,{(_),(_)},_,M,_,kd,M,c0,c3,λH3 p lo hi s3 hp Wh=>{p,_,M,OO.of hp,M,_,_,M,_,_,M,M,?_}};have J3:=J0.same s3;have al:=cS.fr (Fr.of_same s3);clear J0 cS s3 hp c4;refine{_,M,sc,ns,1,M,al.sq,(_),?_};rw[d5];change B6 _ (PJ sc d k I Z kd lo hi c1 [none,none,none,none,none,none,none,none,none,none,none]) H3;refine aX (λB H'=>∃(l:Rl)(rs:Rn),B=PJ sc d k I Z kd lo hi c1 [some (.ref l),none,none,none,none,none,none,none,none,none,none]/\Ba H3 H'/\H' l=some (.lst<|rs.map V.int)/\H3 l=none/\rs.length<=130/\∀z∈rs,(0:Int)<=z/\z<10^11) (λnx go=>?_)<|λB H4 w=>?_
 .let{n0,n1}:=m0 (z:=c2/4) (show(0:Int)<61 by decide);refine{_,M,_,M,sc,ns,2,M,al.sq,(_),?_};rw[bz];refine{_,_,M,M,{(_),(_)},_,_,M,M,(by show(0:Int)<61;decide),_,M,c1,_,I,M,n0,(),λH5 l xs s5 nl hl lx=>{l,M,{_,Dz.of hl},λD hD=>?_}};refine jk (K:=K) (a:=l) (xs:=xs.map V.int) (λi ys H2=>Ba H5 H2/\∃rs:List Int,ys=rs.map V.int/\rs.length=i/\∀z∈rs,0<=z/\z<10^11) {ak hD,[],M,M,λ_ z=>VG z Z7} (λi ys H2 _ w=>Dz.of<|w.1 _ _ hl) (λi y ys H2 hy w a1=>?_)<|λys H2 w a1=>?_
  .let{s6,rs,rfl,lr,hb}:=w;have hi':i<(xs.map V.int).length:=(Q2.mp hy).1;let{c,rfl,_}:=sO hy;let{m,hm,p0,p1}:=An (c:=c) (n:=2) (L:=[.int 300,.int (10^(10:Int).toNat)]) (P:=λm=>0<m/\m<=10^10) {{(_),(_)},{(_),(_)},trivial} M (_);let{e0,e1}:=m0 (z:=c/2) p0;refine{_,M,_,_,M,M,{(_),(_)},_,_,M,M,{(_),(_),(_)},(by show 2<=sizeLine;decide),λg ng=>{_,M,_,_,M,M,(by show(0:Int)<2;decide),g,_,_,_,M,M,Dz.of A9,hm,_,_,M,M,p0,?_}};have s7:=ak (o:= .lst [.int 300,.int (10^(10:Int).toNat)]) ng;rw[Q0]at hi';refine OA.mk (by rwa[Q0]) (s7 _ _ a1) (aW<|by rw[Q0];lia) {bH (s6.trans s7) hD,rs++ [c/2%m],by rw[Q8];rfl,by rw[Q7,lr];rfl,λz hz=>?_};rcases Q5.mp hz with hz|hz
   .exact hb z hz
   .rw[Q9.mp hz];constructor<;>lia
  .let{s6,rs,rfl,lr,hb}:=w;rw[Q0]at lr;exact go _ _ {D,rs,M,s5.trans s6,a1,bZ s5 hD,(),hb}
 refine aX (λB H'=>∃(l:Rl)(rs:Rn),B=PJ sc d k I Z kd lo hi c1 [some (.ref l),none,none,none,none,none,none,none,none,none,none]/\Ba H3 H'/\H' l=some (.lst<|rs.map V.int)/\H3 l=none/\rs.length<=130/\∀z∈rs,(0:Int)<=z/\z<10^11) (λnx go=>?_)<|λB H5 w=>?_
 .let{l,rs,rfl,s4,hl,nl,ll,hb}:=w;refine{_,M,sc,ns,2,M,(al.fr<|Fr.of_same s4).sq,(_),?_};rw[bz];refine{_,_,M,M,(by show(0:Int)<4;decide),M,_,M,cu (λ_=>?_)<|λ_=>go _ _ ⟨l,rs,M,s4,hl,nl,ll,hb⟩};let{n0,n1}:=m0 (z:=c1/4) (show(0:Int)<111 by decide);refine{_,M,_,_,M,M,{(_),(_)},_,_,M,M,(by show(0:Int)<111;decide),_,_,M,M,?_}
  (try dsimp only)
  generalize c1/4%111=mn at n0 n1⊢;refine{20+mn,M,(),(),λD hD=>vk (n:=(20+mn).toNat) (lo:=0) (λi ys H2=>Ba H4 H2/\∃rs:List Int,ys=rs.map V.int/\rs.length=i/\∀z∈rs,0<=z/\z<10^11) {ak hD,[],M,M,λ_ z=>VG z Z7} (λi ys H2 hi' w a1=>?_)<|λys H2 w a1=>?_}
  .let{s6,rs,rfl,lr,hb}:=w;let{m,hm,p0,p1}:=An (c:=c1) (n:=4) (L:=[.int 1,.int 7,.int 700,.int 65536]) (P:=λm=>0<=m/\m<=65536) {{(_),(_)},{(_),(_)},{(_),(_)},{(_),(_)},trivial} M (_);let{e0,e1}:=m0 (z:=c1/4) (show(0:Int)<10^(10:Int).toNat by decide);have d7:(10:Int)^(10:Int).toNat=10^10:=M;have x0:0<=m*(0+(i:Int)):=Xn p0 ();have x1:m*(0+(i:Int))<=65536*130:=Int.mul_le_mul p1 () () (_);refine{_,M,_,_,M,M,{(_),(_)},_,_,M,M,{(_),(_),(_)},_,_,M,M,(_),(by show 4<=sizeLine;decide),λg ng=>{_,M,_,_,M,M,(by show(0:Int)<4;decide),g,_,_,_,M,M,Dz.of A9,hm,_,M,_,_,M,M,.inl {(),()},_,_,M,M,?_}};have s7:=ak (o:= .lst [.int 1,.int 7,.int 700,.int 65536]) ng;refine OA.mk hi' (s7 _ _ a1) (aW<|by rw[Q0];lia) {bH (s6.trans s7) hD,rs++ [c1/4%10^(10:Int).toNat+m*(0+(i:Int))],by rw[Q8];rfl,by rw[Q7,lr];rfl,λz hz=>?_};rcases Q5.mp hz with hz|hz
   .exact hb z hz
   .rw[Q9.mp hz];rw[d7]at e0 e1⊢;constructor<;>lia
  .let{s6,rs,rfl,lr,hb}:=w;exact go _ _ {D,rs,M,s4.trans s6,a1,bZ s4 hD,(),hb}
 let{l,rs,rfl,s5,hl,nl,ll,hb}:=w;have J5:=J3.same s5;have c5:=al.fr (Fr.of_same s5);have c8:¬Wk G1 k l:=λz=>z.elim (J3.D.out nl) λz=>by rw[z,J3.di]at nl;cases nl
 clear J3 al s5 nl;refine aX (λB H'=>∃(O Y:RW)(G:Ro)(x:O9),B=PJ sc d k I Z kd lo hi c1 [some (.ref l),O,Y,none,none,none,none,none,none,none,none]/\Oo K t H' d k G x (10^11)/\PR K (Wk G k) H' sc (ns.map V.int)/\x.now<=130) (λnx go=>?_)<|λB H6 w=>?_
 .refine{_,M,l,M,{_,Dz.of hl},EN (K:=K) (a:=l) (xs:=rs.map V.int) (λi B H'=>∃(O Y:RW)(G:Ro)(x:O9),B=PJ sc d k I Z kd lo hi c1 [some (.ref l),O,Y,none,none,none,none,none,none,none,none]/\Oo K t H' d k G x (10^11)/\PR K (Wk G k) H' sc (ns.map V.int)/\x.now<=i/\H' l=some (.lst<|rs.map V.int)/\¬Wk G k l) {none,none,G1,_,M,J5,c5,(_),hl,c8} (λi B H' _ w=>?_) (λi y p B H' hy w np=>?_)<|λB H' w=>?_}
  .let{O,Y,G,x,rfl,J,cS,nw,hl,nW}:=w;exact Dz.of hl
  .let{O,Y,G,x,rfl,J,cS,nw,hl,nW}:=w;have hi':i<(rs.map V.int).length:=(Q2.mp hy).1;rw[Q0]at hi';let{z,rfl,ez}:=sO hy;let{z0,z1}:=hb z (Q1 ez);have sp:=ak (o:= .tup [.int (i:Int),.int z]) np;refine{p,_,M,OO.of A9,M,_,_,M,_,_,M,M,?_};refine{_,M,_,M,_,M,_,M,_,_,M,M,d,k,z,_,G,x,10^11,M,J.same sp,(_),z0,z1,(),(),(),λH7 G7 x7 J7 n7 f7 mo=>{_,M,bL ?_}};let{d8,d9}:=f7 _ _ nW (sp _ _ hl);exact{_,_,G7,x7,M,J7,(cS.fr<|Fr.of_same sp).fr f7,(),d8,d9}
  .let{O,Y,G,x,rfl,J,cS,nw,hl,nW}:=w;rw[Q0]at nw;exact go _ _ {O,Y,G,x,M,J,cS,()}
 clear J5 c5 hl c8 ll hb;let{O,Y,G,x,rfl,J,cS,nw}:=w;refine aX (λB H'=>∃sy,B=PJ sc d k I Z kd lo hi c1 [some (.ref l),O,Y,some (.ref sy),none,none,none,none,none,none,none]/\Ba H6 H'/\H' sy=some (.dK<|aL x.st.kv)/\¬Wk G k sy) (λnx go=>?_)<|λB H7 w=>?_
 .refine{_,M,k,_,M,J.di,λsy a4=>go _ _ {sy,M,ak a4,A9,λz=>z.elim (J.D.out a4) λz=>by rw[z,J.di]at a4;cases a4}}
 let{sy,rfl,s7,c9,a4}:=w;have J7:=J.same s7;have ca:=cS.fr (Fr.of_same s7);clear J cS s7;refine aX (λB H'=>∃sn,B=PJ sc d k I Z kd lo hi c1 [some (.ref l),O,Y,some (.ref sy),some (.ref sn),none,none,none,none,none,none]/\Ba H7 H'/\H' sn=some (.lst [])/\¬Wk G k sn) (λnx go=>?_)<|λB H8 w=>?_
 .exact{Qc _,λsn a5=>go _ _ {sn,M,ak a5,A9,λz=>z.elim (J7.D.out a5) λz=>by rw[z,J7.di]at a5;cases a5}}
 let{sn,rfl,s8,cb,a5}:=w;obtain⟨av,an⟩:∃av,R1 kd (.int lo) hi=av:={_,M};obtain⟨e,ee⟩:∃e,R0 kd (.int lo) hi=e:={_,M};refine aX (λB H'=>B=PJ sc d k I Z kd lo hi c1 [some (.ref l),O,Y,some (.ref sy),some (.ref sn),some (.str<|bg (OQ kd) av e),none,none,none,none,none]/\Ba H8 H') (λnx go=>?_)<|λB H9 w=>?_
 .refine{_,M,_,M,_,M,kd,lo,hi,M,Wh,λH9 s9=>?_};rw[an,ee];exact go _ _ ⟨M,s9⟩
 let{rfl,s9}:=w;have b8:=s8.trans s9;have J9:=J7.same b8;have cg:=ca.fr (Fr.of_same b8);have bb:=b8 _ _ c9;have ap:=s9 _ _ cb;clear J7 ca s8 b8 c9 cb s9;let{cs,ci,sb}:=G9 ns (some 3) (some 63);have ei:cs.length<=63:=Qr sb.length_le bw;refine aX (λB H'=>∃ce,B=PJ sc d k I Z kd lo hi c1 [some (.ref l),O,Y,some (.ref sy),some (.ref sn),some (.str<|bg (OQ kd) av e),some (.ref ce),none,none,none,none]/\Ba H9 H'/\H' ce=some (.lst<|cs.map V.int)/\H9 ce=none) (λnx go=>?_)<|λB cj w=>?_
 .refine{_,M,_,M,_,M,sc,_,M,cg.sq,λce a3=>?_};rw[ci];exact go _ _ {ce,M,ak a3,A9,a3}
 let{ce,rfl,ba,ck,a3}:=w;have W0:PH K t cj d k sy sn ce G x (10^11) cs [] x.st.kv kd av e av:={J9.same ba,{ck,λz=>z.elim (J9.D.out a3) λz=>by rw[z,J9.di]at a3;cases a3},{ba _ _ bb,a4},{ba _ _ ap,a5},λz=>(by rw[z,ap]at a3;cases a3),VY,λz hz=>VG hz Z7,λz hz=>{hz,.inl},J9.le,λz _ h=>h};clear J9 cg bb ap ba ck a3 a4 a5 ci sb;have da:Og kd av e:=an▸ee▸Wh.ok;obtain⟨dc,re⟩:rb av/\rb e:=an▸ee▸Wh.ra;refine{320,M,(_),(_),u9 (n:=(320:Int).toNat) (λi B H'=>∃(G:Ro)(x:O9)(zs:Rn)(tl:Rs)(a':V)(bj bl a0 a6:RW),B=PJ sc d k I Z kd lo hi c1 [some (.ref l),O,Y,some (.ref sy),some (.ref sn),some (.str<|bg (OQ kd) a' e),some (.ref ce),bj,bl,a0,a6]/\PH K t H' d k sy sn ce G x (10^11+2*i) cs zs tl kd av e a'/\Og kd a' e/\rb a'/\x.now<=130+2*i/\zs.length<=200*i/\((i:Int)<=cs.length\/20*((i:Int)-cs.length)+4*(RI x.st (hN kd a' e):Int)+Pr kd x.st a'<=1056)) {G,x,[],x.st.kv,av,none,none,none,none,M,W0.wide (),da,dc,(),Qc _,.inl ()} (λi B H' hi' w=>?_)<|λB H' w=>?_}
 .clear W0 nw x G cj;let{G,x,zs,tl,a',bj,bl,a0,a6,rfl,w,ok,ra,nw,zl,po}:=w;have i3:i<320:=hi';refine aX (λB H2=>B=PJ sc d k I Z kd lo hi c1 [some (.ref l),O,Y,some (.ref sy),some (.ref sn),some (.str<|bg (OQ kd) a' e),some (.ref ce),some (.int<|0+(i:Int)),some (.int 12),a0,a6]/\H2=H') (λnx go=>go _ _ ⟨M,M⟩)<|λB H2 w2=>?_;let{rfl,rfl}:=w2;refine aX (λB H3=>∃(G:Ro)(x:O9)(tl:Rs)(n:Int)(a0:RW),B=PJ sc d k I Z kd lo hi c1 [some (.ref l),O,Y,some (.ref sy),some (.ref sn),some (.str<|bg (OQ kd) a' e),some (.ref ce),some (.int<|0+(i:Int)),some (.int n),a0,a6]/\PH K t H3 d k sy sn ce G x (10^11+2*(i+1:Nat)) cs zs tl kd av e a'/\1<=n/\n<=12/\x.now<=130+2*(i+1:Nat)/\((i:Int)<cs.length\/(n=12/\((i:Int)<=cs.length\/20*((i:Int)-cs.length)+4*(RI x.st (hN kd a' e):Int)+Pr kd x.st a'<=1056)))) (λnx go=>?_)<|λB H3 w3=>?_
  .refine{_,M,_,M,ce,_,M,.inl<|Dz.of w.hc.1,_,_,M,M,_,M,cu (λc=>?_)<|λc=>?_}
   .have c:=VF c;rw[Q0]at c;have m2:=m0 (z:=I) (show(0:Int)<2 by decide);refine aX (λB H4=>∃(dl:Rl)(xs:Rn),B=PJ sc d k I Z kd lo hi c1 [some (.ref l),O,Y,some (.ref sy),some (.ref sn),some (.str<|bg (OQ kd) a' e),some (.ref ce),some (.int<|0+(i:Int)),some (.int 12),some (.ref dl),a6]/\Ba H2 H4/\H4 dl=some (.lst<|xs.map V.int)/\H2 dl=none/\xs.length=3) (λnx go=>?_)<|λB H4 w4=>?_
    .refine{_,M,_,M,ce,_,_,_,M,M,Dz.of w.hc.1,vn () c,_,M,_,M,_,_,M,M,(by show(0:Int)<2;decide),_,_,M,M,.inl {(),()},_,_,M,M,_,M,_,3,I,M,(_),(_),λH4 dl xs s4 nl hl lx=>go _ _ ⟨dl,xs,M,s4,hl,nl,lx⟩}
    let{dl,xs,rfl,s4,co,bo,lx}:=w4;have w4:=w.same s4;obtain⟨d0,e0⟩:∃z:Int,P4 (xs.map V.int) 0=some (.int z):={xs[0]'(),dC (j:=0)<|by rw[Qo,Q3 ()];rfl};let{n0,n1}:=m0 (z:=d0/1000) (show(0:Int)<12 by decide);refine aX (λB H5=>B=PJ sc d k I Z kd lo hi c1 [some (.ref l),O,Y,some (.ref sy),some (.ref sn),some (.str<|bg (OQ kd) a' e),some (.ref ce),some (.int<|0+(i:Int)),some (.int<|1+d0/1000%12),some (.ref dl),a6]/\H5=H4) (λnx go=>?_)<|λB H5 w5=>?_
    .exact{_,M,dl,_,_,_,M,M,Dz.of co,e0,_,_,M,M,{(_),(_)},_,_,M,M,(by show(0:Int)<12;decide),_,_,M,M,go _ _ ⟨M,M⟩}
    let{rfl,rfl}:=w5;have df:¬Wk G k dl:=λz=>z.elim (w.J.D.out bo) λz=>by rw[z,w.J.di]at bo;cases bo
    refine{_,M,_,M,_,M,_,M,d,k,sy,dl,G,x,_,xs,tl,M,w4.J,(),(),(),co,df,lx,w4.hs.1,w4.hs.2,w4.sl,λz hz=>(w4.st z hz).1,λH6 G6 x6 dh J6 n6 dj dm tm dn f6=>{_,M,bL ?_}};exact go _ _ {G6,x6,dh,_,_,M,(w4.deed J6 dj dm tm dn f6).wide (),(),(),(),.inl ()}
   .have c:¬0+(i:Int)<((cs.map V.int).length:Int):=λz=>c (VD z);rw[Q0]at c;exact go _ _ {G,x,tl,12,a0,M,w.wide (),(_),(_),(),.inr ⟨M,po⟩}
  clear w po nw a0;let{G,x,tl,n,a0,rfl,w,n1,ej,nw,po}:=w3;obtain⟨wl,_⟩:(bg (OQ kd) a' e).length<=100/\True:={(mC ok.kd ra re).2,trivial};have big:1000<=sizeLine:=by decide
  refine aX (λB H5=>∃(f:Rl)(G:Ro)(ts:List Tp)(v a2:V)(R:Sh)(H4:Hp)(F4:Ro),B=PJ sc d k I Z kd lo hi c1 [some (.ref l),O,Y,some (.ref sy),some (.ref sn),some (.str<|bg (OQ kd) a' e),some (.ref ce),some (.int<|0+(i:Int)),some (.int n),a0,some (.ref f)]/\PH K t H5 d k sy sn ce G x (10^11+2*(i+1:Nat)) cs zs tl kd av e a'/\CK t H4 F4 x.st kd n a' e v ts a2 R/\(∀u∈ts,Ten u)/\cq x.ks/\(∀z,z∈x.ks↔(aI x.st.kv z).isSome=true)/\(x.st.kv.map (·.1)).Nodup/\(v≠ .non->Og kd a2 e/\rb a2)/\H5 f=some (.lst<|(P5 ts++ [RM v kd a2 e]).map V.str)/\f≠sn) (λnx go=>?_)<|λB H5 w5=>?_
  .let{dx,hh,cc,hd}:=w.J.D.ob;have l1:(Str.ofString "page ").length=5:=by decide+kernel
   have l2:(Str.ofString Rb).length=1:=by decide+kernel
   have l3:=fL (i:=n) () ();have l4:(Str.ofString "page "++bg (OQ kd) a' e).length<=105:=by rw[bq];lia
   have l5:(Str.ofString "page "++bg (OQ kd) a' e++Str.ofString Rb).length<=106:=by rw[bq];lia
   refine{_,M,d,dx,_,M,hd,(by kernel_rfl),_,M,_,_,M,M,(),_,_,M,M,(),_,M,_,M,js () (),_,_,M,M,(),?_};refine{d,G,x,(u4:Str),_,by rw[FH];rfl,w.J.D,.page kd n a' e ok ra re n1 () (w.J.bd ()) λH4 F4 ts v a2 R U bt ri ks nd nx H6 G6 f D6 f6 nf dp hf=>?_};refine go _ _ {f,G6,ts,v,a2,R,H4,F4,M,w.fr D6 f6,U,bt,ri,ks,nd,nx,hf,λz=>?_};have:=dp (λy=>w.hn.2<|.inl<|z▸y);rw[z,w.hn.1]at this;cases this
  clear w;let{f,G,ts,v,a2,R,H4,F4,rfl,w,U,bt,ri,ks,nd,nx,hf,dq}:=w5;have ct:=Fq (U.tell x.ks ri ks) ri;have ek:ts.length<=200:=by
   have:=eY U.nd (S:=x.st.kv.map (·.1)) λz hz=>by
    let{u,hu,rfl}:=Qf.mp hz;exact QO (f:=Prod.fst) ((U.me u.k u.v).mp<|QO (f:=Tp.kv) hu).1
   rw[Q0,Q0]at this;have:=w.J.le;lia
  let{_,pw,cx}:=w.page (λ_ _ _ h=>h) ct U.me;refine aX (λB H8=>B=PJ sc d k I Z kd lo hi c1 [some (.ref l),O,Y,some (.ref sy),some (.ref sn),some (.str<|bg (OQ kd) a' e),some (.ref ce),some (.int<|0+(i:Int)),some (.int n),a0,some (.ref f)]/\(∀c o,c≠sn->H5 c=some o->H8 c=some o)/\H8 sn=some (.lst ((zs++ts.map (·.k)).map V.int))) (λnx go=>?_)<|λB H8 w8=>?_
  .refine{_,M,Qc _,λp np=>{f,p,_,M,M,Dz.of (by rwa[ag (am hf np)]),Dz.of A9,_,M,?_}};have s6:=ak (o:= .lst []) np;have w6:=w.same s6;have d1:=s6 _ _ hf;generalize upd H5 p (.lst [])=H6 at s6 w6 d1⊢;have em:(((P5 ts++ [RM v kd a2 e]).map V.str).isEmpty !=false)=false:=by cases P5 ts<;>rfl
   rw[em];refine bL {_,M,_,M,_,M,f,_,M,Dz.of d1,λg ng=>?_};rw[EW];have s7:=ak (o:= .lst<|(P5 ts).map V.str) ng;have hg:upd H6 g (.lst<|(P5 ts).map V.str) g=some (.lst<|(P5 ts).map V.str):=A9;have w7:=w6.same s7;have dr:g≠sn:=λz=>by rw[z,w6.hn.1]at ng;cases ng
   generalize upd H6 g (.lst<|(P5 ts).map V.str)=H7 at s7 hg w7⊢;refine{_,M,_,M,_,M,_,M,_,M,g,k,sn,ts,x.st.kv,zs,kd,lo,hi,M,hg,w7.J.di,w7.hn.1,dr,Wh,λu hu=>?_,pw,(),λH8 kp ac=>{_,M,bL<|go _ _ {M,λc o n e=>kp c o n<|s7 _ _<|s6 _ _ e,ac}}};let{h1,h2,h3}:=(U.me u.k u.v).mp (QO (f:=Tp.kv) hu);refine{bt u hu,eV nd h1,?_};rw[an,ee];exact w.le _ (w.J.kb _ h1).1 h2
  let{rfl,kp,ac}:=w8;have J8:=(w.page kp ct U.me).1;have b5:=kp _ _ dq hf;have af:=kp _ _ (λz=>by have h:=w.hs.1;rw[z,w.hn.1]at h;cases h) w.hs.1;have dt:=kp _ _ w.cn w.hc.1;have dv:=U.rest;rcases dv with⟨rfl,rfl⟩|⟨y,rfl,_,_,_,rfl,_⟩
  .refine{_,M,_,M,f,_,_,_,M,M,Dz.of b5,zF,M,_,M,dA M ?_};refine{sy,aL tl,af,_,M,sy,_,M,af,λob D hD=>?_};refine Cu (ob:=ob) (d:=sy) (kvs:=aL tl) (λi ys H2=>H2=upd (upd H8 sy<|.frz ob<|.dK<|aL tl) D (.lst ys)/\ys=[]) ⟨M,M⟩ (λi ys H2 _ w=>by rw[w.1];exact(xC af hD).2.2.2) (λi k v ys H2 hk w2 a1=>?_)<|λys H2 w2 a1=>?_
   .let{g,rfl,eg}:=Jq hk;have d2:i<(aL tl).length:=(Q2.mp hk).1;have d3:H2 sn=some (.lst ((zs++ts.map (·.k)).map V.int)):=by
     have n1:sn≠sy:=λz=>by rw[z,af]at ac;cases ac
     rwa[w2.1,ag (λz=>by rw[<-z,ag n1,ac]at hD;cases hD),ag n1]
    refine{_,M,_,M,_,M,_,M,kd,lo,g,hi,M,Wh,_,M,?_};rw[an,ee];by_cases c:hN kd av e g=true
    .rw[c];have gm:g∈zs++ts.map (·.k):=by
      rcases(cx g<|mem_keys.mp<|Q1 eg).2 c with h|h
      .cases h
      .exact h
     refine b7 {_,M,_,M,sn,_,M,.inl<|Dz.of d3,M,EI,_,M,?_};rw[show Ps (kV<|Sum.inl g) ((zs++ts.map (·.k)).map V.int)=true from Jx gm];exact bL<|OP.mk d2 a1 ⟨w2.1,w2.2⟩
    .rw[QT.mpr c];exact bL<|bL (OP.mk d2 a1 ⟨w2.1,w2.2⟩)
   .let{w3,rfl}:=w2;subst w3;let{t1,t2,t3,t4}:=xC (ys:=[]) af hD;refine{ob,t4,?_};generalize upd (upd (upd H8 sy<|.frz ob<|.dK<|aL tl) D<|.lst []) sy (.dK<|aL tl)=H9 at t1 t2⊢;exact{Qc _,λp np=>{D,p,[],M,M,Dz.of (by rwa[ag (am t2 np)]),Dz.of A9,q _}}
  have nv:V.ref y≠ .non:=λz=>by cases z
  let{bv,d4}:=nx nv;have dy:RM (.ref y) kd a2 e=(J':Str)++bg (OQ kd) a2 e:=VA nv;rw[dy]at b5;let{el,en}:=mC bv.kd d4 re;have l5:(J':Str).length=5:=by decide+kernel
  have wp:0<(bg (OQ kd) a2 e).length:=by
   have e1:bg (OQ kd) a2 e=OQ kd++(Rb:Str)++wr a2++(Rb:Str)++wr e:=M;have b1:(Rb:Str).length=1:=by decide+kernel
   rw[e1,bq,bq,bq,bq];lia
  refine aX (λB H9=>B=PJ sc d k I Z kd lo hi c1 [some (.ref l),O,Y,some (.ref sy),some (.ref sn),some (.str<|bg (OQ kd) a' e),some (.ref ce),some (.int<|0+(i:Int)),some (.int n),a0,some (.ref f)]/\H9=H8) (λnx go=>{_,M,_,M,f,_,_,_,M,M,Dz.of b5,zF,M,_,M,aZ IY<|go _ _ ⟨M,M⟩})<|λB H9 w9=>?_;let{rfl,rfl}:=w9;refine aX (λB H8=>B=PJ sc d k I Z kd lo hi c1 [some (.ref l),O,Y,some (.ref sy),some (.ref sn),some (.str<|bg (OQ kd) a' e),some (.ref ce),some (.int<|0+(i:Int)),some (.int n),a0,some (.ref f)]/\H8=H9) (λnx go=>?_)<|λB H8 w8=>?_
  .refine{_,M,_,M,f,_,_,_,M,M,Dz.of b5,zF,?_};refine{M,_,_,M,M,_,M,?_};rw[Aw];exact bL<|go _ _ ⟨M,M⟩
  let{rfl,rfl}:=w8;refine{_,M,_,M,f,_,_,_,M,M,Dz.of b5,zF,_,M,_,M,by rw[bq];lia,?_};rw[F6 wp];have pt:=pot U w.J.D.sz nd (λk hk=>by let{p,hp,rfl}:=Qf.mp hk;exact(w.J.kb p hp).1);have pb:=KH w.J.D.sz ok;have fi:(RI x.st (hN kd a' e):Int)<=200:=by
   have:=Qm (λp:Int×V=>hN kd a' e p.1) x.st.kv;have:=w.J.le;unfold RI;lia
  refine{G,x,zs++ts.map (·.k),tl,a2,_,_,_,_,M,{J8,⟨dt,w.hc.2⟩,⟨af,w.hs.2⟩,⟨ac,w.hn.2⟩,w.cn,pw,λz hz y y0 hy=>?_,cx,w.sl,λz z0 hz=>w.le z z0<|U.less z z0 hz},bv,d4,nw,by rw[Q7,Q0];lia,?_}
  .rcases Q5.mp hz with hz|hz
   .exact w.be z hz y y0<|U.less y y0 hy
   .let{u,hu,rfl}:=Qf.mp hz;let{h1,h2,h3}:=(U.me u.k u.v).mp (QO (f:=Tp.kv) hu);exact IW ok bv h2 h3 hy
  .rcases po with po|⟨rfl,po⟩
   .exact .inl ()
   .have:=pt (_) nv;by_cases c:(i:Int)<cs.length
    .exact .inl ()
    .refine .inr ?_;rcases po with po|po<;>lia
 .let{G,x,zs,tl,a',bj,bl,a0,a6,rfl,w,ok,ra,nw,zl,po}:=w;exfalso;have e:(((320:Int).toNat:Nat):Int)=320:=M;rw[e]at po;have:=(KH w.J.D.sz ok).1;lia
end
end SW
namespace ZK
open PySem PySem.W SW L2
def fM{P:Params}{x qual:Str}{st:Stmt}{a:Rl}{kV I O z ct:Rp}{U:RV}(l:(K P).lookup a=some (f<|D x qual st N kV I O U z ct):=by kernel_rfl)(c:codeIn (K P) z qual=true:=by kernel_rfl)(k:keepIn (K P) (.ref a)=true:=by kernel_rfl):NY (K P) x qual st a (D x qual st N kV I O U z ct):=Mp l c k
def nA{P:Params}{C:Rl}{x:Str}(h:findIn (K P) (.ref C) x=some none:=by kernel_rfl):Hk (K P) C x:=h
def fT{P:Params}{x qual:Str}{st:Stmt}{a b:Rl}{kV I O z ct:Rp}{U:RV}(l:(K P).lookup a=some (f<|D x qual st (R b) kV I O U z ct):=by kernel_rfl)(c:codeIn (K P) z qual=true:=by kernel_rfl)(k:keepIn (K P) (.ref a)=true:=by kernel_rfl):MK (K P) x qual st b a (D x qual st (R b) kV I O U z ct):=Dp l c k
def fU{P:Params}{x qual:Str}{st:Stmt}{a b:Rl}{kV I O z ct:Rp}{U:RV}(l:(K P).lookup a=some (f<|D x qual st (R b) kV I O U z ct):=by kernel_rfl)(c:codeIn (K P) z qual=true:=by kernel_rfl)(k:keepIn (K P) (.ref a)=true:=by kernel_rfl):PN (K P) x qual st a (D x qual st (R b) kV I O U z ct):=(Dp l c k).1
def MG{P:Params}:(K P).lookup 257=some {(T l6),none,.seq #[(.int 0 511),(.int 65536 512)] 0, #[]}:=by kernel_rfl
def MF{P:Params}:(K P).lookup 284=some {(T l6),none,.seq #[(.int 0 546),N] 0, #[]}:=by kernel_rfl
def ME{P:Params}:(K P).lookup 311=some {(T l6),none,.seq #[N,(.int 0 580)] 0, #[]}:=by kernel_rfl
def MD{P:Params}:(K P).lookup 331=some {(T l6),none,.seq #[(.int 10 606),N] 0, #[]}:=by kernel_rfl
end ZK
namespace SW
open PySem L2
set_option maxHeartbeats 0
variable{α:Type}{YP:World->Heap->Prop}
def us1{us:List α}(hl:us.length=1):∃z,us=[z]:=by rcases us with _|⟨z,_|⟨y,t⟩⟩<;>first|exact{_,M}|simp at hl
def us2{us:List α}(hl:us.length=2):∃z I,us=[z,I]:=by rcases us with _|⟨z,_|⟨I,_|⟨y,t⟩⟩⟩<;>first|exact{_,_,M}|simp at hl
def us3{us:List α}(hl:us.length=3):∃z I O,us=[z,I,O]:=by rcases us with _|⟨z,_|⟨I,_|⟨O,_|⟨y,t⟩⟩⟩⟩<;>first|exact{_,_,_,M}|simp at hl
def us4{us:List α}(hl:us.length=4):∃z I O U,us=[z,I,O,U]:=by rcases us with _|⟨z,_|⟨I,_|⟨O,_|⟨U,_|⟨y,t⟩⟩⟩⟩⟩<;>first|exact{_,_,_,_,M}|simp at hl
def us6{us:List α}(hl:us.length=6):∃z I O U Y Z,us=[z,I,O,U,Y,Z]:=by rcases us with _|⟨z,_|⟨I,_|⟨O,_|⟨U,_|⟨Y,_|⟨Z,_|⟨y,t⟩⟩⟩⟩⟩⟩⟩<;>first|exact{_,_,_,_,_,_,M}|simp at hl
open ZK in
def txt{w:Ru}{h:Heap}{mg:RT}(X:(ZK.K w.params).In h)(G:h.Ns mainGlobals mg):Txt (ZK.K w.params) mg ZK.t w:=by
 constructor
 case g_BITS=>exact{380,Z8 X G<|by kernel_rfl}
 case g_PLACES=>exact{382,Z8 X G<|by kernel_rfl}
 case g_STRETCHES_A_KEY=>exact{604,Z8 X G<|by kernel_rfl}
 case g_MOST_IN_LEAF=>exact{868,Z8 X G<|by kernel_rfl}
 case g_LEAST_IN_TWO=>exact{870,Z8 X G<|by kernel_rfl}
 case g_LEAST_SIZE=>exact{1042,Z8 X G<|by kernel_rfl}
 case g_GREATEST_SIZE=>exact{1044,Z8 X G<|by kernel_rfl}
 case g_FIGURES=>exact{1380,Z8 X G<|by kernel_rfl}
 case g_MOST_FIGURES=>exact{1382,Z8 X G<|by kernel_rfl}
 case g_WORDS_OF_TOKEN=>exact{1384,Z8 X G<|by kernel_rfl}
 case g_MOST_KEYS=>exact{1495,Z8 X G<|by kernel_rfl}
 case kt_FORMS_put=>exact{960,by kernel_rfl,λH=> .inr {_,_,_,(show(ZK.K w.params).lookup 960=some {.type l6,none,.seq #[(S "KEY" 1437),(S "VALUE" 1438)] 0, #[]} by kernel_rfl),M,M,(_),(.cons {_,M}<|.cons {_,M} .nil)}}
 case kt_FORMS_drop=>exact{961,by kernel_rfl,λH=> .inr {_,_,_,(show(ZK.K w.params).lookup 961=some {.type l6,none,.seq #[(S "KEY" 1441)] 0, #[]} by kernel_rfl),M,M,(_),(.cons {_,M} .nil)}}
 case kt_FORMS_page=>exact{964,by kernel_rfl,λH=> .inr {_,_,_,(show(ZK.K w.params).lookup 964=some {.type l6,none,.seq #[(S Rh 1449),(S "MANY" 1450)] 0, #[]} by kernel_rfl),M,M,(_),(.cons {_,M}<|.cons {_,M} .nil)}}
 all_goals first
  |exact ZK.fM
  |exact Z8 X G<|by kernel_rfl
  |exact .all λus hl=>by let{_,_,rfl}:=us2 hl;rfl
  |exact{(by kernel_rfl),(by kernel_rfl),(by kernel_rfl)}
  |exact{(by kernel_rfl),(by kernel_rfl),(by kernel_rfl),(by kernel_rfl)}
  |exact ZK.nA
  |exact .all λus hl=>by let{_,rfl}:=us1 hl;rfl
  |exact GA (by kernel_rfl) (by kernel_rfl) (by kernel_rfl)<|λz=>VG z (_)
  |exact PySem.W.mg_none_of X G<|by kernel_rfl
  |exact .all λus hl=>by let{_,_,_,rfl}:=us3 hl;rfl
  |exact{{_,_,_,_,_,_,_,_,_,_,_,_,_,_,{_}},{[ZK.t.bI],M},(by kernel_rfl),(by kernel_rfl),(by kernel_rfl),(by kernel_rfl)}
  |exact .all λus hl=>by let{_,_,_,_,rfl}:=us4 hl;rfl
  |exact ZK.fU
  |exact GA (by kernel_rfl) (by kernel_rfl) (by kernel_rfl)<|λ_=>M
  |exact{{21,by kernel_rfl},∅,∅}
  |exact .all λus hl=>by let{_,_,_,_,_,_,rfl}:=us6 hl;rfl
  |exact fG (ds:=[]) 3 M (fT (a:=264)) MG λ_ _ _ _ _ _ us hl=>by let{_,_,_,rfl}:=us3 hl;exact{_,M,M}
  |exact fG (ds:=[]) 3 M (fT (a:=291)) MF λ_ _ _ _ _ _ us hl=>by let{_,_,_,rfl}:=us3 hl;exact{_,M,M}
  |exact fG (ds:=[]) 3 M (fT (a:=318)) ME λ_ _ _ _ _ _ us hl=>by let{_,_,_,rfl}:=us3 hl;exact{_,M,M}
  |exact fG (ds:=[]) 4 M (fT (a:=336)) MD λ_ _ _ _ _ _ us hl=>by let{_,_,_,_,rfl}:=us4 hl;exact{_,M,M}
  |exact λH=> .inr {_,_,_,(show(ZK.K w.params).lookup 1162=some {.type l6,none,.seq #[(S "open" 1755),(S "read" 1756),(S "close" 1757),(S "follow" 1758),(S "show" 1759),(S "covers" 1760),(S "total" 1761),(S "stop" 1762)] 0, #[]} by kernel_rfl),M,M,(_),(.cons {_,M}<|.cons {_,M}<|.cons {_,M}<|.cons {_,M}<|.cons {_,M}<|.cons {_,M}<|.cons {_,M}<|.cons {_,M} .nil)}
  |exact{_,fG (ds:=[(.int 0 511),(.int 65536 512)]) 1 M (fT (a:=264)) MG λ_ _ _ _ _ _ us hl=>by let{_,rfl}:=us1 hl;exact{_,M,M},(.cons {_,M}<|.cons {_,M} .nil)}
  |exact{_,fG (ds:=[(.int 0 546),N]) 1 M (fT (a:=291)) MF λ_ _ _ _ _ _ us hl=>by let{_,rfl}:=us1 hl;exact{_,M,M},(.cons {_,M}<|.cons M .nil)}
  |exact{_,fG (ds:=[(.int 0 580)]) 2 M (fT (a:=318)) ME λ_ _ _ _ _ _ us hl=>by let{_,_,rfl}:=us2 hl;exact{_,M,M},(.cons {_,M} .nil)}
  |exact{_,fG (ds:=[(.int 10 606),N]) 2 M (fT (a:=336)) MD λ_ _ _ _ _ _ us hl=>by let{_,_,rfl}:=us2 hl;exact{_,M,M},(.cons {_,M}<|.cons M .nil)}
  |exact{_,fG (ds:=[(.int 65536 512)]) 2 M (fT (a:=264)) MG λ_ _ _ _ _ _ us hl=>by let{_,_,rfl}:=us2 hl;exact{_,M,M},(.cons {_,M} .nil)}
  |exact{_,fG (ds:=[N,(.int 0 580)]) 1 M (fT (a:=318)) ME λ_ _ _ _ _ _ us hl=>by let{_,rfl}:=us1 hl;exact{_,M,M},(.cons M<|.cons {_,M} .nil)}
  |exact{_,fG (ds:=[N]) 2 M (fT (a:=291)) MF λ_ _ _ _ _ _ us hl=>by let{_,_,rfl}:=us2 hl;exact{_,M,M},(.cons M .nil)}
  |exact{_,fG (ds:=[N]) 3 M (fT (a:=336)) MD λ_ _ _ _ _ _ us hl=>by let{_,_,_,rfl}:=us3 hl;exact{_,M,M},(.cons M .nil)}
  |exact{{_,_,_,_,_,_,_,_,_,_,_,_,_,_,{_}},{[],M},(by kernel_rfl),(by kernel_rfl),(by kernel_rfl),(by kernel_rfl)}
  |exact(by kernel_rfl)
def walk{l:PySem.W.OpenLaw}{q:Rv}{loose:Ry}{XP:(Str->Option Value)->Heap->Prop}{d:DefRec}{K:Params->Wi}(U:l.most=some 63)(I:d.params.defaults=[])
  (Y:∀(w:World)(h:Heap),YP w h->(K w.params).In h) (hd:d.name="law")
  (F:∀(w:World)(mg:Str->Option Value)(h:Heap),(K w.params).In h->h.Ns mainGlobals mg->∃t,Txt (K w.params) mg t w):
  PySem.W.WalkO q loose XP YP l.row.toRowW d [] (λf vs=>PySem.call f vs):=by
 refine L2.walk_of (n:=63) (k:=13) (x:=jj) (CX:=λ_=>NX) (sp:=λw=>FD<|K w.params) U (_) I {M,(_),(_)} Y (λw mg fa h Z G O=>?_) (λ_ _ a ns hl _ hS=>{a,ns,M,hS,hl,λ_=>M}) λ_ _ _ _ _ z=>z;let{t,T}:=F w mg h Z G;have e:=O.symm.trans ((VT mg hd).trans T.NV);cases e;let{oc,od,kV,a0,pm,an,a1,ct,a2,e1,lk,a3}:=T.NL.ex;refine{t.Dy,λs u=>?_,λbase _ _=>LQ T};rw[e1];exact .of_eq M
end SW
open PySem PySem.W PyProof.Rows
set_option maxRecDepth 100000 in
set_option maxHeartbeats 0 in
theorem PySem.Challenge.cw_staywalk_k73_whole_walk_by_rows_holds : PySem.Challenge.rw_staywalk_k73_whole_walk_by_rows.Holds := by
 w_on
 refine holds_law ZK.said λsaid=>?_;refine holds_open (q:=ZK.q) (loose:=ZK.L) (Xt:=λs=>xlAt ZK.q [] s&&recOk (RowW.records<|OpenRow.toRowW<|OpenLaw.row PySem.Challenge.rw_staywalk_k73_whole_walk_by_rows) s) (XP:=XL ZK.q []) (Yf:=Hook.obs ZK.H) (Ya:=Hook.val ZK.H) (YP:=Hook.says ZK.H) ZK.left (Hook.of ZK.H) (Hook.keeps ZK.H) (λs e=>xl_of s (QL.mp e).1) XL.keeps {_} {_} {_} (λs e=>recFacts_of (QL.mp e).2) {_} (by first|assumption|decide+kernel) ∅ ⟨M,M,M,M,M,∅⟩ ?hw ?hc
 (case hw=>w_witness2)
 exact SW.walk (l:=PySem.Challenge.rw_staywalk_k73_whole_walk_by_rows) M M (λw h Y=>kIn_of Y) M λw mg h KX G=>⟨_,SW.txt KX G⟩
#print axioms PySem.Challenge.cw_staywalk_k73_whole_walk_by_rows_holds
