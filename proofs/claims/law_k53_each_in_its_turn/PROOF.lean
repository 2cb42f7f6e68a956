import PyProof.Rows.All
import PySem.Challenge.RW_staywalk_k53_each_in_its_turn
import KE.KFromBytes
import KE.KIntText
import KE.KPairComp
import KE.KSortTup
import KE.KIsAll
import KE.KDictSum
import KE.KRevIter
import KE.KRevSl
import KE.KEqDict
import KE.LcSums
import KE.KDictOf
set_option Elab.async false
set_option linter.all false
set_option maxRecDepth 100000
set_option tactic.hygienic false
set_option compiler.extract_closed false
noncomputable section
local macro_rules (kind:=«term{_}»)|`({$x,*})=>`(⟨$x,*⟩)
local macro_rules|`(tactic|let $p:term:=$e)=>do
 let n:=Lean.Syntax.node .none
 let w:=λs=>n ``Lean.Parser.Tactic.rcasesPatLo #[n ``Lean.Parser.Tactic.rcasesPatMed #[Lean.mkNullNode #[s]],Lean.mkNullNode]
 let r←p.raw.rewriteBottomUpM (m:=Lean.MacroM) λs=>pure (if s.isIdent then w (n ``Lean.Parser.Tactic.rcasesPat.one #[s]) else if s.isOfKind ``Lean.Parser.Term.hole then w (n ``Lean.Parser.Tactic.rcasesPat.ignore #[s[0]]) else if s.isOfKind ``«term{_}» then w (n ``Lean.Parser.Tactic.rcasesPat.tuple s.getArgs) else if s.isOfKind Lean.choiceKind then (s.getArgs.find? (·.isOfKind ``Lean.Parser.Tactic.rcasesPatLo)).getD s else s)
 if r.isOfKind ``Lean.Parser.Tactic.rcasesPatLo then `(tactic|obtain $(⟨r[0]⟩):rcasesPatMed:=$e) else Lean.Macro.throwUnsupported
local macro_rules|`(!$n:num)=>`(nat_lit $n)
local macro_rules|`(tactic|lia)=>`(tactic|first|with_reducible (first|assumption|exact Nat.le_of_lt (by assumption)|exact Nat.le_of_not_lt (by assumption)|exact Nat.not_lt_of_le (by assumption)|exact Nat.ne_of_lt (by assumption)|exact Nat.ne_of_gt (by assumption)|exact Nat.le_succ_of_le (by assumption)|exact Nat.lt_succ_of_lt (by assumption)|exact Nat.lt_succ_of_le (by assumption)|exact Nat.lt_of_succ_lt (by assumption)|exact Nat.lt_of_lt_of_le (by assumption) (by assumption)|exact Nat.lt_of_le_of_lt (by assumption) (by assumption)|exact Nat.le_trans (by assumption) (by assumption)|exact Int.le_of_lt (by assumption)|exact Int.lt_of_lt_of_le (by assumption) (by assumption)|exact Int.lt_of_le_of_lt (by assumption) (by assumption)|exact Int.le_trans (by assumption) (by assumption))|lia +abstractProof)
local macro_rules | `(()) => `(by lia)
local macro_rules | `((_)) => `(by decide)
local macro_rules | `(∅) => `(by decide+kernel)
local macro_rules | `({_}) => `(by rfl)
abbrev M:=@rfl
local macro_rules|`(tactic|ac_rfl)=>`(tactic|(first|exact .inl M|exact .inr M|assumption))
local macro_rules|`(tactic|subst_eqs)=>`(tactic|(intro _;rfl))
local macro_rules|`(tactic|and_intros)=>`(tactic|(first|exact Or.inl M|exact Or.inr (Or.inl M)|exact Or.inr<|Or.inr M))
set_option genSizeOf false
set_option maxHeartbeats 0
abbrev Q0:=@List.length_map
abbrev Q1:=@List.mem_of_getElem?
abbrev Q2:=@List.getElem?_eq_some_iff
abbrev Q3:=@List.getElem?_eq_getElem
abbrev Q4:=@Nat.le_refl
abbrev Q5:=@List.mem_append
abbrev Q6:=@List.length_append
abbrev Q7:=@List.mem_singleton
abbrev Q8:=@Bool.false_ne_true
abbrev Q9:=@List.length_take
abbrev QJ:=@List.mem_map
abbrev QK:=@List.mem_cons_self
abbrev QL:=@Int.emod_lt_of_pos
abbrev QM:=@List.mem_cons_of_mem
abbrev QN:=@Array.length_toList
abbrev QO:=@List.map_append
abbrev QP:=@Int.emod_nonneg
abbrev QQ:=@List.size_toArray
abbrev QR:=@List.getD_eq_getElem?_getD
abbrev QS:=@List.mem_cons
abbrev QT:=@Nat.zero_le
abbrev QU:=@List.pairwise_append
abbrev QV:=@List.append_assoc
abbrev QW:=@List.length_cons
abbrev QX:=@List.length_filter_le
abbrev QY:=@List.take_add_one
abbrev QZ:=@PySem.F.plainAttrs_list
abbrev Z0:=@List.map_cons
abbrev Z1:=@List.take_of_length_le
abbrev Z2:=@List.map_map
abbrev Z3:=@List.getElem?_map
abbrev Z4:=@Nat.le_trans
abbrev Z5:=@Nat.lt_of_lt_of_le
abbrev Z6:=@List.mem_filter
abbrev Z8:=@List.mem_append_right
abbrev Z9:=@List.getElem?_set
abbrev Za:=@List.filter_append
abbrev Zb:=@Nat.ne_of_lt
abbrev Zc:=@List.length_drop
abbrev Zd:=@List.take_length
abbrev Ze:=@List.take_append_of_le_length
abbrev Zf:=@Bool.and_eq_true
abbrev Zg:=@Array.getElem?_toList
abbrev Zh:=@List.getElem_of_mem
abbrev Zi:=@Nat.sub_one_lt_of_le
abbrev Zj:=@Bool.and_eq_true_iff
abbrev Zk:=@Int.toNat_natCast
abbrev Zl:=@Nat.lt_of_le_of_ne
abbrev Zm:=@List.take_append_drop
abbrev Zn:=@Array.toList_append
abbrev Zo:=@List.length_set
abbrev Zp:=@List.all_eq_true
abbrev Zq:=@Nat.le_of_lt
abbrev Zr:=@List.pairwise_map
abbrev Zs:=@List.mem_of_mem_take
abbrev Zt:=@List.length_singleton
abbrev Zu:=@List.append_nil
abbrev Zv:=@List.nodup_cons
abbrev Zw:=@List.getElem?_append_right
abbrev Zx:=@Nat.max_eq_right
abbrev Zy:=@List.getElem?_append_left
abbrev Zz:=@List.drop_zero
abbrev ZA:=@Nat.le_of_eq
abbrev ZB:=@PySem.F.plainAttrs_dict
abbrev ZC:=@Int.ne_of_gt
abbrev ZD:=@List.extract_eq_take_drop
abbrev ZE:=@List.nodup_nil
abbrev ZF:=@PySem.F.slot_list_append
abbrev ZG:=@PySem.F.type_list_append
abbrev ZH:=@PySem.W.kia_one
abbrev ZI:=@List.contains_cons
abbrev ZJ:=@Bool.false_eq_true
abbrev ZL:=@Int.le_refl
abbrev ZM:=@List.length_pos_iff
abbrev ZN:=@List.length_reverse
abbrev ZO:=@Nat.le_succ
abbrev ZP:=@Nat.min_eq_left
abbrev ZQ:=@List.drop_eq_getElem_cons
abbrev ZR:=@List.pairwise_iff_getElem
abbrev ZS:=@PySem.W.methodCall_KW
abbrev ZT:=@Nat.add_lt_of_lt_sub'
abbrev ZU:=@List.not_mem_nil
abbrev ZV:=@List.mem_of_mem_eraseIdx
abbrev ZW:=@List.mem_append_left
abbrev ZX:=@Array.toList_extract
abbrev ZY:=@Int.eq_ofNat_of_zero_le
abbrev ZZ:=@List.pairwise_singleton
abbrev X6:=@Nat.le_succ_of_le
abbrev X7:=@List.flatten_cons
abbrev X8:=@List.map_congr_left
abbrev X9:=@List.flatten_append
abbrev Xc:=@Option.map_eq_some_iff
abbrev Xd:=@List.drop_eq_nil_of_le
abbrev Xe:=@List.map_take
abbrev Xf:=@List.getElem_mem
abbrev Xg:=@PySem.W.callWith_K
abbrev Xh:=@List.length_replicate
abbrev Xi:=@List.getElem?_eq_none_iff
abbrev Xj:=@List.ne_nil_of_length_pos
abbrev Xk:=@Bool.eq_false_iff
abbrev Xl:=@List.any_cons
abbrev Xm:=@List.eq_of_mem_replicate
abbrev Xn:=@List.filter_cons
abbrev Xo:=@Nat.eq_zero_or_pos
abbrev Xp:=@List.getElem?_drop
abbrev Xq:=@List.pairwise_cons
abbrev Xr:=@List.filter_eq_nil_iff
abbrev Xs:=@Nat.lt_irrefl
abbrev Xu:=@PySem.W.mg_of
abbrev Xv:=@PySem.F.slot_dict_pop
abbrev Xw:=@Array.getElem?_eq_some_iff
abbrev Xx:=@List.mem_of_mem_drop
abbrev Xy:=@Nat.lt_succ_self
abbrev Xz:=@Option.bind_some
abbrev XA:=@List.lookup_cons
abbrev XB:=@List.mem_flatMap
abbrev XC:=@List.mem_reverse
abbrev XD:=@Nat.add_le_add_left
abbrev XE:=@List.mem_map_of_mem
abbrev XF:=@PySem.F.slot_list_extend
abbrev XG:=@PySem.F.type_list_extend
abbrev XH:=@List.map_drop
abbrev XI:=@List.find?_cons
abbrev XJ:=@List.length_nil
abbrev XM:=@Array.append_assoc
abbrev XQ:=@List.getElem?_set_self
abbrev XR:=@Nat.pow_succ
abbrev XS:=@Nat.add_zero
abbrev XT:=@List.getElem_drop
abbrev XU:=@List.getElem_take
abbrev XV:=@Nat.zero_lt_of_lt
abbrev XW:=@List.foldl_append
abbrev XX:=@List.perm_append_comm
abbrev XY:=@List.mem_iff_getElem
abbrev XZ:=@Array.push_eq_append
abbrev V0:=@Bool.eq_iff_iff
abbrev V1:=@Int.lt_ediv_add_one_mul_self
abbrev V2:=@PySem.W.callWith_K0
abbrev V3:=@List.filter_sublist
abbrev V4:=@Nat.ne_of_gt
abbrev V5:=@Nat.mul_comm
abbrev V6:=@Nat.zero_add
abbrev V7:=@Nat.lt_of_le_of_lt
abbrev V8:=@PySem.F.excBase_ValueError
abbrev V9:=@Nat.pos_of_ne_zero
abbrev Va:=@Array.perm_iff_toList_perm
abbrev Vb:=@List.getElem?_take
abbrev Vc:=@Int.mul_nonneg
abbrev Vd:=@List.take_sublist
abbrev Ve:=@Nat.le_pred_of_lt
abbrev Vf:=@Option.isSome_iff_exists
abbrev Vg:=@List.getElem?_take_of_lt
abbrev Vh:=@List.take_nil
abbrev Vi:=@List.any_eq_true
abbrev Vj:=@PySem.F.slot_dict_items
abbrev Vk:=@List.getElem?_cons_succ
abbrev Vl:=@Nat.min_eq_right
abbrev Vm:=@Nat.div_div_eq_div_mul
abbrev Vn:=@Bool.or_true
abbrev Vo:=@List.drop_of_length_le
abbrev Vp:=@Option.map_some
abbrev Vq:=@List.getElem?_eq_none
abbrev Vr:=@Int.mul_ediv_add_emod
abbrev Vs:=@Array.getElem_push_lt
abbrev Vt:=@PySem.F.type_dict_pop
abbrev Vu:=@List.pairwise_reverse
abbrev Vv:=@Array.toArray_toList
abbrev Vw:=@List.getElem?_set_ne
abbrev Vx:=@Bool.false_and
abbrev Vy:=@Nat.add_le_add_right
abbrev Vz:=@List.getElem?_append
abbrev VA:=@List.length_eraseIdx
abbrev VB:=@List.filterMap_cons
abbrev VC:=@PySem.W.plainGet_of
abbrev VD:=@Int.toNat_of_nonneg
abbrev VE:=@List.take_succ_cons
abbrev VF:=@Bool.true_and
abbrev VG:=@Int.natCast_nonneg
abbrev VH:=@Nat.lt_or_eq_of_le
abbrev VI:=@List.eraseIdx_append_of_length_le
abbrev VJ:=@List.map_nil
abbrev VL:=@Option.isSome_map
abbrev VM:=@Int.mul_comm
abbrev VN:=@Int.le_of_lt
abbrev VO:=@Nat.lt_of_succ_lt
abbrev VP:=@Nat.sub_pos_of_lt
abbrev VQ:=@Nat.lt_or_ge
abbrev VR:=@Array.toList_push
abbrev VS:=@List.map_id'
abbrev VT:=@List.filter_congr
abbrev VU:=@Nat.le_total
abbrev VV:=@List.nodup_append
abbrev VW:=@Bool.not_eq_true'
abbrev VX:=@List.eraseIdxIfInBounds_toArray
abbrev VY:=@PySem.W.kat_cons
abbrev VZ:=@List.mem_flatten
abbrev W2:=@Int.mul_le_mul_of_nonneg_right
abbrev W3:=@Int.mul_le_mul_of_nonneg_left
abbrev W4:=@List.of_mem_zip
abbrev W5:=@Nat.not_lt_zero
abbrev W6:=@List.nil_append
abbrev W7:=@PySem.F.slot_dict_setdefault
abbrev W8:=@Int.ediv_nonneg
abbrev W9:=@PySem.W.kat_yes
abbrev Wa:=@List.mem_range
abbrev Wb:=@Int.fdiv_eq_ediv_of_nonneg
abbrev Wc:=@Bool.and_false
abbrev Wd:=@Nat.not_lt
abbrev We:=@List.drop_drop
abbrev Wf:=@Nat.sub_le
abbrev Wg:=@Array.toList_setIfInBounds
abbrev Wi:=@PySem.W.kat_go
abbrev Wj:=@PySem.W.kat_no
abbrev Wk:=@List.take_take
abbrev Wl:=@List.perm_ext_iff_of_nodup
abbrev Wm:=@if_neg
abbrev Wn:=@if_pos
abbrev Wo:=@PySem.Heap.get?_push_of_some
abbrev Wp:=@PySem.wpAny_bind
abbrev Wq:=@Option.some.inj
abbrev Wr:=@PyProof.Rows.wpS_bind
abbrev Ws:=@absurd
abbrev Wt:=@of_decide_eq_true
abbrev Wu:=@PyProof.Rows.wpS_pure
abbrev Wv:=@decide_eq_true
abbrev Ww:=@PySem.Heap.lt_size
abbrev Wx:=@PySem.wpAny_pure
abbrev Wy:=@PySem.Heap.get?_push_size
abbrev Wz:=@decide_eq_false
abbrev WA:=@beq_iff_eq
abbrev WB:=@decide_eq_true_eq
abbrev WC:=@beq_eq_false_iff_ne
abbrev WD:=@True.intro
abbrev WE:=@PySem.Heap.get?_update_other
abbrev WF:=@PySem.PassesOwn.never
abbrev WG:=@congrArg
abbrev WH:=@PySem.wpAny_holding
abbrev WI:=@PyProof.Rows.wpS_forRange
abbrev WJ:=@PySem.wpAny_mono
abbrev WK:=@List.Pairwise.nil
abbrev WL:=@PySem.wpAny_truthy_bool
abbrev WM:=@of_decide_eq_false
abbrev WN:=@beq_self_eq_true
abbrev WO:=@List.Perm.append_right
abbrev WP:=@List.Perm.trans
abbrev WQ:=@PyProof.Rows.wpS_modify
abbrev WR:=@PySem.wpAny_Call_Name_kw
abbrev WS:=@PySem.wpAny_passesOwn
abbrev WT:=@PySem.Heap.get?_none_of_le
abbrev WU:=@List.Perm.of_eq
abbrev WV:=@List.Perm.append_left
abbrev WW:=@PyProof.Rows.wpS_mono
abbrev WX:=@PySem.call_meetsIn
abbrev WY:=@PyProof.Rows.wpS_get
abbrev WZ:=@PySem.wpAny_rule
abbrev Y0:=@Prod.mk.inj
namespace L2
open PySem PySem.Spec PyProof.Rows
noncomputable def aL(s:Stmt)(j:Nat):Stmt:=match s with
 | .ClassDef _ _ _ body _ _ _ _ _ _ _=>body.getD j (.Pass {0,0,0,0})
 |_=> .Pass {0,0,0,0}
noncomputable def iI(s:Stmt):Arguments:=match s with
 | .FunctionDef _ a _ _ _ _ _ _ _ _=>a
 |_=>{posonlyargs:=[],args:=[],vararg:=none,kwonlyargs:=[],kw_defaults:=[],kwarg:=none,defaults:=[]}
noncomputable def dF(s:Stmt):List Stmt:=match s with
 | .FunctionDef _ _ b _ _ _ _ _ _ _=>b
 |_=> []
noncomputable def am(s:Stmt):Scope:=match s with
 | .FunctionDef _ _ _ _ _ _ sc _ _ _=>sc
 |_=>{kind:= .function,names:=[],isGenerator:=false,isCoroutine:=false}
end L2
namespace HD
open PySem PySem.W
abbrev _root_.Sr:=Program
abbrev _root_.Ss:=World
abbrev _root_.Tq:=Option Value
noncomputable def Kw(p:Sr)(w:Ss)(n₀:Nat)(ann:Tq):Nat->SharedT->Thread->Option SharedT
 |0,_,_=>none
 |n+1,s,t=>match through t with
  |true=>some s
  |false=>match Fast.tw6613529449190102663 n₀ ann t with
   |false=>none
   |true=>match Fast.tw10156331382660048174 (Fast.tw11892475500146522536 Fast.tw14364793385576792824) p w s t with
    |some (s',t')=>Kw p w n₀ ann n s' t'
    |none=>none
theorem Ev{p:Sr}{w:Ss}{z:Nat}{G:Tq}:∀{n:Nat}{s s':SharedT}{t:Thread},Kw p w z G n s t=some s'->topRun treeTable p w z G n s.abs t=some s'.abs
 |0,_,_,_,h=>by cases h
 |n+1,s,s',t,h=>by
  unfold Kw at h;rw[<-Fast.te6613529449190102663,<-Fast.te10156331382660048174,<-Fast.te11892475500146522536,<-Fast.te14364793385576792824]at h;unfold topRun;cases I:through t with
  |true=>rw[I]at h;cases h;rfl
  |false=>
   rw[I]at h;cases hk:stepOk z G t with
   |false=>rw[hk]at h;cases h
   |true=>
    rw[hk]at h;cases hs:stepT (denote treeTable) p w s t with
    |none=>rw[hs]at h;cases h
    |some x=>
     let{s2,O}:=x;rw[hs]at h;show(match step (denote treeTable) p w s.abs t with| .go s' t'=>topRun treeTable p w z G n s' t'| .halt _ _=>none)=_;rw[stepT_spec hs];exact Ev h
noncomputable def Iw:List Obj->BT->Nat->Option (BT×Nat)
 | [],t,n=>some (t,n)
 |o::r,t,n=>match ((t.ins n o).get n).isSome with
  |true=>Iw r (t.ins n o) (n+1)
  |false=>none
theorem EM{z:Life}:∀{l:List Obj}{t t':BT}{n n':Nat},Iw l t n=some (t',n')->absHeap t' n' z={(absHeap t n z).objs++l.toArray,z}
 | [],t,t',n,n',h=>by
  cases h;rw[Array.append_empty];rfl
 |o::r,t,t',n,n',h=>by
  unfold Iw at h;cases g:((t.ins n o).get n).isSome with
  |false=>rw[g]at h;cases h
  |true=>
   rw[g]at h;rw[EM h,absHeap_ins g];show Heap.mk _ _=Heap.mk _ _;congr 1;show(absHeap t n z).objs.push o++r.toArray=_;rw[<-Array.append_singleton,XM];congr 1;simp
abbrev _root_.L':=Shared
def toT(s:L'):Option SharedT:=match Iw s.heap.objs.toList .nil 0 with
 |some (t,n)=>some ⟨t,n,s.heap.life,s.gens,s.drawn,s.toks,s.os⟩
 |none=>none
def MF{s:L'}{S:SharedT}(h:toT s=some S):S.abs=s:=by
 unfold toT at h;cases e:Iw s.heap.objs.toList .nil 0 with
 |none=>rw[e]at h;cases h
 |some x=>
  let{t,n}:=x;rw[e]at h;cases h;let{{G,z},gens,drawn,toks,os}:=s;show Shared.mk (absHeap t n z) _ _ _ _=_;rw[EM e];show Shared.mk (Heap.mk (#[]++G.toList.toArray) z) _ _ _ _=_;rw[Vv,Array.empty_append]
def NO(p:Sr)(w:Ss)(N:Nat)(s₀:L'):Option Shared:=match toT s₀ with
 |some S=>(Kw p w S.n (s₀.heap.nsMap mainGlobals "__annotations__") N S<|topStub p).map SharedT.abs
 |none=>none
def Lj{p:Sr}{w:Ss}{N:Nat}{s₀ s₁:L'}(h:NO p w N s₀=some s₁):topRun treeTable p w s₀.heap.objs.size (s₀.heap.nsMap mainGlobals "__annotations__") N s₀ (topStub p)=some s₁:=by
 unfold NO at h;cases e:toT s₀ with
 |none=>rw[e]at h;cases h
 |some S=>
  rw[e]at h;let{G,h1,rfl}:=Xc.mp h;have ea:=MF e;have z:S.n=s₀.heap.objs.size:=by
   rw[<-ea];exact(absHeap_size _ _ _).symm
  rw[z]at h1;have:=Ev h1;rw[ea]at this;exact this
def endP(p:Sr)(w:Ss)(N:Nat):Option Shared:=((Fast.tw10274390034422433532 Fast.tw14364793385576792824 (opening p) w N (start<|opening p).1 (start<|opening p).2).bind<|Fast.tw14289696077712309145 p).bind λs₀=>match s₀.heap.isNs mainGlobals&&s₀.gens.size==0 with
 |true=>(NO p w N s₀).bind λs₁=>match staticsOk (importedModules p.main.body) s₀.heap s₁.heap&&namesBound p s₁.heap&&gensDone s₁&&laidKept s₀.heap s₁.heap with
  |true=>some s₁
  |false=>none
 |false=>none
def lA(p q:Sr)(N:Nat)(w:Ss):=(endP p w N).map λs=>(Fast.tw5160383126252970620 (R.mapR (λx=>x.name)<|Fast.tw3399658132070893891 q) (Fast.tw5991557255702980513 q) [] {s with gens:= #[]},s.heap.bltView)
abbrev _root_.Sx:=List Str
def lB(p q:Sr)(loose:Sx)(Xt:Shared->Bool)(N:Nat)(w:Ss):=(endP p w N).map λs=>(Fast.tw10880121769531294198 s.heap (Fast.tw821141287760084731 q loose) (R.mapR (λx=>x.name)<|Fast.tw3399658132070893891 q) (R.mapR (λx=>x.fst)<|Fast.tw7409074990110511671 q) (R.mapR (λx=>x.name)<|Fast.tw13664370479719496447 q<|Fast.tw821141287760084731 q loose)&&Fast.tw14722251495701143533 s.heap (importedModules p.main.body)&&s.heap.isNs mainGlobals&&s.heap.isNs builtinsNs&&Fast.tw10994771534591457954 q s.heap&&Xt s&&(s.gens.size==0),Fast.tw479339242167458305 q s)
def lC(p q:Sr)(loose:Sx)(N:Nat)(w:Ss):=(endP p w N).map λs=>(Fast.tw16090120013241838585 q (Fast.tw3247288618530077131 q) s,Fast.tw2386780881361962483 q (Fast.tw821141287760084731 q loose) s,Fast.tw11698064438423848299 q loose s,Fast.tw7317090234206586261 q s,Fast.tw7369524293546568484 q loose s)
def left_of{p q:Sr}{loose:Sx}{Xt:Shared->Bool}{α:Type}{Yf:Shared->α}{Ya:World->α}{N:Nat}(O:∀w,lA p q N w=some ((openGood q loose).1,(openGood q loose).2.1))(U:∀w,lB p q loose Xt N w=some (true,true))(Y:∀w,lC p q loose N w=some (openGood q loose).2.2.2.2)(hD:∀w,(endP p w N).map Yf=some (Ya w)):LeftO p q loose Xt Yf Ya N:=λw=>by
 let{s₁,e,a}:=Xc.mp (O w);let{_,e2,b}:=Xc.mp (U w);rw[e]at e2;cases e2;let{_,z,c}:=Xc.mp (Y w);rw[e]at z;cases z;let{_,G,d}:=Xc.mp (hD w);rw[e]at G;cases G;let{Z,a2}:=Y0 a;let{b1,b2}:=Y0 b;have g:Fast.tw4187177175401517315 q loose (importedModules p.main.body) Xt true s₁=openGood q loose:=by
  exact Prod.ext Z<|Prod.ext a2 (Prod.ext b1<|Prod.ext b2 c)
 rw[<-Fast.te4187177175401517315]at g;unfold endP at e;rw[<-Fast.te10274390034422433532,<-Fast.te14364793385576792824,<-Fast.te14289696077712309145]at e;let{s₀,h0,e}:=Option.bind_eq_some_iff.mp e;unfold openEnds fencedOpening;rw[h0];show(topFrom treeTable p w N s₀).map _=_;unfold topFrom;cases I:(s₀.heap.isNs mainGlobals&&s₀.gens.size==0)with
 |false=>rw[I]at e;cases e
 |true=>
  rw[I]at e;let{s₂,h1,e}:=Option.bind_eq_some_iff.mp e;show Option.map _ ((topRun treeTable p w s₀.heap.objs.size (s₀.heap.nsMap mainGlobals "__annotations__") N s₀<|topStub p).bind _)=_;rw[Lj h1];cases hs:(staticsOk (importedModules p.main.body) s₀.heap s₂.heap&&namesBound p s₂.heap&&gensDone s₂&&laidKept s₀.heap s₂.heap)with
  |false=>rw[hs]at e;cases e
  |true=>
   rw[hs]at e;cases e;show Option.map _ (match (staticsOk (importedModules p.main.body) s₀.heap s₁.heap&&namesBound p s₁.heap&&gensDone s₁&&laidKept s₀.heap s₁.heap)with|true=>some s₁|false=>none)=_;rw[hs];show some (_,_)=some (_,_);rw[g,d]
end HD
namespace SW
open PySem L2
set_option maxHeartbeats 0
noncomputable def top(i:Nat):Stmt:=PySem.Challenge.pw_staywalk_k53_each_in_its_turn.main.body.getD i (.Pass {0,0,0,0})
abbrev pJ:=aL (top 6) 0
abbrev pI:=aL (top 7) 0
abbrev nC:=aL (top 8) 0
abbrev kE:=aL (top 9) 0
abbrev wC:=top 13
abbrev tU:=top 14
abbrev qy:=top 15
abbrev tS:=top 16
abbrev lh:=top 17
abbrev tT:=top 18
abbrev qz:=top 20
abbrev tW:=top 22
abbrev tR:=top 23
abbrev jJ:=aL (top 24) 0
abbrev iV:=aL (top 24) 1
abbrev g7:=aL (top 25) 0
abbrev gu:=aL (top 25) 1
abbrev qA:=aL (top 26) 0
abbrev nB:=aL (top 26) 1
abbrev lM:=aL (top 27) 0
abbrev jU:=aL (top 27) 1
abbrev Hs:=top 30
abbrev gW:=top 31
abbrev fF:=top 32
abbrev fG:=top 33
abbrev ni:=top 34
abbrev iR:=top 35
abbrev tV:=top 37
abbrev wD:=top 38
abbrev lJ:=aL (top 39) 0
abbrev lI:=aL (top 39) 1
abbrev gl:=aL (top 39) 2
abbrev gY:=aL (top 39) 3
abbrev iZ:=aL (top 40) 0
abbrev eh:=aL (top 40) 1
abbrev d9:=aL (top 40) 2
abbrev dL:=aL (top 40) 3
abbrev gp:=aL (top 40) 4
abbrev dj:=aL (top 40) 5
abbrev cT:=aL (top 40) 6
abbrev i4:=aL (top 40) 7
abbrev gr:=aL (top 40) 8
abbrev gZ:=aL (top 40) 9
abbrev iY:=aL (top 40) 10
abbrev iW:=aL (top 44) 0
abbrev gN:=aL (top 44) 1
abbrev fJ:=aL (top 44) 2
abbrev jP:=aL (top 44) 3
abbrev nG:=aL (top 44) 4
abbrev dA:=aL (top 44) 6
abbrev cJ:=aL (top 44) 7
abbrev fI:=aL (top 44) 8
abbrev d8:=aL (top 44) 9
abbrev dJ:=aL (top 44) 10
abbrev jO:=aL (top 46) 0
abbrev jN:=aL (top 46) 1
abbrev jx:=top 50
abbrev jL:=aL (top 51) 0
abbrev lF:=aL (top 51) 1
abbrev jM:=aL (top 51) 2
abbrev lH:=aL (top 51) 3
abbrev lG:=aL (top 51) 4
abbrev gM:=aL (top 51) 6
abbrev nE:=aL (top 51) 7
abbrev eJ:=aL (top 51) 9
abbrev jK:=aL (top 51) 10
abbrev gk:=aL (top 51) 11
abbrev fH:=aL (top 51) 12
abbrev eS:=aL (top 51) 13
abbrev eT:=aL (top 51) 14
abbrev jQ:=aL (top 53) 0
abbrev lK:=aL (top 53) 1
abbrev jS:=aL (top 53) 2
abbrev lL:=aL (top 53) 3
abbrev rK:=aL (top 53) 4
abbrev fK:=aL (top 53) 6
abbrev iX:=aL (top 53) 7
abbrev jR:=aL (top 53) 11
abbrev jT:=aL (top 53) 15
abbrev iU:=top 55
abbrev lw:=top 56
abbrev iS:=top 58
abbrev nz:=top 59
abbrev lE:=top 60
abbrev d7:=top 61
abbrev iT:=top 62
abbrev lu:=top 63
abbrev lq:=top 65
abbrev nu:=top 66
abbrev iC:=top 67
abbrev gX:=top 68
abbrev Hr:=top 69
set_option genInjectivity false in
structure PB where
 CD:Addr
 xA:FuncData
 zZ:Addr
 uu:FuncData
 xL:Addr
 qM:FuncData
 zX:Addr
 ur:FuncData
 sS:Addr
 l7:FuncData
 zY:Addr
 ut:FuncData
 xM:Addr
 qN:FuncData
 z8:Addr
 uw:FuncData
 zW:Addr
 uq:FuncData
 kB:Addr
 j5:FuncData
 dP:Addr
 jn:FuncData
 mO:Addr
 dh:FuncData
 kX:Addr
 gJ:FuncData
 xO:Addr
 jk:FuncData
 uN:Addr
 oj:FuncData
 tD:Addr
 f9:FuncData
 qi:Addr
 kx:FuncData
 Mv:Addr
 Cr:FuncData
 mK:Addr
 hJ:FuncData
 oC:Addr
 jg:FuncData
 oE:Addr
 jh:FuncData
 uJ:Addr
 n9:FuncData
 oB:Addr
 jf:FuncData
 z7:Addr
 uv:FuncData
 CF:Addr
 xB:FuncData
 tq:Addr
 mC:FuncData
 tm:Addr
 mB:FuncData
 kT:Addr
 gG:FuncData
 mM:Addr
 hX:FuncData
 oM:Addr
 gd:FuncData
 iB:Addr
 eF:FuncData
 iA:Addr
 cO:FuncData
 gU:Addr
 dO:FuncData
 kU:Addr
 gH:FuncData
 gj:Addr
 dn:FuncData
 fk:Addr
 cY:FuncData
 oN:Addr
 jq:FuncData
 kW:Addr
 gI:FuncData
 mN:Addr
 hZ:FuncData
 oK:Addr
 jp:FuncData
 oI:Addr
 jo:FuncData
 qd:Addr
 ko:FuncData
 jF:Addr
 fX:FuncData
 qc:Addr
 kj:FuncData
 jE:Addr
 fW:FuncData
 iz:Addr
 eE:FuncData
 jD:Addr
 fV:FuncData
 iy:Addr
 eD:FuncData
 gT:Addr
 dN:FuncData
 qb:Addr
 kh:FuncData
 qa:Addr
 kg:FuncData
 uK:Addr
 oe:FuncData
 p7:Addr
 j9:FuncData
 sY:Addr
 mq:FuncData
 p8:Addr
 kf:FuncData
 tj:Addr
 my:FuncData
 sZ:Addr
 mw:FuncData
 p6:Addr
 j8:FuncData
 pZ:Addr
 j7:FuncData
 pY:Addr
 j6:FuncData
 kS:Addr
 gF:FuncData
 jC:Addr
 fS:FuncData
 js:Addr
 e6:FuncData
 jt:Addr
 e7:FuncData
 qe:Addr
 kq:FuncData
 tw:Addr
 mD:FuncData
 qg:Addr
 kt:FuncData
 tx:Addr
 mE:FuncData
 jG:Addr
 fY:FuncData
 oJ:Addr
 fZ:FuncData
 qf:Addr
 kr:FuncData
 qh:Addr
 ku:FuncData
 oH:Addr
 jj:FuncData
 sW:Addr
 mj:FuncData
 xN:Addr
 qO:FuncData
 uM:Addr
 oi:FuncData
 sX:Addr
 mn:FuncData
 iw:Addr
 eC:FuncData
 oG:Addr
 ji:FuncData
 sU:Addr
 mh:FuncData
 sT:Addr
 mf:FuncData
 uL:Addr
 oh:FuncData
 sV:Addr
 mi:FuncData
 mL:Addr
 hV:FuncData
 Mu:Addr
 E6:FuncData
 bL:Addr
 pz:Addr
 xF:Addr
 bI:Addr
 gP:Addr
 aX:Addr
 dZ:Addr
 cv:Addr
 bZ:Addr
 aY:Addr
 bJ:Addr
 gQ:Addr
 a8:Addr
 bi:Addr
end SW
namespace ZK
open PySem PySem.W SW L2
noncomputable abbrev N:Value:= .none
noncomputable abbrev Jz(b:Bool):Value:= .bool b
noncomputable abbrev I(i:Int):Value:= .int i 0
noncomputable abbrev S(x:Str)(t:Nat):Value:= .str x t
noncomputable abbrev F(t:Nat):Value:= .str "/claim/cut.py" t
abbrev _root_.K':=Addr
noncomputable abbrev R(a:K'):Value:= .ref a
noncomputable abbrev T(n:String):Value:= .type n
abbrev _root_.Sk:=Value
noncomputable abbrev E(P:Params)(x:Str)(t:Nat)(v:Sk):DictEntry:={PyData.keyHash P x,.str x t,v}
abbrev _root_.Sl:=List Value
noncomputable abbrev c(vs:Sl):Obj:={.type "code",none,.fields vs.toArray, #[]}
abbrev o(n:Str)(a:Nat)(m:Str)(b d:Nat)(e g h i j:Int)(k:K')(l:Int)(r s t u:K')(v w:Int)(x:Nat):Obj:=c [S n a,S m b,F d,I e,I g,I h,I i,I j,R k,Jz true,I l,R r,N,R s,R t,R u,I v,I w,F x]
abbrev _root_.Sy:=Option Addr
abbrev D(nm qn:Str)(s:Stmt)(df kV dc pm:Sk)(an:Sy)(cd ct:Sk):FuncData:=fnOf nm qn (iI s) (dF s) (am s) df kV dc pm an cd ct
abbrev _root_.Tf:=FuncData
noncomputable abbrev f(d:Tf):Obj:={.type "function",none,.func d, #[]}
abbrev d10:=λx q s r=>D x q s N N N (S "law_staywalk_k53_each_in_its_turn" 1366) none (R r) N
abbrev d11:=λx q s r=>D x q s N N N (S "staywalk.asks" 586) none (R r) N
abbrev d12:=λx q s r=>D x q s N N N (S "staywalk.bits" 362) none (R r) N
abbrev d13:=λx q s r=>D x q s N N N (S "staywalk.copier" 639) none (R r) N
abbrev d14:=λx q s r=>D x q s N N N (S "staywalk.house" 1189) none (R r) N
abbrev d15:=λx q s r=>D x q s N N N (S "staywalk.leaves" 850) none (R r) N
abbrev d16:=λx q s r=>D x q s N N N (S "staywalk.makes" 963) none (R r) N
abbrev d17:=λx q s r=>D x q s N N N (S "staywalk.slots" 1026) none (R r) N
abbrev d18:=λx q s r=>D x q s N N N (S "staywalk.tokens" 426) none (R r) N
def t:PB:={153,d12 "turned" "turned" wC 152,160,d12 "mark_of" "mark_of" tU 159,167,d12 "place_of" "place_of" qy 166,174,d12 "slot_of" "slot_of" tS 173,181,d12 "stretch_of" "stretch_of" lh 180,188,d12 "slot_at" "slot_at" tT 187,195,D "is_whole" "is_whole" qz N N N (S "staywalk.wholes" 417) none (R 194) N,202,d18 "is_from" "is_from" tW 201,209,d18 "word_of" "word_of" tR 208,223,d18 "__init__" "Token.__init__" jJ 222,230,d18 "words" "Token.words" iV 229,252,D "__init__" "BySlots.__init__" g7 (R 245) N N (S "staywalk.tokens" 426) none (R 251) N,259,d18 "holds" "BySlots.holds" gu 258,279,D "__init__" "Up.__init__" qA (R 272) N N (S "staywalk.tokens" 426) none (R 278) N,286,d18 "holds" "Up.holds" nB 285,306,D "__init__" "Down.__init__" lM (R 299) N N (S "staywalk.tokens" 426) none (R 305) N,313,d18 "holds" "Down.holds" jU 312,324,D "ask" "ask" Hs (R 319) N N (S "staywalk.asks" 586) none (R 323) N,331,d11 "page_by_slots" "page_by_slots" gW 330,336,d11 "page_by_keys" "page_by_keys" fF 335,341,d11 "keys_of_page" "keys_of_page" fG 340,348,d11 "keys_near" "keys_near" ni 347,355,d11 "token_behind" "token_behind" iR 354,362,d13 "is_left" "is_left" tV 361,369,d13 "change" "change" wD 368,383,d13 "__init__" "Page.__init__" lJ 382,390,d13 "read" "Page.read" lI 389,397,d13 "in_piece" "Page.in_piece" gl 396,404,d13 "outcome" "Page.outcome" gY 403,426,D "__init__" "Copier.__init__" iZ (R 419) N N (S "staywalk.copier" 639) none (R 425) N,433,d13 "open_page" "Copier.open_page" eh 432,441,D "read_page" "Copier.read_page" d9 (R 434) N N (S "staywalk.copier" 639) none (R 440) N,448,d13 "close_page" "Copier.close_page" dL 447,455,d13 "follow" "Copier.follow" gp 454,462,d13 "follow_mark" "Copier.follow_mark" dj 461,469,d13 "follow_change" "Copier.follow_change" cT 468,476,d13 "copy" "Copier.copy" i4 475,483,d13 "covers" "Copier.covers" gr 482,490,d13 "place" "Copier.place" gZ 489,497,d13 "left" "Copier.left" iY 496,532,d15 "__init__" "Leaves.__init__" iW 531,537,d15 "add" "Leaves.add" gN 536,544,d15 "discard" "Leaves.discard" fJ 543,551,d15 "has" "Leaves.has" jP 550,568,d15 "from_on" "Leaves.from_on" dA 567,573,d15 "down_from" "Leaves.down_from" cJ 572,580,d15 "leaf_of" "Leaves.leaf_of" fI 579,587,d15 "part_leaf" "Leaves.part_leaf" d8 586,594,d15 "join_small" "Leaves.join_small" dJ 593,615,d16 "__init__" "Makes.__init__" jO 614,622,d16 "note" "Makes.note" jN 621,655,d17 "empty_row" "empty_row" jx 654,669,d17 "__init__" "Slots.__init__" jL 668,676,d17 "put" "Slots.put" lF 675,683,d17 "drop" "Slots.drop" jM 682,690,d17 "get" "Slots.get" lH 689,697,d17 "has" "Slots.has" lG 696,709,d17 "rows" "Slots.rows" gM 708,728,d17 "span" "Slots.span" eJ 727,735,d17 "stop" "Slots.stop" jK 734,742,d17 "cell_of" "Slots.cell_of" gk 741,749,d17 "lying_at" "Slots.lying_at" fH 748,756,d17 "move_slot" "Slots.move_slot" eS 755,763,d17 "begin_row" "Slots.begin_row" eT 762,784,d14 "__init__" "House.__init__" jQ 783,791,d14 "put" "House.put" lK 790,798,d14 "drop" "House.drop" jS 797,805,d14 "get" "House.get" lL 804,826,d14 "lay_mark" "House.lay_mark" fK 825,834,D "diary" "House.diary" iX (R 827) N N (S "staywalk.house" 1189) none (R 833) N,862,d14 "held" "House.held" jR 861,891,d14 "done" "House.done" jT 890,919,d10 "_law_cell_at" "_law_cell_at" iU 918,926,d10 "_law_mixed" "_law_mixed" lw 925,938,d10 "_law_run" "_law_run" iS 937,945,d10 "_law_deed" "_law_deed" nz 944,952,d10 "_law_house" "_law_house" lE 951,959,d10 "_law_numbers_told" "_law_numbers_told" d7 958,966,d10 "_law_numbers" "_law_numbers" iT 965,973,d10 "_law_token" "_law_token" lu 972,987,d10 "_law_words" "_law_words" lq 986,994,d10 "_law_step" "_law_step" nu 993,999,d10 "_law_right" "_law_right" iC 998,1006,d10 "_law_followed" "_law_followed" gX 1005,1013,d10 "law" "law" Hr 1012,31,44,56,68,233,262,289,316,407,514,597,646,766,908}
abbrev ob(n m:Str)(a:Nat)(e g:Int)(k:K')(v:Nat):=o n a m (a+1) (a+2) e g 0 0 3 k 181 (k+1) (k+2) (k+3) (k+4) v e (v+1)
abbrev oa(n:Str):=ob n n
abbrev oc(n m:Str)(a:Nat)(e g:Int)(k:K')(v:Nat):=c [S n a,S m (a+1),F (a+2),I e,I g,I 0,I 0,I 3,R k,Jz true,I 181,R (k+1),N,N,N,R (k+2),I v,I e,F (v+1)]
abbrev kc(n:Str)(b m:Sl)(d:K')(s:Sl)(z:Tq)(p q:Nat)(w:String):Obj:={T "type",none,.cls {n,b,m,d,n,true,[],s,false,none,false}, #[z,none,some (S n p),some (S n q),some (.builtin w),some (Jz true)]}
abbrev kp(n:Str)(a d:K')(p q:Nat):=kc n [T "object"] [R a,T "object"] d [] none p q "object.__new__"
abbrev ea(P:Params)(x:Str)(t:Nat)(a:K'):=E P x t (R a)
def K:Params->Frag:=λP=>(!2,{N,none,.dict #[] 0, #[]})::
(!3,{(T "dict"),none,.dict #[E P "__name__" 165 (S "law_staywalk_k53_each_in_its_turn" 1366),E P "__doc__" 166 N,E P "__package__" 167 N,E P "__loader__" 168 (.builtin "__main__.__loader__#opaque"),E P "__spec__" 169 N,ea P "__annotations__" 170 6,ea P "__builtins__" 171 4,E P "__file__" 173 (S "/claim/cut.py" 172),E P "__cached__" 174 N,ea P "_wall" 193 21,ea P "WalkError" 213 31,ea P "NoToken" 229 44,ea P "NoPart" 245 56,ea P "OutOfTurn" 261 68,ea P "NoKey" 286 87,ea P "Twice" 311 106,ea P "TooOld" 336 125,ea P "NoMoment" 361 144,E P "BITS" 365 (.int 16 364),E P "PLACES" 367 (.int 65536 366),ea P "turned" 377 153,ea P "mark_of" 384 160,ea P "place_of" 391 167,ea P "slot_of" 399 174,ea P "stretch_of" 408 181,ea P "slot_at" 416 188,ea P "is_whole" 425 195,ea P "is_from" 435 202,ea P "word_of" 442 209,ea P "Token" 482 233,ea P "BySlots" 517 262,ea P "Up" 551 289,ea P "Down" 585 316,E P "STRETCHES_A_KEY" 589 (.int 4 588),ea P "ask" 596 324,ea P "page_by_slots" 609 331,ea P "page_by_keys" 615 336,ea P "keys_of_page" 621 341,ea P "keys_near" 630 348,ea P "token_behind" 638 355,ea P "is_left" 648 362,ea P "change" 656 369,ea P "Page" 716 407,ea P "Copier" 849 514,E P "MOST_IN_LEAF" 853 (.int 8 852),E P "LEAST_IN_TWO" 855 (.int 5 854),ea P "Leaves" 962 597,ea P "Makes" 1025 646,E P "LEAST_SIZE" 1029 (.int 4 1028),E P "GREATEST_SIZE" 1031 (.int 256 1030),ea P "empty_row" 1037 655,ea P "Slots" 1188 766,ea P "House" 1365 908,ea P "_law_cell_at" 1375 919,ea P "_law_mixed" 1384 926,ea P "_law_place" 1394 933,ea P "_law_run" 1400 938,ea P "_law_deed" 1412 945,ea P "_law_house" 1422 952,ea P "_law_numbers_told" 1432 959,ea P "_law_numbers" 1444 966,ea P "_law_token" 1451 973,ea P "_law_holds" 1462 980,ea P "_law_words" 1469 987,ea P "_law_step" 1480 994,ea P "_law_right" 1486 999,ea P "_law_followed" 1498 1006,ea P "law" 1513 1013] 68, #[]})::
(!30,{(T "dict"),none,.dict #[E P "__module__" 203 (S "staywalk.errors" 194),E P "__firstlineno__" 207 (.int 5 206),ea P "__static_attributes__" 208 29,ea P "__weakref__" 210 32,E P "__doc__" 211 N] 3, #[]})::
(!31,kc "WalkError" [(T "ValueError")] [(R 31),(T "ValueError"),(T "Exception"),(T "BaseException"),(T "object")] 30 [(R 44),(R 56),(R 68),(R 87),(R 106),(R 125),(R 144)] (some (R 22)) 196 204 "ValueError.__new__")::
(!43,{(T "dict"),none,.dict #[E P "__module__" 221 (S "staywalk.errors" 194),E P "__firstlineno__" 225 (.int 7 224),ea P "__static_attributes__" 226 42,E P "__doc__" 227 N] 2, #[]})::
(!44,kc "NoToken" [(R 31)] [(R 44),(R 31),(T "ValueError"),(T "Exception"),(T "BaseException"),(T "object")] 43 [] (some (R 35)) 214 222 "ValueError.__new__")::
(!55,{(T "dict"),none,.dict #[E P "__module__" 237 (S "staywalk.errors" 194),E P "__firstlineno__" 241 (.int 9 240),ea P "__static_attributes__" 242 54,E P "__doc__" 243 N] 2, #[]})::
(!56,kc "NoPart" [(R 31)] [(R 56),(R 31),(T "ValueError"),(T "Exception"),(T "BaseException"),(T "object")] 55 [] (some (R 47)) 230 238 "ValueError.__new__")::
(!67,{(T "dict"),none,.dict #[E P "__module__" 253 (S "staywalk.errors" 194),E P "__firstlineno__" 257 (.int 11 256),ea P "__static_attributes__" 258 66,E P "__doc__" 259 N] 2, #[]})::
(!68,kc "OutOfTurn" [(R 31)] [(R 68),(R 31),(T "ValueError"),(T "Exception"),(T "BaseException"),(T "object")] 67 [] (some (R 59)) 246 254 "ValueError.__new__")::
(!152,oa "turned" 368 36 1 147 375)::
(!153,f t.xA)::
(!159,oa "mark_of" 378 43 1 154 382)::
(!160,f t.uu)::
(!166,oa "place_of" 385 45 1 161 389)::
(!167,f t.qM)::
(!173,oa "slot_of" 392 47 2 168 397)::
(!174,f t.ur)::
(!180,oa "stretch_of" 400 49 2 175 406)::
(!181,f t.l7)::
(!187,oa "slot_at" 409 52 2 182 414)::
(!188,f t.ut)::
(!194,oa "is_whole" 419 55 1 189 423)::
(!195,f t.qN)::
(!201,oa "is_from" 428 58 2 196 433)::
(!202,f t.uw)::
(!208,oa "word_of" 436 60 1 203 440)::
(!209,f t.uq)::
(!222,ob "__init__" "Token.__init__" 455 64 4 217 462)::
(!223,f t.j5)::
(!229,ob "words" "Token.words" 465 69 1 224 469)::
(!230,f t.jn)::
(!232,{(T "dict"),none,.dict #[E P "__module__" 450 (S "staywalk.tokens" 426),E P "__firstlineno__" 454 (.int 62 453),ea P "__init__" 464 223,ea P "words" 471 230,ea P "__static_attributes__" 475 231,ea P "__dict__" 477 234,ea P "__weakref__" 479 235,E P "__doc__" 480 N] 4, #[]})::
(!233,kc "Token" [(T "object")] [(R 233),(T "object")] 232 [(R 262),(R 289),(R 316)] none 443 451 "object.__new__")::
(!245,{(T "tuple"),none,.seq #[(.int 0 495),(.int 65536 496)] 0, #[]})::
(!251,ob "__init__" "BySlots.__init__" 497 73 3 246 503)::
(!252,f t.dh)::
(!258,ob "holds" "BySlots.holds" 506 78 2 253 511)::
(!259,f t.gJ)::
(!261,{(T "dict"),none,.dict #[E P "__module__" 490 (S "staywalk.tokens" 426),E P "__firstlineno__" 494 (.int 71 493),ea P "__init__" 505 252,ea P "holds" 513 259,ea P "__static_attributes__" 514 260,E P "__doc__" 515 N] 2, #[]})::
(!262,kc "BySlots" [(R 233)] [(R 262),(R 233),(T "object")] 261 [] (some (R 238)) 483 491 "object.__new__")::
(!272,{(T "tuple"),none,.seq #[(.int 0 530),N] 0, #[]})::
(!278,ob "__init__" "Up.__init__" 531 82 3 273 537)::
(!279,f t.jk)::
(!285,ob "holds" "Up.holds" 540 87 2 280 545)::
(!286,f t.oj)::
(!288,{(T "dict"),none,.dict #[E P "__module__" 525 (S "staywalk.tokens" 426),E P "__firstlineno__" 529 (.int 80 528),ea P "__init__" 539 279,ea P "holds" 547 286,ea P "__static_attributes__" 548 287,E P "__doc__" 549 N] 2, #[]})::
(!289,kc "Up" [(R 233)] [(R 289),(R 233),(T "object")] 288 [] (some (R 265)) 518 526 "object.__new__")::
(!299,{(T "tuple"),none,.seq #[N,(.int 0 564)] 0, #[]})::
(!305,ob "__init__" "Down.__init__" 565 91 3 300 571)::
(!306,f t.f9)::
(!312,ob "holds" "Down.holds" 574 96 2 307 579)::
(!313,f t.kx)::
(!315,{(T "dict"),none,.dict #[E P "__module__" 559 (S "staywalk.tokens" 426),E P "__firstlineno__" 563 (.int 89 562),ea P "__init__" 573 306,ea P "holds" 581 313,ea P "__static_attributes__" 582 314,E P "__doc__" 583 N] 2, #[]})::
(!316,kc "Down" [(R 233)] [(R 316),(R 233),(T "object")] 315 [] (some (R 292)) 552 560 "object.__new__")::
(!319,{(T "tuple"),none,.seq #[(.int 10 590),N] 0, #[]})::
(!323,oc "ask" "ask" 591 100 4 320 594)::
(!324,f t.Cr)::
(!330,oa "page_by_slots" 597 108 3 325 607)::
(!331,f t.hJ)::
(!335,oc "page_by_keys" "page_by_keys" 610 122 3 332 613)::
(!336,f t.jg)::
(!340,oc "keys_of_page" "keys_of_page" 616 125 3 337 619)::
(!341,f t.jh)::
(!347,oa "keys_near" 622 134 3 342 628)::
(!348,f t.n9)::
(!354,oa "token_behind" 631 138 2 349 636)::
(!355,f t.jf)::
(!361,oa "is_left" 641 143 2 356 646)::
(!362,f t.uv)::
(!368,oa "change" 649 145 2 363 654)::
(!369,f t.xB)::
(!382,ob "__init__" "Page.__init__" 669 152 2 377 674)::
(!383,f t.mC)::
(!389,ob "read" "Page.read" 677 159 3 384 684)::
(!390,f t.mB)::
(!396,ob "in_piece" "Page.in_piece" 687 164 2 391 692)::
(!397,f t.gG)::
(!403,ob "outcome" "Page.outcome" 695 167 1 398 701)::
(!404,f t.hX)::
(!406,{(T "dict"),none,.dict #[E P "__module__" 664 (S "staywalk.copier" 639),E P "__firstlineno__" 668 (.int 150 667),ea P "__init__" 676 383,ea P "read" 686 390,ea P "in_piece" 694 397,ea P "outcome" 703 404,ea P "__static_attributes__" 709 405,ea P "__dict__" 711 408,ea P "__weakref__" 713 409,E P "__doc__" 714 N] 4, #[]})::
(!407,kp "Page" 407 406 657 665)::
(!419,{(T "tuple"),none,.seq #[N] 0, #[]})::
(!425,ob "__init__" "Copier.__init__" 729 174 4 420 736)::
(!426,f t.gd)::
(!432,ob "open_page" "Copier.open_page" 739 184 1 427 743)::
(!433,f t.eF)::
(!434,{(T "tuple"),none,.seq #[(.int 10 746)] 0, #[]})::
(!440,ob "read_page" "Copier.read_page" 747 192 2 435 753)::
(!441,f t.cO)::
(!447,ob "close_page" "Copier.close_page" 756 199 1 442 761)::
(!448,f t.dO)::
(!454,ob "follow" "Copier.follow" 764 206 2 449 771)::
(!455,f t.gH)::
(!461,ob "follow_mark" "Copier.follow_mark" 774 216 2 456 780)::
(!462,f t.dn)::
(!468,ob "follow_change" "Copier.follow_change" 783 224 2 463 790)::
(!469,f t.cY)::
(!475,ob "copy" "Copier.copy" 793 232 1 470 797)::
(!476,f t.jq)::
(!482,ob "covers" "Copier.covers" 800 235 2 477 805)::
(!483,f t.gI)::
(!489,ob "place" "Copier.place" 808 238 1 484 812)::
(!490,f t.hZ)::
(!496,ob "left" "Copier.left" 815 241 1 491 819)::
(!497,f t.jp)::
(!513,{(T "dict"),none,.dict #[E P "__module__" 724 (S "staywalk.copier" 639),E P "__firstlineno__" 728 (.int 172 727),ea P "__init__" 738 426,ea P "open_page" 745 433,ea P "read_page" 755 441,ea P "close_page" 763 448,ea P "follow" 773 455,ea P "follow_mark" 782 462,ea P "follow_change" 792 469,ea P "copy" 799 476,ea P "covers" 807 483,ea P "place" 814 490,ea P "left" 821 497,ea P "total" 828 504,ea P "stopped" 835 511,ea P "__static_attributes__" 842 512,ea P "__dict__" 844 515,ea P "__weakref__" 846 516,E P "__doc__" 847 N] 4, #[]})::
(!514,kp "Copier" 514 513 717 725)::
(!531,ob "__init__" "Leaves.__init__" 868 254 1 526 872)::
(!532,f t.jo)::
(!536,oc "add" "Leaves.add" 875 257 2 533 878)::
(!537,f t.ko)::
(!543,ob "discard" "Leaves.discard" 881 269 2 538 887)::
(!544,f t.fX)::
(!550,ob "has" "Leaves.has" 890 280 2 545 896)::
(!551,f t.kj)::
(!555,oc "many" "Leaves.many" 899 284 1 552 902)::
(!567,oc "from_on" "Leaves.from_on" 912 290 3 564 915)::
(!568,f t.fW)::
(!572,oc "down_from" "Leaves.down_from" 918 298 3 569 921)::
(!573,f t.eE)::
(!579,ob "leaf_of" "Leaves.leaf_of" 924 308 2 574 932)::
(!580,f t.fV)::
(!586,ob "part_leaf" "Leaves.part_leaf" 935 319 2 581 942)::
(!587,f t.eD)::
(!593,ob "join_small" "Leaves.join_small" 945 325 2 588 951)::
(!594,f t.dN)::
(!596,{(T "dict"),none,.dict #[E P "__module__" 863 (S "staywalk.leaves" 850),E P "__firstlineno__" 867 (.int 252 866),ea P "__init__" 874 532,ea P "add" 880 537,ea P "discard" 889 544,ea P "has" 898 551,ea P "many" 904 556,ea P "all_of" 911 563,ea P "from_on" 917 568,ea P "down_from" 923 573,ea P "leaf_of" 934 580,ea P "part_leaf" 944 587,ea P "join_small" 953 594,ea P "__static_attributes__" 955 595,ea P "__dict__" 957 598,ea P "__weakref__" 959 599,E P "__doc__" 960 N] 4, #[]})::
(!597,kp "Leaves" 597 596 856 864)::
(!614,ob "__init__" "Makes.__init__" 977 335 1 609 981)::
(!615,f t.kh)::
(!621,ob "note" "Makes.note" 984 338 3 616 990)::
(!622,f t.kg)::
(!645,{(T "dict"),none,.dict #[E P "__module__" 972 (S "staywalk.makes" 963),E P "__firstlineno__" 976 (.int 333 975),ea P "__init__" 983 615,ea P "note" 992 622,ea P "all_told" 999 629,ea P "value_at" 1008 636,ea P "sweep" 1016 643,ea P "__static_attributes__" 1018 644,ea P "__dict__" 1020 647,ea P "__weakref__" 1022 648,E P "__doc__" 1023 N] 4, #[]})::
(!646,kp "Makes" 646 645 965 973)::
(!654,oc "empty_row" "empty_row" 1032 355 1 651 1035)::
(!655,f t.oe)::
(!668,ob "__init__" "Slots.__init__" 1050 359 1 663 1054)::
(!669,f t.j9)::
(!675,ob "put" "Slots.put" 1057 364 3 670 1064)::
(!676,f t.mq)::
(!682,ob "drop" "Slots.drop" 1067 372 2 677 1072)::
(!683,f t.kf)::
(!689,ob "get" "Slots.get" 1075 380 2 684 1081)::
(!690,f t.my)::
(!696,ob "has" "Slots.has" 1084 386 2 691 1089)::
(!697,f t.mw)::
(!708,oc "rows" "Slots.rows" 1099 392 1 705 1102)::
(!709,f t.j8)::
(!727,oc "span" "Slots.span" 1119 401 3 724 1122)::
(!728,f t.j7)::
(!734,ob "stop" "Slots.stop" 1125 411 2 729 1131)::
(!735,f t.j6)::
(!741,ob "cell_of" "Slots.cell_of" 1134 415 2 736 1142)::
(!742,f t.gF)::
(!748,ob "lying_at" "Slots.lying_at" 1145 423 2 743 1156)::
(!749,f t.fS)::
(!755,ob "move_slot" "Slots.move_slot" 1159 432 1 750 1167)::
(!756,f t.e6)::
(!762,ob "begin_row" "Slots.begin_row" 1170 445 1 757 1175)::
(!763,f t.e7)::
(!765,{(T "dict"),none,.dict #[E P "__module__" 1045 (S "staywalk.slots" 1026),E P "__firstlineno__" 1049 (.int 357 1048),ea P "__init__" 1056 669,ea P "put" 1066 676,ea P "drop" 1074 683,ea P "get" 1083 690,ea P "has" 1091 697,ea P "many" 1098 704,ea P "rows" 1104 709,ea P "moved" 1111 716,ea P "cells" 1118 723,ea P "span" 1124 728,ea P "stop" 1133 735,ea P "cell_of" 1144 742,ea P "lying_at" 1158 749,ea P "move_slot" 1169 756,ea P "begin_row" 1177 763,ea P "__static_attributes__" 1181 764,ea P "__dict__" 1183 767,ea P "__weakref__" 1185 768,E P "__doc__" 1186 N] 4, #[]})::
(!766,kp "Slots" 766 765 1038 1046)::
(!783,ob "__init__" "House.__init__" 1203 456 1 778 1207)::
(!784,f t.kq)::
(!790,ob "put" "House.put" 1210 466 3 785 1216)::
(!791,f t.mD)::
(!797,ob "drop" "House.drop" 1219 472 2 792 1224)::
(!798,f t.kt)::
(!804,ob "get" "House.get" 1227 477 2 799 1232)::
(!805,f t.mE)::
(!825,ob "lay_mark" "House.lay_mark" 1250 486 1 820 1254)::
(!826,f t.fY)::
(!827,{(T "tuple"),none,.seq #[(.int 0 1257)] 0, #[]})::
(!833,ob "diary" "House.diary" 1258 491 2 828 1263)::
(!834,f t.fZ)::
(!861,ob "held" "House.held" 1289 503 1 856 1293)::
(!862,f t.kr)::
(!890,ob "done" "House.done" 1323 516 3 885 1330)::
(!891,f t.ku)::
(!907,{(T "dict"),none,.dict #[E P "__module__" 1198 (S "staywalk.house" 1189),E P "__firstlineno__" 1202 (.int 454 1201),ea P "__init__" 1209 784,ea P "put" 1218 791,ea P "drop" 1226 798,ea P "get" 1234 805,ea P "has" 1242 812,ea P "many" 1249 819,ea P "lay_mark" 1256 826,ea P "diary" 1265 834,ea P "makes" 1273 841,ea P "hold" 1280 848,ea P "let_go" 1288 855,ea P "held" 1295 862,ea P "sweep" 1302 869,ea P "was" 1311 876,ea P "page_at" 1322 884,ea P "done" 1332 891,ea P "refuse_outside" 1340 898,ea P "value_then" 1349 905,ea P "__static_attributes__" 1358 906,ea P "__dict__" 1360 909,ea P "__weakref__" 1362 910,E P "__doc__" 1363 N] 4, #[]})::
(!908,kp "House" 908 907 1191 1199)::
(!918,oa "_law_cell_at" 1368 532 2 913 1373)::
(!919,f t.jj)::
(!925,oa "_law_mixed" 1376 536 2 920 1382)::
(!926,f t.mj)::
(!937,oc "_law_run" "_law_run" 1395 546 1 934 1398)::
(!938,f t.qO)::
(!944,oa "_law_deed" 1401 563 3 939 1410)::
(!945,f t.oi)::
(!951,oa "_law_house" 1413 576 1 946 1420)::
(!952,f t.mn)::
(!958,oa "_law_numbers_told" 1423 582 2 953 1430)::
(!959,f t.eC)::
(!965,oa "_law_numbers" 1433 593 2 960 1442)::
(!966,f t.ji)::
(!972,oa "_law_token" 1445 611 1 967 1449)::
(!973,f t.mh)::
(!986,oa "_law_words" 1463 624 1 981 1467)::
(!987,f t.mf)::
(!993,oa "_law_step" 1470 628 3 988 1478)::
(!994,f t.oh)::
(!998,oc "_law_right" "_law_right" 1481 642 5 995 1484)::
(!999,f t.mi)::
(!1005,oa "_law_followed" 1487 655 4 1000 1496)::
(!1006,f t.hV)::
(!1012,oa "law" 1499 663 1 1007 1511)::
(!1013,f t.E6)::[]
noncomputable abbrev as:List Addr:=[2,3,30,31,43,44,55,56,67,68,152,153,159,160,166,167,173,174,180,181,187,188,194,195,201,202,208,209,222,223,229,230,232,233,245,251,252,258,259,261,262,272,278,279,285,286,288,289,299,305,306,312,313,315,316,319,323,324,330,331,335,336,340,341,347,348,354,355,361,362,368,369,382,383,389,390,396,397,403,404,406,407,419,425,426,432,433,434,440,441,447,448,454,455,461,462,468,469,475,476,482,483,489,490,496,497,513,514,531,532,536,537,543,544,550,551,555,567,568,572,573,579,580,586,587,593,594,596,597,614,615,621,622,645,646,654,655,668,669,675,676,682,683,689,690,696,697,708,709,727,728,734,735,741,742,748,749,755,756,762,763,765,766,783,784,790,791,797,798,804,805,825,826,827,833,834,861,862,890,891,907,908,918,919,925,926,937,938,944,945,951,952,958,959,965,966,972,973,986,987,993,994,998,999,1005,1006,1012,1013]
noncomputable abbrev p:Program:=PySem.Challenge.pw_staywalk_k53_each_in_its_turn
abbrev q:Program:=view p [0,2,3,4,5,6,7,8,9,11,12,13,14,15,16,17,18,20,22,23,24,25,26,27,29,31,32,33,34,35,37,38,39,40,42,43,44,46,48,49,50,51,53,55,56,57,58,59,60,61,62,63,64,65,66,67,68,69]
abbrev H:Hook:=kHook K as λ_=>rfl
def said:OpenLaw.wellSaid PySem.Challenge.rw_staywalk_k53_each_in_its_turn=true:=by
 rw[Fast.te9446332074065402090]
 kernel_rfl
noncomputable abbrev M':Nat:=14868
noncomputable abbrev L:List Str:=["BySlots","Up","Down","ask"]
abbrev X:Shared->Bool:=λs=>xlAt q [] s&&recOk [] s
def lA:∀w,HD.lA p q M' w=some ((openGood q L).1,(openGood q L).2.1):=λw=>by kernel_rfl
def lB:∀w,HD.lB p q L X M' w=some (true,true):=λw=>by kernel_rfl
def lC:∀w,HD.lC p q L M' w=some (openGood q L).2.2.2.2:=λw=>by kernel_rfl
def lD:∀w,(HD.endP p w M').map (Hook.obs H)=some (Hook.val H w):=λw=>by kernel_rfl
def left:LeftO p q L X (Hook.obs H) (Hook.val H) M':=HD.left_of lA lB lC lD
end ZK
abbrev cC:="self"
abbrev et:="key"
abbrev eH:="_law_cell"
abbrev eR:="_law_house_here"
abbrev fe:="token"
abbrev ff:="list"
abbrev fx:="BaseException.__getattribute__"
abbrev ge:="mark"
abbrev gs:="_law_copier"
abbrev gt:="object.__class__"
abbrev hL:="leaves"
abbrev hW:="__debug__"
abbrev i3:="__init__"
abbrev kP:="_law_way"
abbrev lm:="ValueError.__new__"
abbrev mu:="end"
abbrev nj:="many"
abbrev oo:="tuple"
abbrev oq:="house"
abbrev ot:="getset_descriptor.__get__"
abbrev pT:="_law_state"
abbrev pU:="next"
abbrev qr:="type.__call__"
abbrev sD:="BaseException"
abbrev sL:="range"
abbrev u0:="value"
abbrev u5:="_law_script"
abbrev va:="at"
abbrev vm:="size"
abbrev v6:="__getattribute__"
abbrev v7:="table"
abbrev wp:="_law_number"
abbrev xG:="most"
abbrev xP:="_law_token_here"
abbrev xQ:="isinstance"
abbrev zk:="place"
abbrev zm:="sorted"
abbrev z9:="_law_k"
abbrev G':="slots"
abbrev J':="drop"
namespace L2
open PySem PySem.Spec PyProof.Rows
abbrev Key:=Sum Int Str
noncomputable def n8:Key->Value->Bool
 | .inl k,v=>Value.isInt k v
 | .inr x,v=>Value.isStrOf x v
noncomputable def keyH(w:Ss):Key->Int
 | .inl k=>hashInt k
 | .inr x=>hashStr w x
def cx:∀{k:Key}{v:Sk},n8 k v=true->(∃i t,k=Sum.inl i/\v=Value.int i t)\/(∃x t,k=Sum.inr x/\v=Value.str x t)
 | .inl i,v,h=>by
  let{t,e}:=Value.isInt_shape (k:=i) (v:=v) h;exact .inl ⟨i,t,M,e⟩
 | .inr x,v,h=>by
  let{t,e}:=Value.isStrOf_shape (x:=x) (v:=v) h;exact .inr ⟨x,t,M,e⟩
def Gg(i:Int)(t:Tok):n8 (.inl i) (.int i t)=true:=by simp[n8,Value.isInt]
def uj(x:Str)(t:Tok):n8 (.inr x) (.str x t)=true:=by simp[n8,Value.isStrOf]
def NA(a b:Int):decide ((Sum.inl a:Key)=Sum.inl b)=(a==b):=by
 by_cases e:a=b
 .subst e;simp
 .have h:¬(Sum.inl a:Key)=Sum.inl b:=λq=>e (Sum.inl.inj q);rw[Wz h];exact(WC.mpr e).symm
def Nw(a b:Str):decide ((Sum.inr a:Key)=Sum.inr b)=decide (a=b):=by
 by_cases e:a=b
 .subst e;simp
 .have h:¬(Sum.inr a:Key)=Sum.inr b:=λq=>e (Sum.inr.inj q);rw[Wz h,Wz e]
def Nz(a:Int)(b:Str):decide ((Sum.inl a:Key)=Sum.inr b)=false:=Wz (λq=>nomatch q)
def Nx(a:Str)(b:Int):decide ((Sum.inr a:Key)=Sum.inl b)=false:=Wz (λq=>nomatch q)
def a7(prog:Sr)(w:Ss):PySem.KeyKind prog w Key where
 is:=n8
 hash:=keyH w
 inj:=λv a b ha hb=>by
  rcases cx ha with⟨i,t,rfl,rfl⟩|⟨x,t,rfl,rfl⟩
  .rcases cx hb with⟨j,u,rfl,e⟩|⟨y,u,rfl,e⟩
   .injection e with e1 _;rw[e1]
   .exact nomatch e
  .rcases cx hb with⟨j,u,rfl,e⟩|⟨y,u,rfl,e⟩
   .exact nomatch e
   .injection e with e1 _;rw[e1]
 byValue:=λk v h=>by
  rcases cx h with⟨i,t,rfl,rfl⟩|⟨x,t,rfl,rfl⟩<;>rfl
 pyHash:=λhv h=>by
  rcases cx hv with⟨i,t,rfl,rfl⟩|⟨x,t,rfl,rfl⟩
  .exact wpAny_pyHash_int h
  .exact wpAny_pyHash_str h
 eqBool:=λhu hv h=>by
  rcases cx hu with⟨i,t,rfl,rfl⟩|⟨x,t,rfl,rfl⟩
  .rcases cx hv with⟨j,u,rfl,rfl⟩|⟨y,u,rfl,rfl⟩
   .rw[NA]at h;exact wpAny_eqBool_int h
   .rw[Nz]at h;exact SeqAt.EqAt.int_str i t y u _ _ _ _ h
  .rcases cx hv with⟨j,u,rfl,rfl⟩|⟨y,u,rfl,rfl⟩
   .rw[Nx]at h;exact SeqAt.EqAt.str_int x t j u _ _ _ _ h
   .rw[Nw]at h;exact wpAny_eqBool_str h
 «strs»:=λk x t v h=>by
  rcases cx h with⟨i,u,rfl,e⟩|⟨y,u,rfl,e⟩
  .exact nomatch e
  .injection e with e1 _;subst e1;cases v<;>rfl
def DP(prog:Sr)(w:Ss)(k:Key)(v:Sk):(a7 prog w).is k v=n8 k v:=rfl
def B7(prog:Sr)(w:Ss)(i:Int)(t:Tok):(a7 prog w).is (.inl i) (.int i t)=true:=Gg i t
def B6(prog:Sr)(w:Ss)(x:Str)(t:Tok):(a7 prog w).is (.inr x) (.str x t)=true:=uj x t
inductive V where
 |non|bl (b:Bool)|int (i:Int)|str (x:Str)|byt (b:Array UInt8)|flt (b:UInt64)|ref (a:K')|ty (n:String)
 deriving DecidableEq
abbrev _root_.Sm:=List V
variable{a b:K'}{o u:HO}{h h':Heap}{H:Hp}{xs:Sm}{us:Sl}{P:Sr}{x:V}{w:Ss}
def RelV:V->Value->Prop
 | .non,u=>u=Value.none
 | .bl b,u=>u=Value.bool b
 | .int i,u=>∃t,u=Value.int i t
 | .str x,u=>∃t,u=Value.str x t
 | .byt b,u=>∃t,u=Value.bytes b t
 | .flt b,u=>∃t,u=Value.float b t
 | .ref a,u=>u=Value.ref a
 | .ty n,u=>u=Value.type n
abbrev M2:List V->List Value->Prop:=Paired RelV
def M2.length(r:M2 xs us):xs.length=us.length:=Paired.length r
def M2.get{i:Nat}(h:M2 xs us)(e:xs[i]?=some x):∃u,us[i]?=some u/\RelV x u:=by
 induction h generalizing i with
 |nil=>cases e
 |cons r t z=>cases i with
  |zero=>cases e;exact{_,M,r}
  |succ i=>exact z e
def M2.set{u:Sk}(r:RelV x u)(i:Nat)(h:M2 xs us):M2 (xs.set i x) (us.set i u):=by
 induction h generalizing i with
 |nil=>exact .nil
 |cons q t z=>cases i with
  |zero=>exact .cons r t
  |succ i=>exact .cons q<|z i
def M2.append{ys:Sm}{z:Sl}(h:M2 xs us)(s:M2 ys z):M2 (xs++ys) (us++z):=by
 induction h with
 |nil=>exact s
 |cons r t G=>exact .cons r G
theorem M2.take:∀{xs:Sm}{us:Sl}(n:Nat),M2 xs us->M2 (xs.take n) (us.take n)
 |_,_,0,_=> .nil
 |_,_,_+1,.nil=> .nil
 |_,_,n+1,.cons r t=> .cons r (M2.take n t)
theorem M2.drop:∀{xs:Sm}{us:Sl}(n:Nat),M2 xs us->M2 (xs.drop n) (us.drop n)
 |_,_,0,r=>r
 |_,_,_+1,.nil=> .nil
 |_,_,n+1,.cons _ t=>M2.drop n t
def Qj:Option V->Option Value->Prop
 |some v,some u=>RelV v u
 |none,none=>True
 |_,_=>False
def KV{κ:Type}:List (κ×V)->List (κ×Value)->Prop:=Paired λ(p:κ×V)(q:κ×Value)=>p.1=q.1/\RelV p.2 q.2
noncomputable def kV:Key->V
 | .inl i=> .int i
 | .inr x=> .str x
abbrev _root_.Ta:=List (Key×V)
abbrev _root_.Tb:=List (Str×V)
abbrev _root_.Tc:=Array Value
abbrev _root_.Tn:=List (List Key×V)
inductive HO where
 |lst(xs:Sm)
 |tup(xs:Sm)
 |dK (kvs:Ta)|dT (kvs:Tn)
 |set(S:Int->Bool)(n:Nat)
 |ins(C dx:K')(fs:Tb)
 |own(x:K')
 |xd(fs:Tb)
 |met(f x:K')
 |rng(lo hi:Int)
 |frz(o:Obj)(u:HO)
 |tbl(ps:Tc)
 |ext(φ:Heap->Prop)
abbrev Hp:=Addr->Option HO
def upd(H:Hp)(a:K')(o:HO):Hp:=λb=>if b=a then some o else H b
def ag:upd H a o a=some o:=by unfold upd;rw[Wn M]
def af(h:b≠a):upd H a o b=H b:=by unfold upd;rw[Wm h]
def du:upd (upd H a o) a u=upd H a u:=by
 funext b;unfold upd;split<;>rfl
def c7(h:H a=some o)(h':H b=some u)(d:o≠u):a≠b:=by
 intro e;subst e;rw[h]at h';exact d<|Wq h'
def ao(h:H a=some o)(h':H b=none):a≠b:=by
 intro e;subst e;rw[h]at h';cases h'
section
variable(P:Sr)(w:Ss)
def P7(H:Hp)(h:Heap)(a:K'):HO->Prop
 | .lst xs=>xs.length<=sizeLine/\∃(its:Sl)(n:Nat),M2 xs its/\h.get? a=some {cls:= .type ff,data:= .seq its.toArray n}
 | .tup xs=>xs.length<=sizeLine/\∃its:List Value,M2 xs its/\IsTup h a its.toArray
 | .dK kvs=>kvs.length<=sizeLine/\(a==sysModules)=false/\∃vs,KV kvs vs/\h.DictOf (a7 P w) a vs
 | .dT kvs=>kvs.length<=sizeLine/\(a==sysModules)=false/\∃xs:List (List Key×Addr×Value),
   Paired (λ(p:List Key×V)(q:List Key×Addr×Value)=>p.1=q.1/\H q.2.1=some (.tup<|p.1.map kV)/\RelV p.2 q.2.2) kvs xs/\
   ∃o es ep,h.get? a=some o/\o.ExactDict/\o.data= .dict es ep/\es.toList=xs.map (entryOfKey<|tupleKind<|a7 P w)/\(xs.map (·.1)).Nodup
 | .set S n=>h.SetOf (intKind P w) a S n
 | .ins C dx fs=>H dx=some (.own a)/\fs.length<=1000/\dx≠a/\h.get? a=some (PySem.W.instObj C dx)/\
   ∃mA,h.Ns1 dx mA/\(∀f,Qj (fs.lookup f) (mA f))/\PySem.Within mA (fs.map (·.1))
 | .own _=>∃o,h.get? a=some o
 | .xd fs=>∃mA,h.Ns1 a mA/\∀f,Qj (fs.lookup f) (mA f)
 | .rng lo hi=>∃t u v,h.get? a=some {cls:= .type sL,data:= .fields #[.int lo t,.int hi u,.int 1 v]}
 | .frz o u=>h.get? a=some o/\P7 H h a u
 | .tbl ps=>h.get? a=some {cls:= .none,data:= .fields ps}
 | .met f x=>h.get? a=some (PySem.W.methodObj (.ref f)<|.ref x)
 | .ext φ=>φ h/\(∃o,h.get? a=some o)/\∀h1 h2:Heap,φ h1->(∀o,h1.get? a=some o->h2.get? a=some o)->φ h2
def QH(H:Hp)(h:Heap):Prop:=∀a o,H a=some o->P7 P w H h a o
end
section
variable{H':Hp}
def P7.lt(x:P7 P w H h a o):a<h.objs.size:=by
 cases o with
 |lst xs=>let{_,_,_,_,e}:=x;exact Ww e
 |tup xs=>let{_,_,_,p}:=x;exact p.lt
 |dK kvs=>let{_,_,_,_,o,_,_,e,_}:=x;exact Ww e
 |dT kvs=>let{_,_,_,_,o,_,_,e,_}:=x;exact Ww e
 |set S n=>let{o,_,_,_,e,_}:=x;exact Ww e
 |ins C dx fs=>let{_,_,_,e,_}:=x;exact Ww e
 |own y=>let{_,e}:=x;exact Ww e
 |xd fs=>let{_,{_,_,_,e,_},_}:=x;exact Ww e
 |rng lo hi=>let{_,_,_,e}:=x;exact Ww e
 |frz ob u=>let{e,_}:=x;exact Ww e
 |tbl ps=>exact Ww<|show h.get? a=some _ from x
 |met f y=>exact Ww<|show h.get? a=some _ from x
 |ext φ=>let{_,{_,e},_}:=x;exact Ww e
def Paired.mapP{α β:Type}{F G:α->β->Prop}{z:List α}{l₂:List β}(h:Paired F z l₂)(f:∀a b,F a b->G a b):Paired G z l₂:=by
 induction h with
 |nil=>exact .nil
 |cons r t I=>exact .cons (f _ _ r) I
def P7.stay(x:P7 P w H h a o)(k:∀b u,(b=a\/H b=some (.own a))->h.get? b=some u->h'.get? b=some u)
  (G:∀b,H b=some (.own a)->H' b=some (.own a)) (I:∀b xs,H b=some (.tup xs)->H' b=some (.tup xs)):P7 P w H' h' a o:=by
 induction o with
 |lst xs=>let{z,its,n,r,e}:=x;exact{z,its,n,r,k _ _ (.inl M) e}
 |tup xs=>let{z,its,r,ob,e,c}:=x;exact{z,its,r,ob,k _ _ (.inl M) e,c}
 |dK kvs=>let{z,y,vs,r,ob,es,ep,e,c}:=x;exact{z,y,vs,r,ob,es,ep,k _ _ (.inl M) e,c}
 |dT kvs=>
  let{z,y,xs,r,ob,es,ep,e,c}:=x;exact{z,y,xs,Paired.mapP r λp q z=>{z.1,I _ _ z.2.1,z.2.2},ob,es,ep,k _ _ (.inl M) e,c}
 |set S n=>let{ob,es,ep,t,e,c}:=x;exact{ob,es,ep,t,k _ _ (.inl M) e,c}
 |ins C dx fs=>
  let{d,z,ne,e,mA,{od,es,ep,e2,c},r}:=x;exact{G _ d,z,ne,k _ _ (.inl M) e,mA,{od,es,ep,k _ _ (.inr d) e2,c},r}
 |own y=>let{ob,e}:=x;exact{ob,k _ _ (.inl M) e}
 |xd fs=>let{mA,{od,es,ep,e,c},r}:=x;exact{mA,{od,es,ep,k _ _ (.inl M) e,c},r}
 |rng lo hi=>let{t,u,v,e}:=x;exact{t,u,v,k _ _ (.inl M) e}
 |frz ob u O=>let{e,q}:=x;exact{k _ _ (.inl M) e,O q}
 |tbl ps=>
  have e:h.get? a=some {cls:= .none,data:= .fields ps}:=x;show h'.get? a=some {cls:= .none,data:= .fields ps};exact k a _ (.inl M) e
 |met f y=>
  have e:h.get? a=some (PySem.W.methodObj (.ref f)<|.ref y):=x;show h'.get? a=some (PySem.W.methodObj (.ref f)<|.ref y);exact k a _ (.inl M) e
 |ext φ=>let{p,{o,e},st}:=x;exact{st _ _ p λo q=>k _ _ (.inl M) q,{o,k _ _ (.inl M) e},st}
def QH.lt(x:QH P w H h)(e:H a=some o):a<h.objs.size:=(x a o e).lt
def QH.fresh(x:QH P w H h)(e:h.objs.size<=a):H a=none:=by
 cases q:H a with
 |none=>rfl
 |some u=>exact Ws (Z5 (x.lt q) e)<|Xs _
def QH.kept(x:QH P w H h)(k:∀b u,h.get? b=some u->h'.get? b=some u):QH P w H h':=λa o e=>
 (x a o e).stay (λb u _ q=>k b u q) (λ_ q=>q) λ_ _ q=>q
def QH.laid(x:QH P w H h)(k:∀b u,h.get? b=some u->h'.get? b=some u)(hp:h.objs.size<=a)(new:P7 P w (upd H a o) h' a o):QH P w (upd H a o) h':=λb u e=>by
 have z:=x.fresh hp;by_cases hb:b=a
 .subst hb;rw[ag]at e;cases e;exact new
 .rw[af hb]at e;exact(x b u e).stay (λc v _ q=>k c v q) (λc q=>by rw[af (ao q z)];exact q) λc xs q=>by rw[af (ao q z)];exact q
end
def Rd(H:Hp)(a:K')(u:HO):Prop:=H a=some u\/∃o,H a=some (.frz o u)
def Rd.ok(r:Rd H a u)(x:QH P w H h):P7 P w H h a u:=by
 rcases r with r|⟨o,r⟩
 .exact x a u r
 .let{_,q}:=x a _ r;exact q
def Mut:Option HO->Prop
 |some (.lst _)=>True
 |some (.dK _)=>True
 |some (.dT _)=>True
 |some (.set _ _)=>True
 |some (.ins _ _ _)=>True
 |some (.ext _)=>True
 |_=>False
section
variable{x e:K'}{o':HO}
def QH.write(ok:QH P w H h)(U:Mut (H x))(he:e=x\/H e=some (.own x))(k:∀b u,b≠e->h.get? b=some u->h'.get? b=some u)(Y:∃u,h'.get? e=some u)
  (new:P7 P w (upd H x o') h' x o'):QH P w (upd H x o') h':=λb u q=>by
 have I:∀c y,H c=some (.own y)->c≠x:=λc y r z=>by subst z;rw[r]at U;exact U
 have O:∀c xs,H c=some (.tup xs)->c≠x:=λc xs r z=>by subst z;rw[r]at U;exact U
 by_cases hb:b=x
 .subst hb;rw[ag]at q;cases q;exact new
 .rw[af hb]at q;by_cases G:b=e
  .have q':H b=some (.own x):=by
    rcases he with z|z
    .exact Ws (G.trans z) hb
    .rwa[G]
   rw[q]at q';cases q';let{v,Z}:=Y;exact{v,by rwa[G]}
  .refine(ok b u q).stay (λc v hc r=>k c v ?_ r) (λc r=>by rwa[af (I c b r)]) λc xs r=>by rwa[af (O c xs r)]
   rcases hc with rfl|hc
   .exact G
   .rintro rfl;rcases he with z|z
    .exact I c b hc z
    .rw[hc]at z;cases z;exact hb M
end
abbrev _root_.Su:=List Addr
structure Un(fs ex:Su)(H H':Hp)(h h':Heap):Prop where
 keep:∀b o,h.get? b=some o->H b=none->b∉fs->b∉ex->h'.get? b=some o
 slot:∀b o,h.get? b=some o->H b=none->b∈fs->b∉ex->∃sl,h'.get? b=some {o with slots:=sl}
 free:∀b o,h.get? b=some o->H b=none->b∉ex->H' b=none
 there:∀b o,h.get? b=some o->b∉ex->∃o',h'.get? b=some o'
 tups:∀b xs,H b=some (.tup xs)->H' b=some (.tup xs)
 frzs:∀b o u,H b=some (.frz o u)->H' b=some (.frz o u)
 tbls:∀b ps,H b=some (.tbl ps)->∃more,H' b=some (.tbl<|ps++more)
section
variable{fs fs' ex ex':Su}{H1 H2:Hp}{h1 h2:Heap}{x e:K'}
def Un.any(u:Un fs ex H H1 h h1){ob:Obj}(q:h.get? b=some ob)(n:H b=none)(hx:b∉ex):∃z,h1.get? b=some {ob with slots:=z}:=by
 by_cases hb:b∈fs
 .exact u.slot b ob q n hb hx
 .exact{ob.slots,u.keep b ob q n hb hx}
def Un.kept(k:∀b u,h.get? b=some u->h'.get? b=some u):Un fs ex H H h h':=
 {λb ob q _ _ _=>k b ob q,λb ob q _ _ _=>{ob.slots,k b ob q},λ_ _ _ n _=>n,λb ob q _=>{ob,k b ob q},λ_ _ q=>q,λ_ _ _ q=>q,λ_ ps q=>{#[],by rw[q];simp}}
def Un.refl:Un fs ex H H h h:=Un.kept λ_ _ q=>q
def Un.laid(k:∀b u,h.get? b=some u->h'.get? b=some u)(hp:h.objs.size<=a)(z:H a=none):Un fs ex H (upd H a o) h h' where
 keep:=λb u q _ _ _=>k b u q
 slot:=λb u q _ _ _=>{u.slots,k b u q}
 free:=λb u q n _=>by rwa[af (Zb<|Z5 (Ww q) hp)]
 there:=λb u q _=>{u,k b u q}
 tups:=λb xs q=>by rw[af (ao q z)];exact q
 frzs:=λb u xs q=>by rw[af (ao q z)];exact q
 tbls:=λb ps q=>{#[],by rw[af (ao q z),q];simp}
def Un.write(I:Mut (H x))(he:e=x\/H e=some (.own x))(k:∀b u,b≠e->h.get? b=some u->h'.get? b=some u)(O:∃u,h'.get? e=some u):Un fs ex H (upd H x o) h h':=by
 have hx:∀b,H b=none->b≠x:=λb n z=>by subst z;rw[n]at I;exact I
 have hb:∀b,H b=none->b≠e:=λb n z=>by
  subst z;rcases he with r|r
  .exact hx b n r
  .rw[n]at r;cases r
 have U:∀b u,H b=some u->¬Mut (some u)->b≠x:=λb u q nm z=>by subst z;rw[q]at I;exact nm I
 refine{λb u q n _ _=>k b u (hb b n) q,λb u q n _ _=>{u.slots,k b u (hb b n) q},λb u q n _=>by rwa[af (hx b n)],λb u q _=>?_,
  λb xs q=>by rw[af (U b _ q λz=>z)];exact q,λb u xs q=>by rw[af (U b _ q λz=>z)];exact q,λb ps q=>{#[],by rw[af (U b _ q λz=>z),q];simp}}
 by_cases G:b=e
 .subst G;exact O
 .exact{u,k b u G q}
end
def SU(h:Heap)(H:Hp):List Addr:=(List.range h.objs.size).filter λa=>(H a).isSome
def AO(h:Heap)(H:Hp):Heap:=PySem.W.hideAll h (SU h H)
def Gm(h:Heap)(H:Hp):(AO h H).objs.size=h.objs.size:=PySem.W.hideAll_size _ _
def IG{o:Obj}(e:h.get? b=some o)(n:H b=none):(AO h H).get? b=some o:=
 PySem.W.hideAll_get _ e λz=>by
  have q:(H b).isSome=true:=(Z6.mp z).2;rw[n]at q;simp at q
def KO{o:Obj}(e:(AO h H).get? b=some o):h.get? b=some o/\H b=none:=by
 have G:h.get? b=some o:=PySem.W.of_hideAll (SU h H) e;refine{G,?_};cases q:H b with
 |none=>rfl
 |some x=>
  have I:b∈SU h H:=Z6.mpr {Wa.mpr<|Ww G,by simp[q]};have z:(AO h H).get? b=none:=PySem.W.hideAll_none (SU h H) I;rw[z]at e;cases e
abbrev JZ:=PySem.W.Frag
abbrev _root_.So:=List (Addr×Obj)
abbrev _root_.Sv:=Around
abbrev _root_.Sw:=Value->Shared->Prop
abbrev _root_.Te:=List Env
abbrev _root_.Tk:=List Expr
abbrev _root_.Tt:=List (Str×Value)
variable{C a b dx f it:K'}{A:Sv}{g':Array GenState}{CX:CXT}{op:CmpOp}{X:Cx}{d':Drawn}{D:Qo}{c e tg:Expr}{fd:Tf}{base h h':Heap}{H H':Hp}{lo:Int}{g:Int->Int->Int}{W:So}{kw:Tt}{ch fp:Su}{outer:Te}{es:Tk}{body:List Stmt}{N ps:Sx}{vs xs:Sm}{us:Sl}{M':Model}{i j n t':Nat}{o:Tq}{p pos pos':Pos}{P prog:Sr}{K:JZ}{r:R2}{R:Result->Shared->Prop}{scope:Scope}{s s':L'}{sp:Sp}{B:St}{m name qual x:Str}{t ta te:TE}{tb:TS}{tc:TT}{v y:V}{u:Sk}{E Q:Sw}{rd:V->V->Hp->VK->Prop}{w:Ss}
abbrev _root_.Sz:=Str->Option Value
structure Mod(K:JZ)(mg:Sz)(base:Heap):Prop where
 kin:K.In base
 glob:base.Ns mainGlobals mg
 blt:∃mb,base.Ns builtinsNs mb/\∀x:Str,x≠"__name__"->mb x=bootBuiltins x
 nolimit:base.NoLimit
set_option genInjectivity false in
structure Cx where
 prog:Program
 w:World
 K:JZ
 mg:Str->Option Value
 base:Heap
 A:Around
 N:List Str
 s₀:Shared
 H₀:Hp
 env:Env
 outer:List Env
 stack:List Env
 ex:List Addr
 fn:Str->Bool
 calm:Bool
 pn:List (Addr×Obj)
 xe:Value->Shared->Prop
noncomputable def RF(l:Te):List Addr:=l.filterMap (·.frame)
abbrev Cx.fs(X:Cx):List Addr:=RF X.outer
def Si(sc:Scope)(x:Str):Prop:=sc.names.lookup x=some .local\/sc.names.lookup x=some .cell\/sc.names.lookup x=some .free
def Loc(sc:Scope)(x:Str):Prop:=sc.names.lookup x=some .local\/sc.names.lookup x=some .cell
def Look(env:Env)(h:Heap)(m:Sz)(x:Str)(u:Sk):Prop:=
 (env.kindOf x=some .local/\m x=some u)\/((env.kindOf x=some .cell\/env.kindOf x=some .free)/\∃c,env.cells.lookup x=some c/\h.IsCell c (some u))
structure Cx.Ok(X:Cx):Prop where
 mod:Mod X.K X.mg X.base
 kind:X.env.scope.kind= .function
 glob:X.env.globals=mainGlobals
 blt:X.env.builtins=builtinsNs
 above:X.s₀.heap.objs.size<=X.env.locals
 inj:∀x y c,X.env.cells.lookup x=some c->X.env.cells.lookup y=some c->x=y
 has:∀x,(X.env.kindOf x=some .cell\/X.env.kindOf x=some .free)->∃c,X.env.cells.lookup x=some c
 cab:∀x c,X.fn x=true->X.env.cells.lookup x=some c->X.s₀.heap.objs.size<=c
 hd:X.calm=true->X.A.handled=none
 frames:X.A.frames=some X.stack
 stk:X.stack=X.outer\/(X.stack=X.env::X.outer/\X.env.frame=some X.env.locals)
 exf:∀b∈X.ex,b≠X.env.locals/\∀x c,X.env.cells.lookup x=some c->c≠b
 bs:∀b o,X.base.get? b=some o->X.s₀.heap.get? b=some o/\X.H₀ b=none
 bsz:X.base.objs.size<=X.s₀.heap.objs.size
 noex:∀b o,X.base.get? b=some o->b∉X.ex
 exfs:∀b∈X.ex,b∉X.fs
 funs:X.s₀.heap.FunFrames X.base X.outer
 frf:∀b∈X.fs,X.H₀ b=none
structure Inv(X:Cx)(W:So)(B:List (Option V))(H:Hp)(s:L'):Prop where
 ok:X.Ok
 os:s.os=X.s₀.os
 bare:AllBare s.gens
 base:Un X.fs X.ex X.H₀ H X.s₀.heap s.heap
 loc:∃m,s.heap.Ns X.env.locals m/\∀(i:Nat)(x:Str)(v:V),X.N[i]?=some x->B[i]?=some (some v)->Si X.env.scope x->∃u,RelV v u/\Look X.env s.heap m x u
 cell:∀x c,X.env.cells.lookup x=some c->∃v,s.heap.IsCell c v
 free:H X.env.locals=none
 freeC:∀x c,X.env.cells.lookup x=some c->H c=none
 pin:∀p∈X.pn++W,s.heap.get? p.1=some p.2/\H p.1=none/\p.1≠X.env.locals/\p.1∉X.fs/\∀v,p.2.data≠ .cell v
 hok:QH X.prog X.w H s.heap
 len:B.length=X.N.length
section
variable{B:List (Option V)}
def Cx.Ok.nofr(ok:X.Ok){o:Obj}(e:X.base.get? b=some o):b∉X.fs:=λhb=>by
 have:=(ok.funs.mem hb).1;rw[e]at this;cases this
def Inv.bs(I:Inv X W B H s):∀b o,X.base.get? b=some o->s.heap.get? b=some o/\H b=none:=λb o e=>
 {I.base.keep b o (I.ok.bs b o e).1 (I.ok.bs b o e).2 (I.ok.nofr e)<|I.ok.noex b o e,I.base.free b o (I.ok.bs b o e).1 (I.ok.bs b o e).2<|I.ok.noex b o e}
def Inv.bk(I:Inv X W B H s):∀b o,X.base.get? b=some o->s.heap.get? b=some o:=λb o e=>(I.bs b o e).1
def Inv.mod(I:Inv X W B H s):Mod X.K X.mg X.base:=I.ok.mod
def Inv.kIn(I:Inv X W B H s):X.K.In s.heap:=I.ok.mod.kin.keeps I.bk
def Inv.lt(I:Inv X W B H s):X.env.locals<s.heap.objs.size:=let⟨_,hn,_⟩:=I.loc;hn.lt
def Inv.sz(I:Inv X W B H s):X.s₀.heap.objs.size<=s.heap.objs.size:=Z4 I.ok.above (Zq I.lt)
def Inv.nofs(I:Inv X W B H s)(h:s.heap.objs.size<=a):a∉X.fs:=λhb=>by
 let{_,o,z,_}:=I.ok.funs.mem hb;exact Ws (Z5 (Ww z)<|Z4 I.sz h)<|Xs _
def Inv.cne(I:Inv X W B H s):∀x c,X.env.cells.lookup x=some c->c≠X.env.locals:=λx c e z=>by
 let{v,o,U,hd}:=I.cell x c e;let{m,{o',es,ep,G,O,_},_}:=I.loc;rw[z,G]at U;cases U;rw[O]at hd;cases hd
def Inv.funs(I:Inv X W B H s):s.heap.FunFrames X.base X.outer:=by
 have all:∀(l:Te),(∀b∈RF l,b∈X.fs)->X.s₀.heap.FunFrames X.base l->s.heap.FunFrames X.base l:=by
  intro l
  induction l with
  |nil=>intro _ _;trivial
  |cons env r O=>
   intro hs hl;let{hk,{L,o,hf,U,Y,hd},Z}:=hl;have G:L∈X.fs:=hs L (by unfold RF;rw[VB,hf];exact QK);let{sl,e}:=I.base.slot L o Y (I.ok.frf L G) G λz=>I.ok.exfs L z G;exact{hk,{L,_,hf,U,e,hd},O (λb hb=>hs b<|by unfold RF;rw[VB,hf];exact QM _ hb) Z}
 exact all X.outer (λ_ hb=>hb) I.ok.funs
def Inv.stack(I:Inv X W B H s):s.heap.FunFrames X.base X.stack:=by
 rcases I.ok.stk with e|⟨e,hf⟩
 .rw[e];exact I.funs
 .rw[e];let{m,z,_}:=I.loc;refine .cons (by rw[I.ok.kind];decide) hf z ?_ I.funs;exact WT<|Z4 I.ok.bsz I.ok.above
def Inv.stkSub(I:Inv X W B H s):∀b∈RF X.stack,b∈X.env.locals::X.fs:=λb hb=>by
 rcases I.ok.stk with e|⟨e,hf⟩
 .rw[e]at hb;exact QM _ hb
 .rw[e]at hb;unfold RF at hb;rw[VB,hf]at hb;exact hb
def Inv.stkFree(I:Inv X W B H s):∀b∈RF X.stack,H b=none:=λb hb=>by
 rcases QS.mp (I.stkSub b hb)with e|hb
 .rw[e];exact I.free
 .let{_,o,G,_}:=I.ok.funs.mem hb;exact I.base.free b o G (I.ok.frf b hb) λz=>I.ok.exfs b z hb
def Inv.step(I:Inv X W B H s)
  (G:∀b∈ch,(b∈X.ex\/X.s₀.heap.objs.size<=b)/\b≠X.env.locals/\(∀x c,X.env.cells.lookup x=some c->c≠b)/\∀p∈X.pn++W,p.1≠b)
  (keep:∀b o,b≠X.env.locals->b∉X.fs->b∉ch->s.heap.get? b=some o->H b=none->h'.get? b=some o)
  (slot:∀b o,b≠X.env.locals->b∈X.fs->b∉ch->s.heap.get? b=some o->H b=none->∃sl,h'.get? b=some {o with slots:=sl}) (free:∀b o,b∉ch->s.heap.get? b=some o->H b=none->H' b=none)
  (there:∀b o,b∉ch->s.heap.get? b=some o->∃o',h'.get? b=some o')
  (tups:∀b xs,H b=some (.tup xs)->H' b=some (.tup xs)) (frzs:∀b o u,H b=some (.frz o u)->H' b=some (.frz o u)) (tbls:∀b ps,H b=some (.tbl ps)->∃more,H' b=some (.tbl<|ps++more))
  (ns:∀m,s.heap.Ns X.env.locals m->h'.Ns X.env.locals m) (hok:QH X.prog X.w H' h') (hg:AllBare g'):
  Inv X W B H' {s with heap:=h',gens:=g',drawn:=d',toks:=t'}:=by
 have a0:∀b o,X.s₀.heap.get? b=some o->b≠X.env.locals:=λb o e=>Zb (Z5 (Ww e) I.ok.above);have Y:∀b o,X.s₀.heap.get? b=some o->b∉X.ex->b∉ch:=λb o e hx hb=>by
  rcases(G b hb).1 with z|z
  .exact hx z
  .exact Ws (Z5 (Ww e) z)<|Xs _
 have O:∀x c,X.env.cells.lookup x=some c->∀v,s.heap.IsCell c v->h'.IsCell c v:=λx c e v ⟨o,ho,hd⟩=>by
  have U:c∉ch:=λz=>(G c z).2.2.1 x c e M;by_cases hc:c∈X.fs
  .let{sl,q}:=slot c o (I.cne x c e) hc U ho (I.freeC x c e);exact{_,q,hd}
  .exact{o,keep c o (I.cne x c e) hc U ho<|I.freeC x c e,hd}
 refine{I.ok,I.os,hg,{λb o e n hb hx=>?_,λb o e n hb hx=>?_,λb o e n hx=>?_,λb o e hx=>?_,λb xs e=>tups b xs<|I.base.tups b xs e,λb o xs e=>frzs b o xs<|I.base.frzs b o xs e,λb ps e=>?_},?_,λx c e=>?_,?_,λx c e=>?_,λp hp=>?_,hok,I.len}
 .exact keep b o (a0 b o e) hb (Y b o e hx) (I.base.keep b o e n hb hx)<|I.base.free b o e n hx
 .let{sl,Z}:=I.base.slot b o e n hb hx;let{a1,e2}:=slot b _ (a0 b o e) hb (Y b o e hx) Z (I.base.free b o e n hx);exact⟨a1,e2⟩
 .let{o',Z}:=I.base.there b o e hx;exact free b o' (Y b o e hx) Z<|I.base.free b o e n hx
 .let{o',Z}:=I.base.there b o e hx;exact there b o' (Y b o e hx) Z
 .let{m1,Z}:=I.base.tbls b ps e;let{m2,e2}:=tbls b _ Z;exact{m1++m2,by rw[e2,XM]}
 .let{m,hn,hl}:=I.loc;refine{m,ns m hn,λi x v Z e2 e3=>?_};let{u,r,l}:=hl i x v Z e2 e3;refine{u,r,?_};rcases l with l|⟨k,c,e,z⟩
  .exact .inl l
  .exact .inr {k,c,e,O x c e _ z}
 .let{v,z}:=I.cell x c e;exact{v,O x c e v z}
 .let{m,{o,_,_,ho,_},_}:=I.loc;exact free _ o (λz=>(G _ z).2.1 rfl) ho I.free
 .let{v,o,ho,hd}:=I.cell x c e;exact free c o (λz=>(G c z).2.2.1 x c e M) ho<|I.freeC x c e
 .let{e,n,ne,nf,d}:=I.pin p hp;have U:p.1∉ch:=λz=>(G p.1 z).2.2.2 p hp M;exact{keep p.1 p.2 ne nf U e n,free p.1 p.2 U e n,ne,nf,d}
def Inv.un(I:Inv X W B H s)(u:Un X.fs [] H H' s.heap h')(hok:QH X.prog X.w H' h'):Inv X W B H' {s with heap:=h',toks:=t'}:=by
 let{m,{o,es,ep,Y,r},_}:=id I.loc;let{sl,Z}:=u.any Y I.free (by simp);exact I.step (g':=s.gens) (d':=s.drawn) (ch:=[]) (λ_ z=>nomatch z) (λb o _ hb _ e n=>u.keep b o e n hb<|by simp) (λb o _ hb _ e n=>u.slot b o e n hb<|by simp) (λb o _ e n=>u.free b o e n<|by simp) (λb o _ e=>u.there b o e<|by simp) u.tups u.frzs u.tbls (λm' hm=>by
  let{o',O,U,G,r'}:=hm;rw[Y]at G;cases G;exact{_,O,U,Z,r'}) hok I.bare
def Inv.call(I:Inv X W B H s)(u:Un (RF X.stack) ch H H' s.heap h')(hok:QH X.prog X.w H' h')(hg:AllBare g')
  (G:∀b∈ch,(b∈X.ex\/X.s₀.heap.objs.size<=b)/\b≠X.env.locals/\(∀x c,X.env.cells.lookup x=some c->c≠b)/\∀p∈X.pn++W,p.1≠b):
  Inv X W B H' {s with heap:=h',gens:=g',drawn:=d',toks:=t'}:=by
 let{m,{o,es,ep,ho,r},_}:=id I.loc;let{sl,U}:=u.any ho I.free λz=>(G _ z).2.1 rfl;exact I.step (ch:=ch) G (λb o U hb hc e n=>u.keep b o e n (λz=>(QS.mp<|I.stkSub b z).elim U hb) hc) (λb o _ _ hc e n=>u.any e n hc) (λb o hc e n=>u.free b o e n hc) (λb o hc e=>u.there b o e hc) u.tups u.frzs u.tbls (λm' hm=>by
  let{o',Y,Z,O,r'}:=hm;rw[ho]at O;cases O;exact{_,Y,Z,U,r'}) hok hg
def Inv.turned(I:Inv X W B H s)(k:∀b o,b≠it->s.heap.get? b=some o->h'.get? b=some o)(U:H it=none)(O:it≠X.env.locals)
  (h1:it∈X.ex\/X.s₀.heap.objs.size<=it) (h2:∀x c,X.env.cells.lookup x=some c->c≠it) (Y:∀p∈X.pn++W,p.1≠it):Inv X W B H {s with heap:=h',toks:=t'}:=by
 have G:∀b u,H b=some u->b≠it:=λb u e z=>by rw[z,U]at e;cases e
 refine I.step (g':=s.gens) (d':=s.drawn) (ch:=[it]) (λb hb=>?_) (λb o _ _ hc e _=>k b o (λz=>hc<|by simp[z]) e) (λb o _ _ hc e _=>{o.slots,k b o (λz=>hc<|by simp[z]) e}) (λ_ _ _ _ n=>n)
  (λb o hc e=>{o,k b o (λz=>hc<|by simp[z]) e}) (λ_ _ e=>e) (λ_ _ _ e=>e) (λb ps e=>{#[],by rw[e];simp}) (λm Z=>?_) (λb u e=>?_) I.bare
 .have e:b=it:=by simpa using hb
  subst e;exact⟨h1,O,h2,Y⟩
 .let{o,es,ep,ho,r}:=Z;exact{o,es,ep,k _ o (Ne.symm O) ho,r}
 .refine(I.hok b u e).stay (λc v hc q=>k c v ?_ q) (λ_ q=>q) λ_ _ q=>q;rcases hc with z|z
  .rw[z];exact G b u e
  .exact G c _ z
def Inv.tok(I:Inv X W B H s)(t:Nat):Inv X W B H {s with toks:=t}:=I.un (h':=s.heap) (t':=t) Un.refl I.hok
def Inv.kept(I:Inv X W B H s)(k:∀b u,s.heap.get? b=some u->h'.get? b=some u):Inv X W B H {s with heap:=h',toks:=t'}:=I.un (Un.kept k) (I.hok.kept k)
def Inv.laid{o:HO}(I:Inv X W B H s)(k:∀b u,s.heap.get? b=some u->h'.get? b=some u)(hp:s.heap.objs.size<=a)(new:P7 X.prog X.w (upd H a o) h' a o):
  Inv X W B (upd H a o) {s with heap:=h',toks:=t'}:=I.un (Un.laid k hp<|I.hok.fresh hp) (I.hok.laid k hp new)
def Inv.write{x e:K'}{o:HO}(I:Inv X W B H s)(G:Mut (H x))(he:e=x\/H e=some (.own x))(k:∀b u,b≠e->s.heap.get? b=some u->h'.get? b=some u)(z:∃u,h'.get? e=some u)
  (new:P7 X.prog X.w (upd H x o) h' x o):Inv X W B (upd H x o) {s with heap:=h',toks:=t'}:=I.un (Un.write G he k z) (I.hok.write G he k z new)
def Inv.pins_of{G:So}(I:Inv X W B H s)(h:∀p∈G,s.heap.get? p.1=some p.2/\H p.1=none/\p.1≠X.env.locals/\p.1∉X.fs/\∀v,p.2.data≠ .cell v):Inv X G B H s:=
 {I.ok,I.os,I.bare,I.base,I.loc,I.cell,I.free,I.freeC,λp hp=>(Q5.mp hp).elim (λz=>I.pin p<|ZW _ z)<|h p,I.hok,I.len}
def wX(hN:N.Nodup)(a:N[i]?=some x)(b:N[j]?=some x):i=j:=by
 let{h1,z}:=Q2.mp a;let{h2,e2}:=Q2.mp b;exact(List.getElem_inj hN).mp<|z.trans e2.symm
abbrev _root_.Tr:=Unit->Shared->Prop
def zf{Q:Tr}(I:Inv X W B H s)(hN:X.N.Nodup)(hi:X.N[i]?=some x)(hx:Loc X.env.scope x)(r:RelV v u)
  (h:∀s',Inv X W (B.set i<|some v) H s'->(∃a,Heap.SameBut a s.heap s'.heap/\(a=X.env.locals\/X.env.cells.lookup x=some a))->Q Unit.unit s') (hf:X.fn x=true\/X.env.scope.names.lookup x=some .local:=by ac_rfl):wpAny M' A (storeName X.env x u) Q E s:=by
 let{m,hn,hl}:=id I.loc;have a1:(X.env.scope.kind== .class||(X.env.scope.kind== .module&&X.env.locals !=X.env.globals))=false:=by rw[I.ok.kind];rfl
 have Y:i<B.length:=by rw[I.len];exact(Q2.mp hi).1
 have cne:=I.cne;have G:∀{a:K'}{h':Heap},(∃o,s.heap.get? a=some o/\H a=none)->Heap.SameBut a s.heap h'->QH X.prog X.w H h':=λ{a h'} ha hs b ob e=>by
  let{_,_,U}:=ha;refine(I.hok b ob e).stay (λc w' hc q=>(hs.2 c ?_).trans q) (λ_ q=>q) λ_ _ q=>q;rintro rfl;rcases hc with rfl|hc
  .rw[U]at e;cases e
  .rw[U]at hc;cases hc
 rcases hx with hk|hk
 .refine wpAny_storeName_local hk hn (λh' a6 hs=>?_) a1;let{oL,_,_,a8,_}:=id hn;refine h _ {I.ok,I.os,I.bare,{λb o e n hb hx=>?_,λb o e n hb hx=>?_,I.base.free,λb o e hx=>?_,I.base.tups,I.base.frzs,I.base.tbls},{_,a6,λj y v' O e2 e3=>?_},λy c e=>?_,I.free,I.freeC,λp hp=>?_,G ⟨oL,a8,I.free⟩ hs,by simpa using I.len} {_,hs,.inl M}
  .exact(hs.2 b<|Zb<|Z5 (Ww e) I.ok.above).trans<|I.base.keep b o e n hb hx
  .let{sl,O}:=I.base.slot b o e n hb hx;exact{sl,(hs.2 b<|Zb<|Z5 (Ww e) I.ok.above).trans O}
  .let{o',O}:=I.base.there b o e hx;exact{o',(hs.2 b<|Zb<|Z5 (Ww e) I.ok.above).trans O}
  .by_cases Z:j=i
   .subst Z;rw[hi]at O;cases O;rw[XQ Y]at e2;cases e2;exact{u,r,.inl {hk,by simp}}
   .rw[Vw (Ne.symm Z)]at e2;let{u',r',q}:=hl j y v' O e2 e3;refine{u',r',?_};rcases q with⟨k,e⟩|⟨k,c,e,z⟩
    .refine .inl {k,?_};have:y≠x:=λe=>Z (wX hN O<|e▸hi);simp[this,e]
    .exact .inr {k,c,e,z.sameBut hs<|cne y c e}
  .let{w',z}:=I.cell y c e;exact{w',z.sameBut hs<|cne y c e}
  .let{e,n,ne,nf,d}:=I.pin p hp;exact{(hs.2 p.1 ne).trans e,n,ne,nf,d}
 .have a0:X.fn x=true:=by
   rcases hf with z|z
   .exact z
   .rw[z]at hk;cases hk
  let{c,hc}:=I.ok.has x (.inl hk);let{w',z}:=I.cell x c hc;refine wpAny_storeName_cell I.ok.kind hk hc z<|λh' a2 hs=>?_;let{oc,a3,a4}:=id z;refine h {s with heap:=h'} {I.ok,I.os,I.bare,{λb o e n hb hx=>?_,λb o e n hb hx=>?_,I.base.free,λb o e hx=>?_,I.base.tups,I.base.frzs,I.base.tbls},{m,hn.sameBut hs<|Ne.symm<|cne x c hc,λj y v' O e2 e3=>?_},λy c' e=>?_,I.free,I.freeC,λp hp=>?_,G {oc,a3,I.freeC x c hc} hs,by simpa using I.len} {c,hs,.inr hc}
  .exact(hs.2 b<|Zb<|Z5 (Ww e)<|I.ok.cab x c a0 hc).trans<|I.base.keep b o e n hb hx
  .let{sl,O}:=I.base.slot b o e n hb hx;exact{sl,(hs.2 b<|Zb<|Z5 (Ww e)<|I.ok.cab x c a0 hc).trans O}
  .let{o',O}:=I.base.there b o e hx;exact{o',(hs.2 b<|Zb<|Z5 (Ww e)<|I.ok.cab x c a0 hc).trans O}
  .by_cases Z:j=i
   .subst Z;rw[hi]at O;cases O;rw[XQ Y]at e2;cases e2;exact{u,r,.inr {.inl hk,c,hc,a2}}
   .rw[Vw (Ne.symm Z)]at e2;let{u',r',q}:=hl j y v' O e2 e3;refine{u',r',?_};rcases q with q|⟨k,c',e,z'⟩
    .exact .inl q
    .refine .inr {k,c',e,z'.sameBut hs ?_};rintro rfl;exact Z<|wX hN O (I.ok.inj _ _ _ e hc▸hi)
  .by_cases a5:c'=c
   .subst a5;exact{_,a2}
   .let{w2,z2}:=I.cell y c' e;exact{w2,z2.sameBut hs a5}
  .let{e,n,ne,nf,d}:=I.pin p hp;refine{(hs.2 p.1 ?_).trans e,n,ne,nf,d};intro q;rw[q,a3]at e;have q':oc=p.2:=Wq e;exact d w'<|by rwa[<-q']
def re{Q:Tr}(I:Inv X W B H s)(hN:X.N.Nodup)(hi:X.N[i]?=some x)(hx:Loc X.env.scope x)(r:RelV v u)
  (h:∀s',Inv X W (B.set i<|some v) H s'->Q Unit.unit s') (hf:X.fn x=true\/X.env.scope.names.lookup x=some .local:=by ac_rfl):wpAny M' A (storeName X.env x u) Q E s:=
 zf I hN hi hx r (λs' z _=>h s' z) hf
def Inv.call'(I:Inv X W B H s)(G:s'.os=s.os)(u:Un (RF X.stack) ch H H' s.heap s'.heap)(hok:QH X.prog X.w H' s'.heap)(O:AllBare s'.gens)
  (z:∀b∈ch,(b∈X.ex\/X.s₀.heap.objs.size<=b)/\b≠X.env.locals/\(∀x c,X.env.cells.lookup x=some c->c≠b)/\∀p∈X.pn++W,p.1≠b):Inv X W B H' s':=by
 let{h',g',d',t',o'}:=s';have e:o'=s.os:=G;subst e;exact I.call (g':=g') (t':=t') (d':=d') u hok O z
end
abbrev XK:=Value->Option Addr->Hp->Prop
abbrev St:=List (Option V)
abbrev VK:=V->Hp->Prop
abbrev TE:=St->Hp->VK->Prop
abbrev TT:=St->Hp->(Bool->Hp->Prop)->Prop
abbrev TA:=St->Hp->(List V->Hp->Prop)->Prop
set_option genInjectivity false in
structure Qo where
 nx:St->Hp->Prop
 rt:VK
 bk:St->Hp->Prop:=λ_ _=>False
 ct:St->Hp->Prop:=λ_ _=>False
abbrev TS:=Qo->St->Hp->Prop
def EP(X:Cx)(W:So)(B:St)(Q:VK)(u:Sk)(s':L'):Prop:=∃v H',Inv X W B H' s'/\RelV v u/\Q v H'
def TP(X:Cx)(W:So)(B:St)(Q:Bool->Hp->Prop)(b:Bool)(s':L'):Prop:=∃H',Inv X W B H' s'/\Q b H'
def AP(X:Cx)(W:So)(B:St)(Q:List V->Hp->Prop)(us:Sl)(s':L'):Prop:=∃vs H',Inv X W B H' s'/\M2 vs us/\Q vs H'
def SP(X:Cx)(W:So)(D:Qo)(f:Flow)(s':L'):Prop:=
 match f with
 | .next=>∃σ' H',Inv X W σ' H' s'/\D.nx σ' H'
 | .brk=>∃σ' H',Inv X W σ' H' s'/\D.bk σ' H'
 | .cont=>∃σ' H',Inv X W σ' H' s'/\D.ct σ' H'
 | .ret u=>∃v σ' H',Inv X W σ' H' s'/\RelV v u/\D.rt v H'
abbrev Bf(X:Cx){a}:=@wpAny a (model X.prog X.w) X.A
def PE(X:Cx)(e:Expr)(t:TE):Prop:=
 ∀(W:So)(s:L')(B:St)(H:Hp)(Q:VK),Inv X W B H s->t B H Q->Bf X (eval e X.env) (EP X W B Q) X.xe s
def PT(X:Cx)(e:Expr)(t:TT):Prop:=
 ∀(W:So)(s:L')(B:St)(H:Hp)(Q:Bool->Hp->Prop),Inv X W B H s->t B H Q->Bf X (isTrue e X.env<|eval e X.env) (TP X W B Q) X.xe s
def PW(X:Cx)(e:Expr)(t:TT):Prop:=
 ∀(whole:Sem Value)(W:So)(s:L')(B:St)(H:Hp)(Q:Bool->Hp->Prop),Inv X W B H s->t B H Q->Bf X (isTrue e X.env whole) (TP X W B Q) X.xe s
def PW.pt{t:TT}(h:PW X e t):PT X e t:=h _
def PA(X:Cx)(es:Tk)(t:TA):Prop:=
 ∀(pos:Pos)(W:So)(s:L')(B:St)(H:Hp)(Q:List V->Hp->Prop),Inv X W B H s->t B H Q->Bf X (spliced<|backTo pos<|starEach es X.env) (AP X W B Q) X.xe s
def PS(X:Cx)(st:Stmt)(t:TS):Prop:=
 ∀(W:So)(s:L')(B:St)(H:Hp)(D:Qo),Inv X W B H s->t D B H->Bf X (exec st X.env) (SP X W D) X.xe s
def Qh(X:Cx)(st:List Stmt)(t:TS):Prop:=
 ∀(W:So)(s:L')(B:St)(H:Hp)(D:Qo),Inv X W B H s->t D B H->Bf X (execs st X.env) (SP X W D) X.xe s
def P8{α:Type}{t:Sem α}{Q Q':α->Shared->Prop}(h:wpAny M' A t Q E s)(z:∀a s,Q a s->Q' a s):wpAny M' A t Q' E s:=WJ h z λ_ _ x=>x
section
inductive MI(i:Nat)(B:St)(H:Hp)(Q:VK):Prop
 |mk(v:_)(_:B[i]?=some (some v))(_:Q v H)
def tC(v:V):TE:=λ_ H Q=>Q v H
def Na{i:Nat}(hN:X.N[i]?=some x)(O:Si X.env.scope x)(hd:(x==(hW:Str))=false:=by decide)(G:(x==("__classdict__":Str))=false:=by decide):PE X (.Name x pos) (MI i):=by
 intro W s B H Q I h;let{v,e,h}:=h;let{m,U,hl}:=I.loc;let{u,r,l}:=hl i x v hN e O;have fin:EP X W B Q u s:=⟨v,H,I,r,h⟩;rcases l with⟨hk,Y⟩|⟨hk,c,hc,z⟩
 .exact wpAny_Name (wpAny_loadName_local I.ok.kind hk U Y fin) hd
 .rcases hk with hk|hk
  .exact wpAny_Name (wpAny_loadName_cell I.ok.kind hk hc z fin) hd
  .exact wpAny_Name (wpAny_loadName_free I.ok.kind hk hc z fin G) hd
def ai{i j pos}:PE X (.Constant (.int i) j pos) (tC<|.int i):=λ_ _ _ H _ I h=>wpAny_Constant_int {.int i,H,I.tok _,{_,M},h}
def BP{b j pos}:PE X (.Constant (.bool b) j pos) (tC<|.bl b):=λ_ _ _ H _ I h=>Constant_bool {.bl b,H,I,M,h}
def bx{j pos}:PE X (.Constant .none j pos) (tC .non):=λ_ _ _ H _ I h=>Constant_none {.non,H,I,M,h}
def bQ{x j pos}:PE X (.Constant (.str x) j pos) (tC<|.str x):=λ_ _ _ H _ I h=>Calls.Constant_str {.str x,H,I.tok _,{_,M},h}
def Gl(X:Cx)(x:Str):Prop:=X.env.kindOf x=some .globalImplicit
def lZ{B:St}{H:Hp}{Q:Sw}(I:Inv X W B H s)(z:Gl X x)(G:X.mg x=some u)(h:Q u s)
  (hd:(x==(hW:Str))=false:=by decide):Bf X (eval (.Name x pos) X.env) Q E s:=
 Calls.Name_function_global I.ok.kind z (Calls.loadGlobal_global (by rw[I.ok.glob];exact I.mod.glob.keeps I.bk) G h) hd
def uh{B:St}{H:Hp}{Q:Sw}(I:Inv X W B H s)(z:Gl X x)(G:X.mg x=none)(O:bootBuiltins x=some u)(h:Q u s)
  (U:x≠"__name__":=by decide) (hd:(x==(hW:Str))=false:=by decide):Bf X (eval (.Name x pos) X.env) Q E s:=by
 let{Y,h1,h2}:=I.mod.blt;exact Calls.Name_function_global I.ok.kind z (Calls.loadGlobal_builtin (by rw[I.ok.glob];exact I.mod.glob.keeps I.bk) G (by rw[I.ok.blt];exact h1.keeps I.bk) ((h2 x U).trans O) h) hd
def cK{v:V}(z:Gl X x)(G:X.mg x=some u)(r:RelV v u)(hd:(x==(hW:Str))=false:=by decide):PE X (.Name x pos) (tC v):=
 λ_ _ _ H _ I h=>lZ I z G ⟨v,H,I,r,h⟩ hd
def Ez{v:V}(z:Gl X x)(G:X.mg x=none)(O:bootBuiltins x=some u)(r:RelV v u)(U:x≠"__name__":=by decide)(hd:(x==(hW:Str))=false:=by decide):PE X (.Name x pos) (tC v):=
 λ_ _ _ H _ I h=>uh I z G O ⟨v,H,I,r,h⟩ U hd
variable{a b:Expr}{tb:TE}
def PC(X:Cx)(op:CmpOp)(a b:Expr)(t:TE):Prop:=
 ∀(W:So)(s:L')(B:St)(H:Hp)(Q:VK),Inv X W B H s->t B H Q->
  Bf X (eval a X.env) (λv s₁=>Bf X (eval b X.env) (λu s₂=>Bf X (compareOp op v u) (EP X W B Q) X.xe s₂) X.xe s₁) X.xe s
inductive tBR(Q:Bool->Hp->Prop)(x:V)(H1:Hp):Prop
 |mk(c:_)(_:x= .bl c)(_:Q c H1)
def tB(t:TE):TT:=λB H Q=>t B H λx H1=>tBR Q x H1
def Nb(h:PC X op a b t)(h1:behindInMarks op b=false:=by first|exact nobehind _ (_) (_)|rfl):PE X (.Compare a [op] [b] pos) t:=λW s B H Q I hw=>wpAny_Compare1 (h W s B H Q I hw) h1
def Dy(h:PC X op a b t)(h1:behindInMarks op b=false:=by first|exact nobehind _ (_) (_)|rfl):PT X (.Compare a [op] [b] pos) (tB t):=by
 intro W s B H Q I hw;refine wpAny_isTrue_Compare1 (P8 (h W s B H _ I hw) λv s1 h1=>P8 h1 λu s2 h2=>P8 h2 λc s3 z=>?_) h1;let{x,H1,G,r1,O}:=z;let{d,rfl,q}:=O;cases r1;exact WL ⟨H1,G,q⟩
def cU(h:PE X e t)(he:∀z,isTrue e X.env z=(do let v<-z;standAt e.pos;holding [v] (truthy v)):=by subst_eqs):PT X e (tB t):=by
 intro W s B H Q I hw;refine isTrue_plain (P8 (h W s B H _ I hw) λv s1 G=>?_)<|he _;let{x,H1,O,r1,U}:=G;let{d,rfl,q}:=U;cases r1;exact WL ⟨H1,O,q⟩
variable{tA tB':TT}{rest:Tk}
def tAnd(t u:TT):TT:=λB H Q=>t B H λc H1=>if c=true then u B H1 Q else Q false H1
def tOr(t u:TT):TT:=λB H Q=>t B H λc H1=>if c=true then Q true H1 else u B H1 Q
def tNot(t:TT):TT:=λB H Q=>t B H λc H1=>Q (!c) H1
def dB(ha:PT X a tA):PW X (.BoolOp .And [a] pos) tA:=by
 intro wh W s B H Q I h;refine isTrue_and<|P8 (ha W s B H Q I h) λc s1 e=>?_;cases c with
 |true=>exact isTrue_and_nil e
 |false=>exact e
def i5(ha:PT X a tA):PW X (.BoolOp .Or [a] pos) tA:=by
 intro wh W s B H Q I h;refine isTrue_or<|P8 (ha W s B H Q I h) λc s1 e=>?_;cases c with
 |false=>exact isTrue_or_nil e
 |true=>exact e
def eU(ha:PT X a tA)(hb:PW X (.BoolOp .And (b::rest) pos) tB'):PW X (.BoolOp .And (a::b::rest) pos) (tAnd tA tB'):=by
 intro wh W s B H Q I h;refine isTrue_and<|P8 (ha W s B H _ I h) λc s1 zz=>?_;let{H1,z,G}:=zz;cases c with
 |true=>exact hb wh W s1 B H1 Q z G
 |false=>exact⟨H1,z,G⟩
def mJ(ha:PT X a tA)(hb:PW X (.BoolOp .Or (b::rest) pos) tB'):PW X (.BoolOp .Or (a::b::rest) pos) (tOr tA tB'):=by
 intro wh W s B H Q I h;refine isTrue_or<|P8 (ha W s B H _ I h) λc s1 zz=>?_;let{H1,z,G}:=zz;cases c with
 |true=>exact⟨H1,z,G⟩
 |false=>exact hb wh W s1 B H1 Q z G
def lQ(ha:PT X a tA):PT X (.UnaryOp .Not a pos) (tNot tA):=by
 intro W s B H Q I h;exact isTrue_not<|ha W s B H (λc H1=>Q (!c) H1) I h
def Oy(ta tb:TE):TE:=λB H Q=>ta B H λx H1=>∃c,x= .bl c/\if c=true then tb B H1 Q else Q (.bl false) H1
def tOrV(ta tb:TE):TE:=λB H Q=>ta B H λx H1=>∃c,x= .bl c/\if c=true then Q (.bl true) H1 else tb B H1 Q
def Oo(ta:TE):TE:=λB H Q=>ta B H λx H1=>∃c,x= .bl c/\Q (.bl<|!c) H1
def gv{op}(h:PE X a t):PE X (.BoolOp op [a] pos) t:=λW s B H Q I hw=>BoolOp_one (h W s B H Q I hw)
def gw(ha:PE X a ta)(hb:PE X (.BoolOp .And (b::rest) pos) tb):PE X (.BoolOp .And (a::b::rest) pos) (Oy ta tb):=by
 intro W s B H Q I h;refine BoolOp_and<|P8 (ha W s B H _ I h) λv s1 G=>?_;let{x,H1,O,r1,z}:=G;let{c,rfl,z}:=z;cases r1;refine WL ?_;cases c with
 |true=>exact hb W s1 B H1 Q O z
 |false=>exact{.bl false,H1,O,M,z}
def Mb(ha:PE X a ta)(hb:PE X (.BoolOp .Or (b::rest) pos) tb):PE X (.BoolOp .Or (a::b::rest) pos) (tOrV ta tb):=by
 intro W s B H Q I h;refine BoolOp_or<|P8 (ha W s B H _ I h) λv s1 G=>?_;let{x,H1,O,r1,z}:=G;let{c,rfl,z}:=z;cases r1;refine WL ?_;cases c with
 |false=>exact hb W s1 B H1 Q O z
 |true=>exact{.bl true,H1,O,M,z}
def DE(ha:PE X a ta):PE X (.UnaryOp .Not a pos) (Oo ta):=by
 intro W s B H Q I h;refine UnaryOp_<|P8 (ha W s B H _ I h) λv s1 z=>?_;let{x,H1,O,r1,G}:=z;let{c,rfl,G}:=G;cases r1;exact not_of<|WL {.bl<|!c,H1,O,M,G}
def tIf(t:TT)(ta tb:TE):TE:=λB H Q=>t B H λc H1=>if c=true then ta B H1 Q else tb B H1 Q
def HJ(hc:PT X c tA)(ha:PE X a ta)(hb:PE X b tb):PE X (.IfExp c a b pos) (tIf tA ta tb):=by
 intro W s B H Q I h;refine wpAny_IfExp<|P8 (hc W s B H _ I h) λd s1 zz=>?_;let{H1,z,G}:=zz;cases d with
 |true=>exact ha W s1 B H1 Q z G
 |false=>exact hb W s1 B H1 Q z G
end
def E7(K:JZ)(H:Hp)(a:K')(xs:Sm):Prop:=
 Rd H a (.lst xs)\/
  ∃(o:Obj)(its:Tc)(n:Nat),K.lookup a=some o/\o.cls= .type ff/\o.dict=none/\o.data= .seq its n/\its.size<=sizeLine/\M2 xs its.toList
def Px(K:JZ)(H:Hp)(a:K')(xs:Sm):Prop:=
 Rd H a (.tup xs)\/
  ∃(o:Obj)(its:Tc)(n:Nat),K.lookup a=some o/\o.cls= .type oo/\o.data= .seq its n/\its.size<=sizeLine/\M2 xs its.toList
noncomputable def absV:Value->Option V
 | .none=>some .non
 | .bool b=>some (.bl b)
 | .int i _=>some (.int i)
 | .str x _=>some (.str x)
 | .bytes b _=>some (.byt b)
 | .float b _=>some (.flt b)
 | .ref a=>some (.ref a)
 | .type n=>some (.ty n)
 |_=>none
def RelV.abs{x:V}(r:RelV x u):absV u=some x:=by
 cases x with
 |non=>cases r;rfl
 |bl _=>cases r;rfl
 |int _=>let{t,rfl}:=r;rfl
 |str _=>let{t,rfl}:=r;rfl
 |byt _=>let{t,rfl}:=r;rfl
 |flt _=>let{t,rfl}:=r;rfl
 |ref _=>cases r;rfl
 |ty _=>cases r;rfl
def RelV.inj{x:V}(r:RelV x u)(q:RelV y u):x=y:=Wq (r.abs.symm.trans q.abs)
def M2.inj{ys:Sm}(h:M2 xs us)(h':M2 ys us):xs=ys:=by
 induction h generalizing ys with
 |nil=>cases h';rfl
 |cons r t z=>cases h' with
  |cons G t'=>rw[r.inj G,z t']
section
variable{ys:Sm}
def E7.of(h:H a=some (.lst xs)):E7 K H a xs:= .inl (.inl h)
def Px.of(h:H a=some (.tup xs)):Px K H a xs:= .inl (.inl h)
def Inv.list(I:Inv X W B H s)(h:E7 X.K H a xs):∃its:List Value,M2 xs its/\PlainL s.heap a its.toArray/\xs.length<=sizeLine:=by
 rcases h with h|⟨o,its,n,hk,hc,hd,hs,hz,r⟩
 .let{z,its,n,r,e}:=h.ok I.hok;exact{its,r,{_,n,e,M,M,M},z}
 .refine{its.toList,r,{o,n,I.kIn a o hk,hc,hd,by simpa using hs},?_};have e:=r.length;simp only[QN]at e;lia
def Inv.tuple(I:Inv X W B H s)(h:Px X.K H a xs):∃its:List Value,M2 xs its/\IsTup s.heap a its.toArray/\xs.length<=sizeLine:=by
 rcases h with h|⟨o,its,n,hk,hc,hs,hz,r⟩
 .let{z,its,r,p}:=h.ok I.hok;exact⟨its,r,p,z⟩
 .refine{its.toList,r,{o,I.kIn a o hk,hc,n,by simpa using hs},?_};have e:=r.length;simp only[QN]at e;lia
def Inv.list_inj(I:Inv X W B H s)(h:E7 X.K H a xs)(h':E7 X.K H a ys):xs=ys:=by
 let{its,r,{o,n,e,_,_,d},_}:=I.list h;let{its',G,{o',n',z,_,_,d'},_}:=I.list h';rw[e]at z;cases z;rw[d]at d';injection d' with d1 _;have:its=its':=by simpa using WG Array.toList d1
 subst this;exact r.inj G
end
abbrev Cx.wish(X:Cx)(E:Sw):Cx:={X with xe:=E}
abbrev Cx.nox(X:Cx):Cx:=X.wish λ_ _=>False
def Cx.Ok.wish(ok:X.Ok)(E:Sw):(X.wish E).Ok:=
 ⟨ok.mod,ok.kind,ok.glob,ok.blt,ok.above,ok.inj,ok.has,ok.cab,ok.hd,ok.frames,ok.stk,ok.exf,ok.bs,ok.bsz,ok.noex,ok.exfs,ok.funs,ok.frf⟩
def Cx.Ok.unwish(ok:(X.wish E).Ok):X.Ok:=
 ⟨ok.mod,ok.kind,ok.glob,ok.blt,ok.above,ok.inj,ok.has,ok.cab,ok.hd,ok.frames,ok.stk,ok.exf,ok.bs,ok.bsz,ok.noex,ok.exfs,ok.funs,ok.frf⟩
def Inv.wish(I:Inv X W B H s)(E:Sw):Inv (X.wish E) W B H s:={I.ok.wish E,I.os,I.bare,I.base,I.loc,I.cell,I.free,I.freeC,I.pin,I.hok,I.len}
def Inv.unwish(I:Inv (X.wish E) W B H s):Inv X W B H s:=⟨I.ok.unwish,I.os,I.bare,I.base,I.loc,I.cell,I.free,I.freeC,I.pin,I.hok,I.len⟩
def SP.unwish{f:Flow}(h:SP (X.wish E) W D f s'):SP X W D f s':=by
 cases f with
 |next=>let{z,H',I,q}:=h;exact⟨z,H',I.unwish,q⟩
 |brk=>let{z,H',I,q}:=h;exact⟨z,H',I.unwish,q⟩
 |cont=>let{z,H',I,q}:=h;exact⟨z,H',I.unwish,q⟩
 |ret u=>let{v,z,H',I,r,q}:=h;exact⟨v,z,H',I.unwish,r,q⟩
def Qh.nox{st:List Stmt}{t:TS}(h:Qh X.nox st t):Qh X st t:=λW s B H D I hw=>
 WJ (h W s B H D (I.wish _) hw) (λ_ _ q=>q.unwish) λ_ _ z=>False.elim z
section
variable{st:Stmt}{rest:List Stmt}{t u:TS}
def mY:TS:=λD B H=>D.nx B H
def Ag(t u:TS):TS:=λD B H=>t {D with nx:=u D} B H
def aJ:Qh X [] mY:=λ_ _ B H _ I h=>wpAny_execs_nil ⟨B,H,I,h⟩
def kF(h1:PS X st t)(h2:Qh X rest u):Qh X (st::rest) (Ag t u):=by
 intro W s B H D I h;refine wpAny_execs_cons<|P8 (h1 W s B H {D with nx:=u D} I h) λf s1 q=>?_;cases f with
 |next=>
  let{z,H',G,q}:=q;exact h2 W s1 z H' D G q
 |ret v=>exact q
 |brk=>exact q
 |cont=>exact q
def ay(h1:PS X st t):Qh X [st] t:=by
 intro W s B H D I h;refine wpAny_execs_cons<|P8 (h1 W s B H D I h) λf s1 q=>?_;cases f with
 |next=>exact wpAny_execs_nil q
 |ret v=>exact q
 |brk=>exact q
 |cont=>exact q
def MP:TS:=λD B H=>D.bk B H
def HG:PS X (.Break pos) MP:=λ_ _ B H _ I h=>wpAny_Break ⟨B,H,I,h⟩
def Inv.quiet(I:Inv X W B H s):interactive X.env=false:=by simp[interactive,I.ok.kind]
def Oq(te:TE):TS:=λD B H=>te B H λ_ H1=>D.nx B H1
def aT(he:PE X e te)(hs:swapsWith e none pos.line X.env=pure false:=by rfl):PS X (.Expr e pos) (Oq te):=by
 intro W s B H D I h;exact wpAny_Expr_any (P8 (he W s B H _ I h) λv s1 zz=>by let{x,H1,z,r1,G}:=zz;exact⟨B,H1,z,G⟩) I.quiet hs
def tRet(te:TE):TS:=λD B H=>te B H D.rt
def aG(he:PE X e te):PS X (.Return (some e) pos) (tRet te):=by
 intro W s B H D I h;exact wpAny_Return_some<|P8 (he W s B H _ I h) λv s1 zz=>by let{x,H1,z,r1,G}:=zz;exact⟨x,B,H1,z,r1,G⟩
def Ol:TS:=λD _ H=>D.rt .non H
def oS:PS X (.Return none pos) Ol:=λ_ _ B H _ I h=>wpAny_Return_none {.non,B,H,I,M,h}
def tIfS(c:TT)(t u:TS):TS:=λD B H=>c B H λb H1=>if b=true then t D B H1 else u D B H1
def aS{a b:List Stmt}(hc:PT X c tc)(ha:Qh X a t)(hb:Qh X b u):PS X (.If c a b pos) (tIfS tc t u):=by
 intro W s B H D I h;refine wpAny_If<|P8 (hc W s B H _ I h) λd s1 zz=>?_;let{H1,z,G}:=zz;cases d with
 |true=>exact ha W s1 B H1 D z G
 |false=>exact hb W s1 B H1 D z G
end
abbrev TG:=V->St->Hp->(St->Hp->Prop)->Prop
abbrev TGs:=List V->St->Hp->(St->Hp->Prop)->Prop
abbrev _root_.To:=St->Hp->Prop
def PG(X:Cx)(target:Expr)(t:TG):Prop:=
 ∀(W:So)(s:L')(B:St)(H:Hp)(v:V)(u:Sk)(Q:To),Inv X W B H s->RelV v u->t v B H Q->
  Bf X (assign target X.env u) (λ_ s'=>∃σ' H',Inv X W σ' H' s'/\Q σ' H') X.xe s
def PGs(X:Cx)(ts:Tk)(t:TGs):Prop:=
 ∀(W:So)(s:L')(B:St)(H:Hp)(vs:Sm)(us:Sl)(Q:To),Inv X W B H s->M2 vs us->t vs B H Q->
  Bf X (assignInOrder ((assignEach ts X.env).map (·.2)) us) (λ_ s'=>∃σ' H',Inv X W σ' H' s'/\Q σ' H') X.xe s
abbrev N0:=V->V->V->Hp->(Hp->Prop)->Prop
def PSet(X:Cx)(t:N0):Prop:=
 ∀(W:So)(s:L')(B:St)(H:Hp)(o i v:V)(ov iv u:Sk)(Q:Hp->Prop),Inv X W B H s->RelV o ov->RelV i iv->RelV v u->t o i v H Q->
  Bf X (setItem ov iv u) (λ_ s'=>∃H',Inv X W B H' s'/\Q H') X.xe s
abbrev TIp:=V->V->Hp->VK->Prop
def PIp(X:Cx)(op:Operator)(t:TIp):Prop:=
 ∀(W:So)(s:L')(B:St)(H:Hp)(x y:V)(v u:Sk)(Q:VK),Inv X W B H s->RelV x v->RelV y u->t x y H Q->
  Bf X (inplaceOp op v u) (EP X W B Q) X.xe s
abbrev gi(i:Nat):TG:=λv B H Q=>Q (B.set i<|some v) H
def Ey(hN:X.N.Nodup)(hi:X.N[i]?=some x)(hx:Loc X.env.scope x)(hf:X.fn x=true\/X.env.scope.names.lookup x=some .local:=by ac_rfl):PG X (.Name x pos) (gi i):=by
 intro W s B H v u Q I r h;exact wpAny_assign_Name<|re I hN hi hx r (λs' z=>{_,H,z,h}) hf
def gNil:TGs:=λvs B H Q=>vs=[]/\Q B H
inductive O8(t:TG)(u:TGs)(vs:Sm)(B:St)(H:Hp)(Q:To):Prop
 |mk(v r:_)(_:vs=v::r)(_:t v B H λσ' H'=>u r σ' H' Q)
def AA:PGs X [] gNil:=by
 intro W s B H vs us Q I r h;let{e,h}:=h;subst e;cases r;exact assignInOrder_nil ⟨B,H,I,h⟩
def kH{t:TG}{u:TGs}(h1:PG X e t)(h2:PGs X es u)
  (hs:(assignEach (e::es) X.env).map (·.2)=assign e X.env::(assignEach es X.env).map (·.2):=by rfl):PGs X (e::es) (O8 t u):=by
 intro W s B H vs us Q I r h;let{v,vr,O,h}:=h;subst O;cases r with
 |cons r U=>
  rw[hs];refine assignInOrder_cons<|P8 (h1 W s B H _ _ _ I r h) λ_ s1 z=>?_;let{G,H1,Y,Z}:=z;exact h2 W s1 G H1 _ _ Q Y U Z
inductive gTup(K:JZ)(n:Nat)(t:TGs)(v:V)(B:St)(H:Hp)(Q:To):Prop
 |mk(a xs:_)(_:v= .ref a)(_:Px K H a xs)(_:xs.length=n)(_:t xs B H Q)
def DB{k:Nat}{t:TGs}(hc:X.calm=true)(h:PGs X es t)
  (G:(assignEach es X.env).length=n:=by rfl) (z:(assignEach es X.env).findIdx? (·.1)=none:=by rfl):PG X (.Tuple es k pos) (gTup X.K n t):=by
 intro W s B H v u Q I r hw;let{a,xs,O,hq,hl,hw}:=hw;subst O;cases r;let{its,rv,U,hz}:=I.tuple hq;refine assign_Tuple_tuple (I.ok.hd hc) U (by simp[G,<-hl,rv.length]) z λh' hx=>?_;have Y:Inv X W B H {s with heap:=h'}:=I.kept (t':=s.toks) λb o e=>hx b o (Zb<|Ww e) e;exact h W _ B H xs _ Q Y (by simpa using rv) hw
def gSub(to ti:TE)(t:N0):TG:=λv B H Q=>to B H λo H1=>ti B H1 λi H2=>t o i v H2 λH3=>Q B H3
def DD{o i:Expr}{to U:TE}{t:N0}(Y:PE X o to)(hi:PE X i U)(hs:PSet X t)
  (ha:∀v,assign (.Subscript o i pos) X.env v=(do
   let G<-holding [v] (eval o X.env)
   let O<-holding [v,G] (eval i X.env)
   standAt pos
   holding [v,G,O] (setItem G O v)
   release [v,G,O] []):=by subst_eqs):PG X (.Subscript o i pos) (gSub to U t):=by
 intro W s B H v u Q I r h;rw[ha];refine Wp<|WH (P8 (Y W s B H _ I h) λG s1 z=>?_);let{x,H1,Z,r1,q1}:=z;refine Wp<|WH (P8 (hi W s1 B H1 _ Z q1) λO s2 z=>?_);let{y,H2,I2,r2,q2}:=z;refine Wp<|wpAny_standAt (Wp<|WH<|P8 (hs W s2 B H2 x y v G O u _ I2 r1 r2 r q2) λ_ s3 z=>?_);let{H3,I3,q3}:=z;exact wpAny_release ⟨B,H3,I3,q3⟩
def Hl(te:TE)(g:TG):TS:=λD B H=>te B H λx H1=>g x B H1 D.nx
def Az{g:TG}(he:PE X e te)(G:PG X tg g)(hs:swapsWithSole [tg] e pos.line X.env=pure false:=by rfl)(hw:swappedStores [tg] e X.env=pure none:=by rfl)
  (h1:(assignEach [tg] X.env).map (·.2)=[assign tg X.env]:=by rfl):PS X (.Assign [tg] e pos) (Hl te g):=by
 intro W s B H D I h;refine wpAny_Assign_stores (P8 (he W s B H _ I h) λv s1 z=>?_) hs hw;let{x,H1,O,r1,U}:=z;rw[h1];exact P8 (G W s1 B H1 x v _ O r1 U) λ_ s2 q=>q
def nM(hN:X.N.Nodup)(hi:X.N[i]?=some x)(hx:Loc X.env.scope x)(he:PE X e te)(hs:swapsWith e (some<|.Name x pos') pos.line X.env=pure false:=by rfl)(hf:X.fn x=true\/X.env.scope.names.lookup x=some .local:=by ac_rfl):
  PS X (.Assign [.Name x pos'] e pos) (Hl te<|gi i):=by
 intro W s B H D I h;refine wpAny_Assign_Name (P8 (he W s B H _ I h) λv s1 z=>?_) hs;let{y,H1,G,r1,O}:=z;exact re G hN hi hx r1 (λs2 U=>{_,H1,U,O}) hf
inductive tAug(i:Nat)(te:TE)(ti:TIp)(D:Qo)(B:St)(H:Hp):Prop
 |mk(x:_)(_:B[i]?=some (some x))(_:te B H λy H1=>ti x y H1 λz H2=>D.nx (B.set i<|some z) H2)
def Dz{op:Operator}{Z:TIp}(hN:X.N.Nodup)(hi:X.N[i]?=some x)(hx:Loc X.env.scope x)(he:PE X e te)(ho:PIp X op Z)(hf:X.fn x=true\/X.env.scope.names.lookup x=some .local:=by ac_rfl):
  PS X (.AugAssign (.Name x pos') op e pos) (tAug i te Z):=by
 intro W s B H D I h;let{v,e1,h}:=h;let{m,hn,hl}:=I.loc;have Y:Si X.env.scope x:=by rcases hx with k|k;exact .inl k;exact .inr<|.inl k
 let{u,r,l}:=hl i x v hi e1 Y;refine wpAny_AugAssign_Name ?_;have go:Bf X (eval e X.env) (λw s₂=>Bf X (inplaceOp op u w) (λr U=>Bf X (storeName X.env x r) (λ_=>SP X W D .next) X.xe U) X.xe s₂) X.xe s:=by
  refine P8 (he W s B H _ I h) λw s1 G=>?_;let{y,H1,I1,r1,q1}:=G;refine P8 (ho W s1 B H1 v y u w _ I1 r r1 q1) λz s2 G=>?_;let{zv,H2,I2,r2,q2}:=G;exact re I2 hN hi hx r2 (λs3 I3=>{_,H2,I3,q2}) hf
 rcases l with⟨hk,hm⟩|⟨hk,c,hc,O⟩
 .exact wpAny_loadName_local I.ok.kind hk hn hm go
 .rcases hk with hk|hk
  .exact wpAny_loadName_cell I.ok.kind hk hc O go
  .rcases hx with k|k
   .have:X.env.scope.names.lookup x=some .free:=hk;rw[k]at this;cases this
   .have:X.env.scope.names.lookup x=some .free:=hk;rw[k]at this;cases this
inductive ipI(f:Int->Int->Int)(x y:V)(H:Hp)(Q:VK):Prop
 |mk(i j:_)(_:x= .int i)(_:y= .int j)(_:Q (.int<|f i j) H)
def ID:PIp X .Add (ipI λi j=>i+j):=by
 intro W s B H x y v u Q I r1 z h;let{i,j,G,e2,q}:=h;subst G;subst e2;let{t,rfl}:=r1;let{t',rfl}:=z;exact iadd_int {.int _,H,I.tok _,{_,M},q}
def NC:PIp X .Sub (ipI λi j=>i-j):=by
 intro W s B H x y v u Q I r1 z h;let{i,j,G,e2,q}:=h;subst G;subst e2;let{t,rfl}:=r1;let{t',rfl}:=z;exact isub_int {.int _,H,I.tok _,{_,M},q}
def Hf(c:TT)(tb:TS):TS:=λD B H=>∃J0:Nat->St->Hp->Prop,(∃m,J0 m B H)/\∀m B H,J0 m B H->
 c B H λb H1=>if b=true then ∃N:St->Hp->Prop,(∀σ' H',N σ' H'->∃m',m'<m/\J0 m' σ' H')/\tb {D with nx:=N,ct:=N,bk:=D.nx} B H1 else D.nx B H1
def nK(hp:PassesOwn (model X.prog X.w) X.A X.env X.xe)(hc:PT X c tc)(hb:Qh X body tb):PS X (.While c body [] pos) (Hf tc tb):=by
 intro W s B H D I h;let{J0,{m0,w0},turn}:=h;refine wpAny_While<|codeAny_whileLoop (λn s'=>∃O H',Inv X W O H' s'/\J0 n O H') ?_ m0 ⟨B,H,I,w0⟩;rintro n s1 ⟨G,H1,I1,w1⟩;refine WS hp<|P8 (hc W s1 G H1 _ I1<|turn n G H1 w1) λb s2 zz=>?_;let{H2,I2,U}:=zz;cases b with
 |true=>
  let{N,hN,U}:=U;rw[Wn M];refine WS hp<|P8 (hb W s2 G H2 _ I2 U) λf s3 Y=>?_;cases f with
  |next=>
   let{z,H3,Z,n3}:=Y;let{m',hm,w3}:=hN z H3 n3;exact⟨m',hm,z,H3,Z,w3⟩
  |cont=>
   let{z,H3,Z,n3}:=Y;let{m',hm,w3}:=hN z H3 n3;exact⟨m',hm,z,H3,Z,w3⟩
  |brk=>exact Y
  |ret v=>exact Y
 |false=>
  rw[Wm Q8];exact wpAny_execs_nil ⟨G,H2,I2,U⟩
set_option genInjectivity false in
structure It where
 go:Nat->Hp->Prop
 yld:Nat->Hp->V->Hp->Prop
 stop:Nat->Hp->Prop
def oO(X:Cx)(W:So)(H:Hp)(b:K'):Prop:=
 H b=none/\b≠X.env.locals/\b∉X.fs/\(b∈X.ex\/X.s₀.heap.objs.size<=b)/\(∀x c,X.env.cells.lookup x=some c->c≠b)/\∀p∈X.pn++W,p.1≠b
def Inv.fpOk(I:Inv X W B H s)(hb:s.heap.objs.size<=b)(G:H' b=none):oO X W H' b:=by
 refine{G,V4<|Z5 I.lt hb,I.nofs hb,.inr<|Z4 I.sz hb,λx c e z=>?_,λp hp z=>?_}
 .let{v,q}:=I.cell x c e;exact Ws (Z5 q.lt<|by rwa[z])<|Xs _
 .exact Ws (Z5 (Ww (I.pin p hp).1)<|by rwa[z]) (Xs _)
structure Ee(P:Sr)(w:Ss)(K:JZ)(tg:Expr)(J:It)(fp:Su)(it:K')(tn:Nat->Heap->Prop):Prop where
 mem:it∈fp
 obj:∀i h,tn i h->∀b∈fp,∃o,h.get? b=some o/\∀v,o.data≠ .cell v
 keep:∀i h h',tn i h->(∀b∈fp,∀o,h.get? b=some o->h'.get? b=some o)->tn i h'
 item:∀(X:Cx),X.prog=P->X.w=w->X.K=K->X.calm=true->∀(i:Nat)(W:So)(s:L')(B:St)(H:Hp)(E:Sw),Inv X W B H s->(∀b∈fp,oO X W H b)->tn i s.heap->J.go i H->
  wpAny (model P w) X.A (pyNext<|.ref it) (λr s1=>∃u,r=some u/\
   wpAny (model P w) X.A (letOwnedTupleGo tg (.ref it) u) (λ_ s2=>∃x H',Inv X W B H' s2/\RelV x u/\J.yld i H x H'/\tn (i+1) s2.heap/\∀b∈fp,H' b=none) E s1) E s
 done:∀(X:Cx),X.prog=P->X.w=w->X.K=K->X.calm=true->∀(i:Nat)(W:So)(s:L')(B:St)(H:Hp)(E:Sw),Inv X W B H s->(∀b∈fp,oO X W H b)->tn i s.heap->J.stop i H->
  wpAny (model P w) X.A (pyNext<|.ref it) (λr s1=>r=none/\Inv X W B H s1) E s
 self:∀(A:Sv)(i:Nat)(s:L')(Q:Sw)(E:Sw),tn i s.heap->Q (.ref it) s->wpAny (model P w) A (pyIter<|.ref it) Q E s
abbrev TI:=St->Hp->(It->Hp->Prop)->Prop
def PIE(X:Cx)(W:So)(B:St)(tg:Expr)(R:It->Hp->Prop)(itv:Sk)(s2:L'):Prop:=
 ∃(it:K')(fp:Su)(tn:Nat->Heap->Prop)(J:It)(H':Hp),itv= .ref it/\Inv X W B H' s2/\Ee X.prog X.w X.K tg J fp it tn/\tn 0 s2.heap/\(∀b∈fp,oO X W H' b)/\R J H'
def PI(X:Cx)(tg iter:Expr)(wi:TI):Prop:=
 ∀(W:So)(s:L')(B:St)(H:Hp)(R:It->Hp->Prop),Inv X W B H s->wi B H R->
  Bf X (eval iter X.env) (λv s1=>Bf X (pyIter v) (PIE X W B tg R) X.xe s1) X.xe s
def Cg{o:Obj}{n:String}{vs:Tc}{Q:Tr}(G:s.heap.get? it=some o)(hc:o.cls= .type n)(hd:o.data= .fields vs)
  (I:["enumerate","zip","dict_itemiterator","dict_reverseitemiterator","odict_iterator","itertools.zip_longest","itertools.pairwise"].contains n=false) (z:Q Unit.unit s):wpAny M' A (letOwnedTupleGo tg (.ref it) u) Q E s:=by
 unfold letOwnedTupleGo;cases tg<;>first
  |exact Wx z
  |(cases u<;>first
    |exact Wx z
    |(refine Wp<|wpAny_load G ?_
      rw[hc,hd];show wpAny M' A (if(["enumerate","zip","dict_itemiterator","dict_reverseitemiterator","odict_iterator","itertools.zip_longest","itertools.pairwise"].contains n&&vs[0]?==some (rawInt _))=true then _ else _) Q E s;rw[Wm (by intro h;rw[I,Vx]at h;cases h)];exact Wx z))
def Rh(K:JZ)(a:K'):It:=
 {λi H=>∃xs x,E7 K H a xs/\xs[i]?=some x,λi H x H'=>H'=H/\∀xs,E7 K H a xs->xs[i]?=some x,λi H=>∃xs,E7 K H a xs/\xs.length<=i}
def Rq(lo:Int)(n:Nat):It:={λi _=>i<n,λi H x H'=>H'=H/\x= .int (lo+i),λi _=>n<=i}
def Fv(a it:K'):Ee P w K tg (Rh K a) [it] it (λi h=>h.IsListIter it a i) where
 mem:=by simp
 obj:=λi h st b hb=>by
  have e:b=it:=by simpa using hb
  subst e;let{o,e,c,d}:=st;exact{o,e,λv z=>by rw[d]at z;cases z}
 keep:=λi h h' st k=>st.at λo e=>k it (by simp) o e
 item:=by
  intro X G hw hK hc i W s B H E I hf st O;subst G hw hK;let{xs,x,hq,hx}:=O;let{its,rv,p,hz}:=I.list hq;let{u,hu,ru}:=rv.get hx;let{U,Y,f2,Z,f4,f5}:=hf it (by simp);refine wpAny_pyNext_list_item st p.isList (x:=u) (by simpa using hu) λh' st' sb=>?_;have I1:Inv X W B H {s with heap:=h'}:=I.turned (t':=s.toks) (λb o hb e=>(sb.2 b hb).trans e) U Y Z f4 f5;let{o,e,c,d}:=id st';exact{u,M,Cg (s:={s with heap:=h'}) e c d (_) {x,H,I1,ru,{M,λys hy=>by rwa[I.list_inj hy hq]},st',λb hb=>(hf b hb).1}}
 done:=by
  intro X G hw hK hc i W s B H E I hf st O;subst G hw hK;let{xs,hq,hx}:=O;let{its,rv,p,hz}:=I.list hq;let{U,Y,f2,Z,f4,f5}:=hf it (by simp);have hl:=rv.length;exact wpAny_pyNext_list_end (I.ok.hd hc) st p.isList (by simp;lia) λh' eb=>{M,I.turned (t':=s.toks) (λb o hb e=>eb b o hb e) U Y Z f4 f5}
 self:=λ_ _ _ _ _ st h=>wpAny_pyIter_listiter st h
def Df(it:K')(lo:Int)(n:Nat):Ee P w K tg (Rq lo n) [it] it (λi h=>IsRangeIter h it (lo+(i:Nat)*1) ((n:Int)-(i:Nat)) 1) where
 mem:=by simp
 obj:=λi h st b hb=>by
  have e:b=it:=by simpa using hb
  subst e;exact{_,st,λv z=>by
   have z':Data.fields _=Data.cell v:=z;cases z'}
 keep:=λi h h' st k=>k it (by simp) _ st
 item:=by
  intro X G hw hK hc i W s B H E I hf st O;subst G hw hK;let{U,Y,f2,Z,f4,f5}:=hf it (by simp);have J0:=Walks.range (prog:=X.prog) (w:=X.w) (I.ok.hd hc) it lo 1 n;refine J0.item i s _ _ O st λv h' tk hv st' kk=>?_;let{t,rfl}:=hv;have I1:Inv X W B H {s with heap:=h',toks:=tk}:=I.turned (λb o hb e=>kk b o (by simpa using hb) e) U Y Z f4 f5;refine{_,M,Cg (s:={s with heap:=h',toks:=tk}) (n:="range_iterator") st' M M (_) {.int<|lo+i,H,I1,{t,?_},⟨M,M⟩,st',λb hb=>(hf b hb).1}};rw[Int.mul_one]
 done:=by
  intro X G hw hK hc i W s B H E I hf st O;subst G hw hK;let{U,Y,f2,Z,f4,f5}:=hf it (by simp);exact wpAny_pyNext_range_end (I.ok.hd hc) st (by have:n<=i:=O;lia) λh' eb=>{M,I.turned (t':=s.toks) (λb o hb e=>eb b o hb e) U Y Z f4 f5}
 self:=λ_ _ _ _ _ st h=>wpAny_pyIter_rangeiter st h
inductive NG(K:JZ)(R:It->Hp->Prop)(x:V)(H1:Hp):Prop
 |mk(a:_)(_:x= .ref a)(_:(∃xs,E7 K H1 a xs))(_:R (Rh K a) H1)
def O1(K:JZ)(tl:TE):TI:=λB H R=>tl B H λx H1=>NG K R x H1
def eO{l:Expr}{tl:TE}(hl:PE X l tl):PI X tg l (O1 X.K tl):=by
 intro W s B H R I h;refine P8 (hl W s B H _ I h) λv s1 G=>?_;let{x,H1,z,r1,O}:=G;let{a,e,{xs,hq},q}:=O;subst e;cases r1;let{its,rv,p,hz}:=z.list hq;refine wpAny_pyIter_list p.isList ?_;refine{s1.heap.objs.size,[s1.heap.objs.size],_,_,H1,M,z.kept (t':=s1.toks) λb o e=>Wo _ e,Fv a _,{_,Wy _ M,M,M},λb hb=>?_,q};have e:b=s1.heap.objs.size:=by simpa using hb
 subst e;exact z.fpOk (Q4 _)<|z.hok.fresh (Q4 _)
def Hy{R:It->Hp->Prop}{hi:Int}{t u v:Tok}{tk:Nat}(I:Inv X W B H s)(h1: -(2^62)<=lo)(h2:lo<2^62)(G: -(2^62)<=hi)(O:hi<2^62)
  (q:R (Rq lo (hi-lo).toNat) H):Bf X (pyIter<|.ref s.heap.objs.size) (PIE X W B tg R) E {s with heap:=s.heap.push {cls:= .type sL,data:= .fields #[.int lo t,.int hi u,.int 1 v]},toks:=tk}:=by
 refine wpAny_pyIter_range (IsRange.new ..) (small_one h1 h2 G O) ?_;have z:Inv X W B H {s with heap:=s.heap.push {cls:= .type sL,data:= .fields #[.int lo t,.int hi u,.int 1 v]},toks:=tk}:=I.kept λb o e=>Wo _ e;refine{(s.heap.push {cls:= .type sL,data:= .fields #[.int lo t,.int hi u,.int 1 v]}).objs.size,[(s.heap.push {cls:= .type sL,data:= .fields #[.int lo t,.int hi u,.int 1 v]}).objs.size],_,_,H,M,
  z.kept (t':=tk) λb o e=>Wo _ e,Df _ lo (hi-lo).toNat,?_,λb hb=>?_,q}
 .have U:lo+((0:Nat):Int)*1=lo:=by simp
  have e2:(((hi-lo).toNat:Nat):Int)-((0:Nat):Int)=Builtin.Range.rangeSize lo hi 1:=by rw[rangeSize_one];split<;>lia
  show IsRangeIter _ _ (lo+((0:Nat):Int)*1) ((((hi-lo).toNat:Nat):Int)-((0:Nat):Int)) 1;rw[U,e2];exact Wy _ M
 .have e:b=(s.heap.push {cls:= .type sL,data:= .fields #[.int lo t,.int hi u,.int 1 v]}).objs.size:=by simpa using hb
  subst e;exact z.fpOk (Q4 _) (z.hok.fresh<|Q4 _)
inductive NF(R:It->Hp->Prop)(vs:Sm)(H1:Hp):Prop
 |mk(j:Int)(_:vs=[.int j])(_: -(2^62)<=j)(_:j<2^62)(_:R (Rq 0 j.toNat) H1)
def O0(ta:TA):TI:=λB H R=>ta B H λvs H1=>NF R vs H1
def kG{a:Expr}{ta:TA}(O:Gl X sL)(U:X.mg sL=none)(ha:PA X [a] ta)(hs:starEach [a] X.env=[(false,eval a X.env)]:=by rfl):PI X tg (.Call (.Name sL p) [a] [] pos) (O0 ta):=by
 intro W s B H R I h;refine Call_<|uh I O U boot_range (PyProof.Rows.callWith_type1 (P8 (ha pos W s B H _ I h) λus s1 z=>?_) hs M);let{vs,H1,Y,r1,G}:=z;let{j,e,G,Z,q}:=G;subst e;cases r1 with
 |cons r rr=>
  cases rr;let{t,rfl}:=r;exact call_range_1<|Hy Y () () G Z (by simpa using q)
def tFor(wi:TI)(g:TG)(tb:TS):TS:=λD B H=>wi B H λJ H1=>∃J0:Nat->Nat->St->Hp->Prop,(∃m,J0 0 m B H1)/\∀i m B H,J0 i m B H->
 (J.stop i H/\D.nx B H)\/(J.go i H/\∃N:St->Hp->Prop,(∀σ' H',N σ' H'->∃m',m'<m/\J0 (i+1) m' σ' H')/\∀x H',J.yld i H x H'->g x B H' λσ2 H2=>tb {D with nx:=N,ct:=N,bk:=D.nx} σ2 H2)
def wF(fp:Su)(h:Heap):List (Addr×Obj):=fp.filterMap λb=>(h.get? b).map λo=>(b,o)
def lW{o:Obj}(hb:b∈fp)(e:h.get? b=some o):(b,o)∈wF fp h:=List.mem_filterMap.mpr {b,hb,by rw[e];rfl}
def FQ{p:Addr×Obj}(hp:p∈wF fp h):p.1∈fp/\h.get? p.1=some p.2:=by
 let{b,hb,e}:=List.mem_filterMap.mp hp;cases q:h.get? b with
 |none=>rw[q]at e;cases e
 |some o=>
  rw[q]at e;have z:(b,o)=p:=Wq e;subst z;exact⟨hb,q⟩
def Inv.pinned(I:Inv X W B H s)(hf:∀b∈fp,oO X W H b)(O:∀b∈fp,∃o,s.heap.get? b=some o/\∀v,o.data≠ .cell v):Inv X (W++wF fp s.heap) B H s:=
 I.pins_of λp hp=>(Q5.mp hp).elim (λz=>I.pin p<|Z8 _ z) λz=>by
  let{hb,e}:=FQ z;let{U,Y,Z,_}:=hf p.1 hb;let{o,G,d}:=O p.1 hb;rw[e]at G;cases G;exact⟨e,U,Y,Z,d⟩
def Inv.unpinned{pl:So}(I:Inv X (W++pl) B H s):Inv X W B H s:=I.pins_of λp hp=>I.pin p (Z8 _<|ZW _ hp)
def jV{iter:Expr}{wi:TI}{g:TG}(hp:PassesOwn (model X.prog X.w) X.A X.env X.xe)(hc:X.calm=true)(hi:PI X tg iter wi)(hg:PG X tg g)(hb:Qh X body tb)
  (hs:∀x,foldedSetIterable iter X.env x=pure x:=by subst_eqs):PS X (.For tg iter body [] pos) (tFor wi g tb):=by
 intro W s B H D I h;refine wpAny_For (P8 (hi W s B H _ I h) λv s1 h1=>P8 h1 λaa s2 h2=>?_) hs;let{it,fp,tn,J,H2,e,I2,T,st2,f2,J0,{m0,w0},turn}:=h2;subst e;have G:∀{H':Hp},(∀b∈fp,H' b=none)->∀b∈fp,oO X W H' b:=λhn b hb=>{hn b hb,(f2 b hb).2};refine codeAny_forLoop_any (λn s'=>∃i O H',Inv X W O H' s'/\tn i s'.heap/\(∀b∈fp,H' b=none)/\J0 i n O H') ?_ m0 {0,B,H2,I2,st2,λb hb=>(f2 b hb).1,w0};rintro n s3 ⟨i,U,H3,I3,a2,a3,w3⟩;rcases turn i n U H3 w3 with⟨a4,qn⟩|⟨go,N,hN,step⟩
 .refine WS hp<|P8 (T.done X M M M hc i W s3 U H3 X.xe I3 (G a3) a2 a4) λr s4 zz=>?_;let{hr,I4}:=zz;subst hr;exact wpAny_execs_nil ⟨U,H3,I4,qn⟩
 .refine WS hp<|P8 (T.item X M M M hc i W s3 U H3 X.xe I3 (G a3) a2 go) λr s4 zz=>?_;let{u,hr,h4}:=zz;subst hr;refine WS hp<|P8 h4 λ_ s5 a0=>?_;let{x,H5,I5,r5,y5,a1,a5}:=a0;have a6:=I5.pinned (G a5) (T.obj _ _ a1);refine WS hp<|P8 (hg _ s5 U H5 x u _ a6 r5<|step x H5 y5) λ_ s6 a0=>?_;let{a8,H6,I6,q6}:=a0;refine WS hp<|P8 (hb _ s6 a8 H6 _ I6 q6) λf s7 Z=>?_;have again:∀{z:St}{H7:Hp},Inv X (W++wF fp s5.heap) z H7 s7->N z H7->∃m,m<n/\∃i O H',Inv X W O H' s7/\tn i s7.heap/\(∀b∈fp,H' b=none)/\J0 i m O H':=λ{z H7} Y n7=>by
   let{m',hm,w7}:=hN z H7 n7;refine{m',hm,i+1,z,H7,Y.unpinned,T.keep _ _ _ a1 λb hb o e=>(Y.pin (b,o)<|Z8 _<|Z8 _<|lW hb e).1,λb hb=>?_,w7};let{o,e,d}:=T.obj _ _ a1 b hb;exact(Y.pin (b,o)<|Z8 _<|Z8 _<|lW hb e).2.1
  cases f with
  |next=>let{z,H7,Y,n7}:=Z;exact again Y n7
  |cont=>let{z,H7,Y,n7}:=Z;exact again Y n7
  |brk=>let{z,H7,Y,Z}:=Z;exact⟨z,H7,Y.unpinned,Z⟩
  |ret v=>let{x7,z,H7,Y,r7,Z}:=Z;exact⟨x7,z,H7,Y.unpinned,r7,Z⟩
abbrev _root_.Tu:=Nat->St->Hp->Prop
def IS{g:TG}(Pv:Tu)(O:Pv 0 B H)(hl:∀i B H,i<=xs.length->Pv i B H->E7 K H a xs)
  (hs:∀i x B H,xs[i]?=some x->Pv i B H->g x B H λz H2=>tb {D with nx:=Pv (i+1),ct:=Pv (i+1),bk:=D.nx} z H2) (hd:∀B H,Pv xs.length B H->D.nx B H):
  ∃J0:Nat->Nat->St->Hp->Prop,(∃m,J0 0 m B H)/\∀i m B H,J0 i m B H->
   ((Rh K a).stop i H/\D.nx B H)\/((Rh K a).go i H/\∃N:St->Hp->Prop,(∀G H',N G H'->∃m',m'<m/\J0 (i+1) m' G H')/\∀x H',(Rh K a).yld i H x H'->g x B H' λz H2=>tb {D with nx:=N,ct:=N,bk:=D.nx} z H2):=by
 refine{λi m B H=>m=xs.length-i/\i<=xs.length/\Pv i B H,{xs.length,by simp,QT _,O},?_};rintro i m B H ⟨rfl,hi,p⟩;have q:=hl i B H hi p;by_cases I:i<xs.length
 .refine .inr {{xs,xs[i],q,by simp[I]},Pv<|i+1,λG H' U=>{xs.length-(i+1),(),M,I,U},λx H' y=>?_};let{e,y}:=y;subst e;exact hs i x B _ (y xs q) p
 .have e:i=xs.length:=();subst e;exact .inl {{xs,q,Q4 _},hd B H p}
def zG{g:TG}(Pv:Tu)(O:Pv 0 B H)
  (hs:∀i B H,i<n->Pv i B H->g (.int<|lo+i) B H λz H2=>tb {D with nx:=Pv (i+1),ct:=Pv (i+1),bk:=D.nx} z H2) (hd:∀B H,Pv n B H->D.nx B H):
  ∃J0:Nat->Nat->St->Hp->Prop,(∃m,J0 0 m B H)/\∀i m B H,J0 i m B H->
   ((Rq lo n).stop i H/\D.nx B H)\/((Rq lo n).go i H/\∃N:St->Hp->Prop,(∀G H',N G H'->∃m',m'<m/\J0 (i+1) m' G H')/\∀x H',(Rq lo n).yld i H x H'->g x B H' λz H2=>tb {D with nx:=N,ct:=N,bk:=D.nx} z H2):=by
 refine{λi m B H=>m=n-i/\i<=n/\Pv i B H,{n,by simp,QT _,O},?_};rintro i m B H ⟨rfl,hi,p⟩;by_cases I:i<n
 .refine .inr {I,Pv<|i+1,λG H' U=>{n-(i+1),(),M,I,U},λx H' y=>?_};let{e,y}:=y;subst e y;exact hs i B _ I p
 .have e:i=n:=();subst e;exact .inl {Q4 _,hd B H p}
abbrev R2:=V->V->Hp->VK->Prop
abbrev _root_.Tw:=Value->Value->Sem Value
def Qs(X:Cx)(f:Tw)(r:R2):Prop:=
 ∀(W:So)(s:L')(B:St)(H:Hp)(x y:V)(v u:Sk)(Q:VK),Inv X W B H s->RelV x v->RelV y u->r x y H Q->
  Bf X (f v u) (EP X W B Q) X.xe s
def UnR(X:Cx)(f:Value->Sem Value)(r:V->Hp->VK->Prop):Prop:=
 ∀(W:So)(s:L')(B:St)(H:Hp)(x:V)(v:Sk)(Q:VK),Inv X W B H s->RelV x v->r x H Q->
  Bf X (f v) (EP X W B Q) X.xe s
def gV(X:Cx)(f:Sk)(r:List V->Hp->VK->Prop):Prop:=
 ∀(W:So)(s:L')(B:St)(H:Hp)(xs:Sm)(us:Sl)(Q:VK),Inv X W B H s->M2 xs us->r xs H Q->
  Bf X (call f us) (EP X W B Q) X.xe s
def tOp(r:R2)(ta tb:TE):TE:=λB H Q=>ta B H λx H1=>tb B H1 λy H2=>r x y H2 Q
def tUn(r:V->Hp->VK->Prop)(ta:TE):TE:=λB H Q=>ta B H λx H1=>r x H1 Q
inductive rI(C:Int->Int->Prop)(g:Int->Int->V)(x y:V)(H:Hp)(Q:VK):Prop
 |mk(i j:_)(_:x= .int i)(_:y= .int j)(_:C i j)(_:Q (g i j) H)
inductive SJ(g:Int->Int->V)(x y:V)(H:Hp)(Q:VK):Prop
 |mk(i j:_)(_:x= .int i)(_:y= .int j)(_:Q (g i j) H)
inductive rU(g:Int->V)(x:V)(H:Hp)(Q:VK):Prop
 |mk(i:_)(_:x= .int i)(_:Q (g i) H)
section
variable{a b:Expr}{tb tc:TE}
def NV(ha:PE X a ta)(hb:PE X b tb){R:V->V->Hp->Prop}(I:Inv X W B H s)
  (h:ta B H λx H1=>tb B H1 λy H2=>R x y H2) {f:Tw}
  (hf:∀v u s2 x y H2,Inv X W B H2 s2->RelV x v->RelV y u->R x y H2->Bf X (f v u) Q X.xe s2):
  Bf X (eval a X.env) (λv s₁=>Bf X (eval b X.env) (λu s₂=>Bf X (f v u) Q X.xe s₂) X.xe s₁) X.xe s:=by
 refine P8 (ha W s B H _ I h) λv s1 z=>?_;let{x,H1,G,r1,O}:=z;refine P8 (hb W s1 B H1 _ G O) λu s2 z=>?_;let{y,H2,U,Y,Z}:=z;exact hf v u s2 x y H2 U r1 Y Z
def aq{op:Operator}(z:Qs X (binaryOp op) r)(ha:PE X a ta)(hb:PE X b tb):PE X (.BinOp a op b pos) (tOp r ta tb):=by
 intro W s B H Q I h;exact wpAny_BinOp<|NV ha hb I h λv u s2 x y H2 G O U q=>z W s2 B H2 x y v u Q G O U q
def HH{op:UnaryOp}{r:V->Hp->VK->Prop}(z:UnR X (unaryOp op) r)(ha:PE X a ta):PE X (.UnaryOp op a pos) (tUn r ta):=by
 intro W s B H Q I h;exact UnaryOp_<|P8 (ha W s B H _ I h) λv s1 zz=>by let{x,H1,G,r1,O}:=zz;exact z W s1 B H1 x v Q G r1 O
def opI{f:Tw}{C:Int->Int->Prop} 
  (rule:∀(i j:Int)(t u:Tok)(s:L')(Q:Sw)(E:Sw),C i j->Q (.int (g i j) s.toks) {s with toks:=s.toks+1}->Bf X (f (.int i t)<|.int j u) Q E s):
  Qs X f (rI C λi j=> .int<|g i j):=by
 intro W s B H x y v u Q I z G h;let{i,j,rfl,rfl,hc,q}:=h;let{t,rfl}:=z;let{t',rfl}:=G;exact rule i j t t' s _ _ hc {.int<|g i j,H,I.tok _,{_,M},q}
def opI0{f:Tw} 
  (rule:∀(i j:Int)(t u:Tok)(s:L')(Q:Sw)(E:Sw),Q (.int (g i j) s.toks) {s with toks:=s.toks+1}->Bf X (f (.int i t)<|.int j u) Q E s):
  Qs X f (SJ λi j=> .int<|g i j):=by
 intro W s B H x y v u Q I z G h;let{i,j,rfl,rfl,q}:=h;let{t,rfl}:=z;let{t',rfl}:=G;exact rule i j t t' s _ _ {.int<|g i j,H,I.tok _,{_,M},q}
def KM{f:Tw}{g:Int->Int->Bool}
  (rule:∀(i j:Int)(t u:Tok)(s:L')(Q:Sw)(E:Sw),Q (.bool<|g i j) s->Bf X (f (.int i t)<|.int j u) Q E s):
  Qs X f (SJ λi j=> .bl<|g i j):=by
 intro W s B H x y v u Q I z G h;let{i,j,rfl,rfl,q}:=h;let{t,rfl}:=z;let{t',rfl}:=G;exact rule i j t t' s _ _ {.bl<|g i j,H,I,M,q}
def CDiv(i j:Int):Prop:=0<j/\j<1073741824
def CPow(i j:Int):Prop:=0<=j/\j<=1000000/\i.natAbs<2^64
def SY(i j:Int):Prop:=(-(2^64)<i/\i<2^64)\/(-(2^64)<j/\j<2^64)
def SY.ok{i j:Int}(h:SY i j):IntMulOk i j:=by
 rcases h with⟨h1,h2⟩|⟨h1,h2⟩
 .exact .of_left<|intBits_le_64 h1 h2
 .exact .of_right<|intBits_le_64 h1 h2
def bG:Qs X (binaryOp .Add) (SJ λi j=> .int<|i+j):=opI0 λ_ _ _ _ _ _ _ q=>add_int q
def eV:Qs X (binaryOp .Sub) (SJ λi j=> .int<|i-j):=opI0 λ_ _ _ _ _ _ _ q=>sub_int q
def eY:Qs X (binaryOp .Mult) (rI SY λi j=> .int<|i*j):=opI λ_ _ _ _ _ _ _ hc q=>mul_int q hc.ok
def aU:Qs X (binaryOp .FloorDiv) (rI CDiv λi j=> .int<|i/j):=opI λi j _ _ _ _ _ hc q=>by
 have h1:(0:Int)<j:=hc.1;have h2:j<1073741824:=hc.2;exact floordiv_int () (by rw[Wb i ()];exact q)<|.inl (PyProof.noPylong_small ())
def aV:Qs X (binaryOp .Mod) (rI (λ_ j=>0<j) λi j=> .int<|i%j):=opI λi j _ _ _ _ _ hc q=>by
 have h1:(0:Int)<j:=hc;exact mod_int' ()<|by rw[Int.fmod_eq_emod_of_nonneg i ()];exact q
def jW:Qs X (binaryOp .Pow) (rI CPow λi j=> .int<|i^j.toNat):=opI λ_ _ _ _ _ _ _ hc q=>pow_int_small hc.1 hc.2.1 hc.2.2 q
def unI{f:Value->Sem Value}{g:Int->Int}
  (rule:∀(i:Int)(t:Tok)(s:L')(Q:Sw)(E:Sw),Q (.int (g i) s.toks) {s with toks:=s.toks+1}->Bf X (f<|.int i t) Q E s):
  UnR X f (rU λi=> .int<|g i):=by
 intro W s B H x v Q I z h;let{i,rfl,q}:=h;let{t,rfl}:=z;exact rule i t s _ _ {.int<|g i,H,I.tok _,{_,M},q}
def De:UnR X (unaryOp .USub) (rU λi=> .int<|-i):=unI λ_ _ _ _ _ q=>neg_int q
end
noncomputable def scal:V->V->Bool
 | .non,.non=>true| .non,.int _=>true| .int _,.non=>true| .non,.bl _=>true| .bl _,.non=>true| .non,.str _=>true| .str _,.non=>true
 | .int _,.int _=>true| .bl _,.bl _=>true| .str _,.str _=>true| .byt _,.byt _=>true
 | .int _,.str _=>true| .str _,.int _=>true| .bl _,.str _=>true| .str _,.bl _=>true
 |_,_=>false
def rEq:R2:=λx y H Q=>scal x y=true/\Q (.bl<|decide (x=y)) H
def rNe:R2:=λx y H Q=>scal x y=true/\Q (.bl<|!decide (x=y)) H
def E4{i j:Int}:decide (V.int i=V.int j)=(i==j):=by
 rw[V0];simp
def Jj{i j:Bool}:decide (V.bl i=V.bl j)=(i==j):=by
 rw[V0];simp
def E3{i j:Str}:decide (V.str i=V.str j)=(i==j):=by
 rw[V0];simp
def E5{i j:Array UInt8}:decide (V.byt i=V.byt j)=(i.toList==j.toList):=by
 rw[V0];cases i;cases j;simp
section
variable{a b:Expr}{tb tc:TE}
def bF{Q:VK}{k k':Bool}(I:Inv X W B H s)(q:Q (.bl k) H)(e:k=k'):EP X W B Q (.bool k') s:=by
 subst e;exact{.bl k,H,I,M,q}
def bH:Qs X (compareOp .Eq) rEq:=by
 intro W s B H x y v u Q I G z h;let{hs,q}:=h;cases x with
 |non=>
  cases G;cases y with
  |non=>cases z;exact PySem.EqNone.eq_none_none<|bF I q (by simp)
  |bl j=>cases z;exact PySem.EqNone.eq_none_bool<|bF I q (by simp)
  |int j=>let{t',rfl}:=z;exact PySem.EqNone.eq_none_int<|bF I q (by simp)
  |str j=>let{t',rfl}:=z;exact PySem.EqNone.eq_none_str<|bF I q (by simp)
  |_=>exact Ws (show false=true from hs) Q8
 |bl i=>
  cases G;cases y with
  |non=>cases z;exact PySem.EqNone.eq_bool_none<|bF I q (by simp)
  |bl j=>cases z;exact eq_bool<|bF I q Jj
  |str j=>let{t',rfl}:=z;exact PySem.EqMixed.eq_bool_str<|bF I q (by simp)
  |_=>exact Ws (show false=true from hs) Q8
 |int i=>
  let{t,rfl}:=G;cases y with
  |non=>cases z;exact PySem.EqNone.eq_int_none<|bF I q (by simp)
  |int j=>let{t',rfl}:=z;exact eq_int<|bF I q E4
  |str j=>let{t',rfl}:=z;exact PySem.EqMixed.eq_int_str<|bF I q (by simp)
  |_=>exact Ws (show false=true from hs) Q8
 |str i=>
  let{t,rfl}:=G;cases y with
  |non=>cases z;exact PySem.EqNone.eq_str_none<|bF I q (by simp)
  |bl j=>cases z;exact PySem.EqMixed.eq_str_bool<|bF I q (by simp)
  |int j=>let{t',rfl}:=z;exact PySem.EqMixed.eq_str_int<|bF I q (by simp)
  |str j=>let{t',rfl}:=z;exact eq_str<|bF I q E3
  |_=>exact Ws (show false=true from hs) Q8
 |byt i=>
  let{t,rfl}:=G;cases y with
  |byt j=>let{t',rfl}:=z;exact PySem.W.eq_bytes<|bF I q E5
  |_=>exact Ws (show false=true from hs) Q8
 |_=>cases y<;>exact Ws (show false=true from hs) Q8
def EB:Qs X (compareOp .NotEq) rNe:=by
 intro W s B H x y v u Q I G z h;let{hs,q}:=h;cases x with
 |non=>
  cases G;cases y with
  |non=>cases z;exact PySem.EqNone.ne_none_none<|bF I q (by simp)
  |bl j=>cases z;exact PySem.EqNone.ne_none_bool<|bF I q (by simp)
  |int j=>let{t',rfl}:=z;exact PySem.EqNone.ne_none_int<|bF I q (by simp)
  |str j=>let{t',rfl}:=z;exact PySem.EqNone.ne_none_str<|bF I q (by simp)
  |_=>exact Ws (show false=true from hs) Q8
 |bl i=>
  cases G;cases y with
  |non=>cases z;exact PySem.EqNone.ne_bool_none<|bF I q (by simp)
  |bl j=>cases z;exact ne_bool<|bF I q (WG not Jj)
  |str j=>let{t',rfl}:=z;exact PySem.EqMixed.ne_bool_str<|bF I q (by simp)
  |_=>exact Ws (show false=true from hs) Q8
 |int i=>
  let{t,rfl}:=G;cases y with
  |non=>cases z;exact PySem.EqNone.ne_int_none<|bF I q (by simp)
  |int j=>let{t',rfl}:=z;exact ne_int<|bF I q (WG not E4)
  |str j=>let{t',rfl}:=z;exact PySem.EqMixed.ne_int_str<|bF I q (by simp)
  |_=>exact Ws (show false=true from hs) Q8
 |str i=>
  let{t,rfl}:=G;cases y with
  |non=>cases z;exact PySem.EqNone.ne_str_none<|bF I q (by simp)
  |bl j=>cases z;exact PySem.EqMixed.ne_str_bool<|bF I q (by simp)
  |int j=>let{t',rfl}:=z;exact PySem.EqMixed.ne_str_int<|bF I q (by simp)
  |str j=>let{t',rfl}:=z;exact ne_str<|bF I q (WG not E3)
  |_=>exact Ws (show false=true from hs) Q8
 |byt i=>
  let{t,rfl}:=G;cases y with
  |byt j=>let{t',rfl}:=z;exact PySem.W.ne_bytes<|bF I q (WG not E5)
  |_=>exact Ws (show false=true from hs) Q8
 |_=>cases y<;>exact Ws (show false=true from hs) Q8
def fL:Qs X (compareOp .Lt) (SJ λi j=> .bl<|decide (i<j)):=KM λ_ _ _ _ _ _ _ q=>lt_int q
def wG:Qs X (compareOp .LtE) (SJ λi j=> .bl<|decide (i<=j)):=KM λ_ _ _ _ _ _ _ q=>le_int q
def BQ:Qs X (compareOp .Gt) (SJ λi j=> .bl<|decide (j<i)):=KM λ_ _ _ _ _ _ _ q=>gt_int q
def wH:Qs X (compareOp .GtE) (SJ λi j=> .bl<|decide (j<=i)):=KM λ_ _ _ _ _ _ _ q=>ge_int q
def fN:Qs X (compareOp .Is) (λx y H Q=>y= .non/\Q (.bl<|decide (x= .non)) H):=by
 intro W s B H x y v u Q I z G h;let{rfl,q}:=h;cases G;refine is_none_gen<|bF I q ?_;cases x<;>first
  |(cases z;rfl)
  |(let{t,rfl}:=z;rfl)
def lT:Qs X (compareOp .IsNot) (λx y H Q=>y= .non/\Q (.bl<|!decide (x= .non)) H):=by
 intro W s B H x y v u Q I z G h;let{rfl,q}:=h;cases G;refine isnot_none_gen<|bF I q ?_;cases x<;>first
  |(cases z;rfl)
  |(let{t,rfl}:=z;rfl)
def az(b:Expr)(h:op≠ .In:=by decide)(h2:op≠ .NotIn:=by decide):behindInMarks op b=false:=by
 have z:(op==CmpOp.In)=false:=by cases op<;>first|rfl|exact Ws M h
 have e2:(op==CmpOp.NotIn)=false:=by cases op<;>first|rfl|exact Ws M h2
 cases b<;>simp[behindInMarks,z,e2]
def b7(z:Qs X (compareOp op) r)(ha:PE X a ta)(hb:PE X b tb)(G:behindInMarks op b=false):PE X (.Compare a [op] [b] pos) (tOp r ta tb):=by
 intro W s B H Q I h;exact wpAny_Compare1 (NV ha hb I h λv u s2 x y H2 O U Y q=>z W s2 B H2 x y v u Q O U Y q) G
inductive MJ(Q:Bool->Hp->Prop)(x:V)(H':Hp):Prop
 |mk(k:_)(_:x= .bl k)(_:Q k H')
def LT(t:TE):TT:=λB H Q=>t B H λx H'=>MJ Q x H'
def aw(G:Qs X (compareOp op) r)(ha:PE X a ta)(hb:PE X b tb)(O:behindInMarks op b=false):PT X (.Compare a [op] [b] pos) (LT<|tOp r ta tb):=by
 intro W s B H Q I h;refine wpAny_isTrue_Compare1 (P8 (ha W s B H _ I h) λv s1 zz=>?_) O;let{x,H1,U,r1,Y}:=zz;refine P8 (hb W s1 B H1 _ U Y) λu s2 zz=>?_;let{y,H2,Z,r2,q2}:=zz;refine P8 (G W s2 B H2 x y v u _ Z r1 r2 q2) λc s3 zz=>?_;let{z,H3,I3,r3,k,e,q3}:=zz
 subst e;cases r3;exact WL ⟨H3,I3,q3⟩
def Hk(r r':R2)(ta tb tc:TE):TE:=λB H Q=>ta B H λx H1=>tb B H1 λy H2=>r x y H2 λz H3=>∃k,z= .bl k/\
 (if k=true then tc B H3 λw' H4=>r' y w' H4 Q else Q (.bl false) H3)
def HK{G:CmpOp}{U:R2}(ho:Qs X (compareOp op) r)(O:Qs X (compareOp G) U)(ha:PE X a ta)(hb:PE X b tb)(hc:PE X c tc)
  (hm:lastMarks [op,G] [b,c]=false:=by with_unfolding_all rfl):PE X (.Compare a [op,G] [b,c] pos) (Hk r U ta tb tc):=by
 intro W s B H Q I h;refine Compare_chain (P8 (ha W s B H _ I h) λv s1 zz=>?_) hm;let{x,H1,I1,r1,q1}:=zz;refine chain_link (P8 (hb W s1 B H1 _ I1 q1) λu s2 zz=>?_);let{y,H2,I2,Y,q2}:=zz;refine P8 (ho W s2 B H2 x y v u _ I2 r1 Y q2) λd s3 zz=>?_;let{z,H3,Z,r3,k,e,q3}:=zz
 subst e;cases r3;refine WL ?_;cases k with
 |false=>exact ite_ff {.bl false,H3,Z,M,q3}
 |true=>exact ite_tt<|chain_last (P8 (hc W s3 B H3 _ Z q3) λw' s4 zz=>by let{z',H4,I4,r4,q4}:=zz;exact O W s4 B H4 y z' u w' Q I4 Y r4 q4)
def HC{G:CmpOp}{Y:R2}(ho:Qs X (compareOp op) r)(O:Qs X (compareOp G) Y)(ha:PE X a ta)(hb:PE X b tb)(hc:PE X c tc)
  (hm:lastMarks [op,G] [b,c]=false:=by with_unfolding_all rfl):PT X (.Compare a [op,G] [b,c] pos) (LT<|Hk r Y ta tb tc):=by
 intro W s B H Q I h;refine isTrue_chain (P8 (ha W s B H _ I h) λv s1 zz=>?_) hm;let{x,H1,I1,r1,q1}:=zz;refine test_link (P8 (hb W s1 B H1 _ I1 q1) λu s2 zz=>?_);let{y,H2,I2,Z,q2}:=zz;refine P8 (ho W s2 B H2 x y v u _ I2 r1 Z q2) λd s3 zz=>?_;let{z,H3,I3,r3,k,e,q3}:=zz
 subst e;cases r3;refine WL ?_;cases k with
 |false=>
  let{k',e',q'}:=q3;cases e';exact ite_ff ⟨H3,I3,q'⟩
 |true=>
  refine ite_tt<|test_last (P8 (hc W s3 B H3 _ I3 q3) λw' s4 zz=>?_);let{z',H4,I4,r4,q4}:=zz;refine P8 (O W s4 B H4 y z' u w' _ I4 Z r4 q4) λd' s5 U=>?_;let{z2,H5,I5,r5,k2,e2,q5}:=U;subst e2;cases r5;exact WL ⟨H5,I5,q5⟩
def xj:(sizeLine:Nat)<2^63:=by rw[sizeLine_eq];decide
def pG{x:V}(r:M2 [x] us):∃u,us=[u]/\RelV x u:=by
 cases r with
 |cons r1 z=>cases z;exact{_,M,r1}
def qZ{x:V}(r:M2 [x,y] us):∃u w',us=[u,w']/\RelV x u/\RelV y w':=by
 cases r with
 |cons r1 z=>
  cases z with
  |cons G I=>cases I;exact{_,_,M,r1,G}
def pq(hc:X.calm=true):gV X (.builtin "max") (λxs H Q=>∃i j,xs=[.int i,.int j]/\Q (.int<|if j>i then j else i) H):=by
 intro W s B H xs us Q I r h;let{i,j,rfl,q}:=h;let{u,w',rfl,{t,rfl},{t',rfl}}:=qZ r;refine max_two_ints (I.ok.hd hc) λh' tk k=>{_,H,I.kept k,?_,q};by_cases z:j>i
 .rw[Wn z,Wn z];exact{_,M}
 .rw[Wm z,Wm z];exact{_,M}
def iN(hc:X.calm=true):gV X (.builtin "min") (λxs H Q=>∃i j,xs=[.int i,.int j]/\Q (.int<|if j<i then j else i) H):=by
 intro W s B H xs us Q I r h;let{i,j,rfl,q}:=h;let{u,w',rfl,{t,rfl},{t',rfl}}:=qZ r;refine min_two_ints (I.ok.hd hc) λh' tk k=>{_,H,I.kept k,?_,q};by_cases z:j<i
 .rw[Wn z,Wn z];exact{_,M}
 .rw[Wm z,Wm z];exact{_,M}
def AW:gV X (.type "str") (λxs H Q=>∃i,xs=[.int i]/\i.natAbs.log2<1920/\Q (.str<|toString i) H):=by
 intro W s B H xs us Q I r h;let{i,rfl,hz,q}:=h;let{u,rfl,t,rfl}:=pG r;exact PySem.P.str_of_int hz {.str _,H,I.tok _,{_,M},q}
end
structure Re(h:Heap)(x dx C:K')(mA:Sz):Prop where
 obj:h.get? x=some (PySem.W.instObj C dx)
 ns:h.Ns1 dx mA
 ne:dx≠x
set_option tactic.hygienic true in
def Ge{mA:Sz}(n:h.Ns1 dx mA):∃od,h.get? dx=some od/\∀name,PySem.W.lookIn name od=some (mA name):=by
 let{o,es,ep,I,hd,hk,_,O}:=n;refine{o,I,λname=>?_};have e:=O name;unfold nsFind findBy at e;rw[<-Array.find?_toList]at e;unfold PySem.W.lookIn;rw[hd];dsimp only;split
 .rename_i y q
  rw[q]at e;exact WG some e
 .rename_i q
  rw[q]at e;have a:es.toList.any (·.refKey)=false:=by
   rw[List.any_eq_false];intro y hy;let{z,t,G}:=hk y (Array.mem_toList_iff.mp hy);simp[DictEntry.refKey,G]
  have a':¬es.toList.any (·.refKey)=true:=by rw[a];exact Q8
  rw[Wm a'];exact WG some e
def Re.look{x:K'}{mA:Sz}(I:Re h x dx C mA):∃od,PySem.W.InstAt h x (PySem.W.instObj C dx) C (some od)/\∀name,PySem.W.lookIn name od=some (mA name):=
 let⟨od,ho,hl⟩:=Ge I.ns
 {od,⟨I.obj,M,M,ho⟩,hl}
section
variable{x:K'}{mA:Sz}{v:Sk}
def Lg{z:Bool}(X:K.In s.heap)(I:Re s.heap x dx C mA)(O:PySem.W.plainGet K C name=true)(U:PySem.W.hasDictIn K C=true)
  (ha:PySem.W.findIn K (.ref C) name=some none) (Y:mA name=some v) (G:PySem.W.handedIn v=true) (h:Q v {s with toks:=s.toks+1}):
  wpAny (model prog w) A (getAttr (.ref x) name z) Q E s:=by
 let{od,J,hl}:=I.look;exact PySem.W.get_value X J (VC O).1 (PySem.W.findObj_own U ha M<|by rw[hl,Y]) G h
def IL{pl:Sem Bool}{Q:Value×List Value->Shared->Prop}(X:K.In s.heap)(I:Re s.heap x dx C mA)(z:PySem.W.plainGet K C name=true)
  (hf:PySem.W.findIn K (.ref C) name=some (some<|.ref f)) (G:PySem.W.isFn K (.ref f)=true) (O:mA name=none) (h:Q (.ref f,[.ref x]) s):
  wpAny (model prog w) A (getMethod (.ref x) name pl) Q E s:=by
 let{od,J,hl}:=I.look;exact PySem.W.method_fn X J (VC z).1 (VC z).2 hf (WA.mp G) (by show(PySem.W.lookIn name od).map (·.isSome)=some false;rw[hl,O];rfl) h
def Kt{ns:Sx}{Q:Tr}(X:K.In s.heap)(I:Re s.heap x dx C mA)
  (hs:PySem.W.findIn K (.ref C) "__setattr__"=some (some<|.builtin "object.__setattr__")) (hp:PySem.W.plainOver K C=true) (ht:PySem.W.takerIn K C name=some none) (hh:PySem.W.hasDictIn K C=true)
  (hw:PySem.Within mA ns) (hsz:ns.length<=sizeLine)
  (h:∀h',Re h' x dx C (λy=>if y=name then some v else mA y)->Heap.SameBut dx s.heap h'->Q Unit.unit {s with heap:=h',toks:=s.toks+2}):
  wpAny (model prog w) A (setAttr (.ref x) name v) Q E s:=by
 let{od,J,hl}:=I.look;refine PySem.W.set_plain X J hs<|PySem.W.osa_open (s:={s with toks:=s.toks+1}) (r:=none) X J hp ht λb=>?_;let{cd,hc,O}:=PySem.W.any_some hh;have hx:s.heap.get? x=some {.ref C,some dx,.plain, #[]}:=I.obj;refine Wp<|Wx (Wp<|Wp<|wpAny_loadPart hx<|Wp<|PySem.W.Looks.here (s:={s with toks:=s.toks+1}) (PySem.W.looks_clsIn X hc) ?_);rw[O];refine Wx (a:=some dx)<|Wp (Wx<|Wp ?_);refine wpAny_nsSet1 (s:={s with toks:=s.toks+1}) I.ns λh' z G=>?_;let{oD,a0,a1,U,Y,Z}:=z.count (PySem.Within.cons name v hw);refine Wp<|wpAny_lookBehind U (by rw[Y];exact pastItsLine_dict<|Z4 Z<|by rw[QW];lia) ?_;exact Wx<|h _ {(G.2 _<|Ne.symm I.ne).trans I.obj,z,I.ne} G
def Ih{vs:Sl}(X:K.In s.heap)(z:PySem.W.makesIn K C=true)
  (hi:PySem.W.findIn K (.ref C) i3=some (some<|.ref f)) (hf:PySem.W.typeIn K (.ref f)=some (.type "function"))
  (h:codeAny (model prog w) (A.under<|.builtin qr {.ref C::vs,kw}) (.call (.ref f) {.ref (s.heap.objs.size+1)::vs,kw}) (PySem.W.InitBack (s.heap.objs.size+1) R)
   {s with heap:=(s.heap.push PySem.W.emptyDict).push (PySem.W.instObj C s.heap.objs.size)}):
  codeAny (model prog w) A (.call (.ref C) ⟨vs,kw⟩) R s:=by
 let{G,g,d,t,os}:=s;exact PySem.W.make_core (PySem.W.makes_of X z) (PySem.W.looks_findIn X hi) (λself=>PySem.W.bind_fn X self hf) (.inl M) h
end
def bP(f:Str)(v:V):List (Str×V)->List (Str×V)
 | []=> [(f,v)]
 |(g,x)::r=>if g=f then(g,v)::r else(g,x)::bP f v r
theorem bC(f g:Str)(v:V):∀fs:List (Str×V),(bP f v fs).lookup g=if g=f then some v else fs.lookup g
 | []=>by
  show List.lookup g [(f,v)]=_;by_cases h:g=f
  .have hb:(g==f)=true:=WA.mpr h;simp only[List.lookup,hb,Wn h]
  .have hb:(g==f)=false:=WC.mpr h;simp only[List.lookup,hb,Wm h]
 |(k,x)::r=>by
  have z:=bC f g v r;rw[show bP f v ((k,x)::r)=(if k=f then(k,v)::r else(k,x)::bP f v r) from rfl];by_cases hk:k=f
  .rw[Wn hk];by_cases h:g=k
   .have hb:(g==k)=true:=WA.mpr h;simp only[List.lookup,hb,Wn (h.trans hk)]
   .have hb:(g==k)=false:=WC.mpr h;simp only[List.lookup,hb,Wm (λe:g=f=>h<|e.trans hk.symm)]
  .rw[Wm hk];by_cases h:g=k
   .have hb:(g==k)=true:=WA.mpr h;simp only[List.lookup,hb,Wm (λe:g=f=>hk<|h.symm.trans e)]
   .have hb:(g==k)=false:=WC.mpr h;simp only[List.lookup,hb];exact z
theorem ui(f:Str)(v:V):∀fs:List (Str×V),f∈(bP f v fs).map (·.1)/\∀g,g∈fs.map (·.1)->g∈(bP f v fs).map (·.1)
 | []=>{by simp[bP],λg h=>by simp at h}
 |(k,x)::r=>by
  let{z,G}:=ui f v r;rw[show bP f v ((k,x)::r)=(if k=f then(k,v)::r else(k,x)::bP f v r) from rfl];by_cases hk:k=f
  .rw[Wn hk];subst hk;exact{by simp,λg h=>by simpa using h}
  .rw[Wm hk];refine{?_,λg h=>?_}
   .rw[Z0];exact QM _ z
   .rw[Z0]at h⊢;rcases QS.mp h with e|e
    .exact QS.mpr<|.inl e
    .exact QM _<|G g e
theorem uF(f:Str)(v:V):∀fs:List (Str×V),(bP f v fs).length<=fs.length+1
 | []=>by simp[bP]
 |(k,x)::r=>by
  have z:=uF f v r;rw[show bP f v ((k,x)::r)=(if k=f then(k,v)::r else(k,x)::bP f v r) from rfl];by_cases hk:k=f
  .rw[Wn hk,QW,QW];lia
  .rw[Wm hk,QW,QW];lia
def Qj.some_of(r:Qj (some v) o):∃u,o=some u/\RelV v u:=by
 cases o with
 |none=>exact(show False from r).elim
 |some u=>exact⟨u,M,r⟩
def Qj.none_of(r:Qj none o):o=none:=by
 cases o with
 |none=>rfl
 |some u=>exact(show False from r).elim
def Gn(r:RelV v u):PySem.W.handedIn u=true:=by
 cases v with
 |non=>cases (show u=Value.none from r);rfl
 |bl b=>cases (show u=Value.bool b from r);rfl
 |int i=>let{t,e}:=(show ∃t,u=Value.int i t from r);cases e;rfl
 |str x=>let{t,e}:=(show ∃t,u=Value.str x t from r);cases e;rfl
 |byt b=>let{t,e}:=(show ∃t,u=Value.bytes b t from r);cases e;rfl
 |flt b=>let{t,e}:=(show ∃t,u=Value.float b t from r);cases e;rfl
 |ref a=>cases (show u=Value.ref a from r);rfl
 |ty n=>cases (show u=Value.type n from r);rfl
section
variable{fs fs':Tb}
def QG(hok:QH P w H h)(e:H a=some (.ins C dx fs)):∃mA,Re h a dx C mA/\(∀f,Qj (fs.lookup f) (mA f))/\PySem.Within mA (fs.map (·.1))/\fs.length<=1000/\H dx=some (.own a):=by
 let{d,z,ne,ob,mA,n,r,q}:=(show P7 P w H h a (.ins C dx fs) from hok a _ e);exact{mA,⟨ob,n,ne⟩,r,q,z,d}
end
structure R6(K:JZ)(C:K'):Prop where
 pg:PySem.W.plainGet K C Str.empty=true
 hd:PySem.W.hasDictIn K C=true
 po:PySem.W.plainOver K C=true
 sa:PySem.W.findIn K (.ref C) "__setattr__"=some (some<|.builtin "object.__setattr__")
def R6.get(c:R6 K C)(f:Str):PySem.W.plainGet K C f=true:=c.pg
def E8(K:JZ)(C:K')(f:Str):Prop:=PySem.W.findIn K (.ref C) f=some none
def E8.taker{f:Str}(n:E8 K C f):PySem.W.takerIn K C f=some none:=by
 unfold PySem.W.takerIn;rw[show PySem.W.findIn K (.ref C) f=some none from n];rfl
structure bN(K:JZ)(C:K')(m:Str)(f:K'):Prop where
 at_:PySem.W.findIn K (.ref C) m=some (some<|.ref f)
 fn:PySem.W.isFn K (.ref f)=true
 kp:PySem.W.keepIn K (.ref f)=true
section
variable{fs:Tb}{f:Str}
def xu{b:Bool}(I:Inv X W B H s)(e:H a=some (.ins C dx fs))(c:R6 X.K C)(n:E8 X.K C f)(l:fs.lookup f=some v)
  (h:∀u s',Inv X W B H s'->RelV v u->Q u s'):wpAny (model X.prog X.w) A (getAttr (.ref a) f b) Q E s:=by
 let{mA,O,r,_,_,_}:=QG I.hok e;let{u,hu,z}:=Qj.some_of (v:=v) (o:=mA f) (by rw[<-l];exact r f);exact Lg I.kIn O (c.get f) c.hd n hu (Gn z)<|h u _ (I.tok _) z
def gE{g:K'}{pl:Sem Bool}{Q:Value×List Value->Shared->Prop}(I:Inv X W B H s)(e:H a=some (.ins C dx fs))(c:R6 X.K C)(k:bN X.K C m g)(l:fs.lookup m=none)
  (h:Q (.ref g,[.ref a]) s):wpAny (model X.prog X.w) A (getMethod (.ref a) m pl) Q E s:=by
 let{mA,O,r,_,_,_}:=QG I.hok e;have z:mA m=none:=Qj.none_of (by rw[<-l];exact r m);exact IL I.kIn O (c.get m) k.at_ k.fn z h
def v9{Q:Tr}(I:Inv X W B H s)(e:H a=some (.ins C dx fs))(c:R6 X.K C)(n:E8 X.K C f)(hl:fs.length<1000)(Y:RelV y u)
  (h:∀s',Inv X W B (upd H a<|.ins C dx<|bP f y fs) s'->Q Unit.unit s'):wpAny (model X.prog X.w) A (setAttr (.ref a) f u) Q E s:=by
 let{mA,O,r,wi,_,U}:=QG I.hok e;have hz:(fs.map (·.1)).length<=sizeLine:=by rw[Q0,sizeLine_eq];lia
 refine Kt I.kIn O c.sa c.po n.taker c.hd wi hz λh' G Z=>h _ ?_;have hd:∃o,h'.get? dx=some o:=let⟨o,_,_,e',_⟩:=G.ns;⟨o,e'⟩
 refine I.write (x:=a) (e:=dx) (by rw[e];exact WD) (.inr U) (λb q hb z=>(Z.2 b hb).trans z) hd ?_;refine{by rwa[af O.ne],?_,O.ne,G.obj,_,G.ns,λg=>?_,λg hg=>?_}
 .have:=uF f y fs;lia
 .show Qj ((bP f y fs).lookup g) (if g=f then some u else mA g);rw[bC];by_cases q:g=f
  .rwa[Wn q,Wn q]
  .rw[Wm q,Wm q];exact r g
 .by_cases q:g=f
  .rw[q];exact(ui f y fs).1
  .refine(ui f y fs).2 g<|wi g λz=>hg ?_;show(if g=f then some u else mA g)=none;rwa[Wm q]
def Inv.made(I:Inv X W B H s):Inv X W B (upd (upd H s.heap.objs.size<|.own<|s.heap.objs.size+1) (s.heap.objs.size+1)<|.ins C s.heap.objs.size [])
  {s with heap:=(s.heap.push PySem.W.emptyDict).push (PySem.W.instObj C s.heap.objs.size)}:=by
 have z:(s.heap.push PySem.W.emptyDict).get? s.heap.objs.size=some PySem.W.emptyDict:=Wy s.heap M;have e2:((s.heap.push PySem.W.emptyDict).push<|PySem.W.instObj C s.heap.objs.size).get? (s.heap.objs.size+1)=some (PySem.W.instObj C s.heap.objs.size):=by
  have:=Wy (s.heap.push PySem.W.emptyDict) (o:=PySem.W.instObj C s.heap.objs.size) M;rwa [Heap.size_push]at this
 have G:(s.heap.push PySem.W.emptyDict).Ns s.heap.objs.size (λ_=>none):={PySem.W.emptyDict, #[],_,z,M,(λe he=>Ws he<|by simp),λ_=>M};have O:=I.laid (a:=s.heap.objs.size) (o:= .own<|s.heap.objs.size+1) (h':=s.heap.push PySem.W.emptyDict) (t':=s.toks) (λb u q=>Wo _ q) (Q4 _) {_,z};refine O.laid (a:=s.heap.objs.size+1) (o:= .ins C s.heap.objs.size []) (t':=s.toks) (λb u q=>Wo _ q) (ZA<|Heap.size_push _ _) ?_;have ne:s.heap.objs.size≠s.heap.objs.size+1:=Zb (Xy _);refine{by rw[af ne,ag],QT _,ne,e2,λ_=>none,(Heap.Ns1.of_empty G).at λo q=>Wo _ q,λ_=>WD,λy hy=>Ws M hy}
def LD{env:Env}{f:Str}(hb:attributeBase e f env (eval e env)=eval e env)
  (h:wpAny (model prog w) A (eval e env) (λo s₁=>wpAny (model prog w) A (getAttr o f true) Q E s₁) E s):wpAny (model prog w) A (eval (.Attribute e f pos) env) Q E s:=
 Attribute_any_ h (by rw[arm_eval_Attribute,hb])
end
inductive Op(K:JZ)(f:Str)(Q:VK)(x:V)(H1:Hp):Prop
 |mk(a C dx fs v:_)(_:x= .ref a)(_:H1 a=some (.ins C dx fs))(_:R6 K C)(_:E8 K C f)(_:fs.lookup f=some v)(_:Q v H1)
def tFld(K:JZ)(ta:TE)(f:Str):TE:=λB H Q=>ta B H λx H1=>Op K f Q x H1
inductive OA(K:JZ)(f:Str)(D:Qo)(B:St)(y x:V)(H2:Hp):Prop
 |mk(a C dx fs:_)(_:x= .ref a)(_:H2 a=some (.ins C dx fs))(_:R6 K C)(_:E8 K C f)(_:fs.length<1000)(_:D.nx B (upd H2 a<|.ins C dx<|bP f y fs))
def sFld(K:JZ)(ta tv:TE)(f:Str):TS:=λD B H=>tv B H λy H1=>ta B H1 λx H2=>OA K f D B y x H2
def Oa(X:Cx)(op:Operator)(rd:V->V->Hp->VK->Prop):Prop:=
 ∀(W:So)(s:L')(B:St)(H:Hp)(x y:V)(u v:Sk)(Q:VK),Inv X W B H s->RelV x u->RelV y v->rd x y H Q->Bf X (inplaceOp op u v) (EP X W B Q) X.xe s
inductive Hu(K:JZ)(tv:TE)(rd:V->V->Hp->VK->Prop)(f:Str)(D:Qo)(B:St)(x:V)(H1:Hp):Prop
 |mk(a C dx fs v:_)(_:x= .ref a)(_:H1 a=some (.ins C dx fs))(_:R6 K C)(_:E8 K C f)(_:fs.lookup f=some v)(_:tv B H1 λy H2=>rd v y H2 λz H3=>∃dx' fs',H3 a=some (.ins C dx' fs')/\fs'.length<1000/\D.nx B (upd H3 a<|.ins C dx'<|bP f z fs'))
def Ku(K:JZ)(ta tv:TE)(rd:V->V->Hp->VK->Prop)(f:Str):TS:=λD B H=>ta B H λx H1=>Hu K tv rd f D B x H1
section
variable{o value:Expr}{f:Str}{tpos:Pos}{tv:TE}
def au(he:PE X e ta)(hb:attributeBase e f X.env (eval e X.env)=eval e X.env):PE X (.Attribute e f pos) (tFld X.K ta f):=by
 intro W s B H Q I h;refine LD hb<|P8 (he W s B H _ I h) λu s1 z=>?_;let{x,H1,G,O,a,C,dx,fs,v,ex,ea,c,n,l,q}:=z;subst ex;obtain rfl:u=Value.ref a:=O;exact xu G ea c n l λZ s2 U Y=>⟨v,H1,U,Y,q⟩
def bu(ha:PE X o ta)(G:PE X value tv)(hs:swapsWith value (some<|.Attribute o f pos') pos.line X.env=pure false):PS X (.Assign [.Attribute o f pos'] value pos) (sFld X.K ta tv f):=by
 intro W s B H D I h;refine plainObj_wpAny_Assign_Attribute (P8 (G W s B H _ I h) λu s1 zz=>?_) hs;let{y,H1,O,U,q}:=zz;refine P8 (ha W s1 B H1 _ O q) λY s2 z=>?_;let{x,H2,Z,rx,a,C,dx,fs,ex,ea,c,n,l,q2}:=z;subst ex;obtain rfl:Y=Value.ref a:=rx;exact v9 Z ea c n l U λs3 I3=>{B,_,I3,q2}
def iM{op:Operator}(ha:PE X o ta)(U:PE X value tv)(O:Oa X op rd):PS X (.AugAssign (.Attribute o f tpos) op value pos) (Ku X.K ta tv rd f):=by
 intro W s B H D I h;refine wpAny_AugAssign_AttributeAny<|P8 (ha W s B H _ I h) λY s1 G=>?_;let{x,H1,Z,rx,a,C,dx,fs,v,ex,ea,c,n,l,q}:=G;subst ex;obtain rfl:Y=Value.ref a:=rx;refine xu Z ea c n l λu s2 I2 ru=>P8 (U W s2 B H1 _ I2 q) λw3 s3 zz=>?_;let{y,H2,I3,ry,q3}:=zz;refine P8 (O W s3 B H2 v y u w3 _ I3 ru ry q3) λw4 s4 G=>?_;let{z,H3,I4,rz,a0,fs',ea',l',q4}:=G;exact v9 I4 ea' c n l' rz λs5 I5=>{B,_,I5,q4}
inductive rAdd(x y:V)(H:Hp)(Q:VK):Prop
 |mk(i j:_)(_:x= .int i)(_:y= .int j)(_:Q (.int<|i+j) H)
inductive rSub(x y:V)(H:Hp)(Q:VK):Prop
 |mk(i j:_)(_:x= .int i)(_:y= .int j)(_:Q (.int<|i-j) H)
def xq:Oa X .Add rAdd:=by
 rintro W s B H x y u v Q I z G ⟨i,j,rfl,rfl,q⟩;let{t,rfl}:=(show ∃t,u=Value.int i t from z);let{t',rfl}:=(show ∃t',v=Value.int j t' from G);exact PyProof.Rows.iadd_int {.int<|i+j,H,I.tok _,{_,M},q}
def ND:Oa X .Sub rSub:=by
 rintro W s B H x y u v Q I z G ⟨i,j,rfl,rfl,q⟩;let{t,rfl}:=(show ∃t,u=Value.int i t from z);let{t',rfl}:=(show ∃t',v=Value.int j t' from G);exact PyProof.Rows.isub_int {.int<|i-j,H,I.tok _,{_,M},q}
end
section
variable{c:Sk}{b:Bool}
inductive Py(K:JZ)(H:Hp):V->Value->Prop where
 |non:Py K H .non (.type "NoneType")
 |bl(x:Bool):Py K H (.bl x) (.type "bool")
 |int(i:Int):Py K H (.int i) (.type "int")
 |str(x:Str):Py K H (.str x) (.type "str")
 |flt(x:UInt64):Py K H (.flt x) (.type "float")
 |lst{a:K'}{xs:Sm}(e:H a=some (.lst xs)):Py K H (.ref a) (.type ff)
 |frz{a:K'}{o:Obj}{xs:Sm}(e:H a=some (.frz o<|.lst xs)):Py K H (.ref a) (.type ff)
 |tup{a:K'}{xs:Sm}(e:H a=some (.tup xs)):Py K H (.ref a) (.type oo)
 |dK{a:K'}{kvs:Ta}(e:H a=some (.dK kvs)):Py K H (.ref a) (.type "dict")
 |dT{a:K'}{kvs:Tn}(e:H a=some (.dT kvs)):Py K H (.ref a) (.type "dict")
 |ins{a C dx:K'}{fs:Tb}(e:H a=some (.ins C dx fs))(cl:R6 K C)(ha:PySem.W.findIn K (.ref C) "__class__"=some (some<|.builtin gt))
   (hn:PySem.W.specialIn K (.builtin gt) "__get__"=some (some<|.builtin ot)) (htk:PySem.W.takesIn K (.builtin gt)=some true)
   (hm:PySem.W.mroIn K C (.type "object")=some true):Py K H (.ref a) (.ref C)
def zE{x:V}{t:Sk}(I:Inv X W B H s)(G:RelV x u)(ty:Py X.K H x t)(e:PySem.W.kitOne X.K t c=some b)(h:∀tk,Q (.bool b) {s with toks:=tk}):
  wpAny (model X.prog X.w) A (call (.builtin xQ) [u,c]) Q E s:=by
 cases ty with
 |non=>cases (show u=Value.none from G);exact ZH PySem.W.kitx_none I.kIn WD e (λz=>nomatch z) h
 |bl y=>cases (show u=Value.bool y from G);exact ZH PySem.W.kitx_bool I.kIn WD e (λz=>nomatch z) h
 |int i=>let{t,q}:=(show ∃t,u=Value.int i t from G);cases q;exact ZH PySem.W.kitx_int I.kIn WD e (λz=>nomatch z) h
 |str y=>let{t,q}:=(show ∃t,u=Value.str y t from G);cases q;exact ZH PySem.W.kitx_str I.kIn WD e (λz=>nomatch z) h
 |flt y=>let{t,q}:=(show ∃t,u=Value.float y t from G);cases q;exact ZH PySem.W.kitx_float I.kIn WD e (λz=>nomatch z) h
 | @lst a xs ea=>
  cases (show u=Value.ref a from G);let{_,_,n,_,h1}:=(show P7 X.prog X.w H s.heap a (.lst xs) from I.hok a _ ea);exact ZH PySem.W.kitx_list I.kIn {_,h1,M} e (λz=>nomatch z) h
 | @frz a ob xs ea=>
  cases (show u=Value.ref a from G);let{_,_,_,n,_,h1}:=(show P7 X.prog X.w H s.heap a (.frz ob<|.lst xs) from I.hok a _ ea);exact ZH PySem.W.kitx_list I.kIn {_,h1,M} e (λz=>nomatch z) h
 | @tup a xs ea=>
  cases (show u=Value.ref a from G);let{_,_,_,p}:=(show P7 X.prog X.w H s.heap a (.tup xs) from I.hok a _ ea);let{o,h1,h2,_}:=p;exact ZH PySem.W.kitx_tuple I.kIn ⟨o,h1,h2⟩ e (λz=>nomatch z) h
 | @dK a kvs ea=>
  cases (show u=Value.ref a from G);let{_,_,vs,_,p}:=(show P7 X.prog X.w H s.heap a (.dK kvs) from I.hok a _ ea);let{o,es,ep,h1,h2,_}:=p;exact ZH PySem.W.kitx_dict I.kIn ⟨o,h1,h2.1⟩ e (λz=>nomatch z) h
 | @dT a kvs ea=>
  cases (show u=Value.ref a from G);let{_,_,xs,_,o,es,ep,h1,h2,_}:=(show P7 X.prog X.w H s.heap a (.dT kvs) from I.hok a _ ea);exact ZH PySem.W.kitx_dict I.kIn ⟨o,h1,h2.1⟩ e (λz=>nomatch z) h
 | @ins a C dx fs ea cl ha Y U Z=>
  cases (show u=Value.ref a from G);let{mA,O,_}:=QG I.hok ea;let{od,J,_}:=O.look;exact ZH (PySem.W.kitx_own (cl.get _) cl.hd ha Y U Z) I.kIn J e (λz=>nomatch z) h
end
structure PP(k:Nat)(A:Sv):Prop where
 hd:A.handled=none
 dp:A.depth+3*k+5<recursionLimit
 un:A.units+16*k+200<cLine
def PP.mono{k:Nat}(r:PP k A)(h:j<=k):PP j A:={r.hd,by have:=r.dp;lia,by have:=r.un;lia}
def PP.deeper{k:Nat}(r:PP (k+1) A)(env:Env):PP k (A.deeper env):=
 {r.hd,by have:=r.dp;show A.depth+1+3*k+5<_;lia,by have:=r.un;show A.units+3+16*k+200<_;lia}
def DT:(A.under<|.builtin qr {.ref C::us,kw}).depth=A.depth+1:=by
 first|rfl|simp[Around.under,Code.weight,Code.isCreation,Code.isGuard,Code.isCaller,Code.frames,Code.isFrame,guardIds]
def DS:(A.under<|.builtin qr {.ref C::us,kw}).units=A.units+1:=by
 first|rfl|simp[Around.under,Code.cUnits,Code.frames,Code.isFrame]
def PP.make{k:Nat}(r:PP (k+1) A)(C:K')(us:Sl)(kw:Tt):PP k (A.under<|.builtin qr {.ref C::us,kw}):=
 {r.hd,by have:=r.dp;rw[DT];lia,by have:=r.un;rw[DS];lia}
def PP.depth{k:Nat}(r:PP k A):A.depth<recursionLimit:=by have:=r.dp;lia
def PP.units{k:Nat}(r:PP k A):A.units+64<cLine:=by have:=r.un;lia
def Fx:TA:=λ_ H Q=>Q [] H
def LW(ta:TE)(tr:TA):TA:=λB H Q=>ta B H λx H1=>tr B H1 λxs H2=>Q (x::xs) H2
section
variable{t:TA}
def aj:PA X [] Fx:=λ_ _ _ _ H Q I h=>Calls.spliced_nil {[],H,I,.nil,h}
def ae(ha:PE X e te)(G:PA X es t)(hs:starEach (e::es) X.env=(false,eval e X.env)::starEach es X.env:=by rfl):PA X (e::es) (LW te t):=by
 intro pos W s B H Q I h;rw[hs];show wpAny _ _ (spliced ((false,eval e X.env)::backTo pos (starEach es X.env))) _ _ s;refine Calls.spliced_cons<|P8 (ha W s B H _ I h) λu s1 z=>?_;let{x,H1,O,r1,U}:=z;exact P8 (G pos W s1 B H1 _ O U) λus s2 zz=>by let{xs,H2,Y,Z,q2}:=zz;exact{x::xs,H2,Y,.cons r1 Z,q2}
def tTup(t:TA):TE:=λB H Q=>t B H λxs H1=>xs.length<=sizeLine/\∀p,H1 p=none->Q (.ref p) (upd H1 p<|.tup xs)
def tLst(t:TA):TE:=λB H Q=>t B H λxs H1=>xs.length<=sizeLine/\∀p,H1 p=none->Q (.ref p) (upd H1 p<|.lst xs)
def bM{x1}(h:PA X es t):PE X (.Tuple es x1 pos) (tTup t):=by
 intro W s B H Q I hq;refine wpAny_Tuple_spliced<|P8 (h pos W s B H _ I hq) λus s1 ⟨xs,H1,G,r,z,q⟩=>{by rwa[<-r.length],?_};have hf:H1 s1.heap.objs.size=none:=G.hok.fresh (Q4 _);refine{.ref s1.heap.objs.size,upd H1 s1.heap.objs.size<|.tup xs,G.laid (t':=s1.toks) (λb u e=>Wo _ e) (Q4 _) ?_,M,q _ hf};exact{z,us,r,{_,Wy _ M,M,_,M}}
def bX(h:PA X es t):PE X (.List es pos) (tLst t):=by
 intro W s B H Q I hq;refine wpAny_List_spliced<|P8 (h pos W s B H _ I hq) λus s1 ⟨xs,H1,G,r,z,q⟩=>{by rwa[<-r.length],?_};have hf:H1 s1.heap.objs.size=none:=G.hok.fresh (Q4 _);refine{.ref s1.heap.objs.size,upd H1 s1.heap.objs.size<|.lst xs,G.laid (t':=s1.toks) (λb u e=>Wo _ e) (Q4 _) ?_,M,q _ hf};exact{z,us,0,r,Wy _ M}
end
abbrev Sp:=List V->Hp->VK->XK->Prop
abbrev CXT:=List Env->Hp->Shared->XK->Value->Shared->Prop
structure Rb(P:Sr)(w:Ss)(K:JZ)(mg:Sz)(base:Heap)(A:Sv)(outer:Te)(s:L')(H:Hp):Prop where
 frames:A.frames=some outer
 mod:Mod K mg base
 bs:∀b o,base.get? b=some o->s.heap.get? b=some o/\H b=none
 bsz:base.objs.size<=s.heap.objs.size
 funs:s.heap.FunFrames base outer
 frf:∀b∈RF outer,H b=none
 hok:QH P w H s.heap
 bare:AllBare s.gens
def CE(outer:Te)(P:Sr)(w:Ss)(H:Hp)(s:L')(Q:VK)(u:Sk)(s':L'):Prop:=
 ∃v H',s'.os=s.os/\AllBare s'.gens/\Un (RF outer) [] H H' s.heap s'.heap/\QH P w H' s'.heap/\RelV v u/\Q v H'
def CR(CX:CXT)(outer:Te)(P:Sr)(w:Ss)(H:Hp)(s:L')(Q:VK)(E:XK)(r:Result)(s':L'):Prop:=
 match r with
 | .ok (.ret u)=>CE outer P w H s Q u s'
 | .ok _=>False
 | .error e=>CX outer H s E e s'
structure Cy(P:Sr)(w:Ss)(K:JZ)(mg:Sz)(base:Heap)(CX:CXT)(k:Nat)(f:K')(fd:Tf)(ps:Sx)(sp:Sp):Prop where
 len:∀vs H Q E,sp vs H Q E->vs.length=ps.length
 run:∀(A:Sv)(outer:Te)(s:L')(H:Hp)(args:Args)(us:Sl)(vs:Sm)(Q:VK)(E:XK),PP k A->Rb P w K mg base A outer s H->BindsTo s fd args (ps.zip us)->M2 vs us->sp vs H Q E->
  codeAny (model P w) A (.call (.ref f) args) (CR CX outer P w H s Q E) s
def Cy.mono{mg:Sz}{k:Nat}(F:Cy P w K mg base CX j f fd ps sp)(h:j<=k):
  Cy P w K mg base CX k f fd ps sp:={F.len,λA outer s H args us vs Q E z=>F.run A outer s H args us vs Q E<|z.mono h}
def Rb.make{mg:Sz}(e:Rb P w K mg base A outer s H)(C:K')(us:Sl)(kw:Tt):
  Rb P w K mg base (A.under<|.builtin qr {.ref C::us,kw}) outer s H:={by first|exact e.frames|(simpa[Around.under,Code.envs,Code.isFrame,pushEnvs]using e.frames),e.mod,e.bs,e.bsz,e.funs,e.frf,e.hok,e.bare}
def Inv.env0(I:Inv X W B H s):Rb X.prog X.w X.K X.mg X.base X.A X.stack s H:=
 {I.ok.frames,I.ok.mod,I.bs,Z4 I.ok.bsz I.sz,I.stack,I.stkFree,I.hok,I.bare}
def Inv.after{Q:VK}(I:Inv X W B H s)(h:CE X.stack X.prog X.w H s Q u s'):EP X W B Q u s':=by
 let{v,H',os,bare,un,hok,r,q}:=h;let{O,g,d,t,G}:=s';obtain rfl:G=s.os:=os;exact{v,H',I.call (h':=O) (g':=g) (d':=d) (t':=t) (ch:=[]) un hok bare<|λb z=>Ws z (by simp),r,q}
def LX(sp:Sp)(dvs:Sm)(E:XK)(t:TA):TE:=λB H Q=>t B H λvs H1=>sp (vs++dvs) H1 Q E
inductive ML(C:K')(m:Str)(sp:Sp)(dvs:Sm)(E:XK)(t:TA)(B:St)(Q:VK)(x:V)(H1:Hp):Prop
 |mk(a dx fs:_)(_:x= .ref a)(_:H1 a=some (.ins C dx fs))(_:fs.lookup m=none)(_:t B H1 λvs H2=>sp (x::(vs++dvs)) H2 Q E)
def LU(C:K')(m:Str)(sp:Sp)(dvs:Sm)(E:XK)(ta:TE)(t:TA):TE:=λB H Q=>ta B H λx H1=>ML C m sp dvs E t B Q x H1
def LV(C:K')(sp:Sp)(dvs:Sm)(E:XK)(t:TA):TE:=λB H Q=>t B H λvs H1=>∀x dx,H1 x=none->H1 dx=none->dx≠x->
 sp (.ref x::(vs++dvs)) (upd (upd H1 dx<|.own x) x<|.ins C dx []) (λv H2=>v= .non/\Q (.ref x) H2) E
def Binds(K:JZ)(fd:Tf)(ps:Sx)(ds:Sl):Prop:=
 ∀(s:L')(us:Sl),K.In s.heap->(us++ds).length=ps.length->BindsTo s fd {us,[]} (ps.zip<|us++ds)
def Binds.all(h:∀us:List Value,us.length=ps.length->bindArgs fd {us,[]}=pure (ps.zip us)):Binds K fd ps []:=λs us _ hl=>by
 rw[Zu]at hl⊢;exact .of_eq<|h us hl
def mG(CX:CXT)(X:Cx)(E:XK):Prop:=∀(W:So)(B:St)(H:Hp)(s:L')(e:Sk)(s':L'),Inv X W B H s->CX X.stack H s E e s'->X.xe e s'
section
variable{k:Nat}{dvs:Sm}{ds:Sl}{E:XK}{apos:Pos}{o:Expr}{t:TA}
def tX{Q:VK}(F:Cy X.prog X.w X.K X.mg X.base CX k f fd ps sp)(G:PP k X.A)(hb:Binds X.K fd ps ds)(hd:M2 dvs ds)(hx:mG CX X E)
  (I:Inv X W B H s) (r:M2 vs us) (h:sp (vs++dvs) H Q E):Bf X (call (.ref f) us) (EP X W B Q) X.xe s:=by
 have z:M2 (vs++dvs) (us++ds):=r.append hd;have hl:(us++ds).length=ps.length:=by rw[<-z.length];exact F.len _ _ _ _ h
 refine wpAny_call<|codeAny_mono (F.run X.A X.stack s H {us,[]} (us++ds) (vs++dvs) Q E G I.env0 (hb s us I.kIn hl) z h) λr s' hq=>?_;cases r with
 |error e=>exact hx W B H s e s' I hq
 |ok fl=>
  cases fl with
  |ret u=>exact I.after hq
  |next=>exact False.elim hq
  |brk=>exact False.elim hq
  |cont=>exact False.elim hq
def aP(F:Cy X.prog X.w X.K X.mg X.base CX k f fd ps sp)(U:PP k X.A)(Y:Gl X x)(Z:X.mg x=some (.ref f))(hk:PySem.W.keepIn X.K (.ref f)=true)(hb:Binds X.K fd ps ds)(hd:M2 dvs ds)(hx:mG CX X E)
  (ha:PA X (e::es) t) (z:(x==(hW:Str))=false:=by decide) (he:starEach (e::es) X.env=(false,eval e X.env)::starEach es X.env:=by rfl) (G:(backTo pos<|starEach es X.env).any (·.1)=false:=by rfl):
  PE X (.Call (.Name x p) (e::es) [] pos) (LX sp dvs E t):=by
 intro W s B H Q I h;refine WR<|lZ I Y Z ?_ z;refine Xg (h₀:=X.base) I.ok.mod.kin hk (P8 (ha pos W s B H _ I h) λus s1 zz=>?_) he G;let{vs,H1,O,r,q}:=zz;refine{O.kIn,?_};exact tX F U hb hd hx O r q
def aW{pl:Sem Bool}(he:PE X o ta)(c:R6 X.K C)(U:bN X.K C m f)(F:Cy X.prog X.w X.K X.mg X.base CX k f fd ps sp)(hr:PP k X.A)(hb:Binds X.K fd ps ds)(hd:M2 dvs ds)(hx:mG CX X E)(ha:PA X (e::es) t)
  (z:starEach (e::es) X.env=(false,eval e X.env)::starEach es X.env:=by rfl) (G:(backTo pos<|starEach es X.env).any (·.1)=false:=by rfl)
  (ht:eval (.Call (.Attribute o m apos) (e::es) [] pos) X.env=(do
   let ov<-eval o X.env
   standAt apos.atName
   let(f,first)<-holding [ov] (getMethod ov m pl)
   callWith pos f first (backTo pos<|starEach (e::es) X.env) (backToKw pos<|keywordEach [] X.env)):=by rfl):
  PE X (.Call (.Attribute o m apos) (e::es) [] pos) (LU C m sp dvs E ta t):=by
 intro W s B H Q I h;refine ZS (pl:=pl) (P8 (he W s B H _ I h) λu s1 O=>?_) ht;let{x,H1,Y,rx,a,dx,fs,ex,ea,l,q}:=O;subst ex;obtain rfl:u=Value.ref a:=rx;refine gE Y ea c U l ?_;refine Xg (first:=[.ref a]) (h₀:=X.base) I.ok.mod.kin U.kp (P8 (ha pos W s1 B H1 _ Y q) λus s2 zz=>?_) z G;let{vs,H2,Z,r,q2}:=zz;refine{Z.kIn,?_};exact tX (us:= .ref a::us) (vs:= .ref a::vs) F hr hb hd hx Z (.cons M r) q2
def bn{pl:Sem Bool}(he:PE X o ta)(c:R6 X.K C)(O:bN X.K C m f)(F:Cy X.prog X.w X.K X.mg X.base CX k f fd ps sp)(U:PP k X.A)(hb:Binds X.K fd ps ds)(hd:M2 dvs ds)(hx:mG CX X E)
  (Y:eval (.Call (.Attribute o m apos) [] [] pos) X.env=(do
   let ov<-eval o X.env
   standAt apos.atName
   let(f,first)<-holding [ov] (getMethod ov m pl)
   callWith pos f first (backTo pos<|starEach [] X.env) (backToKw pos<|keywordEach [] X.env)):=by rfl):
  PE X (.Call (.Attribute o m apos) [] [] pos) (LU C m sp dvs E ta Fx):=by
 intro W s B H Q I h;refine ZS (pl:=pl) (P8 (he W s B H _ I h) λu s1 z=>?_) Y;let{x,H1,G,Z,a,dx,fs,ex,ea,l,q}:=z;subst ex;obtain rfl:u=Value.ref a:=Z;refine gE G ea c O l ?_;exact V2 (first:=[.ref a]) G.kIn O.kp (tX (us:=[.ref a]) (vs:=[.ref a]) F U hb hd hx G (.cons M .nil) q)
structure Mk(K:JZ)(C f:K'):Prop where
 makes:PySem.W.makesIn K C=true
 init:PySem.W.findIn K (.ref C) i3=some (some<|.ref f)
 fn:PySem.W.isFn K (.ref f)=true
 kp:PySem.W.keepIn K (.ref C)=true
def BI{Q:VK}(M':Mk X.K C f)(F:Cy X.prog X.w X.K X.mg X.base CX k f fd ps sp)(U:PP (k+1) X.A)(hb:Binds X.K fd ps ds)(hd:M2 dvs ds)
  (hx:mG CX X E) (I:Inv X W B H s) (r:M2 vs us)
  (h:∀x dx,H x=none->H dx=none->dx≠x->sp (.ref x::(vs++dvs)) (upd (upd H dx<|.own x) x<|.ins C dx []) (λv H2=>v= .non/\Q (.ref x) H2) E):
  Bf X (call (.ref C) us) (EP X W B Q) X.xe s:=by
 have hq:=h (s.heap.objs.size+1) s.heap.objs.size (I.hok.fresh<|ZO _) (I.hok.fresh<|Q4 _) (Zb<|Xy _);have G:=Inv.made (C:=C) I;have O:M2 (V.ref (s.heap.objs.size+1)::(vs++dvs)) (Value.ref (s.heap.objs.size+1)::(us++ds)):= .cons M (r.append hd);have hl:(Value.ref (s.heap.objs.size+1)::us++ds).length=ps.length:=by
  have e:=O.length;rw[F.len _ _ _ _ hq]at e;exact e.symm
 refine wpAny_call (Ih (f:=f) I.kIn M'.makes M'.init (WA.mp M'.fn) (codeAny_mono (F.run _ X.stack _ _ {Value.ref (s.heap.objs.size+1)::us,[]} (Value.ref (s.heap.objs.size+1)::(us++ds)) _ _ E (U.make C us [])
  (G.env0.make C us []) (hb _ (Value.ref (s.heap.objs.size+1)::us) G.kIn hl) O hq) λr s' z=>?_))
 cases r with
 |error e=>exact hx W B _ _ e s' G z
 |ok fl=>
  cases fl with
  |ret u=>
   let{v,H',Y,rv,Z,q3}:=G.after z;subst Z;exact{rv,{V.ref<|s.heap.objs.size+1,H',Y,M,q3}}
  |next=>exact False.elim z
  |brk=>exact False.elim z
  |cont=>exact False.elim z
def iD(M':Mk X.K C f)(F:Cy X.prog X.w X.K X.mg X.base CX k f fd ps sp)(U:PP (k+1) X.A)(Y:Gl X x)(Z:X.mg x=some (.ref C))(hb:Binds X.K fd ps ds)(hd:M2 dvs ds)(hx:mG CX X E)
  (ha:PA X (e::es) t) (z:(x==(hW:Str))=false:=by decide) (he:starEach (e::es) X.env=(false,eval e X.env)::starEach es X.env:=by rfl) (G:(backTo pos<|starEach es X.env).any (·.1)=false:=by rfl):
  PE X (.Call (.Name x p) (e::es) [] pos) (LV C sp dvs E t):=by
 intro W s B H Q I h;refine WR<|lZ I Y Z ?_ z;refine Xg (h₀:=X.base) I.ok.mod.kin M'.kp (P8 (ha pos W s B H _ I h) λus s1 zz=>?_) he G;let{vs,H1,O,r,q}:=zz;refine{O.kIn,?_};exact BI M' F U hb hd hx O r q
def rP(M':Mk X.K C f)(F:Cy X.prog X.w X.K X.mg X.base CX k f fd ps sp)(G:PP (k+1) X.A)(O:Gl X x)(U:X.mg x=some (.ref C))(hb:Binds X.K fd ps ds)(hd:M2 dvs ds)(hx:mG CX X E)
  (z:(x==(hW:Str))=false:=by decide):PE X (.Call (.Name x p) [] [] pos) (LV C sp dvs E Fx):=by
 intro W s B H Q I h;refine WR<|lZ I O U ?_ z;exact V2 I.kIn M'.kp<|BI (us:=[]) M' F G hb hd hx I .nil h
end
structure ar(N P:Sx)(sc:Scope):Prop where
 kind:sc.kind= .function
 co:sc.isCoroutine=false
 gen:sc.isGenerator=false
 nd:N.Nodup
 pre:N.take P.length=P
 par:∀x∈P,sc.names.lookup x=some .local\/sc.names.lookup x=some .cell
 nofree:∀y∈sc.names,y.2≠ .free
theorem zQ{kindOf:Str->Option NameKind}{x:Str}:∀{z:Tt}{m:Sz},(∀v,(x,v)∉z)->bindL kindOf z m x=m x
 | [],_,_=>rfl
 |(n,v)::r,m,h=>by
  unfold bindL;rw[zQ λw hw=>h w (QM _ hw)];split
  .have:x≠n:=by rintro rfl;exact h v QK
   simp[this]
  .rfl
theorem zS{kindOf:Str->Option NameKind}{x:Str}:∀{z:Tt}{m:Sz},(∀v,(x,v)∉z)->bindC kindOf z m x=m x
 | [],_,_=>rfl
 |(n,v)::r,m,h=>by
  unfold bindC;rw[zS λw hw=>h w (QM _ hw)];split
  .rfl
  .have:x≠n:=by rintro rfl;exact h v QK
   simp[this]
theorem zR{kindOf:Str->Option NameKind}{x:Str}{v:Sk}:∀{P:Sx}{vs:Sl}{i:Nat}{m:Sz},P.Nodup->P[i]?=some x->vs[i]?=some v->kindOf x=some .local->
  bindL kindOf (P.zip vs) m x=some v
 | [],_,_,_,_,h,_,_=>by simp at h
 |_::_,[],_,_,_,_,h,_=>by simp at h
 |p::P,w::vs,0,m,nd,h1,h2,hk=>by
  simp at h1 h2;subst h1;subst h2;show bindL kindOf ((p,w)::P.zip vs) m p=_;unfold bindL;rw[zQ λv z=>(Zv.mp nd).1 (W4 z).1,Wn hk];simp
 |p::P,w::vs,i+1,m,nd,h1,h2,hk=>by
  show bindL kindOf ((p,w)::P.zip vs) m x=_;unfold bindL;exact zR (i:=i) (Zv.mp nd).2 (by simpa using h1) (by simpa using h2) hk
theorem zT{kindOf:Str->Option NameKind}{x:Str}{v:Sk}:∀{P:Sx}{vs:Sl}{i:Nat}{m:Sz},P.Nodup->P[i]?=some x->vs[i]?=some v->kindOf x≠some .local->
  bindC kindOf (P.zip vs) m x=some v
 | [],_,_,_,_,h,_,_=>by simp at h
 |_::_,[],_,_,_,_,h,_=>by simp at h
 |p::P,w::vs,0,m,nd,h1,h2,hk=>by
  simp at h1 h2;subst h1;subst h2;show bindC kindOf ((p,w)::P.zip vs) m p=_;unfold bindC;rw[zS λv z=>(Zv.mp nd).1 (W4 z).1,Wm hk];simp
 |p::P,w::vs,i+1,m,nd,h1,h2,hk=>by
  show bindC kindOf ((p,w)::P.zip vs) m x=_;unfold bindC;exact zT (i:=i) (Zv.mp nd).2 (by simpa using h1) (by simpa using h2) hk
def start(N:Sx)(vs:Sm):St:=vs.map some++List.replicate (N.length-vs.length) none
def ux(CX:CXT)(P:Sr)(w:Ss)(K:JZ)(mg:Sz)(base:Heap)(N:Sx)(qual:Str)(scope:Scope)(f:K')(cd:Sk)(A:Sv)(outer:Te)(s:L')(H:Hp)(E:XK):Cx where
 prog:=P
 w:=w
 K:=K
 mg:=mg
 base:=base
 A:=A.deeper (envOfC qual scope s.heap.objs.size f cd)
 N:=N
 s₀:=s
 H₀:=H
 env:=envOfC qual scope s.heap.objs.size f cd
 outer:=outer
 stack:=envOfC qual scope s.heap.objs.size f cd::outer
 ex:=[]
 calm:=true
 fn:=λ_=>true
 pn:=[]
 xe:=λe s'=>wpAny (model P w) (A.deeper<|envOfC qual scope s.heap.objs.size f cd) (leaving (envOfC qual scope s.heap.objs.size f cd) e) (λ_ s''=>CX outer H s E e s'') (λe' s''=>CX outer H s E e' s'') s'
def Cw{sc:Scope}(h:sc.names.lookup x=some .cell):∃c,(cellsFrom n sc.names []).lookup x=some c:=by
 have q:=PySem.W.cellsFrom_some sc.names n [] (.inl h);exact Vf.mp q
def Gj{mg:Sz}{cd:Sk}{s1:L'}{E:XK} 
  (S:ar N ps scope) (hd:A.handled=none) (e0:Rb P w K mg base A outer s H) (hl:vs.length=ps.length) (r:M2 vs us)
  (x:InCallC s s.heap.objs.size (bindL (envOfC qual scope s.heap.objs.size f cd).kindOf (ps.zip us) λ_=>none) (cellsFrom (s.heap.objs.size+1) scope.names []) (bindC (envOfC qual scope s.heap.objs.size f cd).kindOf (ps.zip us) λ_=>none) s1):
  Inv (ux CX P w K mg base N qual scope f cd A outer s H E) [] (start N vs) H s1:=by
 have O:ps.length<=N.length:=by have:=WG List.length S.pre;rw[Q9]at this;lia
 let{h1,tk,rfl,hk}:=x.done;have G:∀b:Addr,b∉(ux CX P w K mg base N qual scope f cd A outer s H E).ex:=λb z=>Ws (show b∈([]:Su) from z) (by simp);refine{{e0.mod,S.kind,M,M,Q4 _,λy z c h1 h2=>?_,λy hy=>?_,λy c _ h=>?_,λ_=>hd,Around.frames_deeper e0.frames,.inr ⟨M,M⟩,λb z=>Ws z<|G b,e0.bs,e0.bsz,λb _ _=>G b,λb z=>Ws z<|G b,e0.funs,e0.frf},
  rfl,e0.bare,Un.kept hk,{_,x.toInCall.ns,λi y v h1 h2 U=>?_},λy c h=>{_,x.cell y c h},e0.hok.fresh<|Q4 _,λy c h=>?_,λp hp=>Ws (show p∈([]:So) from hp) (by simp),e0.hok.kept hk,?_}
 .exact name_of_addr x.apart (PySem.mem_of_lookup h1)<|PySem.mem_of_lookup h2
 .have hy:scope.names.lookup y=some .cell\/scope.names.lookup y=some .free:=hy;rcases hy with hy|hy
  .exact Cw hy
  .exact Ws M<|S.nofree _ (PySem.mem_of_lookup hy)
 .exact Zq<|x.above y c (PySem.mem_of_lookup h)
 .have hi:i<vs.length:=by
   unfold start at h2;by_cases hi:i<vs.length
   .exact hi
   .rw[Zw (by simpa using hi)]at h2;rw[List.getElem?_replicate]at h2;split at h2<;>cases h2
  have ha:vs[i]?=some v:=by
   unfold start at h2;rw[Zy (by simpa using hi),Z3]at h2;cases e:vs[i]? with
   |none=>rw[e]at h2;cases h2
   |some a=>rw[e]at h2;cases h2;rfl
  let{u,hu,rv}:=r.get ha;have hp:ps[i]?=some y:=by
   rwa[<-S.pre,Vg ()]
  have I:ps.Nodup:=by rw[<-S.pre];exact S.nd.sublist<|Vd _ _
  refine{u,rv,?_};rcases S.par y (Q1 hp)with k|k
  .exact .inl {k,zR I hp hu k}
  .let{c,e}:=Cw (n:=s.heap.objs.size+1) k;refine .inr {.inl k,c,e,?_};have q:=x.cell y c e;rw[zT I hp hu (by show scope.names.lookup y≠_;rw[k];decide)]at q;exact q
 .exact e0.hok.fresh<|Zq (x.above y c<|PySem.mem_of_lookup h)
 .unfold start;show _=N.length;rw[Q6,Q0,Xh];lia
abbrev _root_.Tv:=Array (Option Value)
def EX{mg:Sz}{k:Nat}{G:Arguments}{dV kV Z pm z ct oc:Sk}{an od:Sy}
  {a1:Tv} (lk:K.lookup f=some {oc,od,.func<|PySem.W.fnOf name qual G body scope dV kV Z pm an z ct,a1}) (a2:PySem.W.codeIn K z qual=true) (S:ar N ps scope)
  (len:∀vs H Q E,sp vs H Q E->vs.length=ps.length)
  (U:∀(A:Sv)(outer:Te)(s:L')(H:Hp)(vs:Sm)(Q:VK)(E:XK),PP k (A.deeper<|envOfC qual scope s.heap.objs.size f z)->sp vs H Q E->
   ∃t,Qh (ux CX P w K mg base N qual scope f z A outer s H E) body t/\t {nx:=λ_ H'=>Q .non H',rt:=Q} (start N vs) H):
  Cy P w K mg base CX (k+1) f (PySem.W.fnOf name qual G body scope dV kV Z pm an z ct) ps sp:=by
 refine{len,λA outer s H args us vs Q E hr e0 hb r a0=>?_};have hl:=len _ _ _ _ a0;have KX:K.In s.heap:=e0.mod.kin.keeps λb o e=>(e0.bs b o e).1;have a3:s.heap.NoLimit:=e0.mod.nolimit.keeps λb o e=>(e0.bs b o e).1;have Y:∀y∈ps.zip us,scope.names.lookup y.1=some .local\/(scope.names.lookup y.1=some .cell/\((cellsFrom (s.heap.objs.size+1) scope.names []).lookup y.1).isSome=true):=λ⟨n,v⟩ hy=>by
  rcases S.par n (W4 hy).1 with q|q
  .exact .inl q
  .exact .inr {q,PySem.W.cellsFrom_some _ _ _<|.inl q}
 refine codeAny_call_function hr.depth (KX _ _ lk) M S.co S.gen M (PySem.W.codeRec_of KX a2)<|hb _ _ _ _ ?_;refine wpAny_newFunctionEnv_cells S.kind Y λenv he s1 x=>?_;subst he;refine{a3.keeps x.toInCall.keep,codeAny_func ?_};let{t,ht,hq}:=U A outer s H vs Q E (hr.deeper _) a0;have I:Inv (ux CX P w K mg base N qual scope f z A outer s H E) [] (start N vs) H s1:=Gj S hr.hd e0 hl r x;refine WJ (ht [] s1 (start N vs) H _ I hq) (λfl s' hs=>?_) λe s' hs=>hs;have fin:∀{O:St}{H':Hp}{v:V}{u:Sk},Inv (ux CX P w K mg base N qual scope f z A outer s H E) [] O H' s'->RelV v u->Q v H'->CE outer P w H s Q u s':=
  λ{O H' v u} J rv q=>⟨v,H',J.os,J.bare,J.base,J.hok,rv,q⟩
 cases fl with
 |ret u=>
  let{v,O,H',J,rv,q}:=hs;exact fin J rv q
 |next=>
  let{O,H',J,q}:=hs;exact fin (v:=V.non) (u:=Value.none) J M q
 |brk=>
  let{_,_,_,q}:=hs;exact False.elim q
 |cont=>
  let{_,_,_,q}:=hs;exact False.elim q
section
variable{t:TA}{id T:String}{r:List V->Hp->VK->Prop}
def tCB(r:List V->Hp->VK->Prop)(t:TA):TE:=λB H Q=>t B H λvs H1=>r vs H1 Q
def aD(hc:gV X (.builtin id) r)(O:Gl X x)(U:X.mg x=none)(Y:bootBuiltins x=some (.builtin id))(ha:PA X (e::es) t)(Z:x≠"__name__":=by decide)(z:(x==(hW:Str))=false:=by decide)
  (he:starEach (e::es) X.env=(false,eval e X.env)::starEach es X.env:=by rfl) (G:(backTo pos<|starEach es X.env).any (·.1)=false:=by rfl):PE X (.Call (.Name x p) (e::es) [] pos) (tCB r t):=by
 intro W s B H Q I h;refine WR<|uh I O U Y ?_ Z z;exact PyProof.Rows.callWith_builtin1 (P8 (ha pos W s B H _ I h) λus s1 zz=>by let{vs,H1,I1,r1,q1}:=zz;exact hc W s1 B H1 vs us Q I1 r1 q1) he G
def kI(hc:gV X (.type T) r)(O:Gl X x)(U:X.mg x=none)(Y:bootBuiltins x=some (.type T))(ha:PA X (e::es) t)(Z:x≠"__name__":=by decide)(z:(x==(hW:Str))=false:=by decide)
  (he:starEach (e::es) X.env=(false,eval e X.env)::starEach es X.env:=by rfl) (G:(backTo pos<|starEach es X.env).any (·.1)=false:=by rfl):PE X (.Call (.Name x p) (e::es) [] pos) (tCB r t):=by
 intro W s B H Q I h;refine WR<|uh I O U Y ?_ Z z;exact PyProof.Rows.callWith_type1 (P8 (ha pos W s B H _ I h) λus s1 zz=>by let{vs,H1,I1,r1,q1}:=zz;exact hc W s1 B H1 vs us Q I1 r1 q1) he G
end
end L2
namespace HT
open PySem PyProof.Rows
variable{E:Sw}
noncomputable def lexLt:List Int->List Int->Bool
 | [],[]=>false
 | [],_::_=>true
 |_::_,[]=>false
 |x::xs,y::ys=>if x=y then lexLt xs ys else decide (x<y)
abbrev _root_.R':=List Int
def lexLt_cons(x y:Int)(xs ys:R'):lexLt (x::xs) (y::ys)=if x=y then lexLt xs ys else decide (x<y):=rfl
def lexLt_nil_nil:lexLt [] []=false:=rfl
def lexLt_nil_cons(y:Int)(ys:R'):lexLt [] (y::ys)=true:=rfl
def lexLt_cons_nil(x:Int)(xs:R'):lexLt (x::xs) []=false:=rfl
section
variable{prog:Sr}{w:Ss}{A:Sv}{s:L'}
noncomputable def sIx(n d:Nat):Option Int->Nat
 |none=>d
 |some v=>if v<0 then(v+(n:Int)).toNat else min v.toNat n
def sIx_nat(n d k:Nat):sIx n d (some (k:Int))=min k n:=by
 show(if(k:Int)<0 then((k:Int)+(n:Int)).toNat else min (k:Int).toNat n)=min k n;rw[Wm (),Zk]
end
end HT
namespace L2
open PySem PySem.Spec PyProof.Rows
abbrev _root_.Tg:=Option V
abbrev _root_.Ti:=List (Key×Value)
variable{a b:K'}{A:Sv}{X:Cx}{e:Expr}{h':Heap}{H H':Hp}{i:Int}{W:So}{kvs:Ta}{vs:Ti}{xs:Sm}{its its':Sl}{j n t':Nat}{o:Tg}{pos:Pos}{P:Sr}{s:L'}{B:St}{T:String}{α:Type}{x y:V}{r u v:Sk}{E Q:Sw}{w:Ss}
abbrev TO:=St->Hp->(Option Int->Hp->Prop)->Prop
def PO(X:Cx)(e:Option Expr)(t:TO):Prop:=
 ∀(W:So)(s:L')(B:St)(H:Hp)(Q:Option Int->Hp->Prop),Inv X W B H s->t B H Q->
  Bf X (evalPart e X.env) (λu s'=>∃o H',Inv X W B H' s'/\IsPart u o/\Q o H') X.xe s
def Ko:TO:=λ_ H Q=>Q none H
inductive MK(Q:Option Int->Hp->Prop)(x:V)(H1:Hp):Prop
 |mk(i:_)(_:x= .int i)(_:Q (some i) H1)
def Om(t:TE):TO:=λB H Q=>t B H λx H1=>MK Q x H1
def xp{ns:R'}:∀{us:Sl},M2 (ns.map V.int) us->IntsAre us ns:=by
 induction ns with
 |nil=>intro us r;rw[VJ]at r;cases r;exact .nil
 |cons n ns z=>
  intro us r;rw[Z0]at r;cases r with
  |cons r1 G=>
   let{t,e}:=r1;subst e;exact .cons n t<|z G
section
variable{te:TE}{lo hi:Option Expr}{tl th:TO}{p2:Pos}
def lR:PO X none Ko:=by
 intro W s B H Q I h;rw[evalPart_none];exact Wx {none,H,I,.none,h}
def dS(h:PE X e te):PO X (some e) (Om te):=by
 intro W s B H Q I hw;rw[evalPart_some];refine P8 (h W s B H _ I hw) λu s1 z=>?_;let{x,H1,G,r1,O}:=z;let{i,rfl,q}:=O;let{t,rfl}:=r1;exact{some i,H1,G,.int i t,q}
abbrev _root_.Tl:=Option Int
def SlR(X:Cx)(r:V->Option Int->Option Int->Hp->VK->Prop):Prop:=
 ∀(W:So)(s:L')(B:St)(H:Hp)(x:V)(v vl vu:Sk)(lo hi:Tl)(sl:K')(Q:VK),Inv X W B H s->RelV x v->s.heap.IsSliceOf sl vl vu .none->IsPart vl lo->IsPart vu hi->r x lo hi H Q->
  ∃T id,typeLookup (.type T) "__getitem__"=pure (some<|.builtin id)/\s.TypeIs v T/\Bf X (getItem v<|.ref sl) (EP X W B Q) X.xe s
def tSl(r:V->Option Int->Option Int->Hp->VK->Prop)(te:TE)(tl th:TO):TE:=λB H Q=>te B H λx H1=>tl B H1 λl H2=>th B H2 λu H3=>r x l u H3 Q
def eK{r:V->Option Int->Option Int->Hp->VK->Prop}(U:SlR X r)(he:PE X e te)(hl:PO X lo tl)(hu:PO X hi th):PE X (.Subscript e (.Slice lo hi none p2) pos) (tSl r te tl th):=by
 intro W s B H Q I h;refine Subscript_<|P8 (he W s B H _ I h) λv s1 z=>?_;let{x,H1,Y,r1,Z}:=z;refine wpAny_Slice<|P8 (hl W s1 B H1 _ Y Z) λG s2 zz=>?_;let{l,H2,I2,pl,q2}:=zz;refine P8 (hu W s2 B H2 _ I2 q2) λO s3 z=>?_;let{u,H3,I3,pu,q3}:=z;rw[evalPart_none];refine Wx ?_;have I4:Inv X W B H3 {s3 with heap:=s3.heap.push {cls:= .type "slice",data:= .fields #[G,O,.none]}}:=I3.kept (t':=s3.toks) λb ob q=>Wo _ q;let{T,id,hT,ht,hg}:=U W {s3 with heap:=s3.heap.push {cls:= .type "slice",data:= .fields #[G,O,.none]}} B H3 x v G O l u s3.heap.objs.size Q I4 r1 (Heap.IsSliceOf.new ..) pl pu q3;show Bf X (subscriptTail e (.Slice lo hi none p2) v<|.ref s3.heap.objs.size) (EP X W B Q) X.xe {s3 with heap:=s3.heap.push {cls:= .type "slice",data:= .fields #[G,O,.none]}};exact tail_any (ops:=[.ref s3.heap.objs.size,v]) ht hT hg (by with_unfolding_all rfl)
def mV(xs:Sm)(lo hi:Tl):List V:=(xs.drop<|HT.sIx xs.length 0 lo).take (HT.sIx xs.length xs.length hi-HT.sIx xs.length 0 lo)
def Cu(xs:Sm)(lo hi:Tl):(mV xs lo hi).length<=xs.length:=by
 unfold mV;rw[Q9,Zc];lia
end
noncomputable def Rp(n:Nat)(i:Int):Option Nat:=if 0<=i then(if i<n then some i.toNat else none)else if-(n:Int)<=i then some (i+n).toNat else none
def RO{α:Type}(xs:List α)(i:Int):Option α:=(Rp xs.length i).bind λj=>xs[j]?
def ES(h:Rp n i=some j):seqIndex? i n=some j/\j<n/\-(n:Int)<=i/\i<n:=by
 unfold Rp at h;by_cases z:0<=i
 .rw[Wn z]at h;by_cases h1:i<n
  .rw[Wn h1]at h;have e:i.toNat=j:=Wq h;exact{by rw[seqIndex_of z h1,e],(),(),h1}
  .rw[Wm h1]at h;cases h
 .rw[Wm z]at h;by_cases h1: -(n:Int)<=i
  .rw[Wn h1]at h;have e:(i+n).toNat=j:=Wq h;exact{by rw[seqIndex_neg () h1,e],(),h1,()}
  .rw[Wm h1]at h;cases h
def Fd{xs:List α}{v:α}(h:RO xs i=some v):∃j,seqIndex? i xs.length=some j/\xs[j]?=some v/\j<xs.length/\-(xs.length:Int)<=i/\i<xs.length:=by
 unfold RO at h;cases e:Rp xs.length i with
 |none=>rw[e]at h;cases h
 |some j=>
  rw[e]at h;let{h1,h2,z,G}:=ES e;exact⟨j,h1,h,h2,z,G⟩
def vH{xs:List α}{v:α}(h:xs[j]?=some v):RO xs (j:Int)=some v:=by
 have z:j<xs.length:=(Q2.mp h).1;have e:Rp xs.length (j:Int)=some j:=by
  unfold Rp;rw[Wn (),Wn ()];simp
 unfold RO;rwa[e]
def LF(b:Expr):Prop:=∀o i,subscripted b false o i=operate [o,i] (getItem o i)
def IxR(X:Cx)(r:R2):Prop:=
 ∀(value slice:Expr)(W:So)(s:L')(B:St)(H:Hp)(x y:V)(v u:Sk)(Q:VK),Inv X W B H s->RelV x v->RelV y u->r x y H Q->
  subscripted slice false v u=operate [v,u] (getItem v u)->Bf X (subscriptTail value slice v u) (EP X W B Q) X.xe s
def SD(X:Cx)(id:String)(r:V->List V->Hp->VK->Prop):Prop:=
 ∀(W:So)(s:L')(B:St)(H:Hp)(x:V)(xs:Sm)(v:Sk)(us:Sl)(Q:VK),Inv X W B H s->RelV x v->M2 xs us->r x xs H Q->
  Bf X (call (.builtin id) (v::us)) (EP X W B Q) X.xe s
section
variable{a b:Expr}{ta tb:TE}
def aR{r:R2}(z:IxR X r)(ha:PE X a ta)(hb:PE X b tb)(hs:LF b):PE X (.Subscript a b pos) (tOp r ta tb):=by
 intro W s B H Q I h;exact Subscript_ (NV ha hb I h λv u s2 x y H2 G O U q=>z a b W s2 B H2 x y v u Q G O U q<|hs _ _)
inductive rIxL(K:JZ)(x y:V)(H:Hp)(Q:VK):Prop
 |mk(p xs i v:_)(_:x= .ref p)(_:y= .int i)(_:E7 K H p xs)(_:RO xs i=some v)(_:Q v H)
inductive rIxT(K:JZ)(x y:V)(H:Hp)(Q:VK):Prop
 |mk(p xs i v:_)(_:x= .ref p)(_:y= .int i)(_:Px K H p xs)(_:RO xs i=some v)(_:Q v H)
def aQ:IxR X (rIxL X.K):=by
 intro value G W s B H x y v u Q I rx ry h hs;let{p,xs,i,z,rfl,rfl,hq,he,q}:=h;cases rx;let{t,rfl}:=ry;let{its,r,pl,hz}:=I.list hq;let{j,h1,h2,h3,h4,h5}:=Fd he;let{w,Y,O}:=r.get h2;have hl:=r.length;have hn:=xj;have fin:EP X W B Q w s:=⟨z,H,I,O,q⟩;by_cases Z:0<=i
 .have U:i.toNat=j:=by
   rw[seqIndex_of Z h5]at h1;exact Wq h1
  exact item_listR pl.isList Z () (by rw[U];simpa using Y) fin hs
 .have U:(i+(its.toArray.size:Int)).toNat=j:=by
   rw[seqIndex_neg () h4]at h1;rw[QQ,<-hl];exact Wq h1
  exact subscriptTail_builtinR (x:=w) pl.isList.typeIs slot_list_getitem.lookup
   (wpAny_getItem_list_neg (Q:=λr s'=>r=w/\EP X W B Q r s') pl.isList () (by rw[QQ]<;>lia) () (by rw[U];simpa using Y) ⟨M,fin⟩) hs
def bY:IxR X (rIxT X.K):=by
 intro value G W s B H x y v u Q I U Y h hs;let{p,xs,i,z,rfl,rfl,hq,he,q}:=h;cases U;let{t,rfl}:=Y;let{its,r,pl,hz}:=I.tuple hq;let{j,h1,h2,h3,h4,h5}:=Fd he;let{w,Z,O}:=r.get h2;have hl:=r.length;have hn:=xj;have fin:EP X W B Q w s:=⟨z,H,I,O,q⟩;exact subscriptTail_builtinR (x:=w) pl.typeIs slot_tuple_getitem.lookup
  (getItem_tuple (j:=j) (Q:=λr s'=>r=w/\EP X W B Q r s') pl () () (by rwa[QQ,<-hl]) (by simpa using Z) ⟨M,fin⟩) hs
def DQ(its:Sl)(n j:Nat)(u:Sk):Obj.mapSeq (·.setIfInBounds j u) {cls:= .type ff,data:= .seq its.toArray n}={cls:= .type ff,data:= .seq (its.set j u).toArray n}:=by
 simp[Obj.mapSeq]
def Inv.lst{W:So}{B:St}{H:Hp}{s:L'}{p:K'}{xs:Sm}(I:Inv X W B H s)(h:H p=some (.lst xs)):
  ∃(its:Sl)(n:Nat),M2 xs its/\s.heap.get? p=some {cls:= .type ff,data:= .seq its.toArray n}/\xs.length<=sizeLine:=by
 let{z,its,n,r,e}:=I.hok p _ h;exact⟨its,n,r,e,z⟩
def Inv.lstUpd{p:K'}{ys:Sm}{n':Nat}{f:Obj->Obj}(I:Inv X W B H s)(h:H p=some (.lst xs))
  (z:s.heap.get? p=some {cls:= .type ff,data:= .seq its.toArray n}) (hf:f {cls:= .type ff,data:= .seq its.toArray n}={cls:= .type ff,data:= .seq its'.toArray n'}) (r:M2 ys its') (hz:ys.length<=sizeLine) (t:Nat):
  Inv X W B (upd H p<|.lst ys) {s with heap:=s.heap.update p f,toks:=t}:=by
 have e:(s.heap.update p f).get? p=some {cls:= .type ff,data:= .seq its'.toArray n'}:=by
  rw[Heap.get?_update_self f z (by rw[hf]<;>rfl),hf]
 refine I.write (x:=p) (e:=p) (by rw[h];trivial) (.inl M) (λb u hb q=>(WE _ _<|Ne.symm hb).trans q) {_,e} ?_;exact⟨hz,its',n',r,e⟩
inductive OF(o i v:V)(H:Hp)(Q:Hp->Prop):Prop
 |mk(p xs k j:_)(_:o= .ref p)(_:i= .int k)(_:H p=some (.lst xs))(_:Rp xs.length k=some j)(_:Q (upd H p<|.lst<|xs.set j v))
def wc:PSet X OF:=by
 intro W s B H o i v ov iv u Q I Z ri rv h;let{p,xs,k,j,rfl,rfl,hp,hj,q}:=h;cases Z;let{t,rfl}:=ri;let{its,n,r,z,hz}:=I.lst hp;let{h1,h2,G,O}:=ES hj;have hl:=r.length;have hn:=xj;have U:Inv X W B (upd H p<|.lst<|xs.set j v) {s with heap:=s.heap.update p (Obj.mapSeq (·.setIfInBounds j u))}:=
  I.lstUpd hp z (DQ its n j u) (r.set rv j) (by rwa[Zo]) s.toks
 by_cases Y:0<=k
 .have hk:k.toNat=j:=by
   rw[seqIndex_of Y O]at h1;exact Wq h1
  exact PySem.W.ki_setAt z Y () (by rwa[QQ,<-hl])<|by rw[hk];exact{_,U,q}
 .have hk:(k+(its.toArray.size:Int)).toNat=j:=by
   rw[seqIndex_neg () G]at h1;rw[QQ,<-hl];exact Wq h1
  exact PySem.W.ki_setBack z () (by rwa[QQ,<-hl]) ()<|by rw[hk];exact{_,U,q}
def An(lo hi:Tl)(n:Nat):(sliceBounds lo hi none n).1=((HT.sIx n 0 lo:Nat):Int)/\(sliceBounds lo hi none n).2.1=((HT.sIx n n hi:Nat):Int)/\(sliceBounds lo hi none n).2.2=1:=by
 refine{?_,?_,M}
 .cases lo with
  |none=>simp[sliceBounds,HT.sIx]
  |some i=>
   simp only[sliceBounds,HT.sIx,Option.getD_none,show(1:Int)>0 by decide,if_true];by_cases h:i<0
   .simp only[h,if_true]<;>lia
   .simp only[h,if_false]<;>lia
 .cases hi with
  |none=>simp[sliceBounds,HT.sIx]
  |some i=>
   simp only[sliceBounds,HT.sIx,Option.getD_none,show(1:Int)>0 by decide,if_true];by_cases h:i<0
   .simp only[h,if_true]<;>lia
   .simp only[h,if_false]<;>lia
def ym(its:Sl)(lo hi:Tl):slicePick its.toArray lo hi none=((its.drop<|HT.sIx its.length 0 lo).take<|HT.sIx its.length its.length hi-HT.sIx its.length 0 lo).toArray:=by
 let{h1,h2,z}:=An lo hi its.toArray.size;unfold slicePick;rw[h1,h2,z];simp only[sliceRange_one,pick_run,QQ]<;>rfl
inductive rSlL(K:JZ)(x:V)(lo hi:Tl)(H:Hp)(Q:VK):Prop
 |mk(a xs:_)(_:x= .ref a)(_:E7 K H a xs)(_:∀p,H p=none->Q (.ref p) (upd H p<|.lst<|mV xs lo hi))
def gL:SlR X (rSlL X.K):=by
 intro W s B H x v Y Z lo hi sl Q I O hs pl U h;let{a,xs,rfl,hx,q}:=h;cases O;let{its,r,G,hz}:=I.list hx;have z:=r.length;refine{ff,_,slot_list_getitem.lookup,G.isList.typeIs,?_};refine wpAny_getItem_list_slice G.isList hs pl U .none (by simp) ?_ (by rw[QQ]<;>lia);rw[ym,<-z];refine{.ref s.heap.objs.size,_,I.laid (t':=s.toks) (o:= .lst<|mV xs lo hi) (λb ob q=>Wo _ q) (Q4 _) ?_,M,q _<|I.hok.fresh (Q4 _)};exact{Z4 (Cu xs lo hi) hz,_,0,(r.drop<|HT.sIx xs.length 0 lo).take<|HT.sIx xs.length xs.length hi-HT.sIx xs.length 0 lo,Wy _ M}
noncomputable def ir:V->Bool
 | .non=>true
 | .bl _=>true
 | .int _=>true
 | .str _=>true
 |_=>false
noncomputable def RW:V->V->Bool
 | .non,.non=>true
 | .bl a,.bl b=>a==b
 | .bl a,.int b=>(if a then 1 else 0)==b
 | .int a,.bl b=>a==(if b then 1 else 0)
 | .int a,.int b=>a==b
 | .str a,.str b=>a==b
 |_,_=>false
def Jb(G:RelV y u)(z:RelV x v)(O:ir y=true)(I:ir x=true):SeqAt.EqAt A s u v (RW y x):=by
 cases y with
 |non=>
  cases G;cases x with
  |non=>cases z;exact SeqAt.EqAt.same _
  |bl b=>cases z;exact SeqAt.EqAt.none_bool b
  |int b=>let{t,rfl}:=z;exact SeqAt.EqAt.none_int b t
  |str b=>let{t,rfl}:=z;exact SeqAt.EqAt.none_str b t
  |_=>exact Ws (show false=true from I) Q8
 |bl a=>
  cases G;cases x with
  |non=>cases z;exact SeqAt.EqAt.bool_none a
  |bl b=>cases z;exact SeqAt.EqAt.bool_bool a b
  |int b=>let{t,rfl}:=z;exact SeqAt.EqAt.bool_int a b t
  |str b=>let{t,rfl}:=z;exact SeqAt.EqAt.bool_str a b t
  |_=>exact Ws (show false=true from I) Q8
 |int a=>
  let{t',rfl}:=G;cases x with
  |non=>cases z;exact SeqAt.EqAt.int_none a t'
  |bl b=>cases z;exact SeqAt.EqAt.int_bool a t' b
  |int b=>let{t,rfl}:=z;exact SeqAt.EqAt.int_int a t' b t
  |str b=>let{t,rfl}:=z;exact SeqAt.EqAt.int_str a t' b t
  |_=>exact Ws (show false=true from I) Q8
 |str a=>
  let{t',rfl}:=G;cases x with
  |non=>cases z;exact SeqAt.EqAt.str_none a t'
  |bl b=>cases z;exact SeqAt.EqAt.str_bool a t' b
  |int b=>let{t,rfl}:=z;exact SeqAt.EqAt.str_int a t' b t
  |str b=>let{t,rfl}:=z;exact SeqAt.EqAt.str_str a t' b t
  |_=>exact Ws (show false=true from I) Q8
 |_=>exact Ws (show false=true from O) Q8
def SE(x:V)(u:Sk):Bool:=match u with
 | .none=>RW .non x
 | .bool b=>RW (.bl b) x
 | .int i _=>RW (.int i) x
 | .str z _=>RW (.str z) x
 |_=>false
def Ja(r:RelV y u)(f:ir y=true):SE x u=RW y x:=by
 cases y with
 |non=>cases r;rfl
 |bl b=>cases r;rfl
 |int i=>let{t,rfl}:=r;rfl
 |str z=>let{t,rfl}:=r;rfl
 |_=>exact Ws (show false=true from f) Q8
def Fe{us:Sl}(h:M2 xs us)(f:xs.all ir=true):us.any (SE x)=xs.any λy=>RW y x:=by
 induction h with
 |nil=>rfl
 |cons r t z=>
  rw[List.all_cons,Zf]at f;rw[Xl,Xl,Ja r f.1,z f.2]
def B9(z:RelV x v)(G:ir x=true):∀{xs:Sm}{us:Sl},M2 xs us->xs.all ir=true->∀u∈us,SeqAt.EqAt A s u v (SE x u):=λ{xs us} h=>by
 induction h with
 |nil=>exact λ_ u hu=>by cases hu
 |cons r t I=>
  intro f O hu;rw[List.all_cons,Zf]at f;rcases QS.mp hu with rfl|hu
  .rw[Ja r f.1];exact Jb r z f.1 G
  .exact I f.2 O hu
def inV(x:V)(xs:Sm):Bool:=xs.any λy=>RW y x
inductive rIn(K:JZ)(neg:Bool)(x y:V)(H:Hp)(Q:VK):Prop
 |mk(p xs:_)(_:y= .ref p)(_:(E7 K H p xs\/Px K H p xs))(_:ir x=true)(_:xs.all ir=true)(_:Q (.bl<|if neg then !inV x xs else inV x xs) H)
def FO:Qs X (compareOp .In) (rIn X.K false):=by
 intro W s B H x y v u Q I z O h;let{p,xs,rfl,hq,G,fs,q}:=h;cases O;rcases hq with hq|hq
 .let{its,r,pl,hz}:=I.list hq;refine SeqAt.in_listAt (SE x) pl.isList (λw hw=>B9 z G r fs w<|by simpa using hw) {.bl _,H,I,M,?_};rw[show its.toArray.any (SE x)=its.any (SE x) by simp,Fe r fs];exact q
 .let{its,r,pl,hz}:=I.tuple hq;refine SeqAt.in_tupleAt (SE x) pl (λw hw=>B9 z G r fs w<|by simpa using hw) {.bl _,H,I,M,?_};rw[show its.toArray.any (SE x)=its.any (SE x) by simp,Fe r fs];exact q
def aE:gV X (.builtin "len") (λxs H Q=>∃p ys,xs=[.ref p]/\(E7 X.K H p ys\/Px X.K H p ys)/\Q (.int ys.length) H):=by
 intro W s B H xs us Q I r h;let{p,ys,rfl,hq,q}:=h;let{u,rfl,O}:=pG r;cases O;have U:=xj;rcases hq with hq|hq
 .let{its,G,pl,hz}:=I.list hq;have z:=G.length;exact Calls.call_len_list pl.isList (by simp only[QQ]<;>lia) {.int ys.length,H,I.tok _,{s.toks+1,by rw[QQ,z]},q}
 .let{its,G,pl,hz}:=I.tuple hq;have z:=G.length;exact len_tuple pl (by simp only[QQ]<;>lia) {.int ys.length,H,I.tok _,{s.toks+1,by rw[QQ,z]},q}
def AX:gV X (.type ff) (λxs H Q=>∃p ys,xs=[.ref p]/\(E7 X.K H p ys\/Px X.K H p ys)/\∀l,H l=none->Q (.ref l) (upd H l<|.lst ys)):=by
 intro W s B H xs us Q I r h;let{p,ys,rfl,hq,q}:=h;let{u,rfl,Z}:=pG r;cases Z;have fin:∀(its:Sl),M2 ys its->ys.length<=sizeLine->∀(h':Heap)(z:Nat),(∀b o',s.heap.get? b=some o'->h'.get? b=some o')->
   h'.get? s.heap.objs.size=some {cls:= .type ff,dict:=none,data:= .seq its.toArray z,slots:= #[]}->EP X W B Q (.ref s.heap.objs.size) {s with heap:=h'}:=λits G hz h' z O e=>
  {.ref s.heap.objs.size,_,I.laid (t':=s.toks) O (Q4 _) (show P7 X.prog X.w _ h' _ (.lst ys) from⟨hz,its,z,G,e⟩),M,q _<|I.hok.fresh (Q4 _)}
 rcases hq with hq|hq
 .let{its,G,pl,hz}:=I.list hq;have U:=G.length;let{o,Y,hc,n,hd}:=pl.isList;exact call_list_seq p (.inl M) Y hc hd (λh' z O e=>fin its G hz h' z O e)<|by simp only[QQ]<;>lia
 .let{its,G,pl,hz}:=I.tuple hq;have U:=G.length;let{o,Y,hc,n,hd}:=pl;exact call_list_seq p (.inr M) Y hc hd (λh' z O e=>fin its G hz h' z O e)<|by simp only[QQ]<;>lia
def tyV(K:JZ)(T:String)(x:V)(H:Hp):Prop:=match x with
 | .str _=>T="str"
 | .int _=>T="int"
 | .ref p=>(T=ff/\∃xs,E7 K H p xs)\/(T=oo/\∃o,K.lookup p=some o/\o.cls= .type oo/\o.dict=none)\/
   (T="dict"/\((∃kvs,H p=some (.dK kvs))\/∃kvs,H p=some (.dT kvs)))\/(T="set"/\∃S n,H p=some (.set S n))
 |_=>False
def G8(I:Inv X W B H s)(r:RelV x v)(ty:tyV X.K T x H):
  s.TypeIs v T/\∀a,v= .ref a->∃ob,s.heap.get? a=some ob/\ob.dict=none:=by
 cases x with
 |str z=>
  let{t,rfl}:=r;cases (show T="str" from ty);exact{typeIs_str s z t,λ_ e=>nomatch e}
 |int i=>
  let{t,rfl}:=r;cases (show T="int" from ty);exact{typeIs_int s i t,λ_ e=>nomatch e}
 |ref p=>
  cases r;rcases ty with⟨rfl,xs,hq⟩|⟨rfl,o,hk,hc,hd⟩|⟨rfl,hk⟩|⟨rfl,S,n,hk⟩
  .let{its,_,pl,_}:=I.list hq;refine{pl.isList.typeIs,λa e=>?_};cases e;let{o,n,e,c,hd,_}:=pl;exact⟨o,e,hd⟩
  .refine{{o,I.kIn p o hk,hc},λa e=>?_};cases e;exact{o,I.kIn _ o hk,hd}
  .have z:∃o,s.heap.get? p=some o/\o.ExactDict:=by
    rcases hk with⟨kvs,hk⟩|⟨kvs,hk⟩
    .let{_,_,_,_,o,_,_,e,ex,_}:=I.hok p _ hk;exact⟨o,e,ex⟩
    .let{_,_,_,_,o,_,_,e,ex,_}:=I.hok p _ hk;exact⟨o,e,ex⟩
   let{o,e,ex}:=z;refine{⟨o,e,ex.1⟩,λa e2=>?_};cases e2;exact⟨o,e,ex.2.1⟩
  .let{o,_,_,_,e,ex,_}:=I.hok p _ hk;refine{⟨o,e,ex.1⟩,λa e2=>?_};cases e2;exact⟨o,e,ex.2.1⟩
 |_=>exact False.elim ty
def tBM0(K:JZ)(T:String)(r:V->List V->Hp->VK->Prop)(to:TE):TE:=λB H Q=>to B H λx H1=>tyV K T x H1/\r x [] H1 Q
def tBM(K:JZ)(T:String)(r:V->List V->Hp->VK->Prop)(to:TE)(t:TA):TE:=λB H Q=>to B H λx H1=>tyV K T x H1/\t B H1 λxs H2=>r x xs H2 Q
variable{o:Expr}{es:Tk}{to:TE}{t:TA}{name:Str}{apos cpos:Pos}{id:String}{r:V->List V->Hp->VK->Prop}
def DF(pa:PlainAttrs T)(slot:Slot T name id)(O:typeOf (.builtin id)=pure (.type "method_descriptor"))(Z:SD X id r)(ho:PE X o to)
  (z:attributeBase o name X.env (eval o X.env)=eval o X.env:=by rfl) (G:(apos.endLine==cpos.line)=true:=by rfl):PE X (.Call (.Attribute o name apos) [] [] cpos) (tBM0 X.K T r to):=by
 intro W s B H Q I h;refine wpAny_Call_method0_late z G<|P8 (ho W s B H _ I h) λv s1 U=>?_;let{x,H1,Y,r1,ty,q1}:=U;let{h1,h2}:=G8 Y r1 ty;exact{T,id,pa,slot,O,h1,h2,Calls.callWith_builtin M<|PySem.evalArgs_none (Z W s1 B H1 x [] v [] Q Y r1 .nil q1)}
def d6(pa:PlainAttrs T)(slot:Slot T name id)(Y:typeOf (.builtin id)=pure (.type "method_descriptor"))(hm:SD X id r)(ho:PE X o to)(ha:PA X (e::es) t)
  (G:attributeBase o name X.env (eval o X.env)=eval o X.env:=by rfl)
  (U:((backTo cpos<|starEach (e::es) X.env).all (λx=>!x.1)&&(backToKw cpos<|keywordEach [] X.env).all (λx=>x.1.isSome)
   &&decide ((e::es).length+([]:List Keyword).length+(if([]:List Keyword).isEmpty then 0 else 1)<30))=true:=by rfl)
  (O:(apos.endLine==cpos.line)=true:=by rfl) (hs:starEach (e::es) X.env=(false,eval e X.env)::starEach es X.env:=by rfl) (z:(backTo cpos<|starEach es X.env).any (·.1)=false:=by rfl):
  PE X (.Call (.Attribute o name apos) (e::es) [] cpos) (tBM X.K T r to t):=by
 intro W s B H Q I h;refine wpAny_Call_method_late G U O M<|P8 (ho W s B H _ I h) λv s1 Z=>?_;let{x,H1,I1,r1,ty,q1}:=Z;let{h1,h2}:=G8 I1 r1 ty;refine{T,id,pa,slot,Y,h1,h2,?_};have hA:=ha cpos W s1 B H1 _ I1 q1;rw[hs]at hA⊢;refine Calls.callWith_builtin (by show(false||(backTo cpos<|starEach es X.env).any (·.1))=false;rw[z]<;>rfl)<|Calls.evalArgs_plain ?_;exact P8 hA λus s2 zz=>by let{vs,H2,I2,r2,q2}:=zz;exact hm W s2 B H2 x vs v us Q I2 r1 r2 q2
end
def MtM(X:Cx)(id:String)(r:V->List V->Hp->VK->Prop):Prop:=
 ∀(W:So)(s:L')(B:St)(H:Hp)(x:V)(xs:Sm)(v:Sk)(us:Sl)(Q:VK),Inv X W B H s->RelV x v->M2 xs us->r x xs H Q->
  Bf X (call (.builtin id) (v::us)) (EP X W B Q) X.xe s
def M2.one:∀{x:V}{us:Sl},M2 [x] us->∃u,us=[u]/\RelV x u
 :=λh=>by
  cases h with
  |cons r h=>cases h;exact{_,M,r}
def M2.two:∀{x y:V}{us:Sl},M2 [x,y] us->∃u v,us=[u,v]/\RelV x u/\RelV y v
 :=λh=>by
  cases h with
  |cons r h=>cases h with
   |cons q h=>cases h;exact{_,_,M,r,q}
theorem M2.eraseIdx:∀{xs:Sm}{us:Sl}(i:Nat),M2 xs us->M2 (xs.eraseIdx i) (us.eraseIdx i)
 |_,_,_,.nil=> .nil
 |_,_,0,.cons _ t=>t
 |_,_,i+1,.cons r t=> .cons r (M2.eraseIdx i t)
theorem ug{α:Type}:∀(l:List α)(i:Nat),(l.eraseIdx i).length<=l.length
 | [],_=>Q4 _
 |_::_,0=>ZO _
 |_::r,i+1=>Nat.succ_le_succ (ug r i)
section
variable{l:K'}{ys zs:Sm}
def Inv.lset{f:Array Value->Array Value}(I:Inv X W B H s)(z:H l=some (.lst xs))
  (e:s.heap.get? l=some {cls:= .type ff,data:= .seq its.toArray n}) (hf:f its.toArray=its'.toArray) (G:M2 ys its') (hz:ys.length<=sizeLine):
  Inv X W B (upd H l<|.lst ys) {s with heap:=s.heap.update l (Obj.mapSeq f),toks:=t'}:=by
 have q:=PySem.IsL.update e f;rw[hf]at q;refine I.write (x:=l) (e:=l) (by rw[z];exact trivial) (.inl M) (λb' u hb hu=>(WE s.heap (Obj.mapSeq f)<|Ne.symm hb).trans hu) {_,q} ?_;exact{hz,its',_,G,q}
def Inv.lnew(I:Inv X W B H s)(z:M2 ys its)(hz:ys.length<=sizeLine):
  Inv X W B (upd H s.heap.objs.size<|.lst ys) {s with heap:=s.heap.push {cls:= .type ff,data:= .seq its.toArray},toks:=t'}:=
 I.laid (λ_ _ q=>Wo _ q) (Q4 _) {hz,its,0,z,Wy _ M}
def Inv.fresh(I:Inv X W B H s):H s.heap.objs.size=none:=I.hok.fresh (Q4 _)
def Inv.lstM(I:Inv X W B H s)(G:H l=some (.lst xs)):xs.length<=sizeLine/\∃(its:Sl)(n:Nat),M2 xs its/\xs.length=its.length/\s.heap.get? l=some {cls:= .type ff,data:= .seq its.toArray n}:=by
 let{z,its,n,r,e}:=I.hok l _ G;exact⟨z,its,n,r,r.length,e⟩
def HQ(h:n<=sizeLine):Builtin.List.listTooLong n=false:=by
 unfold Builtin.List.listTooLong;exact Wz ()
end
inductive KF(x:V)(vs:Sm)(H:Hp)(Q:VK):Prop
 |mk(l xs y:_)(_:x= .ref l)(_:vs=[y])(_:H l=some (.lst xs))(_:xs.length<sizeLine)(_:Q .non (upd H l<|.lst<|xs++ [y]))
def fh:MtM X "list.append" KF:=by
 intro W s B H x vs v us Q I O rv h;let{l,xs,y,rfl,rfl,G,hz,q}:=h;cases O;let{u,rfl,U}:=rv.one;let{z,its,n,r,hl,e}:=I.lstM G;refine call_meets F.slot_list_append {_,e,M} F.entry_list_append (F.args_list_append_2 _ _) (PySem.list_append l its.toArray n u<|by rw[QQ];lia) {e,?_};refine{.non,_,I.lset (its':=its++ [u]) G e (by simp) (r.append<|.cons U .nil) ?_,M,q};rw[Q6,Zt];lia
inductive KD(x:V)(vs:Sm)(H:Hp)(Q:VK):Prop
 |mk(l b xs zs:_)(_:x= .ref l)(_:vs=[.ref b])(_:H l=some (.lst xs))(_:H b=some (.lst zs))(_:xs.length+zs.length<=sizeLine)(_:Q .non (upd H l<|.lst<|xs++zs))
def oX:MtM X "list.extend" KD:=by
 intro W s B H x vs v us Q I Y rv h;let{l,b,xs,zs,rfl,rfl,U,Z,hz,q}:=h;cases Y;let{u,rfl,ru}:=rv.one;cases ru;let{z,its,n,r,hl,e}:=I.lstM U;let{z2,G,n2,r2,a0,e2}:=I.lstM Z;have hsz:its.toArray.size+G.toArray.size<=sizeLine:=by rw[QQ,QQ];lia
 have O:¬(!its.toArray.isEmpty&&Builtin.List.listTooLong (its.toArray.size+G.toArray.size))=true:=by
  rw[HQ hsz,Wc];exact Q8
 refine call_meets F.slot_list_extend {_,e,M} F.entry_list_extend (F.args_list_extend_2 _ _)
  (AutoSeq1.list_extend_list_list_0 l its.toArray n b G.toArray n2 O (by rw[QQ];lia) ()) {e,e2,?_}
 refine{.non,_,I.lset (its':=its++G) U e (by simp) (r.append r2) ?_,M,q};rw[Q6];lia
inductive MZ(x:V)(vs:Sm)(H:Hp)(Q:VK):Prop
 |mk(l xs i k y:_)(_:x= .ref l)(_:vs=[.int i])(_:H l=some (.lst xs))(_: -(2^63)<=i)(_:i<2^63)(_:seqIndex? i xs.length=some k)(_:xs[k]?=some y)(_:Q y (upd H l<|.lst<|xs.eraseIdx k))
def BW:MtM X "list.pop" MZ:=by
 intro W s B H x vs v us Q I U rv h;let{l,xs,i,k,y,rfl,rfl,O,h1,h2,hk,hy,q}:=h;cases U;let{u,rfl,Y}:=rv.one;let{t,rfl}:=Y;let{z,its,n,r,hl,e}:=I.lstM O;let{w,hw,G}:=r.get hy;refine call_meets F.slot_list_pop {_,e,M} F.entry_list_pop (F.args_list_pop_2 _ _)
  (MeetsSeq.list_pop_at l its.toArray n i t k w (fitsIndex_both h1 h2) (by rwa[QQ,<-hl]) (by rwa[<-Zg])<|by rw[QQ];lia) {e,?_}
 refine{y,_,I.lset (its':=its.eraseIdx k) O e ?_ (r.eraseIdx k) ?_,G,q}
 .show its.toArray.eraseIdxIfInBounds k=(its.eraseIdx k).toArray;rw[VX]
 .have:=ug xs k;lia
inductive rCat(x y:V)(H:Hp)(Q:VK):Prop
 |mk(l b xs zs:_)(_:x= .ref l)(_:y= .ref b)(_:H l=some (.lst xs))(_:H b=some (.lst zs))(_:xs.length+zs.length<=sizeLine)(_:∀p,H p=none->Q (.ref p) (upd H p<|.lst<|xs++zs))
def HN:Qs X (binaryOp .Add) rCat:=by
 intro W s B H x y v u Q I O U h;let{l,b,xs,zs,rfl,rfl,Y,Z,hz,q}:=h;cases O;cases U;let{z,its,n,r,hl,e}:=I.lstM Y;let{z2,G,n2,r2,a0,e2}:=I.lstM Z;refine PySem.P.add_list e e2 ?_ (by rw[QQ,QQ];lia);have ea:its.toArray++G.toArray=(its++G).toArray:=by simp
 rw[ea];exact{.ref _,_,I.lnew (t':=s.toks) (r.append r2) (by rw[Q6];lia),M,q _ I.fresh}
section
variable{κ:Type}[DecidableEq κ]
noncomputable def aH(kvs:List (κ×V))(k:κ):Option V:=(kvs.find? λkv=>decide (kv.1=k)).map (·.2)
noncomputable def a9(kvs:List (κ×V))(k:κ)(v:V):List (κ×V):=
 if(kvs.any λkv=>decide (kv.1=k))=true then kvs.map (λkv=>if kv.1=k then(kv.1,v)else kv)else kvs++ [(k,v)]
noncomputable def bT(kvs:List (κ×V))(k:κ):List (κ×V):=kvs.filter λkv=>decide (kv.1≠k)
def kD{k:κ}:aH ([]:List (κ×V)) k=none:=rfl
def bD{p:κ×V}{r:List (κ×V)}{k:κ}(e:p.1=k):aH (p::r) k=some p.2:=by simp[aH,XI,e]
def bz{p:κ×V}{r:List (κ×V)}{k:κ}(e:¬p.1=k):aH (p::r) k=aH r k:=by simp[aH,XI,e]
theorem dI(k:κ):∀kvs:List (κ×V),(kvs.any λkv=>decide (kv.1=k))=(aH kvs k).isSome
 | []=>rfl
 |p::r=>by
  rw[Xl];by_cases e:p.1=k
  .simp only[bD e,Wv e,Bool.true_or,Option.isSome_some]
  .rw[bz e,Wz e,Bool.false_or];exact dI k r
theorem Bs(k j:κ)(y:V):∀kvs:List (κ×V),aH (kvs.map λkv=>if kv.1=k then(kv.1,y)else kv) j=(aH kvs j).map λx=>if j=k then y else x
 | []=>rfl
 |p::r=>by
  have G:=Bs k j y r;rw[Z0];by_cases h:p.1=k
  .rw[Wn h];by_cases e:p.1=j
   .rw[bD (p:=(p.1,y)) e,bD e,Vp,Wn (e.symm.trans h)]
   .rw[bz (p:=(p.1,y)) e,bz e,G]
  .rw[Wm h];by_cases e:p.1=j
   .rw[bD (p:=p) e,bD e,Vp,Wm (λz=>h<|e.trans z)]
   .rw[bz (p:=p) e,bz e,G]
theorem zb(k j:κ)(y:V):∀kvs:List (κ×V),aH kvs k=none->aH (kvs++ [(k,y)]) j=if j=k then some y else aH kvs j
 | [],_=>by
  by_cases e:k=j
  .rw[Wn e.symm];exact bD (p:=(k,y)) e
  .rw[Wm (λz=>e z.symm)];exact bz (p:=(k,y)) e
 |p::r,hn=>by
  rw[List.cons_append];have hk:¬p.1=k:=λz=>by rw[bD z]at hn;cases hn
  rw[bz hk]at hn;have G:=zb k j y r hn;by_cases e:p.1=j
  .rw[bD e,bD e,Wm (λz=>hk<|e.trans z)]
  .rw[bz e,bz e,G]
def eI(kvs:List (κ×V))(k j:κ)(y:V):aH (a9 kvs k y) j=if j=k then some y else aH kvs j:=by
 unfold a9;by_cases a:(kvs.any λkv=>decide (kv.1=k))=true
 .rw[Wn a,Bs];rw[dI]at a;by_cases e:j=k
  .let{x,hx}:=Vf.mp a;rw[Wn e,e,hx,Vp,Wn M]
  .rw[Wm e];cases aH kvs j with
   |none=>rfl
   |some x=>rw[Vp,Wm e]
 .rw[Wm a];refine zb k j y kvs ?_;rw[dI]at a;cases q:aH kvs k with
  |none=>rfl
  |some x=>rw[q]at a;exact(a M).elim
def cw(kvs:List (κ×V))(k:κ)(v:V):(a9 kvs k v).length<=kvs.length+1:=by
 unfold a9;split
 .rw[Q0];lia
 .rw[Q6,QW,XJ];lia
def BL{kvs:List (κ×V)}{k:κ}(v:V)(h:aH kvs k=none):a9 kvs k v=kvs++ [(k,v)]:=by
 unfold a9;rw[dI,h];exact Wm (_)
def Qj.isSome_eq{u:Tq}(r:Qj o u):o.isSome=u.isSome:=by
 cases o with
 |none=>cases u with
  |none=>rfl
  |some _=>exact(show False from r).elim
 |some _=>cases u with
  |none=>exact(show False from r).elim
  |some _=>rfl
def KV.val{kvs:List (κ×V)}{vs:List (κ×Value)}(r:KV kvs vs)(k:κ):Qj (aH kvs k) (valueAt vs k):=by
 unfold KV at r
 induction r with
 |nil=>exact WD
 | @cons p q ps qs h t I=>
  let{h1,h2}:=h;by_cases e:p.1=k
  .have G:q.1=k:=h1.symm.trans e;have b:valueAt (q::qs) k=some q.2:=by simp[valueAt,XI,G]
   rwa[bD e,b]
  .have G:¬q.1=k:=λz=>e (h1.trans z);have b:valueAt (q::qs) k=valueAt qs k:=by simp[valueAt,XI,G]
   rw[bz e,b];exact I
def KV.any{kvs:List (κ×V)}{vs:List (κ×Value)}(r:KV kvs vs)(k:κ):(kvs.any λkv=>decide (kv.1=k))=vs.any λkv=>decide (kv.1=k):=by
 unfold KV at r
 induction r with
 |nil=>rfl
 |cons h t z=>rw[Xl,Xl,z,h.1]
def KV.repl{kvs:List (κ×V)}{vs:List (κ×Value)}(r:KV kvs vs)(k:κ)(G:RelV y u):
  KV (kvs.map λkv=>if kv.1=k then(kv.1,y)else kv) (vs.map λkv=>if kv.1=k then(kv.1,u)else kv):=by
 unfold KV at r⊢
 induction r with
 |nil=>exact .nil
 | @cons p q ps qs h t I=>
  rw[Z0,Z0];refine .cons ?_ I;let{h1,h2}:=h;by_cases e:p.1=k
  .rw[Wn e,Wn (h1.symm.trans e)];exact⟨h1,G⟩
  .rw[Wm e,Wm (λz=>e<|h1.trans z)];exact⟨h1,h2⟩
def KV.put{kvs:List (κ×V)}{vs:List (κ×Value)}(r:KV kvs vs)(k:κ)(z:RelV y u):KV (a9 kvs k y) (stored vs k u):=by
 unfold a9 stored;rw[r.any k];by_cases e:(vs.any λkv=>decide (kv.1=k))=true
 .rw[Wn e,Wn e];exact r.repl k z
 .rw[Wm e,Wm e];exact Paired.snoc r ⟨M,z⟩
def KV.drop{kvs:List (κ×V)}{vs:List (κ×Value)}(r:KV kvs vs)(k:κ):KV (bT kvs k) (without vs k):=by
 unfold KV at r⊢;unfold bT without
 induction r with
 |nil=>exact .nil
 | @cons p q ps qs h t G=>
  let{h1,h2}:=h;rw[Xn,Xn];by_cases e:p.1=k
  .have a:¬decide (p.1≠k)=true:=by simp[e]
   have b:¬decide (q.1≠k)=true:=by simp[h1.symm.trans e]
   rwa[Wm a,Wm b]
  .have I:¬q.1=k:=λz=>e (h1.trans z);have a:decide (p.1≠k)=true:=by simp[e]
   have b:decide (q.1≠k)=true:=by simp[I]
   rw[Wn a,Wn b];exact .cons ⟨h1,h2⟩ G
def KV.length{kvs:List (κ×V)}{vs:List (κ×Value)}(r:KV kvs vs):kvs.length=vs.length:=Paired.length r
def Co(kvs:List (κ×V))(k:κ):(bT kvs k).length<=kvs.length:=QX _ _
end
def sk{k:Key}(r:RelV (kV k) u):(a7 P w).is k u=true:=by
 cases k with
 |inl i=>let{t,e}:=(show ∃t,u=Value.int i t from r);subst e;exact B7 P w i t
 |inr x=>let{t,e}:=(show ∃t,u=Value.str x t from r);subst e;exact B6 P w x t
theorem zD{P:Sr}{w:Ss}:∀{ks:List Key}{us:Sl},M2 (ks.map kV) us->ItemsAre (a7 P w) ks us
 | [],_,r=>by rw[VJ]at r;cases r;exact .nil
 |k::ks,_,r=>by
  rw[Z0]at r;cases r with
  |cons h t=>exact .cons (sk h)<|zD t
abbrev KT(H:Hp):List (List Key×V)->List (List Key×Addr×Value)->Prop:=Paired λp q=>p.1=q.1/\H q.2.1=some (.tup<|p.1.map kV)/\RelV p.2 q.2.2
abbrev _root_.Tx:=List (List Key×Addr×Value)
def KT.val{kvs:Tn}{xs:Tx}(r:KT H kvs xs)(k:List Key):Qj (aH kvs k) ((atKey xs k).map (·.2)):=by
 induction r with
 |nil=>exact WD
 | @cons p q ps qs h t I=>
  let{h1,_,h2}:=h;by_cases e:p.1=k
  .have G:q.1=k:=h1.symm.trans e;have b:atKey (q::qs) k=some q.2:=by simp[atKey,XI,G]
   rwa[bD e,b]
  .have G:¬q.1=k:=λz=>e (h1.trans z);have b:atKey (q::qs) k=atKey qs k:=by simp[atKey,XI,G]
   rw[bz e,b];exact I
def KT.repl{kvs:Tn}{xs:Tx}(r:KT H kvs xs)(k:List Key)(G:RelV y u):
  KT H (kvs.map λkv=>if kv.1=k then(kv.1,y)else kv) (xs.map<|putAt k u):=by
 induction r with
 |nil=>exact .nil
 | @cons p q ps qs h t I=>
  rw[Z0,Z0];refine .cons ?_ I;let{h1,h2,O}:=h;unfold putAt;by_cases e:p.1=k
  .rw[Wn e,Wn (h1.symm.trans e)];exact⟨h1,h2,G⟩
  .rw[Wm e,Wm (λz=>e<|h1.trans z)];exact⟨h1,h2,O⟩
def KT.put{kvs:Tn}{xs:Tx}(r:KT H kvs xs)(k:List Key)(hb:H b=some (.tup<|k.map kV))(z:RelV y u):
  KT H (a9 kvs k y) (storedH xs k b u):=by
 have e:(kvs.any λkv=>decide (kv.1=k))=(atKey xs k).isSome:=by
  rw[dI,(r.val k).isSome_eq,VL]
 unfold a9 storedH;rw[e];by_cases q:(atKey xs k).isSome=true
 .rw[Wn q,Wn q];exact r.repl k z
 .rw[Wm q,Wm q];exact Paired.snoc r ⟨M,hb,z⟩
def KT.keeps{kvs:Tn}{xs:Tx}(r:KT H kvs xs)(G:∀b ys,H b=some (.tup ys)->H' b=some (.tup ys)):KT H' kvs xs:=
 Paired.mapP r λ_ _ z=>{z.1,G _ _ z.2.1,z.2.2}
section
variable{h:Heap}
def L4{u:HO}(ok:QH P w H h)(e:Rd H a u):P7 P w H h a u:=e.ok ok
def xz(ok:QH P w H h)(e:Rd H a (.dK kvs)):kvs.length<=sizeLine/\(a==sysModules)=false/\∃vs,KV kvs vs/\h.DictOf (a7 P w) a vs:=
 show P7 P w H h a (.dK kvs) from L4 ok e
def kO(ok:QH P w H h)(e:H a=some (.dK kvs)):kvs.length<=sizeLine/\(a==sysModules)=false/\∃vs,KV kvs vs/\h.DictOf (a7 P w) a vs:=xz ok (.inl e)
def xk{ks:List Key}(ok:QH P w H h)(e:H a=some (.tup<|ks.map kV)):(tupleKind<|a7 P w).is h ks a:=by
 let{_,its,r,o,h1,h2,n,z}:=(show P7 P w H h a (.tup<|ks.map kV) from ok a _ e);exact{o,its.toArray,n,h1,h2,z,by simpa using zD r}
def Cl{kvs:Tn}(ok:QH P w H h)(e:Rd H a (.dT kvs)):kvs.length<=sizeLine/\(a==sysModules)=false/\
  ∃xs,KT H kvs xs/\h.DictOfH (tupleKind<|a7 P w) a xs:=by
 let{z,y,xs,r,o,es,ep,h1,h2,G,I,O}:=(show P7 P w H h a (.dT kvs) from L4 ok e);refine{z,y,xs,r,o,es,ep,h1,h2,G,I,λx hx=>?_,O};have all:∀{l:Tn}{m:Tx},KT H l m->∀x∈m,(tupleKind<|a7 P w).is h x.1 x.2.1:=by
  intro l m q
  induction q with
  |nil=>intro x hx;exact nomatch hx
  | @cons p q ps qs hq t U=>
   intro x hx;rcases QS.mp hx with e|hx
   .subst e;exact xk ok<|by rw[<-hq.1];exact hq.2.1
   .exact U x hx
 exact all r x hx
def O9{kvs:Tn}(ok:QH P w H h)(e:H a=some (.dT kvs)):kvs.length<=sizeLine/\(a==sysModules)=false/\
  ∃xs,KT H kvs xs/\h.DictOfH (tupleKind<|a7 P w) a xs:=Cl ok (.inl e)
end
def QA(H:Hp)(a:K')(y:V)(r:Tg):Prop:=
 (∃kvs k,Rd H a (.dK kvs)/\y=kV k/\r=aH kvs k)\/∃kvs k b,Rd H a (.dT kvs)/\y= .ref b/\H b=some (.tup<|k.map kV)/\r=aH kvs k
def Qw(H:Hp)(a:K')(y v:V)(H':Hp):Prop:=
 (∃kvs k,H a=some (.dK kvs)/\y=kV k/\kvs.length<sizeLine/\H'=upd H a (.dK<|a9 kvs k v))\/
 ∃kvs k b,H a=some (.dT kvs)/\y= .ref b/\H b=some (.tup<|k.map kV)/\kvs.length<sizeLine/\H'=upd H a (.dT<|a9 kvs k v)
def QA.k{k:Key}(e:H a=some (.dK kvs)):QA H a (kV k) (aH kvs k):= .inl {kvs,k,.inl e,M,M}
def Qw.k{k:Key}{v:V}(e:H a=some (.dK kvs))(hl:kvs.length<sizeLine):Qw H a (kV k) v (upd H a<|.dK<|a9 kvs k v):= .inl ⟨kvs,k,e,M,hl,M⟩
section
variable{v:V}
def Inv.big(I:Inv X W B H s):sysModules<s.heap.objs.size:=by
 have h:mainGlobals<s.heap.objs.size:=(I.mod.glob.keeps I.bk).lt;exact Nat.lt_trans (_) h
def Gx(hu:A.units+1<cLine)(I:Inv X W B H s)(g:QA H a y (some v))(Z:RelV y u)(h:∀w' s',Inv X W B H s'->RelV v w'->Q w' s'):
  wpAny (model X.prog X.w) A (getItem (.ref a) u) Q E s:=by
 rcases g with⟨kvs,k,e,U,l⟩|⟨kvs,k,b,e,U,eb,l⟩
 .subst U;let{z,hd,vs,G,dd}:=xz I.hok e;let{w',hw,O}:=Qj.some_of (v:=v) (o:=valueAt vs k) (by rw[l];exact G.val k);exact wpAny_getItem_of (sk Z) dd.mapOf hw<|h w' _ (I.tok _) O
 .subst U;cases (show u=Value.ref b from Z);let{z,hd,xs,G,dd}:=Cl I.hok e;let{w',hw,O}:=Qj.some_of (v:=v) (o:=(atKey xs k).map (·.2)) (by rw[l];exact G.val k);let{p,hp,Y}:=Xc.mp hw;refine wpAny_getItem_heap (tupleKind_room_in1 hu) (xk I.hok eb) dd hp ?_;rw[Y];exact h w' _ (I.tok _) O
def d_in(hu:A.units+1<cLine)(I:Inv X W B H s)(g:QA H a y o)(U:RelV y u)(h:∀s',Inv X W B H s'->Q (.bool o.isSome) s'):
  wpAny (model X.prog X.w) A (compareOp .In u<|.ref a) Q E s:=by
 rcases g with⟨kvs,k,e,O,l⟩|⟨kvs,k,b,e,O,Y,l⟩
 .subst O;let{z,hd,vs,G,dd}:=xz I.hok e;refine wpAny_in_of (sk U) hd dd.mapOf ?_;rw[<-(G.val k).isSome_eq,<-l];exact h _<|I.tok _
 .subst O;cases (show u=Value.ref b from U);let{z,hd,xs,G,dd}:=Cl I.hok e;refine wpAny_in_heap (tupleKind_room_in1 hu) (xk I.hok Y) hd dd ?_;have q:=(G.val k).isSome_eq;rw[VL]at q;rw[<-q,<-l];exact h _<|I.tok _
def Ll(hu:A.units+1<cLine)(I:Inv X W B H s)(g:QA H a y o)(U:RelV y u)(h:∀s',Inv X W B H s'->Q (.bool<|!o.isSome) s'):
  wpAny (model X.prog X.w) A (compareOp .NotIn u<|.ref a) Q E s:=by
 rcases g with⟨kvs,k,e,O,l⟩|⟨kvs,k,b,e,O,Y,l⟩
 .subst O;let{z,hd,vs,G,dd}:=xz I.hok e;refine wpAny_notIn_of (sk U) hd dd.mapOf ?_;rw[<-(G.val k).isSome_eq,<-l];exact h _<|I.tok _
 .subst O;cases (show u=Value.ref b from U);let{z,hd,xs,G,dd}:=Cl I.hok e;refine wpAny_notIn_heap (tupleKind_room_in1 hu) (xk I.hok Y) hd dd ?_;have q:=(G.val k).isSome_eq;rw[VL]at q;rw[<-q,<-l];exact h _<|I.tok _
def sK{ob:HO}(I:Inv X W B H s)(G:Mut (H a))(hs:Heap.SameBut a s.heap h')(he:∃q,h'.get? a=some q)(new:P7 X.prog X.w (upd H a ob) h' a ob):
  Inv X W B (upd H a ob) {s with heap:=h',toks:=t'}:=
 I.write (x:=a) (e:=a) G (.inl M) (λb q hb z=>(hs.2 b hb).trans z) he new
def AV(z:kvs.length<=sizeLine)(hd:(a==sysModules)=false)(G:KV kvs vs)(dd:h'.DictOf (a7 P w) a vs):
  P7 P w H' h' a (.dK kvs):=⟨z,hd,vs,G,dd⟩
def Gw{Q:Tr}(hu:A.units+1<cLine)(I:Inv X W B H s)(g:Qw H a y v H')(Y:RelV y u)(rv:RelV v r)(h:∀s',Inv X W B H' s'->Q Unit.unit s'):
  wpAny (model X.prog X.w) A (setItem (.ref a) u r) Q E s:=by
 rcases g with⟨kvs,k,e,O,l,U⟩|⟨kvs,k,b,e,O,Z,l,U⟩
 .subst O U;let{z,hd,vs,G,dd}:=kO I.hok e;have hz:vs.length<=sizeLine:=by rwa[<-G.length]
  have hl:(a9 kvs k v).length<=sizeLine:=by have:=cw kvs k v;lia
  refine wpAny_setItem_pairs (hsz:=hz) (sk Y) dd λh' dd' hs=>h _ ?_;have he:∃q,h'.get? a=some q:=let⟨q,_,_,hq,_⟩:=dd';⟨q,hq⟩
  exact sK I (by rw[e];exact WD) hs he<|AV hl hd (G.put k rv) dd'
 .subst O U;cases (show u=Value.ref b from Y);let{z,hd,xs,G,dd}:=O9 I.hok e;have hz:xs.length<=sizeLine:=by rwa[<-Paired.length G]
  have hl:(a9 kvs k v).length<=sizeLine:=by have:=cw kvs k v;lia
  refine wpAny_setItem_heap (hsz:=hz) (tupleKind_room_in1 hu) (xk I.hok Z) dd λh' dd' hs=>h _ ?_;let{q,es,ep,hq,h2,h3,h4,_,h5}:=dd';refine sK I (by rw[e];exact WD) hs ⟨q,hq⟩ {hl,hd,_,(G.put k Z rv).keeps λc ys ec=>?_,q,es,ep,hq,h2,h3,h4,h5};rwa[af (c7 ec e<|λz=>nomatch z)]
end
section
variable{k:Key}
def Mm{v:V}{more:Sl}(I:Inv X W B H s)(e:H a=some (.dK kvs))(O:RelV (kV k) u)(l:aH kvs k=some v)(Y:more=[]\/∃x,more=[x])
  (h:∀w' s',Inv X W B (upd H a<|.dK<|bT kvs k) s'->RelV v w'->Q w' s'):wpAny (model X.prog X.w) A (call (.builtin "dict.pop") (.ref a::u::more)) Q E s:=by
 let{z,hd,vs,G,dd}:=kO I.hok e;let{w',hw,U}:=Qj.some_of (v:=v) (o:=valueAt vs k) (by rw[<-l];exact G.val k);have hp:(keyPart u).isSome=true:=by
  cases k with
  |inl i=>let{t,q}:=(show ∃t,u=Value.int i t from O);subst q;rfl
  |inr x=>let{t,q}:=(show ∃t,u=Value.str x t from O);subst q;rfl
 have ha:argsOk "dict.pop" {.ref a::u::more,[]}:=by
  rcases Y with q|⟨x,q⟩
  .subst q;exact PySem.F.args_dict_pop_2 _ _
  .subst q;exact PySem.F.args_dict_pop_3 _ _ _
 refine WX Xv dd.typeIs PySem.F.entry_dict_pop ha (meets_dict_pop_there (a7 X.prog X.w) a (sk O) more Y hp)
  {vs,w',dd,by rwa[<-G.length],hw,λh' dd' hs=>h w' _ ?_ U}
 have he:∃q,h'.get? a=some q:=let⟨q,_,_,hq,_⟩:=dd';⟨q,hq⟩
 exact sK I (by rw[e];exact WD) hs he<|AV (Z4 (Co kvs k) z) hd (G.drop k) dd'
def NQ(I:Inv X W B H s)(e:H a=some (.dK kvs))(G:RelV (kV k) u)(l:aH kvs k=none)(h:∀s',Inv X W B H s'->Q r s'):
  wpAny (model X.prog X.w) A (call (.builtin "dict.pop") [.ref a,u,r]) Q E s:=by
 let{z,hd,vs,O,dd}:=kO I.hok e;have U:valueAt vs k=none:=Qj.none_of (by rw[<-l];exact O.val k);have hp:(keyPart u).isSome=true:=by
  cases k with
  |inl i=>let{t,q}:=(show ∃t,u=Value.int i t from G);subst q;rfl
  |inr x=>let{t,q}:=(show ∃t,u=Value.str x t from G);subst q;rfl
 exact WX Xv dd.typeIs PySem.F.entry_dict_pop (PySem.F.args_dict_pop_3 _ _ _) (meets_dict_pop_default (a7 X.prog X.w) a (sk G) hd hp r) {vs,dd,U,h _<|I.tok _}
def Pa(I:Inv X W B H s)(e:Rd H a (.dK kvs))(h:∀t s',Inv X W B H s'->Q (.int kvs.length t) s'):wpAny (model X.prog X.w) A (call (.builtin "len") [.ref a]) Q E s:=by
 let{z,hd,vs,G,dd}:=xz I.hok e;refine call_len_dict hd dd (by rw[<-G.length];rw[sizeLine_eq]at z;lia) ?_;rw[<-G.length];exact h _ _<|I.tok _
end
def NoSl(i:Expr):Prop:=∀ov iv,subscripted i false ov iv=operate [ov,iv] (getItem ov iv)
def Ks{prog:Sr}{env:Env}{value z:Expr}{id:String} 
  (hl:typeLookup (.type T) "__getitem__"=pure (some<|.builtin id)) (hs:NoSl z)
  (h:wpAny (model prog w) A (eval value env) (λo s₁=>wpAny (model prog w) A (eval z env) (λi s₂=>s₂.TypeIs o T/\wpAny (model prog w) A (getItem o i) Q E s₂) E s₁) E s):
  wpAny (model prog w) A (eval (.Subscript value z pos) env) Q E s:=by
 refine Subscript_<|WJ h (λo s₁ h₁=>WJ h₁ (λi s₂ G=>?_) λ_ _ x=>x) λ_ _ x=>x;let{U,G}:=G;unfold subscriptTail;refine Wp ?_;rw[getitemInPython_of_ne U.not_modules];refine Wp<|wpAny_specialOf U hl ?_;have fin:wpAny (model prog w) A (subscripted z false o i) (λr I=>wpAny (model prog w) A (letTemporaryGo value o r>>=λ_=>pure r) Q E I) E s₂:=by
  rw[hs o i];exact wpAny_operating (WJ G (λr I O=>Wp<|wpAny_letTemporaryGo<|Wx O) λ_ _ x=>x)
 first
  |exact Wx<|Wp fin
  |exact Wp<|Wx (Wp fin)
  |exact Wp fin
def Cq(I:Inv X W B H s)(g:QA H a y o):s.TypeIs (.ref a) "dict":=by
 rcases g with⟨kvs,k,e,_,_⟩|⟨kvs,k,b,e,_,_,_⟩
 .let{_,_,vs,_,dd}:=xz I.hok e;exact dd.typeIs
 .let{_,_,xs,_,dd}:=Cl I.hok e;exact dd.typeIs
inductive MO(Q:VK)(x y:V)(H2:Hp):Prop
 |mk(a v:_)(_:x= .ref a)(_:QA H2 a y (some v))(_:Q v H2)
def Ov(td ty:TE):TE:=λB H Q=>td B H λx H1=>ty B H1 λy H2=>MO Q x y H2
inductive Ou(Q:VK)(y x:V)(H2:Hp):Prop
 |mk(a o:_)(_:x= .ref a)(_:QA H2 a y o)(_:Q (.bl o.isSome) H2)
def tDIn(ty td:TE):TE:=λB H Q=>ty B H λy H1=>td B H1 λx H2=>Ou Q y x H2
def Kq(ty td:TE):TE:=λB H Q=>ty B H λy H1=>td B H1 λx H2=>∃a o,x= .ref a/\QA H2 a y o/\Q (.bl<|!o.isSome) H2
inductive MW(D:Qo)(B:St)(v x y:V)(H3:Hp):Prop
 |mk(a H4:_)(_:x= .ref a)(_:Qw H3 a y v H4)(_:D.nx B H4)
def OB(td ty tv:TE):TS:=λD B H=>tv B H λv H1=>td B H1 λx H2=>ty B H2 λy H3=>MW D B v x y H3
section
variable{o i value:Expr}{pos' tpos:Pos}{td ty tv:TE}
def oV(hu:X.A.units+1<cLine)(U:PE X o td)(hi:PE X i ty)(hs:NoSl i):PE X (.Subscript o i pos) (Ov td ty):=by
 intro W s B H Q I h;refine Ks PySem.F.slot_dict_getitem.lookup hs<|P8 (U W s B H _ I h) λu s1 zz=>?_;let{x,H1,Y,Z,q1}:=zz;refine P8 (hi W s1 B H1 _ Y q1) λiv s2 z=>?_;let{y,H2,O,ry,a,v,ex,g,q2}:=z;subst ex;obtain rfl:u=Value.ref a:=Z;exact{Cq O g,Gx hu O g ry λw' s3 I3 G=>⟨v,H2,I3,G,q2⟩}
def HL(hu:X.A.units+1<cLine)(hi:PE X i ty)(G:PE X o td):PC X .In i o (tDIn ty td):=by
 intro W s B H Q I h;refine P8 (hi W s B H _ I h) λiv s1 zz=>?_;let{y,H1,O,U,Y}:=zz;refine P8 (G W s1 B H1 _ O Y) λu s2 z=>?_;let{x,H2,Z,rx,a,ov,ex,g,q2}:=z;subst ex;obtain rfl:u=Value.ref a:=rx;exact d_in hu Z g U λs3 I3=>{.bl ov.isSome,H2,I3,M,q2}
def zn(hu:X.A.units+1<cLine)(hi:PE X i ty)(G:PE X o td):PC X .NotIn i o (Kq ty td):=by
 intro W s B H Q I h;refine P8 (hi W s B H _ I h) λiv s1 zz=>?_;let{y,H1,O,U,Y}:=zz;refine P8 (G W s1 B H1 _ O Y) λu s2 z=>?_;let{x,H2,Z,rx,a,ov,ex,g,q2}:=z;subst ex;obtain rfl:u=Value.ref a:=rx;exact Ll hu Z g U λs3 I3=>{.bl<|!ov.isSome,H2,I3,M,q2}
def jy(hu:X.A.units+1<cLine)(G:PE X o td)(hi:PE X i ty)(O:PE X value tv)(hs:swapsWith value (some<|.Subscript o i pos') pos.line X.env=pure false):
  PS X (.Assign [.Subscript o i pos'] value pos) (OB td ty tv):=by
 intro W s B H D I h;refine wpAny_Assign_Subscript (P8 (O W s B H _ I h) λr s1 zz=>?_) hs;let{v,H1,U,rv,Y}:=zz;refine P8 (G W s1 B H1 _ U Y) λu s2 zz=>?_;let{x,H2,Z,rx,q2}:=zz;refine P8 (hi W s2 B H2 _ Z q2) λiv s3 z=>?_;let{y,H3,I3,ry,a,H4,ex,g,q3}:=z;subst ex;obtain rfl:u=Value.ref a:=rx;exact Gw hu I3 g ry rv λs4 I4=>⟨B,H4,I4,q3⟩
end
def sJ(h:Heap)(hb:sysModules<h.objs.size):P7 P w H (h.push {cls:= .type "dict",data:= .dict #[]}) h.objs.size (.dK []):=
 {QT _,WC.mpr<|Ne.symm<|Zb hb,[],.nil,Heap.DictOf.new h}
def MM:TE:=λ_ H Q=>∀p,H p=none->Q (.ref p) (upd H p<|.dK [])
def i7:PE X (.Dict [] [] pos) MM:=λW s B H Q I h=>
 wpAny_Dict_empty {.ref s.heap.objs.size,_,I.laid (a:=s.heap.objs.size) (o:= .dK []) (t':=s.toks) (λ_ _ q=>Wo _ q) (Q4 _)<|sJ s.heap I.big,M,h _<|I.hok.fresh (Q4 _)}
end L2
namespace Att
open PySem PySem.W PySem.Calls PyProof.Rows
variable{h:Heap}{n:Nat}{l:OpenLaw}{P:Params}{YP:World->Heap->Prop}
def vt:∀(ns:R')(vs:Sl),WellAll P h vs (ns.map WData.int)->IntsAre vs ns:=by
 intro ns
 induction ns with
 |nil=>
  intro vs w;rw[VJ]at w;cases w;exact .nil
 |cons n ns z=>
  intro vs w;rw[Z0]at w;cases w with
  |cons a b=>
   cases a;exact .cons _ _<|z _ b
def FC(hn:l.most=some n){args:List WData}{z:Sl}
  (G:l.row.toRowW.claim.pre args=true) (Z:WellAll P h z args):
  ∃a vs ns,z=[Value.ref a]/\args=[WData.list (ns.map WData.int)]/\h.get? a=some {cls:= .type ff,data:= .seq vs.toArray}/\IntsAre vs ns/\ns.length<=n:=by
 have a0:WShape.hasAll [] args [.list .int]=true:=(pre_splitW G).1;have hc:l.pre.holds [] {args:=args}=true:=(pre_splitW G).2;let{d,r,rfl,h1,h2}:=hasAllW_cons a0;obtain rfl:=hasAllW_nil h2;let{xs,rfl,h3}:=hasW_list h1;let{ns,rfl}:=items_int h3;have I:ns.length<=n:=by
  unfold OpenLaw.pre at hc;have U:(WTm.not<|.lt (.lit<|.int (n:Int))<|.len<|.arg 0).holds [] {args:=[.list (ns.map .int)]}=true:=by
   have U:=(holds_andW hc).1;rw[hn]at U;exact U
  have Y:=condW_of U (w_not<|w_lt w_lit<|w_len_list<|w_arg M);rw[Q0]at Y;refine Nat.le_of_not_lt λq=>?_;have q':(n:Int)<((ns.length:Nat):Int):=()
  first
   |(rw[Wv q']at Y;exact Ws Y (_))
   |(simp at Y;lia)
 cases Z with
 |cons w1 w2=>
  cases w2;cases w1 with
  |list ho O=>exact{_,_,ns,M,M,ho,vt ns _ O,I}
def FI(l:OpenLaw)(args:List WData):l.row.toRowW.claim.post args (.bool true) args=true:=
 postW_of (r:=l.row.toRowW) (X:=(true==true))
  (show WShape.has [] (.bool true) .bool=true by first|rfl|decide|simp[WShape.has,WShape.arms,WShape.armsAll])
  (show(WTm.eq .res<|.lit<|.bool true).value [] {args:=args,res:=some (.bool true),after:=args}=some (.bool<|true==true) from w_eq_bool (w_res M) w_lit) M
def attach_call{q:Sr}{loose:Sx}{XP:(Str->Option Value)->Heap->Prop}{d:DefRec}
  (hn:l.most=some n) (a1:d.params.defaults=[])
  (call:∀(w:Ss)(s₀ s₁:L')(mg mb:Sz)(O:K')(o:Obj)(pm cd z:Sk)(a:K')(vs:Sl)(ns:R'),
   Ground q loose [] XP w s₀ mg mb s₁.heap->YP w s₁.heap->
   s₁.heap.get? O=some o->o.data= .func (docDef d.name d.params d.body d.scope pm cd z)->s₁.heap.CodeRec cd d.name->mg d.name=some (.ref O)->
   s₁.heap.get? a=some {cls:= .type ff,data:= .seq vs.toArray}->IntsAre vs ns->ns.length<=n->s₁.gens= #[]->
   codeAny (model l.prog w) callerA (.call (.ref O) {[.ref a],[]}) (λr s'=>r= .ok (.ret<|.bool true)/\OldK s₁.heap s'.heap/\s'.os=s₁.os/\AllBare s'.gens) s₁):
  WalkO q loose XP YP l.row.toRowW d [] (λf vs=>PySem.call f vs):=by
 intro w s₀ s₁ mg mb G Y O o pm cd z dV kV ho hd a2 hD a3 hg args a5 as U a6 a8 a4 aa;obtain rfl:dV= .none:=Dflts.none hD a1;obtain rfl:kV= .none:=Dflts.noKw hD;let{a,vs,ns,rfl,rfl,Z,I,a0}:=FC hn U a4;refine enter_call<|codeAny_mono (call w s₀ s₁ mg mb O o pm cd z a vs ns G Y ho (fd_plain hd) a2 a3 Z I a0 hg) λr s' hq=>?_;let{rfl,h2,h3,h4}:=hq;exact{.inl {.bool true,.bool true,[],M,λ_=>M,.bool true,FI l _,λ_=>{WK,λ_ hm=>(nomatch hm)}},h2,h3,h4}
end Att
namespace L2
open PySem PySem.Spec PyProof.Rows
variable{a f:K'}{X:Cx}{fd:Tf}{base:Heap}{H:Hp}{ns:R'}{N:Sx}{vs:Sl}{n:Nat}{P:Sr}{A Jz c:Prop}{K:JZ}{sp:Sp}{B:St}{st:Stmt}{qual x:Str}{nx:To}{g:TG}{tb:TS}{Φ:TS->Prop}{F:TS->TS->TS}{rt:VK}{w:Ss}{YP:World->Heap->Prop}
def Fp(h:IntsAre vs ns):M2 (ns.map V.int) vs:=by
 induction h with
 |nil=>exact .nil
 |cons n t h z=>exact .cons ⟨t,M⟩ z
def N9(H:Hp):Prop:=∀b,H b=none\/∃o xs,H b=some (.frz o<|.lst xs)
def Ix{mg mb:Sz}{CX:CXT}{k:Nat}{fa:K'}{s₁:L'} 
  (KX:K.In s₁.heap) (Y:s₁.heap.Ns mainGlobals mg) (hb:s₁.heap.Ns builtinsNs mb) (a3:∀x:Str,x≠"__name__"->mb x=bootBuiltins x) (Z:s₁.heap.NoLimit) (hg:s₁.gens= #[])
  (ha:s₁.heap.get? a=some {cls:= .type ff,data:= .seq vs.toArray}) (hi:IntsAre vs ns) (hl:ns.length<=sizeLine) (hr:PP k callerA)
  (F:∀base:Heap,K.In base->base.Ns mainGlobals mg->Cy P w K mg base CX k fa fd [x] sp) (U:∀(s:L')(u:Sk),BindsTo s fd {[u],[]} [(x,u)])
  (a4:∀H:Hp,N9 H->E7 K H a (ns.map V.int)->sp [.ref a] H (λv _=>v= .bl true) λ_ _ _=>False)
  (a5:∀H e s',CX [] H s₁ (λ_ _ _=>False) e s'->False):
  codeAny (model P w) callerA (.call (.ref fa) {[.ref a],[]}) (λr s'=>r= .ok (.ret<|.bool true)/\OldK s₁.heap s'.heap/\s'.os=s₁.os/\AllBare s'.gens) s₁:=by
 have rv:=Fp hi;have a0:=hi.length;have O:∀H:Hp,N9 H->E7 K H a (ns.map V.int)->QH P w H s₁.heap->(∀b,H b≠none->b=a)->(H a≠none->K.lookup a=none)->
   codeAny (model P w) callerA (.call (.ref fa) {[.ref a],[]}) (λr s'=>r= .ok (.ret<|.bool true)/\OldK s₁.heap s'.heap/\s'.os=s₁.os/\AllBare s'.gens) s₁:=by
  intro H hO hS hok hA hK;have G:∀{b:K'}{o:Obj},s₁.heap.get? b=some o->H b=none->(AO s₁.heap H).get? b=some o:=λe n=>IG e n;have a6:∀{b:K'}{o:Obj}{es:Array DictEntry}{ep:Nat},s₁.heap.get? b=some o->o.data= .dict es ep->H b=none:=λ{b o es ep} e d=>by
   cases q:H b with
   |none=>rfl
   |some u=>
    have e':b=a:=hA b (by rw[q];simp);subst e';rw[ha]at e;cases e;have d':Data.seq vs.toArray _=Data.dict es ep:=d;cases d'
  have I:∀{b:K'}{m:Sz},s₁.heap.Ns b m->(AO s₁.heap H).Ns b m:=λ{b m} ⟨o,es,ep,e,d,r⟩=>{o,es,ep,G e<|a6 e d,d,r};have a1:K.In (AO s₁.heap H):=λb o e=>G (KX b o e) (by
   cases q:H b with
   |none=>rfl
   |some u=>
    have e':b=a:=hA b (by rw[q];simp);subst e';rw[hK (by rw[q];simp)]at e;cases e)
  have hM:Mod K mg (AO s₁.heap H):={a1,I Y,{mb,I hb,a3},let⟨mc,h1,h2⟩:=Z;{mc,I h1,h2}};have e0:Rb P w K mg (AO s₁.heap H) callerA [] s₁ H:={M,hM,λb o e=>KO e,ZA<|Gm _ _,trivial,λb hb=>Ws (show b∈([]:Su) from hb) (by simp),hok,.of_eq hg};refine codeAny_mono ((F _ a1<|I Y).run callerA [] s₁ H {[.ref a],[]} [.ref a] [.ref a] _ _ hr e0 (U s₁<|.ref a) (.cons M .nil)<|a4 H hO hS) λr s' h=>?_;cases r with
  |error e=>exact(a5 H e s' h).elim
  |ok fl=>
   cases fl with
   |next=>exact False.elim h
   |brk=>exact False.elim h
   |cont=>exact False.elim h
   |ret u=>
    let{v,H',os,bare,un,a2,r',q}:=h;have q':v= .bl true:=q;subst q';obtain rfl:u=Value.bool true:=r';refine{M,OldK.of_keep λb o e=>?_,os,bare};cases q:H b with
    |none=>exact un.keep b o e q (by intro z;exact Ws (show b∈([]:Su) from z)<|by simp)<|by simp
    |some u=>
     rcases hO b with z|⟨ob,xs,z⟩
     .rw[q]at z;cases z
     .have z2:=un.frzs b ob _ z;let{e1,_}:=hok b _ z;let{e2,_}:=a2 b _ z2;rw[e]at e1;cases e1;exact e2
 cases hk:K.lookup a with
 |some o=>
  have e:=KX a o hk;rw[ha]at e;cases e;refine O (λ_=>none) (λ_=> .inl M) (.inr {_,vs.toArray,_,hk,M,M,M,by rwa[QQ,a0],by simpa using rv}) (λb u z=>by have z':(none:Option HO)=some u:=z;cases z') (λb z=>Ws M z) λz=>Ws M z
 |none=>
  refine O (λb=>if b=a then some (.frz {cls:= .type ff,data:= .seq vs.toArray} (.lst<|ns.map V.int))else none) (λb=>?_) (.inl<|.inr {{cls:= .type ff,data:= .seq vs.toArray},Wn M}) (λb u z=>?_) (λb z=>?_) λ_=>hk
  .by_cases hb:b=a
   .exact .inr {_,_,Wn hb}
   .exact .inl<|Wm hb
  .by_cases hb:b=a
   .have z':=(Wn hb).symm.trans z;cases z';subst hb;exact{ha,by rwa[Q0],vs,_,rv,ha}
   .have z':=(Wm hb).symm.trans z;cases z'
  .by_cases hb:b=a
   .exact hb
   .exact Ws (Wm hb) z
def walk_of{l:PySem.W.OpenLaw}{k:Nat}{q:Sr}{loose:Sx}{XP:(Str->Option Value)->Heap->Prop}{d:DefRec}{K:Params->JZ}{CX:World->CXT}{sp:World->Sp} 
  (hn:l.most=some n) (Z:n<=sizeLine) (a0:d.params.defaults=[]) (hr:PP k callerA)
  (hY:∀(w:World)(h:Heap),YP w h->(K w.params).In h)
  (F:∀(w:Ss)(mg:Sz)(U:K')(h:Heap),(K w.params).In h->h.Ns mainGlobals mg->mg d.name=some (.ref U)->
   ∃fd:FuncData,(∀(s:L')(u:Sk),BindsTo s fd {[u],[]} [(x,u)])/\
    ∀base:Heap,(K w.params).In base->base.Ns mainGlobals mg->Cy l.prog w (K w.params) mg base (CX w) k U fd [x] (sp w))
  (a1:∀(w:Ss)(H:Hp)(a:K')(ns:R'),ns.length<=n->N9 H->E7 (K w.params) H a (ns.map V.int)->sp w [.ref a] H (λv _=>v= .bl true) λ_ _ _=>False)
  (a2:∀(w:Ss)(H:Hp)(s:L')(e:Sk)(s':L'),CX w [] H s (λ_ _ _=>False) e s'->False):
  PySem.W.WalkO q loose XP YP l.row.toRowW d [] (λf vs=>PySem.call f vs):=by
 refine Att.attach_call hn a0 λw s₀ s₁ mg mb U o pm cd a4 a vs ns G Y ho hd a5 a3 O I z hg=>?_;have KX:=hY w _ Y;let{fd,hb,hF}:=F w mg U _ KX G.T.g a3;exact Ix KX G.T.g G.T.b G.T.builtins G.T.nolimit hg O I (Z4 z Z) hr hF hb (λH hO hS=>a1 w H a ns z hO hS) λH e s'=>a2 w H s₁ e s'
abbrev PJ:CXT:=λ_ _ _ _ _ _=>False
abbrev E0:XK:=λ_ _ _=>False
def aA:mG PJ X E0:=λ_ _ _ _ _ _ _ h=>h.elim
structure PL(K:JZ)(x qual:Str)(st:Stmt)(f:K')(fd:Tf):Prop where
 ex:∃(oc:Sk)(od:Sy)(kV doc pm:Sk)(an:Sy)(cdv ct:Sk)(osl:Tv),
  fd=PySem.W.fnOf x qual (iI st) (dF st) (am st) .none kV doc pm an cdv ct/\K.lookup f=some {oc,od,.func fd,osl}/\PySem.W.codeIn K cdv qual=true
 kp:PySem.W.keepIn K (.ref f)=true
section
variable{mg:Sz}
def PL.ok{ps:Sx}{k:Nat}(F:PL K x qual st f fd)(S:ar N ps (am st))(len:∀vs H Q E,sp vs H Q E->vs.length=ps.length)
  (G:∀(z:Sk)(A:Sv)(outer:Te)(s:L')(H:Hp)(vs:Sm)(Q:VK)(E:XK),PP k (A.deeper<|envOfC qual (am st) s.heap.objs.size f z)->sp vs H Q E->
   ∃t,Qh (ux PJ P w K mg base N qual (am st) f z A outer s H E).nox (dF st) t/\t {nx:=λ_ H'=>Q .non H',rt:=Q} (start N vs) H):Cy P w K mg base PJ (k+1) f fd ps sp:=by
 let{oc,od,kV,U,pm,an,z,ct,Y,rfl,lk,I}:=F.ex;refine EX lk I S len λA outer s H vs Q E Z O=>?_;let{t,h,q}:=G z A outer s H vs Q E Z O;exact⟨t,h.nox,q⟩
def NM{Y:Sk}{od O:Sy}{I:Tv}{kV G U z ct:Sk}(l:K.lookup f=some {Y,od,.func<|PySem.W.fnOf x qual (iI st) (dF st) (am st) .none kV G U O z ct,I})
  (c:PySem.W.codeIn K z qual=true) (k:PySem.W.keepIn K (.ref f)=true):PL K x qual st f (PySem.W.fnOf x qual (iI st) (dF st) (am st) .none kV G U O z ct):={⟨Y,od,kV,G,U,O,z,ct,I,M,l,c⟩,k}
end
def gh{A:Sv}{k:Nat}(z:PP k A):A.units+1<cLine:=V7 (XD (by decide:1<=64) _) z.units
def cR(h:n<=1000):n<sizeLine:=V7 h (_)
def pv(i:Nat){x:Str}{pos:Pos}(hN:X.N[i]?=some x:=by rfl)(G:Si X.env.scope x:=by and_intros)(hd:(x==(hW:Str))=false:=by decide)
  (z:(x==("__classdict__":Str))=false:=by decide):PE X (.Name x pos) (MI i):=Na hN G hd z
def cu(h:Jz):if false=true then A else Jz:=by
 rwa[Wm Q8]
def cy(h:A):if true=true then A else Jz:=by
 rwa[Wn M]
def b4[Decidable c](h1:c->A)(h2:¬c->Jz):if c then A else Jz:=by
 by_cases h:c
 .rw[Wn h];exact h1 h
 .rw[Wm h];exact h2 h
def sr[Decidable c](hc:c)(h:Jz):if(!decide c)=true then A else Jz:=by
 rw[Wv hc];exact cu h
def GI(H H':Hp):Prop:=∀b o,H b=some o->H' b=some o
def GI.refl(H:Hp):GI H H:=λ_ _ h=>h
def GI.trans{H1 H2:Hp}(a:GI H H1)(b:GI H1 H2):GI H H2:=λc o h=>b c o (a c o h)
def Gz:gV X (.builtin "len") (λxs H Q=>∃a kvs,xs=[V.ref a]/\H a=some (.dK kvs)/\Q (.int kvs.length) H):=by
 intro W s B H xs us Q I r h;let{a,kvs,rfl,ha,q}:=h;let{u,rfl,z}:=pG r;cases z;exact Pa I (.inl ha) λt s' G=>{.int kvs.length,H,G,⟨t,M⟩,q}
section
variable{κ:Type}[DecidableEq κ]
def G6{kvs:List (κ×V)}{k:κ}(h:aH kvs k=none):¬k∈kvs.map (·.1):=by
 intro m;let{p,hp,e}:=QJ.mp m;have q:(kvs.any λkv=>decide (kv.1=k))=true:=Vi.mpr {p,hp,Wv e};rw[dI,h]at q;exact Ws q<|by simp
def vA{kvs:List (κ×V)}{k:κ}{v:V}(h:aH kvs k=some v):k∈kvs.map (·.1):=by
 have q:(kvs.any λkv=>decide (kv.1=k))=true:=by
  rw[dI,h]
  all_goals rfl
 let{p,hp,e}:=Vi.mp q;exact QJ.mpr {p,hp,Wt e}
theorem ED:∀{l:List κ}{k:κ},l.Nodup->¬k∈l->(l++ [k]).Nodup
 | [],k,_,_=>by simp
 |a::r,k,h,hk=>by
  let{h1,h2}:=Zv.mp h;show(a::(r++ [k])).Nodup;refine Zv.mpr {λm=>?_,ED h2 λm=>hk<|QS.mpr (Or.inr m)};rcases Q5.mp m with q|q
  .exact h1 q
  .exact hk<|QS.mpr (Or.inl (Q7.mp q).symm)
def KQ{kvs:List (κ×V)}{k:κ}(v:V)(z:(kvs.map (·.1)).Nodup)(h:aH kvs k=none):((a9 kvs k v).map (·.1)).Nodup:=by
 rw[BL v h,QO];exact ED z<|G6 h
def uo{p:κ×V}{r:List (κ×V)}{k:κ}(e:p.1=k):bT (p::r) k=bT r k:=by
 unfold bT;rw[Xn,Wm (by simp[e])]
def pj{p:κ×V}{r:List (κ×V)}{k:κ}(e:¬p.1=k):bT (p::r) k=p::bT r k:=by
 unfold bT;rw[Xn,Wn (by simp[e])]
theorem Cn:∀{kvs:List (κ×V)}{k:κ},¬k∈kvs.map (·.1)->bT kvs k=kvs
 | [],_,_=>rfl
 |p::r,k,h=>by
  have h':¬k∈r.map (·.1):=λm=>by
   let{q,hq,e}:=QJ.mp m;exact h<|QJ.mpr {q,QS.mpr<|Or.inr hq,e}
  rw[pj λe=>h (QJ.mpr {p,QS.mpr<|Or.inl M,e}),Cn h']
def zK{kvs:List (κ×V)}{k:κ}{p:κ×V}(h:p∈bT kvs k):p∈kvs:=(Z6.mp h).1
theorem rW:∀{kvs:List (κ×V)}{k:κ},(kvs.map (·.1)).Nodup->((bT kvs k).map (·.1)).Nodup
 | [],_,_=>ZE
 |p::r,k,h=>by
  have h:(p.1::r.map (·.1)).Nodup:=h;let{h1,h2}:=Zv.mp h;by_cases e:p.1=k
  .rw[uo e];exact rW h2
  .rw[pj e];show(p.1::(bT r k).map (·.1)).Nodup;refine Zv.mpr {λm=>h1 ?_,rW h2};let{q,hq,z}:=QJ.mp m;exact QJ.mpr {q,zK hq,z}
theorem zL:∀{kvs:List (κ×V)}{k:κ},(kvs.map (·.1)).Nodup->k∈kvs.map (·.1)->(bT kvs k).length+1=kvs.length
 | [],_,_,m=>by simp at m
 |p::r,k,h,m=>by
  have h:(p.1::r.map (·.1)).Nodup:=h;have m:k=p.1\/k∈r.map (·.1):=QS.mp m;let{h1,h2}:=Zv.mp h;by_cases e:p.1=k
  .subst e;rw[uo M,Cn h1]
   all_goals rfl
  .have m':k∈r.map (·.1):=m.resolve_left λz=>e z.symm;have q:=zL h2 m';rw[pj e,QW,QW];lia
end
def bj:bootBuiltins "len"=some (.builtin "len"):=by decide+kernel
def cH:bootBuiltins xQ=some (.builtin xQ):=by decide+kernel
def ox:bootBuiltins "min"=some (.builtin "min"):=by decide+kernel
def uz:bootBuiltins zm=some (.builtin zm):=by decide+kernel
def NU:bootBuiltins "int"=some (.type "int"):=by decide+kernel
def Lq:bootBuiltins "bool"=some (.type "bool"):=by decide+kernel
def NT:bootBuiltins "str"=some (.type "str"):=by decide+kernel
def AZ:bootBuiltins "max"=some (.builtin "max"):=by decide+kernel
def Lp:bootBuiltins ff=some (.type ff):=by decide+kernel
def A7:bootBuiltins "dict"=some (.type "dict"):=by decide+kernel
def Nr:PySem.W.kitOne K (.type "int") (.type "int")=some true:=by kernel_rfl
def Nt:PySem.W.kitOne K (.type "int") (.type "bool")=some false:=by kernel_rfl
def Nu:PySem.W.kitOne K (.type "bool") (.type "int")=some true:=by kernel_rfl
def Nv:PySem.W.kitOne K (.type "bool") (.type "bool")=some true:=by kernel_rfl
def Nq:PySem.W.kitOne K (.type "NoneType") (.type "int")=some false:=by kernel_rfl
def Np:PySem.W.kitOne K (.type "str") (.type "int")=some false:=by kernel_rfl
def mU[Decidable c](hc:c)(h:A):if decide c=true then A else Jz:=by
 rw[Wv hc];exact cy h
def bg[Decidable c](hc:¬c)(h:Jz):if decide c=true then A else Jz:=by
 rw[Wz hc];exact cu h
def xo[Decidable c](hc:¬c)(h:A):if(!decide c)=true then A else Jz:=by
 rw[Wz hc];exact cy h
def pe{xs:Sm}(Pv:Tu)(I:Pv 0 B H)(hl:∀i B H,i<=xs.length->Pv i B H->E7 K H a xs)
  (hs:∀i x B H,xs[i]?=some x->Pv i B H->g x B H λz H2=>tb {Pv<|i+1,rt,nx,Pv<|i+1} z H2) (hd:∀B H,Pv xs.length B H->nx B H):
  ∃J0:Nat->Nat->St->Hp->Prop,(∃m,J0 0 m B H)/\∀i m B H,J0 i m B H->
   ((Rh K a).stop i H/\nx B H)\/((Rh K a).go i H/\∃N:St->Hp->Prop,(∀G H',N G H'->∃m',m'<m/\J0 (i+1) m' G H')/\∀x H',(Rh K a).yld i H x H'->g x B H' λz H2=>tb ⟨N,rt,nx,N⟩ z H2):=
 IS (D:={nx,rt,λ_ _=>False,λ_ _=>False}) Pv I hl hs hd
def D4{lo:Int}(Pv:Tu)(I:Pv 0 B H)
  (hs:∀i B H,i<n->Pv i B H->g (.int<|lo+i) B H λz H2=>tb {Pv<|i+1,rt,nx,Pv<|i+1} z H2) (hd:∀B H,Pv n B H->nx B H):
  ∃J0:Nat->Nat->St->Hp->Prop,(∃m,J0 0 m B H)/\∀i m B H,J0 i m B H->
   ((Rq lo n).stop i H/\nx B H)\/((Rq lo n).go i H/\∃N:St->Hp->Prop,(∀G H',N G H'->∃m',m'<m/\J0 (i+1) m' G H')/\∀x H',(Rq lo n).yld i H x H'->g x B H' λz H2=>tb ⟨N,rt,nx,N⟩ z H2):=
 zG (D:={nx,rt,λ_ _=>False,λ_ _=>False}) Pv I hs hd
def xD{k:Int}(G:0<=k)(h:k<(ns.length:Int)):RO (ns.map V.int) k=some (.int<|ns.getD k.toNat 0):=by
 let{j,rfl}:=ZY G;refine vH ?_;have z:j<ns.length:=();rw[Z3,Q3 z,Zk,QR,Q3 z];rfl
def Jo{k:Int}(h:¬k<(ns.length:Int)):ns.getD k.toNat 0=0:=by
 rw[QR,Vq ()];rfl
def uH:gV X (.builtin xQ) (λxs H Q=>∃x n t b,xs=[x,.ty n]/\Py X.K H x t/\PySem.W.kitOne X.K t (.type n)=some b/\Q (.bl b) H):=by
 intro W s B H xs us Q I r h;let{x,n,t,b,rfl,ty,e,q}:=h;let{u,w',rfl,G,z}:=qZ r;cases (show w'=Value.type n from z);exact zE I G ty e λtk=>{.bl b,H,I.tok _,M,q}
def PN{P:Sx}{sc:Scope}(a:sc.kind= .function:=by rfl)(b:sc.isCoroutine=false:=by rfl)(c:sc.isGenerator=false:=by rfl)(d:N.Nodup:=by decide+kernel)(e:N.take P.length=P:=by rfl)(f:∀x∈P,sc.names.lookup x=some .local\/sc.names.lookup x=some .cell:=by decide+kernel)(g:∀y∈sc.names,y.2≠ .free:=by decide+kernel):ar N P sc:=⟨a,b,c,d,e,f,g⟩
def PP.mo{j k:Nat}{A:Sv}(r:PP k A)(h:j<=k:=by decide):PP j A:=r.mono h
def PL.okl{mg:Sz}{ps:Sx}{k:Nat}(F:PL K x qual st f fd)(S:ar N ps (am st))
  (G:∀{z:Sk}{A:Sv}{outer:Te}(s:L')(H:Hp)(vs:Sm)(Q:VK)(E:XK),PP k (A.deeper<|envOfC qual (am st) s.heap.objs.size f z)->sp vs H Q E->
   N.Nodup->let X:=(ux PJ P w K mg base N qual (am st) f z A outer s H E).nox
   ∃t,Qh X (dF st) t/\t {nx:=λ_ H'=>Q .non H',rt:=Q} (start N vs) H)
  (len:∀vs H Q E,sp vs H Q E->vs.length=ps.length:=by intro _ _ _ _ h;repeat (first|(let{rfl,_}:=h;exact M)|let{_,h}:=h)):Cy P w K mg base PJ (k+1) f fd ps sp:=F.ok S len λz A outer s H vs Q E I h=>G s H vs Q E I h S.nd
section
variable{pos:Pos}
abbrev Ck{X:Cx}:= @pv X 0
abbrev P0{X:Cx}:= @pv X 1
abbrev P1{X:Cx}:= @pv X 2
abbrev PM{X:Cx}:= @pv X 3
abbrev Qa{X:Cx}:= @pv X 4
abbrev Qy{X:Cx}:= @pv X 5
abbrev Ro{X:Cx}:= @pv X 6
abbrev Rn{X:Cx}:= @pv X 7
abbrev pv8{X:Cx}:= @pv X 8
abbrev pv9{X:Cx}:= @pv X 9
def Ri(i:Nat)(hN:X.N.Nodup:=by assumption)(hi:X.N[i]?=some x:=by rfl)(hx:Loc X.env.scope x:=by exact Or.inl M)(hf:X.fn x=true\/X.env.scope.names.lookup x=some .local:=by ac_rfl):PG X (.Name x pos) (gi i):=Ey hN hi hx hf
def PF(i:Nat){e:Expr}{te:TE}{pos':Pos}(he:PE X e te)(hN:X.N.Nodup:=by assumption)(hi:X.N[i]?=some x:=by rfl)(hx:Loc X.env.scope x:=by exact Or.inl M)(hs:swapsWith e (some<|.Name x pos') pos.line X.env=pure false:=by rfl)(hf:X.fn x=true\/X.env.scope.names.lookup x=some .local:=by ac_rfl):PS X (.Assign [.Name x pos'] e pos) (Hl te<|gi i):=nM hN hi hx he hs hf
end
section
variable{rest A Jz:List Stmt}{t:TS}
def aB(h:PS X st t)(k:Φ t):∃v,Qh X [st] v/\Φ v:={_,ay h,k}
def ak(h:PS X st t)(k:∃u,Qh X rest u/\(let Jz:=u;Φ (Ag t Jz))):∃v,Qh X (st::rest) v/\Φ v:=by
 let{u,hu,k}:=k;exact{_,kF h hu,k}
def rV{F:TS->TS}(z:∀{x},Qh X A x->PS X st (F x))(k:∃a,Qh X A a/\(let b:=a;Φ (F b))):∃v,Qh X [st] v/\Φ v:=by
 let{a,ha,k}:=k;exact{_,ay<|z ha,k}
def cI{F:TS->TS}(z:∀{x},Qh X A x->PS X st (F x))(k:∃a,Qh X A a/\(let b:=a;∃u,Qh X rest u/\(let Jz:=u;Φ (Ag (F b) Jz)))):∃v,Qh X (st::rest) v/\Φ v:=by
 let{a,ha,u,hu,k}:=k;exact{_,kF (z ha) hu,k}
def Mc(z:∀{x y},Qh X A x->Qh X Jz y->PS X st (F x y))(k:∃a,Qh X A a/\(let b:=a;∃c,Qh X Jz c/\(let d:=c;Φ (F b d)))):∃v,Qh X [st] v/\Φ v:=by
 let{a,ha,c,hc,k}:=k;exact{_,ay<|z ha hc,k}
def Md(z:∀{x y},Qh X A x->Qh X Jz y->PS X st (F x y))(k:∃a,Qh X A a/\(let b:=a;∃c,Qh X Jz c/\(let d:=c;∃u,Qh X rest u/\(let Jz:=u;Φ (Ag (F b d) Jz))))):∃v,Qh X (st::rest) v/\Φ v:=by
 let{a,ha,c,hc,u,hu,k}:=k;exact{_,kF (z ha hc) hu,k}
end
end L2
namespace SW
variable{m n:Int}{a b:Nat}
noncomputable def rv:Nat->Nat->Nat
 |0,_=>0
 |k+1,n=>(n%2)*2^k+rv k (n/2)
theorem Et:∀(k n:Nat),rv k n<2^k
 |0,_=>by simp[rv]
 |k+1,n=>by
  have h:=Et k (n/2);have m:n%2<2:=Nat.mod_lt _ (_);have e:rv (k+1) n=(n%2)*2^k+rv k (n/2):=M;have p:2^(k+1)=2*2^k:=by rw[XR,V5]
  rw[e,p];rcases Nat.mod_two_eq_zero_or_one n with z|z<;>rw[z]<;>lia
theorem Av:∀(k n:Nat),rv (k+1) n=rv k n*2+(n/2^k)%2
 |0,n=>by simp[rv]
 |k+1,n=>by
  have h:=Av k (n/2);have z:rv (k+2) n=(n%2)*2^(k+1)+rv (k+1) (n/2):=M;have e2:rv (k+1) n=(n%2)*2^k+rv k (n/2):=M;have d:n/2/2^k=n/2^(k+1):=by
   rw[Vm,XR,V5]
  rw[z,e2,h,d,XR];rw[Nat.add_mul,Nat.mul_assoc];lia
theorem Hw:∀(k n:Nat),rv k (n%2^k)=rv k n
 |0,_=>rfl
 |k+1,n=>by
  have p:2^(k+1)=2*2^k:=by rw[XR,V5]
  have z:n%2^(k+1)%2=n%2:=by
   rw[p];exact Nat.mod_mul_right_mod n 2<|2^k
  have e2:n%2^(k+1)/2=n/2%2^k:=by
   rw[p];exact Nat.mod_mul_right_div_self n 2 (2^k)
  show(n%2^(k+1)%2)*2^k+rv k (n%2^(k+1)/2)=(n%2)*2^k+rv k (n/2);rw[z,e2,Hw k (n/2)]
theorem Es:∀k,rv k 0=0
 |0=>rfl
 |k+1=>by show(0%2)*2^k+rv k (0/2)=0;rw[Nat.zero_div,Es k];simp
theorem wE:∀(a b n:Nat),rv (a+b) n=rv a n*2^b+rv b (n/2^a)
 |0,b,n=>by simp[rv]
 |a+1,b,n=>by
  have h:=wE a b (n/2);have e:a+1+b=(a+b)+1:=();have d:n/2/2^a=n/2^(a+1):=by
   rw[Vm,XR,V5]
  rw[e];show(n%2)*2^(a+b)+rv (a+b) (n/2)=((n%2)*2^a+rv a (n/2))*2^b+_;rw[h,d,Nat.add_mul,Nat.mul_assoc,<-Nat.pow_add];lia
theorem Hv:∀(k n:Nat),rv k (rv k n)=n%2^k
 |0,n=>by simp[rv,Nat.mod_one]
 |k+1,n=>by
  have e:rv (k+1) n=rv k n*2+(n/2^k)%2:=Av k n;have z:(rv k n*2+(n/2^k)%2)%2=(n/2^k)%2:=();have e2:(rv k n*2+(n/2^k)%2)/2=rv k n:=();rw[e];show(rv k n*2+(n/2^k)%2)%2*2^k+rv k ((rv k n*2+(n/2^k)%2)/2)=n%2^(k+1);rw[z,e2,Hv k n,XR,Nat.mod_mul,V5 (2^k)];lia
def MX{n:Nat}:rv (a+b) n/2^b=rv a n:=by
 have l:=Et b (n/2^a);rw[wE a b n,V5,Nat.mul_add_div (Nat.two_pow_pos b),Nat.div_eq_of_lt l,XS]
def Kv{s:Nat}(h:s<2^a):rv (a+b) s=rv a s*2^b:=by
 rw[wE a b s,Nat.div_eq_of_lt h,Es,XS]
@[irreducible] def tz(n:Int):Int:=((rv 16 n.toNat:Nat):Int)
@[irreducible] def rz(a:Nat)(n:Int):Int:=((rv a n.toNat:Nat):Int)
def tH(n:Int):0<=tz n:=by unfold tz;exact VG _
def LR(n:Int):tz n<65536:=by
 have h:=Et 16 n.toNat;have e:(2:Nat)^16=65536:=by decide
 unfold tz;lia
def En(z:0<=n)(h1:n<65536):tz (tz n)=n:=by
 have h:=Hv 16 n.toNat;have e:(2:Nat)^16=65536:=by decide
 unfold tz;rw[Zk,h,e];lia
def MD(z:0<=n)(h1:n<65536)(k0:0<=m)(k1:m<65536)(e:tz n=tz m):n=m:=by
 rw[<-En z h1,<-En k0 k1,e]
def Ft(i:Nat)(m:Nat):((rv i m:Nat):Int)*2+((m/2^i:Nat):Int)%2=((rv (i+1) m:Nat):Int):=by
 rw[Av];lia
def Fu(i:Nat)(m:Nat):((m/2^i:Nat):Int)/2=((m/2^(i+1):Nat):Int):=by
 have d:m/2^i/2=m/2^(i+1):=by rw[Vm,XR]
 rw[<-d];lia
def FF(a:Nat)(n:Int):0<=rz a n:=by unfold rz;exact VG _
def OD(a:Nat)(n:Int):rz a n<2^a:=by
 have h:=Et a n.toNat;unfold rz;have c:((rv a n.toNat:Nat):Int)<((2^a:Nat):Int):=by exact_mod_cast h
 simpa using c
def OC(a:Nat)(G:0<=n)(h1:n<2^a):rz a (rz a n)=n:=by
 let{m,rfl}:=ZY G;have h:=Hv a m;have z:m<2^a:=by exact_mod_cast h1
 unfold rz;rw[Zk,Zk,h,Nat.mod_eq_of_lt z]
def Km(z:a+b=16){s:Int}(I:0<=s)(h1:s<2^a):tz s=rz a s*2^b:=by
 let{m,rfl}:=ZY I;have G:m<2^a:=by exact_mod_cast h1
 have h:=Kv (b:=b) G;rw[z]at h;unfold tz rz;rw[Zk,h];simp
def MC(z:a+b=16)(G:0<=m):tz m/2^b=rz a (m%2^a):=by
 let{n,rfl}:=ZY G;have h:=MX (a:=a) (b:=b) (n:=n);rw[z]at h;have e:((n:Int)%2^a).toNat=n%2^a:=by
  have c:((n:Int)%2^a)=((n%2^a:Nat):Int):=by simp
  rw[c,Zk]
 unfold tz rz;rw[Zk,e,Hw,<-h];simp
structure Row(S:Int)(a b:Nat):Prop where
 ab:a+b=16
 lo:2<=a
 hi:a<=9
 eq:S=2^a
section
variable{S:Int}(R:Row S a b)
include R
theorem Row.mul:S*2^b=65536:=by
 rw[R.eq,<-Int.pow_add,R.ab];decide
theorem Row.wpos:(0:Int)<2^b:=Int.pow_pos (_)
theorem Row.pos:0<S:=by rw[R.eq];exact Int.pow_pos (_)
theorem Row.width:65536/S=2^b:=by
 rw[<-R.mul,Int.mul_ediv_cancel_left _ (ZC R.pos)]
theorem Row.wpos':0<65536/S:=by rw[R.width];exact R.wpos
theorem Row.slot{s:Int}(G:0<=s)(h1:s<S):tz s=2^b*rz a s/\0<=rz a s/\rz a s<S/\rz a (rz a s)=s:=by
 have z:s<2^a:=by rwa[<-R.eq]
 refine{by rw[Km R.ab G z,VM],FF _ _,by rw[R.eq];exact OD _ _,OC _ G z}
theorem Row.top(z:0<=m):2^b*rz a (m%S)<=tz m/\tz m<2^b*rz a (m%S)+2^b:=by
 have d:=MC R.ab z;rw[<-R.eq]at d;have e:=Vr (tz m) (2^b);have p:=QP (tz m) (ZC R.wpos);have q:=QL (tz m) R.wpos;rw[d]at e;lia
theorem Row.mod0(m:Int):0<=m%S:=QP _ (ZC R.pos)
theorem Row.mod1(m:Int):m%S<S:=QL _ R.pos
theorem Row.between{J0 x y p:Int}(z:0<J0)(G:J0*x<=p)(h1:p<J0*x+J0)(k0:J0*y<=p)(k1:p<J0*y+J0):x=y:=by
 rcases Int.lt_trichotomy x y with h|h|h
 .have:J0*(x+1)<=J0*y:=W3 () (VN z);rw[Int.mul_add]at this;lia
 .exact h
 .have:J0*(y+1)<=J0*x:=W3 () (VN z);rw[Int.mul_add]at this;lia
theorem Row.st_has(z:0<=m):tz (m%S)<=tz m/\tz m<tz (m%S)+65536/S:=by
 let{e,_}:=R.slot (R.mod0 m) (R.mod1 m);have t:=R.top z;rw[R.width,e];exact t
end
def qB{k:Nat}(h:k<=6):Row (4*2^k) (k+2) (14-k):=by
 refine{(),(),(),?_};rw[Int.pow_add];lia
end SW
namespace L2
open PySem PySem.Spec PyProof.Rows
abbrev _root_.O':=Addr->Prop
variable{C T f:K'}{old:O'}{A:Sv}{g:Array GenState}{vs:Tc}{ab:Bool}{d:Drawn}{base h:Heap}{φ:Heap->Prop}{H:Hp}{l:Su}{outer:Te}{N sn:Sx}{bm sub us:Sl}{M':Model}{t:Nat}{dd od:Sy}{col:Option Bool}{os:OsState}{P prog:Sr}{K:JZ}{R:Result->Shared->Prop}{s s':L'}{qual:Str}{Q:Tr}{e:Sk}{E J0:Sw}{w:Ss}
abbrev bf(C:K')(od:Sy)(vs:Tc):Obj:={cls:= .ref C,dict:=od,data:= .fields vs}
def Ra(h:Heap)(e:K')(vs:Tc)(T:K')(fl:Sk):Prop:=
 vs[1]?=some (.ref T)/\T≠e/\∃oT ts,h.get? T=some oT/\oT.data= .fields ts/\ts[3]?=some fl
structure QC(l:Su)(e:K')(old:O')(h h':Heap):Prop where
 keep:∀b o,h.get? b=some o->b∉l->b≠e->¬old b->h'.get? b=some o
 slot:∀b o,h.get? b=some o->b∈l->b≠e->¬old b->∃sl,h'.get? b=some {o with slots:=sl}
 there:∀b o,h.get? b=some o->∃o',h'.get? b=some o'
section
variable{env:Env}{L e:K'}
def NN(hl:s.heap.FunFrames base (env::outer))(he:s.heap.get? e=some (bf C od vs)):e∉RF (env::outer):=λz=>by
 let{_,o,G,I}:=hl.mem z;cases he.symm.trans G;exact I vs M
def wV{G:Sk}{Z:Bool}(a0:A.frames=some (env::outer))(hl:s.heap.FunFrames base (env::outer))(hf:env.frame=some L)(he:s.heap.get? e=some (bf C od vs))(hsz:1<vs.size)
  (q:∀h' T I,QC (RF (env::outer)) e (λ_=>False) s.heap h'->h'.get? e=some (bf C od I)->(I.size=vs.size/\I[2]?=vs[2]?)->s.heap.objs.size<=T->Ra h' e I T (rawInt L)->Q Unit.unit {s with heap:=h'}):
  wpAny M' A (do let a<-frameOf env;let pl<-entryPlaceOf L Z;let b<-EntryCells.newEntry G a .none (rawInt L) .none pl;setField (.ref e) 1 b) Q E s:=by
 have nf:e∉(env::outer).filterMap (·.frame):=NN hl he;refine Wp<|wpAny_frameOf_fun a0 hl hf λh1 O=>?_;refine Wp<|wpAny_entryPlaceOf λpl ip=>?_;unfold EntryCells.newEntry newFields;refine Wp<|wpAny_newObj_type ?_ (ip.sizeOk5 _ _ _ _ _);have e1:h1.get? e=some (bf C od vs):=(O.2.1 e nf).trans he;have big:3<([G,Value.ref L,.none,rawInt L,.none]++(if pl.isEmpty then List.replicate 6 Value.none else pl)).toArray.size:=by
  simp only[QQ,Q6,QW,XJ];lia
 have U:([G,Value.ref L,.none,rawInt L,.none]++(if pl.isEmpty then List.replicate 6 Value.none else pl)).toArray[3]?=some (rawInt L):=by simp
 generalize ([G,Value.ref L,.none,rawInt L,.none]++(if pl.isEmpty then List.replicate 6 Value.none else pl)).toArray=ts at big U;generalize eo:({cls:= .type "traceback",dict:=none,data:= .fields ts}:Obj)=oT;have e2:(h1.push oT).get? e=some (bf C od vs):=Wo _ e1;have ne:h1.objs.size≠e:=V4 (Ww e1);refine wpAny_setField e2 M hsz<|q _ h1.objs.size (vs.setIfInBounds 1<|.ref h1.objs.size) {λb o Y g2 g3 _=>?_,λb o Y _ g3 _=>?_,λb o Y=>?_} ?_ {Array.size_setIfInBounds,by simp} (ZA O.1.symm) {by simp[hsz],ne,oT,ts,?_,by rw[<-eo],U}
 .rw[WE _ _ (Ne.symm g3)];exact Wo _<|(O.2.1 b g2).trans Y
 .let{sl,r}:=O.2.2 b o Y;exact{sl,(WE _ _<|Ne.symm g3).trans<|Wo _ r}
 .by_cases z:b=e
  .subst z;exact{_,Heap.get?_update_self _ e2 M}
  .let{sl,r}:=O.2.2 b o Y;exact{_,(WE _ _<|Ne.symm z).trans<|Wo _ r}
 .exact Heap.get?_update_self _ e2 M
 .rw[WE _ _ (Ne.symm ne),<-eo];exact Wy h1 M
def DK(G:A.frames=some (env::outer))(hl:s.heap.FunFrames base (env::outer))(hf:env.frame=some L)(he:s.heap.get? e=some (bf C od vs))(h1:vs[1]?=some .none)
  (q:∀h' T z,QC (RF (env::outer)) e (λ_=>False) s.heap h'->h'.get? e=some (bf C od z)->(z.size=vs.size/\z[2]?=vs[2]?)->s.heap.objs.size<=T->Ra h' e z T (rawInt L)->Q Unit.unit {s with heap:=h'}):
  wpAny M' A (noteFrame (.ref e) env) Q E s:=by
 unfold noteFrame;simp only[hf];refine Wp<|wpAny_field he M h1 ?_;rw[Wm (_)];exact wV G hl hf he (Xw.mp h1).1 q
def FR(Z:A.frames=some (env::outer))(hl:s.heap.FunFrames base (env::outer))(hf:env.frame=some L)(he:s.heap.get? e=some (bf C od vs))(tr:Ra s.heap e vs T .none)
  (q:∀h' T' G,QC (RF (env::outer)) e (· =T) s.heap h'->h'.get? e=some (bf C od G)->(G.size=vs.size/\G[2]?=vs[2]?)->s.heap.objs.size<=T'->Ra h' e G T' (rawInt L)->Q Unit.unit {s with heap:=h'}):
  wpAny M' A (noteFrame (.ref e) env) Q E s:=by
 let{h1,ne,oT,ts,Y,hd,h3}:=tr;unfold noteFrame;simp only[hf];refine Wp<|wpAny_field he M h1 ?_;rw[Wn (show(Value.ref T !=Value.none)=true by simp)];refine Wp<|wpAny_field Y hd h3 ?_;rw[Wm (show ¬(Value.none==rawInt L)=true by simp[rawInt])];have I:∀b,b≠T->(s.heap.update T (Obj.mapFields (·.setIfInBounds 3 Value.none))).get? b=s.heap.get? b:=λb z=>WE _ _ (Ne.symm z);have nofr:∀b o,s.heap.get? b=some o->(∀ws,o.data≠ .fields ws)->b≠T:=λb o O U z=>by
  subst z;cases Y.symm.trans O;exact U ts hd
 refine Wp<|wpAny_setField Y hd (Xw.mp h3).1 ?_;refine wV Z (hl.of_keeps λb o O U=>{o,(I b<|nofr b o O U).trans O,M}) hf ((I e<|Ne.symm ne).trans he) (Xw.mp h1).1 λh' T' G n O U g3 g4=>?_;refine q h' T' G {λb o k1 k2 k3 k4=>n.keep b o ((I b k4).trans k1) k2 k3 id,λb o k1 k2 k3 k4=>n.slot b o ((I b k4).trans k1) k2 k3 id,λb o k1=>?_} O U (by rw[Heap.size_after_update]at g3;exact g3) g4;by_cases z:b=T
 .subst z;exact n.there b _<|Heap.get?_update_self _ Y (Obj.isFreed_of_fields<|Obj.data_mapFields hd _)
 .exact n.there b o<|(I b z).trans k1
def qK{l:Su}{fl:Sk}(he:s.heap.get? e=some (bf C od vs))(tr:Ra s.heap e vs T fl)
  (q:∀h',(∀b o,b≠T->s.heap.get? b=some o->h'.get? b=some o)->h'.get? e=some (bf C od vs)->(∃o,h'.get? T=some o)->h'.objs.size=s.heap.objs.size->Ra h' e vs T .none->Q Unit.unit {s with heap:=h'}):
  wpAny M' A (setFlight (.ref e) none) Q E s:=by
 let{h1,ne,U,ts,I,hd,O}:=tr;have big:3<ts.size:=(Xw.mp O).1;unfold setFlight;refine Wp<|wpAny_field he M h1 ?_;rw[Wn (show(Value.ref T !=Value.none)=true by simp)];have G:∀b,b≠T->(s.heap.update T (Obj.mapFields (·.setIfInBounds 3 ((none:Sy).elim Value.none λf=>rawInt f)))).get? b=s.heap.get? b:=λb z=>WE _ _ (Ne.symm z);have new:=Heap.get?_update_self (Obj.mapFields (·.setIfInBounds 3 ((none:Sy).elim Value.none λf=>rawInt f))) I (Obj.isFreed_of_fields<|Obj.data_mapFields hd _);exact wpAny_setField I hd big<|q _ (λb o z g=>(G b z).trans g) ((G e<|Ne.symm ne).trans he) {_,new} (Heap.size_after_update ..) {h1,ne,_,_,new,Obj.data_mapFields hd _,by simp[big]}
end
def XN(e C:K')(od:Sy):HO:= .ext λh=>∃t,h.get? e=some (bf C od #[.ref t,.none,.none,.none,.bool false,.none])
noncomputable def XO(e C:K')(od:Sy):HO:= .ext λh=>∃vs,h.get? e=some (bf C od vs)/\1<vs.size
section
variable{h':Heap}{e:K'}
def LQ{t:K'}(k:h.get? e=some (bf C od #[.ref t,.none,.none,.none,.bool false,.none])):P7 P w H h e (XN e C od):=
 {⟨t,k⟩,{_,k},λ_ _ zz st=>by let{t,k}:=zz;exact{t,st _ k}}
def LO(k:h.get? e=some (bf C od vs))(z:1<vs.size):P7 P w H h e (XO e C od):=
 {⟨vs,k,z⟩,{_,k},λ_ _ zz st=>by let{vs,k,z}:=zz;exact{vs,st _ k,z}}
def Oh(ok:QH P w H h)(q:H e=some (XN e C od)):∃t,h.get? e=some (bf C od #[.ref t,.none,.none,.none,.bool false,.none]):=(ok e _ q).1
def LP(ok:QH P w H h)(q:H e=some (XO e C od)):∃vs,h.get? e=some (bf C od vs)/\1<vs.size:=(ok e _ q).1
def QC.hok(n:QC l e old h h')(ok:QH P w H h)(hl:∀b∈l,H b=none)(I:∀b,old b->H b=none)(he:H e=some (.ext φ))
  (new:h'.get? e=some (bf C od vs)) (z:1<vs.size):QH P w (upd H e<|XO e C od) h':=λb u q=>by
 by_cases hb:b=e
 .subst hb;rw[ag]at q;cases q;exact LO new z
 .rw[af hb]at q;have G:∀c v,H c=some v->c≠e->∀o,h.get? c=some o->h'.get? c=some o:=λc v r ne o g=>
   n.keep c o g (λm=>by rw[hl c m]at r;cases r) ne λm=>by rw[I c m]at r;cases r
  refine(ok b u q).stay (λc v hc r=>?_) (λc r=>?_) λc xs r=>?_
  .rcases hc with rfl|hc
   .exact G _ _ q hb v r
   .exact G _ _ hc (λm=>by rw[m,he]at hc;cases hc) v r
  .rwa[af (λm=>by rw[m,he]at r;cases r)]
  .rwa[af (λm=>by rw[m,he]at r;cases r)]
def QC.un{ch:Su}{o':HO}(n:QC l e old h h')(hc:∀b,old b->b∈ch)(he:H e=some (.ext φ)):Un l ch H (upd H e o') h h':=by
 have ne:∀b,H b=none->b≠e:=λb r z=>by rw[z,he]at r;cases r
 refine{λb o g r m k=>n.keep b o g m (ne b r) λz=>k<|hc b z,λb o g r m k=>n.slot b o g m (ne b r) λz=>k<|hc b z,λb o _ r _=>by rwa[af (ne b r)],λb o g _=>n.there b o g,λb xs r=>?_,λb o u r=>?_,λb ps r=>{#[],?_}}
 .rwa[af (λm=>by rw[m,he]at r;cases r)]
 .rwa[af (λm=>by rw[m,he]at r;cases r)]
 .rw[af (λm=>by rw[m,he]at r;cases r),r];simp
end
def Rl(P:Sr)(w:Ss):CXT:=λouter H s E e s'=>∃(ea C:K')(od:Sy)(vs:Tc)(T:K')(H':Hp),
 e= .ref ea/\s'.os=s.os/\AllBare s'.gens/\Un (RF outer) [] H H' s.heap s'.heap/\QH P w H' s'.heap/\H' ea=some (XO ea C od)/\s'.heap.get? ea=some (bf C od vs)/\1<vs.size/\
 Ra s'.heap ea vs T .none/\H' T=none/\s.heap.objs.size<=T/\E (.ref ea) od H'
def G7{a:K'}{o:HO}(h:H a=some o):upd H a o=H:=by
 funext b;by_cases z:b=a
 .subst z;rw[ag,h]
 .rw[af z]
def Fg(X:Cx)(E:St->XK)(e:Sk)(s:L'):Prop:=∃(W:So)(B:St)(H:Hp)(ea C:K')(od:Sy)(vs:Tc)(φ:Heap->Prop),
 e= .ref ea/\Inv X W B H s/\H ea=some (.ext φ)/\s.heap.get? ea=some (bf C od vs)/\1<vs.size/\(vs[1]?=some .none\/∃T,Ra s.heap ea vs T .none/\oO X W H T)/\E B (.ref ea) od (upd H ea<|XO ea C od)
section
variable{X:Cx}{W:So}{B:St}
def DJ{ea:K'}(I:Inv X W B H s)(O:X.stack=X.env::X.outer)(hf:X.env.frame=some X.env.locals)(hA:A.frames=some X.stack)
  (hx:H ea=some (.ext φ)) (hr:s.heap.get? ea=some (bf C od vs)) (hz:1<vs.size) (ht:vs[1]?=some .none\/(∃T,Ra s.heap ea vs T .none/\oO X W H T)\/∃T,Ra s.heap ea vs T (rawInt X.env.locals)/\oO X W H T)
  (q:∀s' G T,Inv X W B (upd H ea<|XO ea C od) s'->s'.heap.get? ea=some (bf C od G)->1<G.size->Ra s'.heap ea G T .none->oO X W (upd H ea<|XO ea C od) T->G[2]?=vs[2]?->Q Unit.unit s'):
  wpAny M' A (noteFrame (.ref ea) X.env) (λ_ s1=>wpAny M' A (setFlight (.ref ea) none) Q J0 s1) J0 s:=by
 rw[O]at hA;have hl:s.heap.FunFrames X.base (X.env::X.outer):=O▸I.stack;have U:∀b∈RF (X.env::X.outer),H b=none:=O▸I.stkFree;have fin:∀(old:O')(ch:Su)(h1:Heap)(T':K')(G:Tc),(∀b,old b↔b∈ch)->(∀b∈ch,oO X W H b)->QC (RF (X.env::X.outer)) ea old s.heap h1->h1.get? ea=some (bf C od G)->(G.size=vs.size/\G[2]?=vs[2]?)->
   s.heap.objs.size<=T'->Ra h1 ea G T' (rawInt X.env.locals)->wpAny M' A (setFlight (.ref ea) none) Q J0 {s with heap:=h1}:=by
  intro old ch h1 T' G a0 a1 n g1 Y Z g4;refine qK (l:=[]) (s:={s with heap:=h1}) g1 g4 λh2 k1 k2 k3 k4 k5=>?_;have nT:∀b o,s.heap.get? b=some o->b≠T':=λb o g z=>Ws (Ww g) (Wd.mpr<|z▸Z);have n2:QC (RF (X.env::X.outer)) ea old s.heap h2:={λb o r1 r2 r3 r4=>k1 b o (nT b o r1)<|n.keep b o r1 r2 r3 r4,λb o r1 r2 r3 r4=>by
    let{sl,r}:=n.slot b o r1 r2 r3 r4;exact{sl,k1 b _ (nT b o r1) r},λb o r1=>by
    let{o',r}:=n.there b o r1;exact{o',k1 b _ (nT b o r1) r}}
  have a2:QH X.prog X.w (upd H ea<|XO ea C od) h2:=n2.hok I.hok U (λb z=>(a1 b<|(a0 b).mp z).1) hx k2 (Y.1▸hz);have a3:Un (RF X.stack) ch H (upd H ea<|XO ea C od) s.heap h2:=by
   rw[O];exact n2.un (λb z=>(a0 b).mp z) hx
  have I2:Inv X W B (upd H ea<|XO ea C od) {s with heap:=h2}:=I.call' (s':={s with heap:=h2}) M a3 a2 I.bare λb hb=>by
   let{z1,z2,z3,z4,z5,z6}:=a1 b hb;exact⟨z4,z2,z5,z6⟩
  refine q _ G T' I2 k2 (Y.1▸hz) k5 (I.fpOk Z ?_) Y.2;have neT:T'≠ea:=Ne.symm (nT ea _ hr);rw[af neT];exact I.hok.fresh Z
 rcases ht with h1|⟨T,tr,fp⟩|⟨T,tr,fp⟩
 .exact DK hA hl hf hr h1 λh1 T' G n g1 Y Z g4=>fin (λ_=>False) [] h1 T' G (λb=>by simp) (λb z=>nomatch z) n g1 Y Z g4
 .exact FR hA hl hf hr tr λh1 T' G n g1 Y Z g4=>fin (· =T) [T] h1 T' G (λb=>by simp) (λb z=>by rwa[Q7.mp z]) n g1 Y Z g4
 .let{h1,ne,oT,ts,hT,hd,h3}:=id tr;refine wpAny_noteFrame_inFlight hf hr M h1 hT hd h3 ?_;refine qK (l:=[]) hr tr λh' k1 k2 k3 k4 k5=>?_;have I1:Inv X W B H {s with heap:=h'}:=I.turned (t':=s.toks) (it:=T) k1 fp.1 fp.2.1 fp.2.2.2.1 fp.2.2.2.2.1 fp.2.2.2.2.2;have I2:Inv X W B (upd H ea<|XO ea C od) {s with heap:=h'}:=I1.write (x:=ea) (e:=ea) (t':=s.toks) (by rw[hx];exact WD) (.inl M) (λ_ _ _ e=>e) {_,k2} (LO k2 hz);exact q _ vs T I2 k2 hz k5 {by rw[af ne];exact fp.1,fp.2.1,fp.2.2.1,fp.2.2.2.1,fp.2.2.2.2.1,fp.2.2.2.2.2} M
def zq{ea:K'}(I:Inv X W B H s)(O:X.stack=X.env::X.outer)(hf:X.env.frame=some X.env.locals)(U:A.frames=some X.stack)
  (hx:H ea=some (.ext φ)) (Y:s.heap.get? ea=some (bf C od vs)) (hz:1<vs.size) (Z:vs[1]?=some .none\/∃T,Ra s.heap ea vs T .none/\oO X W H T)
  (q:∀s' G T,Inv X W B (upd H ea<|XO ea C od) s'->s'.heap.get? ea=some (bf C od G)->1<G.size->Ra s'.heap ea G T .none->oO X W (upd H ea<|XO ea C od) T->Q Unit.unit s'):
  wpAny M' A (noteFrame (.ref ea) X.env) (λ_ s1=>wpAny M' A (setFlight (.ref ea) none) Q J0 s1) J0 s:=
 DJ I O hf U hx Y hz (Z.imp id .inl) λs' G T I' r z t f _=>q s' G T I' r z t f
def Inv.thrown{E:XK}(I:Inv X W B H s)(h:Rl X.prog X.w X.stack H s E e s'):∃(ea C:K')(od:Sy)(vs:Tc)(H':Hp),e= .ref ea/\Inv X W B H' s'/\H' ea=some (XO ea C od)/\
  s'.heap.get? ea=some (bf C od vs)/\1<vs.size/\(∃T,Ra s'.heap ea vs T .none/\oO X W H' T)/\E (.ref ea) od H':=by
 let{ea,C,od,vs,T,H',rfl,os,bare,un,hok,hx,G,hz,tr,O,U,q}:=h;exact{ea,C,od,vs,H',M,I.call' os un hok bare λb z=>Ws z (by simp),hx,G,hz,{T,tr,I.fpOk U O},q}
def Inv.flies{E:XK}{F:St->XK}(I:Inv X W B H s)(h:Rl X.prog X.w X.stack H s E e s')(k:∀v od H',E v od H'->F B v od H'):Fg X F e s':=by
 let{ea,C,od,vs,H',rfl,z,hx,G,hz,O,q}:=I.thrown h;exact{W,B,H',ea,C,od,vs,_,M,z,hx,G,hz,.inr O,by rw[G7 hx];exact k _ _ _ q}
end
section
variable{mg:Sz}{scope:Scope}{cd:Sk}{E:XK}
def Ir(h:Fg (ux (Rl P w) P w K mg base N qual scope f cd A outer s H E) (λ_=>E) e s'):(ux (Rl P w) P w K mg base N qual scope f cd A outer s H E).xe e s':=by
 let{W,B,H1,ea,C,od,vs,φ,rfl,I,hx,Y,hz,Z,q}:=h;show wpAny _ _ (leaving _<|.ref ea) _ _ s';unfold leaving;refine Wp<|zq I M M I.ok.frames hx Y hz Z λs2 O T G r2 z2 t2 U=>?_;refine{ea,C,od,O,T,_,M,G.os,G.bare,G.base,G.hok,ag,r2,z2,t2,U.1,?_,q};rcases U.2.2.2.1 with z|z
 .exact Ws (show T∈([]:Su) from z)<|by simp
 .exact z
def PL.okX{x:Str}{st:Stmt}{fd:Tf}{ps:Sx}{k:Nat}{sp:Sp}(F:PL K x qual st f fd)(S:ar N ps (am st))(len:∀vs H Q E,sp vs H Q E->vs.length=ps.length)
  (G:∀(z:Sk)(A:Sv)(outer:Te)(s:L')(H:Hp)(vs:Sm)(Q:VK)(E:XK),PP k (A.deeper<|envOfC qual (am st) s.heap.objs.size f z)->sp vs H Q E->
   ∃t,Qh (ux (Rl P w) P w K mg base N qual (am st) f z A outer s H E) (dF st) t/\t {nx:=λ_ H'=>Q .non H',rt:=Q} (start N vs) H):Cy P w K mg base (Rl P w) (k+1) f fd ps sp:=by
 let{oc,od,kV,U,pm,an,z,ct,Y,rfl,lk,I}:=F.ex;exact EX lk I S len λA outer s H vs Q E Z O=>G z A outer s H vs Q E Z O
end
abbrev RU:List Value:=[.type "ValueError",.type "Exception",.type sD,.type "object"]
def PZ(bm:Sl):Prop:=∃ups:List Addr,bm=ups.map Value.ref++RU
def PZ.typ(Jz:PZ bm)(T:String):bm.contains (.type T)=RU.contains (.type T):=by
 let{z,rfl}:=Jz
 induction z with
 |nil=>rfl
 |cons a r G=>rw[Z0,List.cons_append,ZI,G];rfl
def PZ.val(Jz:PZ bm):bm.contains (.type "ValueError")=true:=(Jz.typ _).trans ∅
def PZ.bas(Jz:PZ bm):bm.contains (.type sD)=true:=(Jz.typ _).trans ∅
def PZ.att(Jz:PZ bm):bm.contains (.type "AttributeError")=false:=(Jz.typ _).trans ∅
def PZ.nam(Jz:PZ bm):bm.contains (.type "NameError")=false:=(Jz.typ _).trans ∅
structure Qc(K:JZ)(C:K')(bm:Sl):Prop where
 ob:∃nm q N bs sn sub ab col dd k0 k1 k2 k3 k5,K.lookup C=some (excClassObj nm q C N bs bm true sn sub ab col dd k0 k1 k2 k3 k5 lm)
 mro:PZ bm
 kp:PySem.W.keepIn K (.ref C)=true
 ga:PySem.W.findIn K (.ref C) v6=some (some<|.builtin fx)
 gn:PySem.W.findIn K (.ref C) "__getattr__"=some none
 sa:PySem.W.findIn K (.ref C) "__setattr__"=some (some<|.builtin "object.__setattr__")
section
variable{nm q:Str}{N:K'}{bs:Sl}{k0 k1 k2 k3 k5:Tq}
abbrev dU(C t:K'):Obj:=bf C none #[.ref t,.none,.none,.none,.bool false,.none]
abbrev kY(us:Sl):Obj:={cls:= .type oo,data:= .seq us.toArray}
def Li{rest:Sl}(Jz:PZ bm)(z:h.get? C=some (excClassObj nm q C N bs bm true sn sub ab col dd k0 k1 k2 k3 k5 lm))(hz:rest.length<=sizeLine)
  (hq:R (.ok<|.ret<|.ref<|h.objs.size+1) {(h.push<|kY rest).push<|dU C h.objs.size,g,d,t,os}):
  codeAny (model prog w) A (.call (.builtin lm) {.ref C::rest,[]}) R ⟨h,g,d,t,os⟩:=by
 have F:=V8;have I:(Value.ref C::bm).contains (.type "ValueError")=true:=by rw[ZI,Jz.val,Vn]
 have O:(Value.ref C::bm).contains (.type "AttributeError")=false:=by rw[ZI,Jz.att];rfl
 have U:(Value.ref C::bm).contains (.type "NameError")=false:=by rw[ZI,Jz.nam];rfl
 have st:=F.noStar;have Y:=F.ends;refine codeAny_call_builtin_code (Code.quiet_builtin _ F.quiet) ?_;simp only[checkBuiltinCall,F.newKind,F.newSplit,F.newRow]
 repeat (first|refine wpAny_loadPart_at z ?_|(refine wpAny_isSubtype_exc z ?_;rw[I])|refine wpAny_staticBase_exc z ?_|refine wpAny_madeBy_exc z ?_|simp only[bne_self_eq_false,ZJ,if_false]|wp_step)
 refine codeAny_builtinAt F.entry ?_;unfold Builtin.«BaseException.__new__»;refine PySem.wpAt_bind ?_;show PySem.wpAt _ _ _ (stack>>=_) _ _ _;refine PySem.wpAt_bind (PySem.wpAt_stack λp G=>PySem.wpAt_of_wpAny ?_)
 wp_walk
 refine PySem.wpAt_of_wpAny ?_;rw[F.owner]
 repeat (first|with_reducible refine wpAny_madeHere_exc F.canon z ?_|with_reducible refine wpAny_loadPart_at z ?_|(with_reducible refine wpAny_isSubtype_exc z ?_;first|rw[I]|rw[O]|rw[U])|wp_step)
 show R _ _;rwa[Heap.size_push]
open PySem.W in
def IW{I:Sk}(X:K.In h)(Y:Qc K C bm)(hz:us.length<=sizeLine)(hi:findIn K (.ref C) i3=some (some I))(hf:∀self,Looks (model prog w) h (bindSpecial I self) (I,[self]))
  (hq:codeAny (model prog w) (A.under<|.builtin qr {.ref C::us,[]}) (.call I {.ref (h.objs.size+1)::us,[]}) (InitBack (h.objs.size+1) R) {(h.push<|kY us).push<|dU C h.objs.size,g,d,t,os}):
  codeAny (model prog w) A (.call (.ref C) {us,[]}) R ⟨h,g,d,t,os⟩:=by
 let{nm,q,N,bs,sn,sub,ab,col,dd,k0,k1,k2,k3,k5,hK}:=Y.ob;have G:=X _ _ hK;have Jz:=Y.mro;have U:(Value.ref C::bm).contains (.ref C)=true:=by simp
 have hl:=looks_findIn (M:=model prog w) X hi;have f1:=tc_lookup;have f2:=tc_bind (.ref C);have hT:(⟨h,g,d,t,os⟩:L').TypeIs (.ref C) "type":={_,G,M};refine codeAny_of_tree ?_;show wpAny _ _ (callAny (.ref C) _) _ _ _
 repeat (any_goals (first|assumption|with_reducible refine wpAny_loadPart_at G ?_|wp_step))
 refine{M,?_};refine codeAny_call_builtin_at (Code.quiet_builtin _ ∅) entry_typeCall (wpAny_check_type_call_sub G ?_)
 repeat (first|with_reducible refine wpAny_loadPart_at G ?_|with_reducible refine wpAny_madeBy_exc G ?_|wp_step)
 refine Li Jz G hz ?_;show wpAny _ (A.under<|.builtin qr {.ref C::us,[]}) _ _ _ {(h.push<|kY us).push<|dU C h.objs.size,g,d,t,os};have k:∀b o,h.get? b=some o->((h.push<|kY us).push<|dU C h.objs.size).get? b=some o:=λb o e=>Wo _ (Wo _ e);have he:((h.push<|kY us).push<|dU C h.objs.size).get? (h.objs.size+1)=some (dU C h.objs.size):=by heap_get
 have O:=k _ _ G;have Z:=hl.keeps k;have fb:=(hf<|.ref<|h.objs.size+1).keeps k;have t1:Looks (model prog w) ((h.push<|kY us).push<|dU C h.objs.size) (typeOf<|.ref<|h.objs.size+1) (.ref C):=(Looks.ld he).andThen .now;have s1:Looks (model prog w) ((h.push<|kY us).push<|dU C h.objs.size) (isSubtype (.ref C)<|.ref C) true:=λA' Q' E' s' kk z=>by
  let{hp,g',d',t',a0}:=s';exact wpAny_isSubtype_exc (kk _ _ O)<|by rwa[U]
 unfold isInstance callSpecial? specialOf
 repeat (first|simp only[U,Bool.not_true,ZJ,if_false]|with_reducible refine wpAny_call ?_|lk)
 refine codeAny_mono hq λr s' z=>?_;rcases r with e|(v|_|_|_)<;>first|exact z|exact z.elim|skip
 let{rfl,z}:=z;exact Wx<|Wx z
end
section
variable{nm q:Str}{N:K'}{bs:Sl}{k0 k1 k2 k3 k5:Tq}
def IY{e:K'}{t0:K'}(Jz:PZ bm)(I:h.get? C=some (excClassObj nm q C N bs bm true sn sub ab col dd k0 k1 k2 k3 k5 lm))
  (he:h.get? e=some (bf C od #[.ref t0,.none,.none,.none,.bool false,.none])) (hz:us.length<=sizeLine)
  (hq:∀h',(∀b o,b≠e->h.get? b=some o->h'.get? b=some o)->h'.get? e=some (bf C od #[.ref h.objs.size,.none,.none,.none,.bool false,.none])->R (.ok<|.ret .none) ⟨h',g,d,t,os⟩):
  codeAny (model prog w) A (.call (.builtin "ValueError.__init__") {.ref e::us,[]}) R ⟨h,g,d,t,os⟩:=by
 have F:=V8;have O:(Value.ref C::bm).contains (.type "ValueError")=true:=by rw[ZI,Jz.val,Vn]
 have st:=F.noStar;refine codeAny_call_builtin F.init.plain F.initEntry ?_;simp only[checkBuiltinCall,F.initKind,F.initSplit,F.initRow]
 repeat (first|with_reducible refine wpAny_loadPart_at he ?_|with_reducible refine wpAny_loadPart_at I ?_|(with_reducible refine wpAny_isSubtype_exc I ?_;rw[O])|wp_step)
 refine wpAny_onRaise ?_;rw[show ∀(a b:String)(n:Nat),Bind.check {.positional,"*","ValueError",.self,[{"args",.varPos,false}]} a b n (List.map (λx=>x.fst) ({pos:=Value.ref e::us}:Args).kw)=pure Unit.unit from λa b n=>check_star_args _ _ _ _ _ _];refine Wx ?_
 wp_walk
 have G:(h.push<|kY us).get? e=some (bf C od #[.ref t0,.none,.none,.none,.bool false,.none]):=Wo _ he;refine hq _ (λb o z k=>?_) ?_
 .rw[WE _ _ (Ne.symm z)];exact Wo _ k
 .exact Heap.get?_update_self _ G M
end
open PySem.W
variable{E:Sw}
section
variable{prog:Sr}{w:Ss}{A:Sv}{s:L'}{K:JZ}{e C:K'}{bm:Sl}
def Qc.cd(Y:Qc K C bm):∃cd,clsIn K C=some cd/\cd.mro= .ref C::bm/\cd.hasDict=true:=by
 let{nm,q,N,bs,sn,sub,ab,col,dd,k0,k1,k2,k3,k5,hK}:=Y.ob;exact{_,by unfold clsIn;rw[hK],M,M}
def Qc.inst(Y:Qc K C bm)(X:K.In s.heap){od:Sy}{vs:Tc}(he:s.heap.get? e=some (bf C od vs))(T:String)(G:bm.contains (.type T)=true):Looks (model prog w) s.heap (isInstance (.ref e)<|.type T) true:=by
 let{cd,hc,z,_}:=Y.cd;refine((Looks.ld he).andThen .now:Looks (model prog w) s.heap (typeOf<|.ref e) (.ref C)).andThen<|looks_mroIn X ?_;unfold mroIn;rw[hc,Xz,Wm (by rw[z];exact Q8),z,ZI,G,Vn]
end
variable{vs:Tc}{r:Builtin.ObjectAttr.Found}{odx:Sy}{od:Option Obj}{E Q:Sw}
section
variable{prog:Sr}{w:Ss}{A:Sv}{s:L'}{K:JZ}{e C:K'}{bm:Sl}
def RV:Slot "ValueError" v6 fx:=
 .of (owner:=sD) (n:=v6) (by rw[typeLookup_type,builtinLookup_eq_fast];kernel_rfl) ∅ ∅ ∅
  (by first|exact .inl ∅|exact .inr ∅) (by rw[isSubtype_type];kernel_rfl)
def IV{name:Str}{G fill:Bool}{tk:Tok}(X:K.In s.heap)(Y:Qc K C bm)(I:InstAt s.heap e (bf C odx vs) C od)
  (hf:findObj K C od name=some r)
  (hq:wpAny (model prog w) A.in1 (match r with| .value v=>ret v| .bind g a=>Builtin.ObjectAttr.bindTo g a (.ref e) (.ref C)| .missing=>ret .none) (λfin s'=>match fin with| .done (.ret v)=>wpAny (model prog w) A (handedOut v) Q E s'|_=>False) (λ_ _=>False) s)
  (U:r≠ .missing):wpAny (model prog w) A (getAttrBy (.ref e) (.str name tk) fill G) Q E s:=by
 let{h,g,d,t,os}:=s;have O:=I.type (M:=model prog w);have Z:=looks_findIn (M:=model prog w) (h:=h) X Y.ga;have L2:=looks_findIn (M:=model prog w) (h:=h) X Y.gn;have L3:=looks_find (M:=model prog w) (h:=h) X I hf;unfold getAttrBy;refine WH<|Wp (O.at<|Wp<|Z.at ?_);dsimp only;have n2:(Value.builtin fx==Value.builtin "object.__getattribute__")=false:=by decide+kernel
 rw[n2,Wc,Wm Q8];unfold getAttrByItsOwn hookBefore;rw[Wn (show onTheHeap (.ref C)=true from rfl)];refine Wp<|L2.at (Wp<|wpAny_attempt<|WH ?_);unfold callGetattribute;rw[show(G&&onTheHeap (Value.builtin fx))=false from Wc _,Wm Q8];unfold boundAndCalled;rw[RV.bind];refine Wp<|Wx ?_;show wpAny _ _ (call (.builtin fx) [.ref e,.str name tk]) _ _ _;refine wpAny_call<|codeAny_call_builtin RV.plain PySem.F.entry_bexc_ga (@check_slot (model prog w) _ _ ⟨h,g,d,t,os⟩ fx sD v6 (.ref e) [.str name tk] [] _ ∅ ∅ (Y.inst (s:=⟨h,g,d,t,os⟩) X I.at_ sD Y.mro.bas) (PySem.F.args_bexc_ga _ _) ?_);unfold Builtin.«object.__getattribute__»;refine Wp<|Wx (Wp<|Wx<|Wp<|O.at<|Wp<|L3.at ?_);cases r with
 |missing=>exact Ws M U
 |value v=>
  refine WJ hq (λfin s' z=>?_) λ_ _ z=>z.elim;rcases fin with(_|_|_|_)|_<;>first|exact z|exact z.elim
 |bind g' a=>
  refine WJ hq (λfin s' z=>?_) λ_ _ z=>z.elim;rcases fin with(_|_|_|_)|_<;>first|exact z|exact z.elim
structure SN(K:JZ)(C:K'):Prop where
 ha:findIn K (.ref C) "__class__"=some (some<|.builtin gt)
 hn:specialIn K (.builtin gt) "__get__"=some (some<|.builtin ot)
 tk:takesIn K (.builtin gt)=some true
 hm:mroIn K C (.type "object")=some true
def Gs{Q:Option Value->Shared->Prop}(X:K.In s.heap)(Y:Qc K C bm)(Z:SN K C)(I:InstAt s.heap e (bf C odx vs) C od)(h:Q (some<|.ref C) {s with toks:=s.toks+1}):
  wpAny (model prog w) A (getAttr? (.ref e) "__class__") Q E s:=by
 let{cd,hc,O,G}:=Y.cd;have hf:findObj K C od "__class__"=some (.bind (.builtin ot)<|.builtin gt):=by
  unfold findObj;rw[hc,Xz,Z.ha,Xz];dsimp only;rw[Z.hn,Xz];dsimp only;rw[Z.tk];rfl
 unfold getAttr? getAttrBy?;refine Wp<|wpAny_mkText (Wp<|wpAny_attempt ?_);refine IV (s:={s with toks:=s.toks+1}) X Y I hf ?_ (by intro z;cases z);show wpAny _ _ (holding [.builtin gt] (call (.builtin ot) [.builtin gt,.ref e,.ref C])>>=ret) _ _ _;refine Wp<|WH (wpAny_call<|class_get (s:={s with toks:=s.toks+1}) X I Z.hm ?_);exact Wx<|by show wpAny _ _ (handedOut _) _ _ _;rw[handedOut_of M];exact Wx (Wx h)
def Iz(Y:Qc K C bm)(Z:SN K C):KitX K (.ref e) (.ref C) (λh=>InstAt h e (bf C odx vs) C od) where
 ty:=λ_ _ _ I=>I.type
 it:=λ_ _ X _=>by
  let{nm,q,N,bs,sn,sub,ab,col,dd,k0,k1,k2,k3,k5,hK}:=Y.ob;intro O Q' E' s' k q;unfold isType loadHead;exact Wp (wpAny_loadPart (k _ _<|X _ _ hK)<|Wx q)
 ne:=λh tp dd its n U X G=>by
  let{nm,q,N,bs,sn,sub,ab,col,dd,k0,k1,k2,k3,k5,hK}:=Y.ob;refine Xk.mpr λq=>?_;obtain rfl:C=tp:=Value.ref.inj (WA.mp q);have z:=WG Obj.cls (Wq<|(X _ _ hK).symm.trans G);exact Ws (Value.type.inj z) ∅
 ca:=λX I k=>Gs X Y Z I k
end
variable{C:K'}
def Rg(H:Hp)(e:K')(od:Sy)(C:K')(fs:Tb):Prop:=H e=some (XO e C od)/\((fs=[]/\od=none)\/∃dx,od=some dx/\H dx=some (.xd fs))
def Rs(H:Hp)(C:K')(fs:Tb)(E:XK):Prop:=∀(ea:K')(od:Sy)(H':Hp),Rg H' ea od C fs->GI H H'->E (.ref ea) od H'
section
variable{X:Cx}{W:So}{B:St}{H:Hp}{s:L'}
def Rg.inst{e:K'}{od:Sy}{fs:Tb}(I:Inv X W B H s)(h:Rg H e od C fs):∃vs odo,InstAt s.heap e (bf C od vs) C odo:=by
 let{h1,h2}:=h;let{vs,r,_}:=LP I.hok h1;rcases h2 with⟨_,rfl⟩|⟨dx,rfl,hd⟩
 .exact⟨vs,none,r,M,M,WD⟩
 .let{mA,{o,es,ep,z,_},_}:=(show P7 X.prog X.w H s.heap dx (.xd fs) from I.hok dx _ hd);exact{vs,some o,r,M,M,z}
def oZ{K:JZ}{D:K'}{bm bm':Sl}{b:Bool}(Y:Qc K C bm)(Z:Qc K D bm')(h:subIn K (.ref C) (.ref D)=some b):kitOne K (.ref C) (.ref D)=some b:=by
 unfold kitOne;let{cd,hc,I,_}:=Y.cd;let{O,G,_,_}:=Z.cd;by_cases z:((Value.ref C:Sk)== .ref D)=true
 .rw[Wn z];obtain rfl:C=D:=Value.ref.inj (WA.mp z);have:subIn K (.ref C) (.ref C)=some true:=by
   show mroIn K C (.ref C)=some true;unfold mroIn;rw[hc,Xz,Wm (by rw[I];exact Q8),I,ZI];simp
  rw[h]at this;rw[this]
 .rw[Wm z];let{nm,q,N,bs,sn,sub,ab,col,dd,k0,k1,k2,k3,k5,hK}:=Z.ob;have U:typeIn K (.ref D)=some (.type "type"):=by
   show(K.lookup D).map (·.cls)=_;rw[hK];rfl
  show(if((clsIn K D).isSome&&typeIn K (.ref D)==some (.type "type"))=true then subIn K (.ref C) (.ref D)else none)=some b;rw[Wn (by rw[G,U];simp),h]
def pW(K:JZ)(hK:X.K=K):gV X (.builtin xQ) (λxs H Q=>∃e od C fs bm D b,xs=[.ref e,.ref D]/\Rg H e od C fs/\Qc K C bm/\SN K C/\kitOne K (.ref C) (.ref D)=some b/\Q (.bl b) H):=by
 subst hK;intro W s B H xs us Q I r h;let{e,od,C,fs,bm,D,b,rfl,hx,Y,Z,hk,q}:=h;let{G,O,rfl,r0,r1}:=qZ r;cases (show G=Value.ref e from r0);cases (show O=Value.ref D from r1);let{vs,odo,J}:=hx.inst I;exact kia_one (Iz Y Z) I.kIn J hk (λz=>by cases z) λtk=>{.bl b,H,I.tok _,M,q}
def mF(K:JZ)(hK:X.K=K):gV X (.builtin xQ) (λxs H Q=>∃x D t b,xs=[x,.ref D]/\Py K H x t/\kitOne K t (.ref D)=some b/\Q (.bl b) H):=by
 subst hK;intro W s B H xs us Q I r h;let{x,D,t,b,rfl,ty,e,q}:=h;let{u,w',rfl,G,z}:=qZ r;cases (show w'=Value.ref D from z);exact zE I G ty e λtk=>{.bl b,H,I.tok _,M,q}
end
variable{C:K'}{φ:Heap->Prop}
section
variable{X:Cx}{W:So}{B:St}{H:Hp}{s:L'}
def Inv.madeX{us:Sl}(I:Inv X W B H s):Inv X W B (upd H (s.heap.objs.size+1)<|XN (s.heap.objs.size+1) C none) {s with heap:=(s.heap.push<|kY us).push (dU C s.heap.objs.size)}:=
 I.laid (t':=s.toks) (λb o e=>Wo _<|Wo _ e) (ZO _) (LQ (t:=s.heap.objs.size)<|by heap_get)
def Ep(C:K')(t:TA):TE:=λB H Q=>t B H λvs H1=>vs.length<=1000/\∀e,H1 e=none->Q (.ref e) (upd H1 e<|XN e C none)
variable{CX:CXT}{k:Nat}{f:K'}{fd:Tf}{ps:Sx}{sp:Sp}{dvs:Sm}{ds:Sl}{E:XK}{x m:Str}{p pos apos:Pos}{e o:Expr}{es:Tk}{ta:TE}{t:TA}{bm:Sl}
def Inv.rewrite{ea:K'}{od:Sy}{z:K'}{h':Heap}{tk:Nat}(I:Inv X W B H s)(hx:H ea=some (.ext φ))(k:∀b o,b≠ea->s.heap.get? b=some o->h'.get? b=some o)
  (new:h'.get? ea=some (bf C od #[.ref z,.none,.none,.none,.bool false,.none])):Inv X W B (upd H ea<|XN ea C od) {s with heap:=h',toks:=tk}:=
 I.write (x:=ea) (e:=ea) (by rw[hx];exact WD) (.inl M) k {_,new} (LQ new)
def oU(Y:Qc X.K C bm)(hi:findIn X.K (.ref C) i3=some (some<|.builtin "ValueError.__init__"))(hg:Gl X x)(hm:X.mg x=some (.ref C))
  (ha:PA X (e::es) t) (O:(x==(hW:Str))=false:=by decide) (he:starEach (e::es) X.env=(false,eval e X.env)::starEach es X.env:=by rfl) (U:(backTo pos<|starEach es X.env).any (·.1)=false:=by rfl):
  PE X (.Call (.Name x p) (e::es) [] pos) (Ep C t):=by
 intro W s B H Q I h;refine WR<|lZ I hg hm ?_ O;refine Xg (h₀:=X.base) I.ok.mod.kin Y.kp (P8 (ha pos W s B H _ I h) λus s1 zz=>?_) he U;let{vs,H1,G,r,hz,q}:=zz;refine{G.kIn,?_};have z:us.length<=sizeLine:=by rw[<-r.length];exact Zq<|cR hz
 have Z:=Inv.madeX (C:=C) (us:=us) G;have q2:=q (s1.heap.objs.size+1) (G.hok.fresh<|ZO _);let{nm,q',N,bs,sn,sub,ab,col,dd,k0,k1,k2,k3,k5,hK}:=Y.ob;have hC:=Z.kIn _ _ hK;let{h0,g0,d0,t0,o0}:=s1;refine wpAny_call<|IW G.kIn Y z hi (λself=>Looks.of_pure<|V8.init.bind self) ?_;refine IY Y.mro hC (t0:=h0.objs.size) (by heap_get) z λh' k' n'=>{M,?_};have I3:=Z.rewrite (C:=C) (od:=none) (tk:=t0) ag k' n';rw[du]at I3;exact{V.ref<|h0.objs.size+1,_,I3,M,q2}
end
variable{f:K'}{A:Sv}{Q:Flow->Shared->Prop}{H:Hp}{s:L'}{J0:Sw}{E:XK}
structure JB(K:JZ)(C:K')(m:Str)(v:Sk):Prop where
 sp:specialIn K (.ref C) v6=some (some<|.builtin "type.__getattribute__")
 rd:readsIn K C (.type "type")=true
 at_:findCls K (.ref C) (.type "type") m=some (.val v)
section
variable{X:Cx}{W:So}{B:St}
variable{CX:CXT}{k:Nat}{C:K'}{fd:Tf}{ps:Sx}{sp:Sp}{dvs:Sm}{ds:Sl}{x m:Str}{p pos apos:Pos}{e o:Expr}{es:Tk}{ta:TE}{t:TA}{bm:Sl}
def AC{pl:Sem Bool}(Y:Gl X x)(Z:X.mg x=some (.ref C))(hc:JB X.K C m (.ref f))(hk:PySem.W.keepIn X.K (.ref f)=true)(F:Cy X.prog X.w X.K X.mg X.base CX k f fd ps sp)(hr:PP k X.A)(hb:Binds X.K fd ps ds)(hd:M2 dvs ds)(hx:mG CX X E)(ha:PA X (e::es) t)
  (z:(x==(hW:Str))=false:=by decide)
  (G:starEach (e::es) X.env=(false,eval e X.env)::starEach es X.env:=by rfl) (O:(backTo pos<|starEach es X.env).any (·.1)=false:=by rfl)
  (ht:eval (.Call (.Attribute (.Name x p) m apos) (e::es) [] pos) X.env=(do
   let ov<-eval (.Name x p) X.env
   standAt apos.atName
   let(f,first)<-holding [ov] (getMethod ov m pl)
   callWith pos f first (backTo pos<|starEach (e::es) X.env) (backToKw pos<|keywordEach [] X.env)):=by rfl):
  PE X (.Call (.Attribute (.Name x p) m apos) (e::es) [] pos) (LX sp dvs E t):=by
 intro W s B H Q I h;refine ZS (pl:=pl) (lZ I Y Z ?_ z) ht;refine method_cls I.kIn hc.sp<|cls_value I.kIn hc.rd hc.at_ M ?_;refine Xg (first:=[]) (h₀:=X.base) I.ok.mod.kin hk (P8 (ha pos W _ B H _ (I.tok _) h) λus s2 zz=>?_) G O;let{vs,H2,U,r,q2}:=zz;refine{U.kIn,?_};exact tX F hr hb hd hx U r q2
def FH{env:Env}{y:Sem Value}{M':Model}(I:A.handled=none)
  (h:wpAny M' A y (λv s1=>∃ea C od t nm q N bs bm sn sub ab col dd k0 k1 k2 k3 k5,v= .ref ea/\s1.heap.get? C=some (excClassObj nm q C N bs bm true sn sub ab col dd k0 k1 k2 k3 k5 lm)/\PZ bm/\
   s1.heap.get? ea=some (bf C od #[.ref t,.none,.none,.none,.bool false,.none])/\J0 (.ref ea) s1) J0 s):wpAny M' A (raiseStmt env (some y) none) Q J0 s:=by
 unfold raiseStmt;refine Wp<|WJ h (λv s1 z=>?_) λ_ _ z=>z;let{ea,C,od,t,nm,q,N,bs,bm,sn,sub,ab,col,dd,k0,k1,k2,k3,k5,rfl,G,Jz,he,O}:=z;have U:(Value.ref C::bm).contains (.type sD)=true:=by rw[ZI,Jz.bas,Vn]
 let{hp,g,d,tk,os}:=s1
 repeat (first|with_reducible refine wpAny_loadPart_at he ?_|with_reducible refine wpAny_loadPart_at G ?_|(with_reducible refine wpAny_isSubtype_exc G ?_;rw[U])|wp_step)
 exact wpAny_raiseNew_none I O
def JA(X:Cx)(E:XK):Prop:=∀e s,Fg X (λ_=>E) e s->X.xe e s
def Ht(K:JZ)(te:TE)(E:XK):TS:=λ_ B H=>te B H λv H1=>∃ea C od bm,v= .ref ea/\H1 ea=some (XN ea C od)/\Qc K C bm/\E (.ref ea) od (upd H1 ea<|XO ea C od)
def rN{ex:Expr}{te:TE}{pos:Pos}(hc:X.calm=true)(hx:JA X E)(he:PE X ex te):PS X (.Raise (some ex) none pos) (Ht X.K te E):=by
 intro W s B H D I h;rw[arm_exec_Raise];simp only[evalOpt,Option.map];refine Wp<|wpAny_standAt (FH (I.ok.hd hc)<|Wp<|P8 (he W s B H _ I h) λv s1 zz=>?_);let{y,H1,G,U,ea,C,od,bm,Z,O,Y,q}:=zz;refine Wp<|wpAny_standAt<|Wx ?_;subst Z;cases (show v=Value.ref ea from U);let{nm,q',N,bs,sn,sub,ab,col,dd,k0,k1,k2,k3,k5,hK}:=Y.ob;let{t,z}:=Oh G.hok O;exact{ea,C,od,t,nm,q',N,bs,bm,sn,sub,ab,col,dd,k0,k1,k2,k3,k5,M,G.kIn _ _ hK,Y.mro,z,hx _ _ {W,B,H1,ea,C,od,_,_,M,G,O,z,(by show 1<6;decide),.inl M,q}}
end
def vB{P:Sr}{w:Ss}{K:JZ}{mg:Sz}{base:Heap}{N:Sx}{qual:Str}{scope:Scope}{cd:Sk}{outer:Te}:
  JA (ux (Rl P w) P w K mg base N qual scope f cd A outer s H E) E:=λ_ _ h=>Ir h
variable{A:Sv}{Q:Bool->Shared->Prop}{pn:So}{M':Model}{s:L'}{J0:Sw}
section
variable{nm q nm' q':Str}{C N C' N':K'}{bs bm bs' bm':Sl}{sn sn':Sx}{sub sub':Sl}{ab ab':Bool}{col col':Option Bool}{dd dd':Sy}{k0 k1 k2 k3 k5 k0' k1' k2' k3' k5':Tq}
def Gr{e:K'}{od:Sy}{vs:Tc}{b:Bool}(z:s.heap.get? C=some (excClassObj nm q C N bs bm true sn sub ab col dd k0 k1 k2 k3 k5 lm))
  (hD:s.heap.get? C'=some (excClassObj nm' q' C' N' bs' bm' true sn' sub' ab' col' dd' k0' k1' k2' k3' k5' lm)) (Jz:PZ bm') (he:s.heap.get? e=some (bf C od vs)) (hb:(Value.ref C::bm).contains (.ref C')=b)
  (hq:Q b s):wpAny M' A (excMatches (.ref e)<|.ref C') Q J0 s:=by
 have G:(Value.ref C'::bm').contains (.type sD)=true:=by rw[ZI,Jz.bas,Vn]
 have f:=tc_notTuple;let{hp,g,d,t,os}:=s;unfold excMatches
 repeat (first|with_reducible refine wpAny_loadPart_at he ?_|with_reducible refine wpAny_loadPart_at hD ?_|(with_reducible refine wpAny_isSubtype_exc hD ?_;rw[G])|(with_reducible refine wpAny_isSubtype_exc z ?_;rw[hb])|wp_step)
 cases b<;>(wp_walk;exact hq)
end
abbrev Cx.sui(X:Cx)(ea:K'):Cx:={X with A:=X.A.mark (some<|.ref ea),calm:=false,xe:=λ_ _=>False}
abbrev Cx.tr(X:Cx)(pn:So)(E:St->XK):Cx:={X with pn:=X.pn++pn,xe:=Fg {X with pn:=X.pn++pn} E}
section
variable{X:Cx}{W:So}{B:St}{H:Hp}
def Cx.Ok.sui(ok:X.Ok)(ea:K'):(X.sui ea).Ok:=
 {ok.mod,ok.kind,ok.glob,ok.blt,ok.above,ok.inj,ok.has,ok.cab,λz=>Ws z Q8,ok.frames,ok.stk,ok.exf,ok.bs,ok.bsz,ok.noex,ok.exfs,ok.funs,ok.frf}
def Inv.sui(I:Inv X W B H s)(ea:K'):Inv (X.sui ea) W B H s:={I.ok.sui ea,I.os,I.bare,I.base,I.loc,I.cell,I.free,I.freeC,I.pin,I.hok,I.len}
def Inv.back{ea:K'}(ok:X.Ok)(I:Inv (X.sui ea) W B H s):Inv X W B H s:=⟨ok,I.os,I.bare,I.base,I.loc,I.cell,I.free,I.freeC,I.pin,I.hok,I.len⟩
def Cx.Ok.tr(ok:X.Ok)(pn:So)(E:St->XK):(X.tr pn E).Ok:=
 ⟨ok.mod,ok.kind,ok.glob,ok.blt,ok.above,ok.inj,ok.has,ok.cab,ok.hd,ok.frames,ok.stk,ok.exf,ok.bs,ok.bsz,ok.noex,ok.exfs,ok.funs,ok.frf⟩
def Inv.tr(I:Inv X W B H s)(E:St->XK):Inv (X.tr W E) [] B H s:={I.ok.tr W E,I.os,I.bare,I.base,I.loc,I.cell,I.free,I.freeC,λp hp=>I.pin p (by simpa using hp),I.hok,I.len}
def Inv.untr(ok:X.Ok)(I:Inv {X with pn:=X.pn++pn} W B H s):Inv X pn B H s:=
 {ok,I.os,I.bare,I.base,I.loc,I.cell,I.free,I.freeC,λp hp=>I.pin p<|ZW _ hp,I.hok,I.len}
def Inv.untr'{E:St->XK}(ok:X.Ok)(I:Inv (X.tr pn E) W B H s):Inv X pn B H s:=
 {ok,I.os,I.bare,I.base,I.loc,I.cell,I.free,I.freeC,λp hp=>I.pin p<|ZW _ hp,I.hok,I.len}
def oQ{i:Nat}{x:Str}{pos:Pos}{Q:Tr}(I:Inv X W B H s)(hN:X.N.Nodup)(hi:X.N[i]?=some x)(hk:X.env.scope.names.lookup x=some .local)
  (h:∀s',Inv X W (B.set i none) H s'->Q Unit.unit s'):wpAny M' A (do bindName X.env x .none;unbindBehindTheSuite X.env x pos) Q J0 s:=by
 let{m,Z,hl}:=id I.loc;have G:i<B.length:=by rw[I.len];exact(Q2.mp hi).1
 have above:∀b o,X.s₀.heap.get? b=some o->b≠X.env.locals:=λb o e=>Zb (Z5 (Ww e) I.ok.above);refine wpAny_nameGoes_keeps hk Z (by rw[I.ok.kind];rfl) λh' v O hs=>h _ ?_;have cl:∀y c,X.env.cells.lookup y=some c->∀w,s.heap.IsCell c w->h'.IsCell c w:=λy c e w z=>z.sameBut hs (I.cne y c e);refine{I.ok,I.os,I.bare,{λb o e n hb hx=>(hs.2 b<|above b o e).trans<|I.base.keep b o e n hb hx,λb o e n hb hx=>?_,I.base.free,λb o e hx=>?_,I.base.tups,I.base.frzs,I.base.tbls},{_,O,λj y v' U e2 e3=>?_},λy c e=>?_,I.free,I.freeC,λp hp=>?_,λb ob e=>?_,by simpa using I.len}
 .let{sl,r}:=I.base.slot b o e n hb hx;exact{sl,(hs.2 b<|above b o e).trans r}
 .let{o',r}:=I.base.there b o e hx;exact{o',(hs.2 b<|above b o e).trans r}
 .have Y:j≠i:=λz=>by rw[z,XQ G]at e2;cases e2
  rw[Vw (Ne.symm Y)]at e2;let{u,r,q}:=hl j y v' U e2 e3;refine{u,r,?_};rcases q with⟨k,e⟩|⟨k,c,e,z⟩
  .have ny:y≠x:=λz=>Y (wX hN U<|z▸hi);exact .inl {k,by simp[ny,e]}
  .exact .inr {k,c,e,cl y c e _ z}
 .let{w',z}:=I.cell y c e;exact{w',cl y c e w' z}
 .let{e,n,ne,nf,d}:=I.pin p hp;exact{(hs.2 p.1 ne).trans e,n,ne,nf,d}
 .refine(I.hok b ob e).stay (λc w' hc r=>(hs.2 c ?_).trans r) (λ_ r=>r) λ_ _ r=>r;rintro rfl;have fr:=I.free;rcases hc with rfl|hc
  .rw[fr]at e;cases e
  .rw[fr]at hc;cases hc
end
variable{b:Bool}{Q:Flow->Shared->Prop}{hs:List ExceptHandler}{bm:Sl}
abbrev TH:=Qo->St->Hp->Addr->Addr->Option Addr->Prop
def PH(X:Cx)(hs:List ExceptHandler)(t:TH):Prop:=∀(W:So)(s:L')(B:St)(H:Hp)(D:Qo)(ea C:K')(od:Sy)(vs:Tc)(T:K'),Inv X W B H s->H ea=some (XO ea C od)->
 s.heap.get? ea=some (bf C od vs)->Ra s.heap ea vs T .none->oO X W H T->t D B H ea C od->Bf X (handleBy (.ref ea) X.env hs) (SP X W D) X.xe s
def O6:TH:=λ_ _ _ _ _ _=>False
def Qo.gone(D:Qo)(i:Nat):Qo:={λB H=>D.nx (B.set i none) H,D.rt,λB H=>D.bk (B.set i none) H,λB H=>D.ct (B.set i none) H}
inductive hAs(K:JZ)(Dc:K')(i:Nat)(ts:TS)(tr:TH)(D:Qo)(B:St)(H:Hp)(ea C:K')(od:Sy):Prop
 |mk(bm b:_)(_:Qc K C bm)(_:subIn K (.ref C) (.ref Dc)=some b)(_:if b=true then ts (D.gone i) (B.set i<|some<|.ref ea) H else tr D B H ea C od)
section
variable{X:Cx}{x n:Str}{np pos:Pos}{b0:Stmt}{suite:List Stmt}{rest:List ExceptHandler}{i:Nat}{ts:TS}{tr:TH}{Dc:K'}{bm':Sl}
def KK:PH X hs O6:=λ_ _ _ _ _ _ _ _ _ _ _ _ _ _ _ h=>h.elim
def Kr{K:JZ}{C D:K'}(Y:Qc K C bm)(h:subIn K (.ref C) (.ref D)=some b):(Value.ref C::bm).contains (.ref D)=b:=by
 let{cd,hc,z,_}:=Y.cd;have h:mroIn K C (.ref D)=some b:=h;unfold mroIn at h;rw[hc,Xz,Wm (by rw[z];exact Q8),z]at h;exact Wq h
def KJ{name:Option Str}{W:So}{s:L'}{B:St}{H:Hp}{ea C:K'}{od:Sy}{vs:Tc}(I:Inv X W B H s)(O:s.heap.get? ea=some (bf C od vs))(U:Gl X x)(hm:X.mg x=some (.ref Dc))(Z:Qc X.K Dc bm')
  (Y:Qc X.K C bm) (hb:subIn X.K (.ref C) (.ref Dc)=some b) (z:(x==(hW:Str))=false)
  (h1:b=true->codeAny (model X.prog X.w) (X.A.mark<|some<|.ref ea) (.handlers (.ref ea) [.ExceptHandler none name (b0::suite) pos] X.env) (λr s2=>match r with
     | .ok f=>(match name with
      |none=>Q f s2
      |some n=>Bf X (do bindName X.env n .none;unbindBehindTheSuite X.env n pos) (λ_ s3=>Q f s3) X.xe s2)
     | .error x=>cameBackBy (model X.prog X.w) X.A X.env X.xe x s2) s)
  (h2:b=false->Bf X (handleBy (.ref ea) X.env rest) Q X.xe s):
  Bf X (handleBy (.ref ea) X.env (.ExceptHandler (some<|.Name x np) name (b0::suite) pos::rest)) Q X.xe s:=by
 let{nm,q1,N,bs,sn,sub,ab,col,dd,k0,k1,k2,k3,k5,hK}:=Y.ob;let{nm',a0,N',bs',sn',sub',ab',col',dd',k0',k1',k2',k3',k5',G}:=Z.ob;refine wpAny_handleBy_cons (codeAny_handlers_test<|lZ (X:=X.sui ea) (I.sui ea) U hm ?_ z) (by intro q;cases q);refine Gr (I.kIn _ _ hK) (I.kIn _ _ G) Z.mro O (Kr Y hb) ?_;cases b with
 |true=>exact h1 M
 |false=>exact h2 M
def OM(hN:X.N.Nodup)(hi:X.N[i]?=some n)(hk:X.env.scope.names.lookup n=some .local)(hg:Gl X x)(hm:X.mg x=some (.ref Dc))(Z:Qc X.K Dc bm')(hs:∀ea,Qh (X.sui ea) (b0::suite) ts)(hr:PH X rest tr)(a1:(x==(hW:Str))=false:=by decide):
  PH X (.ExceptHandler (some<|.Name x np) (some n) (b0::suite) pos::rest) (hAs X.K Dc i ts tr):=by
 intro W s B H D ea C od vs T I hx O a0 G h;let{bm,b,Y,hb,h}:=h;refine KJ I O hg hm Z Y hb a1 (λz=>?_)<|λz=>?_
 .subst z;rw[Wn M]at h;refine codeAny_handlers_suite_as<|qK (l:=[]) O a0 λh' g1 g2 g3 g4 g5=>?_;have I1:Inv X W B H {s with heap:=h'}:=I.turned (t':=s.toks) (it:=T) g1 G.1 G.2.1 G.2.2.2.1 G.2.2.2.2.1 G.2.2.2.2.2;refine re (v:= .ref ea) I1 hN hi (.inl hk) M (λs2 I2=>?_)<|.inr hk;refine WJ (hs ea W s2 _ H (D.gone i) (I2.sui ea) h) (λf s4 z=>?_) λ_ _ z=>z.elim;cases f with
  |next=>
   let{U,H',I',q}:=z;exact oQ (I'.back I.ok) hN hi hk λs5 I5=>{_,H',I5,q}
  |brk=>
   let{U,H',I',q}:=z;exact oQ (I'.back I.ok) hN hi hk λs5 I5=>{_,H',I5,q}
  |cont=>
   let{U,H',I',q}:=z;exact oQ (I'.back I.ok) hN hi hk λs5 I5=>{_,H',I5,q}
  |ret u=>
   let{v,U,H',I',rv,q}:=z;exact oQ (I'.back I.ok) hN hi hk λs5 I5=>{v,_,H',I5,rv,q}
 .subst z;rw[Wm Q8]at h;exact hr W s B H D ea C od vs T I hx O a0 G h
def sTry(tb:(St->XK)->TS)(th:TH):TS:=λD B H=>tb (λσ1 v od H1=>∃ea C,v= .ref ea/\H1 ea=some (XO ea C od)/\th D σ1 H1 ea C od) D B H
def M7{body:List Stmt}{h0:ExceptHandler}{tb:(St->XK)->TS}{th:TH}(Y:X.stack=X.env::X.outer)(hf:X.env.frame=some X.env.locals)(hb:∀pn E,Qh (X.tr pn E) body (tb E))(hh:PH X (h0::hs) th):
  PS X (.Try body (h0::hs) [] [] pos) (sTry tb th):=by
 intro W s B H D I h;refine wpAny_Try_except<|WJ (hb W _ [] s B H D (I.tr _) h) (λf s1 z=>?_) λe s1 z=>?_
 .cases f with
  |next=>
   let{G,H',O,q}:=z;exact wpAny_execs_nil {G,H',O.untr' I.ok,q}
  |brk=>
   let{G,H',O,q}:=z;exact{G,H',O.untr' I.ok,q}
  |cont=>
   let{G,H',O,q}:=z;exact{G,H',O.untr' I.ok,q}
  |ret u=>
   let{v,G,H',O,rv,q}:=z;exact{v,G,H',O.untr' I.ok,rv,q}
 .let{Z,a0,H1,ea,C,od,vs,φ,rfl,I1,hx,hr,hz,ht,ea',C',e1,e2,q}:=z;obtain rfl:ea=ea':=Value.ref.inj e1;refine zq (X:={X with pn:=X.pn++W}) I1 Y hf I1.ok.frames hx hr hz ht λs2 a1 T I2 r2 z2 t2 U=>?_;let{a2,r3,_}:=LP I2.hok e2;obtain rfl:C=C':=by
   have z:=WG Obj.cls (Wq<|r2.symm.trans r3);exact Value.ref.inj z
  exact hh W s2 a0 _ D ea C od a1 T (I2.untr I.ok) e2 r2 t2 {U.1,U.2.1,U.2.2.1,U.2.2.2.1,U.2.2.2.2.1,λp hp=>U.2.2.2.2.2 p<|ZW _ hp} q
end
variable{X:Cx}{E:St->XK}
def vI(CX:CXT)(X:Cx)(E:St->XK):Prop:=∀(W:So)(B:St)(H:Hp)(s:L')(e:Sk)(s':L'),Inv X W B H s->CX X.stack H s (E B) e s'->X.xe e s'
def HM{pn:So}:vI (Rl X.prog X.w) (X.tr pn E) E:=λW B H s e s' I h=>by
 have ok:Cx.Ok {X with pn:=X.pn++pn}:=⟨I.ok.mod,I.ok.kind,I.ok.glob,I.ok.blt,I.ok.above,I.ok.inj,I.ok.has,I.ok.cab,I.ok.hd,I.ok.frames,I.ok.stk,I.ok.exf,I.ok.bs,I.ok.bsz,I.ok.noex,I.ok.exfs,I.ok.funs,I.ok.frf⟩;have z:Inv {X with pn:=X.pn++pn} W B H s:=⟨ok,I.os,I.bare,I.base,I.loc,I.cell,I.free,I.freeC,I.pin,I.hok,I.len⟩;exact z.flies h λ_ _ _ q=>q
def Hg(C:K')(m:Str)(sp:Sp)(dvs:Sm)(E:St->XK)(ta:TE)(t:TA):TE:=λB H Q=>ta B H λx H1=>∃a dx fs,x= .ref a/\H1 a=some (.ins C dx fs)/\fs.lookup m=none/\
 t B H1 λvs H2=>sp (x::(vs++dvs)) H2 Q (E B)
section
variable{CX:CXT}{k:Nat}{f C:K'}{fd:Tf}{ps:Sx}{sp:Sp}{dvs:Sm}{ds:Sl}{x m:Str}{p pos apos:Pos}{e o:Expr}{es:Tk}{ta:TE}{t:TA}
def Eu{W:So}{B:St}{H:Hp}{s:L'}{Q:VK}{us:Sl}{vs:Sm}(F:Cy X.prog X.w X.K X.mg X.base CX k f fd ps sp)(G:PP k X.A)(hb:Binds X.K fd ps ds)(hd:M2 dvs ds)(hx:vI CX X E)
  (I:Inv X W B H s) (r:M2 vs us) (h:sp (vs++dvs) H Q (E B)):Bf X (call (.ref f) us) (EP X W B Q) X.xe s:=by
 have z:M2 (vs++dvs) (us++ds):=r.append hd;have hl:(us++ds).length=ps.length:=by rw[<-z.length];exact F.len _ _ _ _ h
 refine wpAny_call<|codeAny_mono (F.run X.A X.stack s H {us,[]} (us++ds) (vs++dvs) Q (E B) G I.env0 (hb s us I.kIn hl) z h) λr s' hq=>?_;cases r with
 |error e=>exact hx W B H s e s' I hq
 |ok fl=>cases fl<;>first|exact I.after hq|exact False.elim hq
def HI{pl:Sem Bool}(he:PE X o ta)(c:R6 X.K C)(U:bN X.K C m f)(F:Cy X.prog X.w X.K X.mg X.base CX k f fd ps sp)(hr:PP k X.A)(hb:Binds X.K fd ps ds)(hd:M2 dvs ds)(hx:vI CX X E)(ha:PA X (e::es) t)
  (z:starEach (e::es) X.env=(false,eval e X.env)::starEach es X.env:=by rfl) (G:(backTo pos<|starEach es X.env).any (·.1)=false:=by rfl)
  (ht:eval (.Call (.Attribute o m apos) (e::es) [] pos) X.env=(do
   let ov<-eval o X.env
   standAt apos.atName
   let(f,first)<-holding [ov] (getMethod ov m pl)
   callWith pos f first (backTo pos<|starEach (e::es) X.env) (backToKw pos<|keywordEach [] X.env)):=by rfl):
  PE X (.Call (.Attribute o m apos) (e::es) [] pos) (Hg C m sp dvs E ta t):=by
 intro W s B H Q I h;refine ZS (pl:=pl) (P8 (he W s B H _ I h) λu s1 O=>?_) ht;let{x,H1,Y,rx,a,dx,fs,ex,ea,l,q}:=O;subst ex;obtain rfl:u=Value.ref a:=rx;refine gE Y ea c U l ?_;refine Xg (first:=[.ref a]) (h₀:=X.base) I.ok.mod.kin U.kp (P8 (ha pos W s1 B H1 _ Y q) λus s2 zz=>?_) z G;let{vs,H2,Z,r,q2}:=zz;refine{Z.kIn,?_};exact Eu (us:= .ref a::us) (vs:= .ref a::vs) F hr hb hd hx Z (.cons M r) q2
def zl{pl:Sem Bool}(he:PE X o ta)(c:R6 X.K C)(O:bN X.K C m f)(F:Cy X.prog X.w X.K X.mg X.base CX k f fd ps sp)(U:PP k X.A)(hb:Binds X.K fd ps ds)(hd:M2 dvs ds)(hx:vI CX X E)
  (Y:eval (.Call (.Attribute o m apos) [] [] pos) X.env=(do
   let ov<-eval o X.env
   standAt apos.atName
   let(f,first)<-holding [ov] (getMethod ov m pl)
   callWith pos f first (backTo pos<|starEach [] X.env) (backToKw pos<|keywordEach [] X.env)):=by rfl):
  PE X (.Call (.Attribute o m apos) [] [] pos) (Hg C m sp dvs E ta Fx):=by
 intro W s B H Q I h;refine ZS (pl:=pl) (P8 (he W s B H _ I h) λu s1 z=>?_) Y;let{x,H1,G,Z,a,dx,fs,ex,ea,l,q}:=z;subst ex;obtain rfl:u=Value.ref a:=Z;refine gE G ea c O l ?_;exact V2 (first:=[.ref a]) G.kIn O.kp<|Eu (us:=[.ref a]) (vs:=[.ref a]) F U hb hd hx G (.cons M .nil) q
end
variable{T:K'}
def ju(K:JZ)(fd:Tf)(ps:Sx)(dvs:Sm):Prop:=∃ds,Binds K fd ps ds/\M2 dvs ds
structure R3(K:JZ)(x qual:Str)(st:Stmt)(f:K')(fd:Tf):Prop where
 ex:∃(oc:Sk)(od:Sy)(dV kV doc pm:Sk)(an:Sy)(cdv ct:Sk)(osl:Tv),
  fd=fnOf x qual (iI st) (dF st) (am st) dV kV doc pm an cdv ct/\K.lookup f=some {oc,od,.func fd,osl}/\codeIn K cdv qual=true
 kp:keepIn K (.ref f)=true
section
variable{P:Sr}{w:Ss}{K:JZ}{mg:Sz}{base:Heap}{x qual:Str}{st:Stmt}{f:K'}{fd:Tf}{N ps:Sx}{k:Nat}{sp:Sp}
def R3.ok(F:R3 K x qual st f fd)(S:ar N ps (am st))(len:∀vs H Q E,sp vs H Q E->vs.length=ps.length)
  (G:∀(z:Sk)(A:Sv)(outer:Te)(s:L')(H:Hp)(vs:Sm)(Q:VK)(E:XK),PP k (A.deeper<|envOfC qual (am st) s.heap.objs.size f z)->sp vs H Q E->
   ∃t,Qh (ux PJ P w K mg base N qual (am st) f z A outer s H E).nox (dF st) t/\t {nx:=λ_ H'=>Q .non H',rt:=Q} (start N vs) H):Cy P w K mg base PJ (k+1) f fd ps sp:=by
 let{oc,od,dV,kV,U,pm,an,z,ct,Y,rfl,lk,I}:=F.ex;refine EX lk I S len λA outer s H vs Q E Z O=>?_;let{t,h,q}:=G z A outer s H vs Q E Z O;exact⟨t,h.nox,q⟩
def R3.okX(F:R3 K x qual st f fd)(S:ar N ps (am st))(len:∀vs H Q E,sp vs H Q E->vs.length=ps.length)
  (G:∀(z:Sk)(A:Sv)(outer:Te)(s:L')(H:Hp)(vs:Sm)(Q:VK)(E:XK),PP k (A.deeper<|envOfC qual (am st) s.heap.objs.size f z)->sp vs H Q E->
   ∃t,Qh (ux (Rl P w) P w K mg base N qual (am st) f z A outer s H E) (dF st) t/\t {nx:=λ_ H'=>Q .non H',rt:=Q} (start N vs) H):Cy P w K mg base (Rl P w) (k+1) f fd ps sp:=by
 let{oc,od,dV,kV,U,pm,an,z,ct,Y,rfl,lk,I}:=F.ex;exact EX lk I S len λA outer s H vs Q E Z O=>G z A outer s H vs Q E Z O
structure Ob(K:JZ)(x qual:Str)(st:Stmt)(T f:K')(fd:Tf):Prop where
 toD:R3 K x qual st f fd
 ex:∃(kV doc pm:Sk)(an:Sy)(cdv ct:Sk),fd=fnOf x qual (iI st) (dF st) (am st) (.ref T) kV doc pm an cdv ct
def EW{Y:Sk}{od O:Sy}{I:Tv}{kV G U z ct:Sk}(l:K.lookup f=some {Y,od,.func<|fnOf x qual (iI st) (dF st) (am st) (.ref T) kV G U O z ct,I})
  (c:codeIn K z qual=true) (k:keepIn K (.ref f)=true):Ob K x qual st T f (fnOf x qual (iI st) (dF st) (am st) (.ref T) kV G U O z ct):={{{Y,od,_,kV,G,U,O,z,ct,I,M,l,c},k},⟨kV,G,U,O,z,ct,M⟩}
def dt{dd:Sy}{items:Tc}{n:Nat}{U:Tv}{ds:Sl}(g:Nat)(Z:g+ds.length=ps.length)(F:Ob K x qual st T f fd)(Y:K.lookup T=some {.type oo,dd,.seq items n,U})
  (h:∀(kV z I:Sk)(O:Sy)(G ct:Sk)(us:Sl),us.length=g->∃k,bindArgs (fnOf x qual (iI st) (dF st) (am st) (.ref T) kV z I O G ct) {us,[]}=seqItems? (.ref T)>>=k/\k (some items)=pure (ps.zip<|us++ds)):
  Binds K fd ps ds:=by
 let{kV,z,I,O,G,ct,rfl}:=F.ex;intro s us X hl;let{k,h1,h2}:=h kV z I O G ct us (by rw[Q6]at hl;lia);exact BindsTo.of_defaults M (X _ _ Y) M h1 h2
end
end L2
namespace L2
open PySem PySem.Spec PyProof.Rows
open SeqAt
section
variable{X:Cx}
def jz{st:Stmt}:PS X st (λ_ _ _=>False):=λ_ _ _ _ _ _ h=>h.elim
def PlainL.isL{h:Heap}{a:K'}{xs:Tc}(p:PlainL h a xs):h.IsList a xs:=by
 let{o,n,e,c,_,d}:=p;exact⟨o,e,c,n,d⟩
inductive rEqN(K:JZ)(f:Bool)(x y:V)(H:Hp)(Q:VK):Prop
 |mk(a b xs:_)(_:x= .ref a)(_:y= .ref b)(_:E7 K H a xs)(_:E7 K H b [])(_:Q (.bl<|xs.isEmpty !=f) H)
def Nf(K:JZ)(hK:X.K=K)(hu:X.A.units+20<cLine):Qs X (compareOp .NotEq) (rEqN K true):=by
 subst hK;intro W s B H x y v u Q I O U h;let{a,b,xs,rfl,rfl,h1,h2,q}:=h;cases O;cases U;let{Z,r1,G,z1}:=I.list h1;let{i2,Y,p2,z2}:=I.list h2;have z:X.A.units<cLine:=();cases Y;cases r1 with
 |nil=>exact RcNeAt.lists (A:=X.A) (e:=λ_=>true) (PlainL.isL G) (PlainL.isL p2) M z (λj h1=>Ws h1<|W5 _) _ _ _ _ {.bl _,H,I,M,q}
 |cons r t=>exact RcNeAt.lists_lengths (PlainL.isL G) (PlainL.isL p2) (by simp) z _ _ _ _ {.bl _,H,I,M,q}
end
def Fl:V->Prop
 | .int _=>True| .str _=>True| .non=>True|_=>False
theorem Br:∀{as:Su}{us:Sl},M2 (as.map V.ref) us->us=as.map Value.ref
 | [],us,r=>by cases r;rfl
 |a::as,us,r=>by
  cases r with
  |cons r1 z=>
   cases r1;rw[Br z];rfl
section
variable{X:Cx}{W:So}{B:St}{H:Hp}{s:L'}
def AU{A:Sv}{x:V}{u v:Sk}(h:Fl x)(r1:RelV x u)(z:RelV x v):EqAt A s u v true:=by
 cases x with
 |int n=>
  let{G,rfl}:=r1;let{I,rfl}:=z;have:=EqAt.int_int (A:=A) (s:=s) n G n I;rwa [WN]at this
 |str n=>
  let{G,rfl}:=r1;let{I,rfl}:=z;have:=EqAt.str_str (A:=A) (s:=s) n G n I;rwa [WN]at this
 |non=>
  cases (show u=Value.none from r1);cases (show v=Value.none from z);exact EqAt.same _
 |_=>exact h.elim
end
def Sa(K:JZ)(H:Hp):Nat->V->V->Prop
 |0,x,y=>Fl x/\x=y
 |n+1,x,y=>(Fl x/\x=y)\/∃a b xs ys,x= .ref a/\y= .ref b/\(E7 K H a xs/\E7 K H b ys\/Px K H a xs/\Px K H b ys)/\xs.length=ys.length/\∀(j:Nat)(u v:V),xs[j]?=some u->ys[j]?=some v->Sa K H n u v
def qU{xs:Sm}{us:Sl}(r:M2 xs us)(j:Nat)(h:j<us.length):∃x,xs[j]?=some x/\RelV x us[j]:=by
 induction r generalizing j with
 |nil=>cases h
 |cons r _ z=>cases j with
  |zero=>exact{_,M,r}
  |succ j=>exact z j<|Nat.lt_of_succ_lt_succ h
section
variable{X:Cx}{W:So}{B:St}{H:Hp}{s:L'}
theorem Ed(I:Inv X W B H s):∀(n:Nat){A:Sv}{x y:V}{u v:Sk},A.units+n<cLine->Sa X.K H n x y->RelV x u->RelV y v->EqAt A s u v true
 |0,_,_,_,_,_,_,⟨f,e⟩,r1,r2=>AU f r1 (e▸r2)
 |n+1,A,x,y,u,v,hu,h,r1,r2=>by
  rcases h with⟨f,e⟩|⟨a,b,xs,ys,rfl,rfl,o,l,g⟩
  .exact AU f r1<|e▸r2
  cases r1;cases r2;by_cases e:a=b
  .subst e;exact EqAt.same _
  have it:∀{us vs:Sl},M2 xs us->M2 ys vs->∀(j:Nat)(h1:j<us.length)(h2:j<vs.length),EqAt A.in1 s us[j] vs[j] true:=λz G j h1 h2=>by
   let{x,U,Y}:=qU z j h1;let{y,e2,Z}:=qU G j h2;exact Ed I n (by show A.units+1+n<cLine;lia) (g j x y U e2) Y Z
  refine EqAt.of_refs e ?_;rcases o with⟨h1,h2⟩|⟨h1,h2⟩
  .let{i1,z,O,_}:=I.list h1;let{i2,G,p2,_}:=I.list h2;have:=RcAt.lists (A:=A) (e:=λ_=>true) (PlainL.isL O) (PlainL.isL p2) (by simpa[<-z.length,<-G.length]using l) () (λj a b=>by simpa using it z G j (by simpa using a) (by simpa using b));rw[Zp.mpr λ_ _=>rfl]at this;exact this
  .let{i1,z,O,_}:=I.tuple h1;let{i2,G,p2,_}:=I.tuple h2;have:=RcAt.tuples (A:=A) (e:=λ_=>true) O p2 () (λj a b=>by simpa using it z G j (by simpa using a) (by simpa using b));rw[Zp.mpr λ_ _=>rfl]at this;simpa[<-z.length,<-G.length,l]using this
inductive rAlk(K:JZ)(f:Bool)(x y:V)(H:Hp)(Q:VK):Prop
 |mk(a b:K')(xs ys:Sm)(_:x= .ref a)(_:y= .ref b)(_:(E7 K H a xs/\E7 K H b ys\/Px K H a xs/\Px K H b ys))(_:xs.length=ys.length)(_:(∀(j:Nat)(u v:V),xs[j]?=some u->ys[j]?=some v->Sa K H 4 u v))(_:Q (.bl<|!f) H)
def DH(K:JZ)(hK:X.K=K)(hu:X.A.units+20<cLine):Qs X (compareOp .Eq) (rAlk K false):=by
 subst hK;intro W s B H x y v u Q I Z ry h;let{a,b,xs,ys,rfl,rfl,o,l,g,q}:=h;cases Z;cases ry;have it:∀{us vs:Sl},M2 xs us->M2 ys vs->∀(j:Nat)(h1:j<us.length)(h2:j<vs.length),EqAt X.A.in1 s us[j] vs[j] true:=λz G j h1 h2=>by
  let{x,e1,q1}:=qU z j h1;let{y,e2,q2}:=qU G j h2;exact Ed I 4 (by show X.A.units+1+4<cLine;lia) (g j x y e1 e2) q1 q2
 rcases o with⟨h1,h2⟩|⟨h1,h2⟩
 .let{U,z,O,_}:=I.list h1;let{Y,G,p2,_}:=I.list h2;have:=RcAt.lists (A:=X.A) (e:=λ_=>true) (PlainL.isL O) (PlainL.isL p2) (by simpa[<-z.length,<-G.length]using l) () (λj a b=>by simpa using it z G j (by simpa using a) (by simpa using b));rw[Zp.mpr λ_ _=>rfl]at this;exact this _ _ _ _ {.bl _,H,I,M,q}
 .let{U,z,O,_}:=I.tuple h1;let{Y,G,p2,_}:=I.tuple h2;have:=RcAt.tuples (A:=X.A) (e:=λ_=>true) O p2 () (λj a b=>by simpa using it z G j (by simpa using a) (by simpa using b));rw[Zp.mpr λ_ _=>M,show(true&&U.toArray.size==Y.toArray.size)=true by simp[<-z.length,<-G.length,l]]at this;exact this _ _ _ _ {.bl _,H,I,M,q}
end
end L2
namespace L2
open PySem PySem.Spec PyProof.Rows
variable{D:Addr->Sp->Prop}{X:Cx}{o:HO}{H:Hp}{kk:Nat}{A Jz:Prop}{x y:V}
def ET(e:x=y)(h:Jz):if(!decide (x=y))=true then A else Jz:=by
 rw[Wv e];exact cu h
def OX(e:¬x=y)(h:A):if(!decide (x=y))=true then A else Jz:=by
 rw[Wz e];exact cy h
def dX(e:x=y)(h:A):if decide (x=y)=true then A else Jz:=by
 rw[Wv e];exact cy h
def al{p:K'}(h:H p=none):GI H (upd H p o):=λb u e=>by
 rwa[af (ao e h)]
def Ry(P:Int->Prop):List V->Prop
 | []=>True
 | .int m::r=>P m/\Ry P r
 |_::_=>False
theorem Ry.ints{P:Int->Prop}:∀{L:Sm},Ry P L->∃ns:List Int,L=ns.map V.int/\∀m∈ns,P m
 | [],_=>{[],M,λ_ z=>nomatch z}
 | .int m::r,h=>by
  let{ns,e,q}:=Ry.ints h.2;refine{m::ns,by rw[e];rfl,λx hx=>?_};rcases QS.mp hx with rfl|hx
  .exact h.1
  .exact q x hx
def zj{P:Int->Prop}{L:Sm}{c n:Int}(h:Ry P L)(G:(L.length:Int)=n)(hp:0<n):∃m,RO L (c%n)=some (.int m)/\P m:=by
 let{ns,e,q}:=h.ints;subst e;have a:=QP c (ZC hp);have b:=QL c hp;rw[Q0]at G;have z:(c%n).toNat<ns.length:=();refine{_,xD a (),q _ ?_};rw[QR,Q3 z];exact Xf z
def b6{H':Hp}{l:K'}(s:GI H H')(n:H l=none):GI H (upd H' l o):=λb u e=>by
 rw[af (ao e n)];exact s b u e
def IA{K:JZ}{C D:K'}{b:Bool}(h1:PySem.W.typeIn K (.ref D)=some (.type "type"))(h2:PySem.W.isClsIn K D=true)(I:PySem.W.subIn K (.ref C) (.ref D)=some b)(G:C=D->b=true):
  PySem.W.kitOne K (.ref C) (.ref D)=some b:=by
 unfold PySem.W.kitOne;by_cases z:((Value.ref C:Sk)== .ref D)=true
 .rw[Wn z,G (Value.ref.inj<|WA.mp z)]
 .rw[Wm z];show(if((PySem.W.clsIn K D).isSome&&PySem.W.typeIn K (.ref D)==some (.type "type"))=true then PySem.W.subIn K (.ref C) (.ref D)else none)=some b;have:(PySem.W.clsIn K D).isSome=true:=h2;rw[Wn (by rw[this,h1];simp),I]
def Pe(_ j:Int):Prop:=0<j/\j.natAbs.log2<9000
def BR:Qs X (binaryOp .FloorDiv) (rI Pe λi j=> .int<|i/j):=opI λi j _ _ _ _ _ hc q=>by
 have h1:(0:Int)<j:=hc.1;exact floordiv_int () (by rw[Wb i ()];exact q)<|.inl (PyProof.noPylong_of_log2 hc.2)
def PP.u20{k:Nat}{A:Sv}(r:PP k A):A.units+20<cLine:=by have:=r.un;lia
section
variable{k:Nat}{f C:K'}{fd:Tf}{ps:Sx}{sp:Sp}{dvs:Sm}{ds:Sl}{E:XK}{x m:Str}{p pos apos:Pos}{e o:Expr}{es:Tk}{ta:TE}{t:TA}
def GP(X:Cx)(kk:Nat)(m:Str)(C:K')(sp:Sp):Prop:=R6 X.K C/\∃f fd ps,bN X.K C m f/\Cy X.prog X.w X.K X.mg X.base PJ kk f fd ps sp/\Binds X.K fd ps []
def D1(C:K')(sp:Sp):Addr->Sp->Prop:=λC' sp'=>C'=C/\sp'=sp
def Se(D D':Addr->Sp->Prop):Addr->Sp->Prop:=λC sp=>D C sp\/D' C sp
def cG(c:R6 X.K C)(z:bN X.K C m f)(F:Cy X.prog X.w X.K X.mg X.base PJ k f fd ps sp)(hb:Binds X.K fd ps [])(hk:k<=kk):∀C' sp',D1 C sp C' sp'->GP X kk m C' sp':=λC' sp' h=>by
 let{rfl,rfl}:=h;exact{c,f,fd,ps,z,F.mono hk,hb}
def iH{G:Addr->Sp->Prop}(h:∀C sp,D C sp->GP X kk m C sp)(h':∀C sp,G C sp->GP X kk m C sp):∀C sp,Se D G C sp->GP X kk m C sp:=λC sp z=>z.elim (h C sp) (h' C sp)
inductive Kp(D:Addr->Sp->Prop)(m:Str)(t:TA)(B:St)(Q:VK)(x:V)(H1:Hp):Prop
 |mk(a C dx fs sp:_)(_:x= .ref a)(_:H1 a=some (.ins C dx fs))(_:fs.lookup m=none)(_:D C sp)(_:t B H1 λvs H2=>sp (x::vs) H2 Q E0)
def Hh(D:Addr->Sp->Prop)(m:Str)(ta:TE)(t:TA):TE:=λB H Q=>ta B H λx H1=>Kp D m t B Q x H1
def rO{pl:Sem Bool}(hD:∀C sp,D C sp->GP X kk m C sp)(hr:PP kk X.A)(he:PE X o ta)(ha:PA X (e::es) t)
  (z:starEach (e::es) X.env=(false,eval e X.env)::starEach es X.env:=by rfl) (G:(backTo pos<|starEach es X.env).any (·.1)=false:=by rfl)
  (ht:eval (.Call (.Attribute o m apos) (e::es) [] pos) X.env=(do
   let ov<-eval o X.env
   standAt apos.atName
   let(f,first)<-holding [ov] (getMethod ov m pl)
   callWith pos f first (backTo pos<|starEach (e::es) X.env) (backToKw pos<|keywordEach [] X.env)):=by rfl):
  PE X (.Call (.Attribute o m apos) (e::es) [] pos) (Hh D m ta t):=by
 intro W s B H Q I h;refine ZS (pl:=pl) (P8 (he W s B H _ I h) λu s1 O=>?_) ht;let{x,H1,U,rx,a,C,dx,fs,sp,ex,ea,l,d,q}:=O;subst ex;obtain rfl:u=Value.ref a:=rx;let{c,f,fd,ps,Y,F,hb}:=hD C sp d;refine gE U ea c Y l ?_;refine Xg (first:=[.ref a]) (h₀:=X.base) I.ok.mod.kin Y.kp (P8 (ha pos W s1 B H1 _ U q) λus s2 zz=>?_) z G;let{vs,H2,Z,r,q2}:=zz;refine{Z.kIn,?_};exact tX (us:= .ref a::us) (vs:= .ref a::vs) (dvs:=[]) F hr hb .nil aA Z (.cons M r)<|by rwa[Zu]
def FM{pl:Sem Bool}(hD:∀C sp,D C sp->GP X kk m C sp)(U:PP kk X.A)(he:PE X o ta)
  (Y:eval (.Call (.Attribute o m apos) [] [] pos) X.env=(do
   let ov<-eval o X.env
   standAt apos.atName
   let(f,first)<-holding [ov] (getMethod ov m pl)
   callWith pos f first (backTo pos<|starEach [] X.env) (backToKw pos<|keywordEach [] X.env)):=by rfl):
  PE X (.Call (.Attribute o m apos) [] [] pos) (Hh D m ta Fx):=by
 intro W s B H Q I h;refine ZS (pl:=pl) (P8 (he W s B H _ I h) λu s1 z=>?_) Y;let{x,H1,G,Z,a,C,dx,fs,sp,ex,ea,l,d,q}:=z;subst ex;obtain rfl:u=Value.ref a:=Z;let{c,f,fd,ps,O,F,hb}:=hD C sp d;refine gE G ea c O l ?_;refine V2 (first:=[.ref a]) G.kIn O.kp ?_;exact tX (us:=[.ref a]) (vs:=[.ref a]) (dvs:=[]) F U hb .nil aA G (.cons M .nil) q
end
end L2
namespace Srt
open PySem PyProof.Rows
abbrev _root_.Sq:=Array Keyed
abbrev _root_.Td:=Keyed->Keyed->Bool
variable{xs ys:Sq}{blt:Td}{e hi i j lo n nrem:Nat}{st:SortSt}{γ:Type}{Q:Unit->SortSt->Prop}{E:Sw}
abbrev dk:Keyed:=(Value.none,Value.none)
noncomputable def g(xs:Sq)(i:Nat):Keyed:=xs[i]?.getD dk
theorem eZ(h:i<xs.size):xs[i]?=some (g xs i):=by
 unfold g;rw[getElem?_pos xs i h];rfl
theorem sv(h:xs[i]?=ys[j]?):g xs i=g ys j:=by unfold g;rw[h]
theorem zF(h:i<xs.size):g xs i∈xs:=by
 have e:=eZ h;exact Array.mem_of_getElem? e
structure RJ(blt:Td):Prop where
 asym:∀x y,blt x y=true->blt y x=false
 tr:∀x y z,blt y x=false->blt z y=false->blt z x=false
section
variable(C:RJ blt)
abbrev le(blt:Td)(x y:Keyed):Prop:=blt y x=false
include C
theorem RJ.trans{x y z:Keyed}(h1:le blt x y)(h2:le blt y z):le blt x z:=C.tr x y z h1 h2
theorem RJ.of_lt{x y:Keyed}(h:blt x y=true):le blt x y:=C.asym _ _ h
end
def On(blt:Td)(xs:Sq)(lo hi:Nat):Prop:=∀i j,lo<=i->i<j->j<hi->le blt (g xs i) (g xs j)
def Off(blt:Td)(xs:Sq)(lo hi:Nat):Prop:=∀i j,lo<=i->i<j->j<hi->le blt (g xs j) (g xs i)
theorem On.one:On blt xs lo (lo+1):=λi j h1 h2 z=>by lia
theorem Off.one:Off blt xs lo (lo+1):=λi j h1 h2 z=>by lia
theorem On.congr(h:On blt xs lo hi)(e:∀k,lo<=k->k<hi->g ys k=g xs k):On blt ys lo hi:=λi j h1 h2 z=>by
 rw[e i h1 (),e j () z];exact h i j h1 h2 z
theorem On.sub{z hi':Nat}(h:On blt xs lo hi)(h1:lo<=z)(h2:hi'<=hi):On blt xs z hi':=λi j a b c=>h i j () b ()
section
variable(C:RJ blt)
include C
theorem On.snoc(h:On blt xs lo (lo+n))(G:1<=n)(e:le blt (g xs<|lo+n-1) (g xs<|lo+n)):On blt xs lo (lo+(n+1)):=λi j h1 h2 I=>by
 by_cases z:j<lo+n
 .exact h i j h1 h2 z
 .have ej:j=lo+n:=();subst ej;by_cases y:i=lo+n-1
  .subst y;exact e
  .exact C.trans (h i (lo+n-1) h1 () ()) e
theorem Off.snoc(h:Off blt xs lo (lo+n))(G:1<=n)(e:le blt (g xs<|lo+n) (g xs<|lo+n-1)):Off blt xs lo (lo+(n+1)):=λi j h1 h2 I=>by
 by_cases z:j<lo+n
 .exact h i j h1 h2 z
 .have ej:j=lo+n:=();subst ej;by_cases y:i=lo+n-1
  .subst y;exact e
  .exact C.trans e<|h i (lo+n-1) h1 () ()
end
theorem IP(z:j<=xs.size)(k:Nat):g (mirror xs i j<|(j-i)/2) k=if i<=k/\k<j then g xs (i+j-1-k)else g xs k:=by
 have e:=getElem?_mirror_all (i:=i) z k;by_cases h1:i<=k/\k<j
 .rw[Wn h1]at e⊢;exact sv e
 .rw[Wm h1]at e⊢;exact sv e
theorem IQ{src d:Nat}(hs:src<xs.size)(hd:d<=src)(k:Nat):g (bubble xs src d) k=if k=src-d then g xs src else if src-d<k/\k<=src then g xs (k-1)else g xs k:=by
 have e:=getElem?_bubble hs d hd k;by_cases h1:k=src-d
 .rw[Wn h1]at e⊢;exact sv e
 .rw[Wm h1]at e⊢;by_cases h2:src-d<k/\k<=src
  .rw[Wn h2]at e⊢;exact sv e
  .rw[Wm h2]at e⊢;exact sv e
section
variable{prog:Sr}{w:Ss}{A:Sv}{s:L'}{a₀:Sq}{κ:SortKind}
def Bg(prog:Sr)(w:Ss)(A:Sv)(E:Sw)(s:L')(a₀:Sq)(κ:SortKind)(blt:Td):Prop:=
 ∀(x y:Keyed)(st:SortSt)(Q:Option Bool->SortSt->Prop),x∈a₀->y∈a₀->kindOf st=κ->Q (some<|blt x y) st->wpS (model prog w) A E s (lt' x y) Q st
structure PV(a₀:Sq)(κ:SortKind)(st:SortSt):Prop where
 kind:kindOf st=κ
 fine:failedOf st=none
 perm:(arrOf st).Perm a₀
theorem PV.size(Jz:PV a₀ κ st):(arrOf st).size=a₀.size:=Jz.perm.size_eq
theorem PV.mem(Jz:PV a₀ κ st)(h:i<a₀.size):g (arrOf st) i∈a₀:=(Jz.perm.mem_iff).mp (zF<|by rwa[Jz.size])
variable(L:Bg prog w A E s a₀ κ blt)
include L
theorem qY{Q:Option Bool->SortSt->Prop}(Jz:PV a₀ κ st)(hi:i<a₀.size)(z:j<a₀.size)(h:Q (some<|blt (g (arrOf st) i)<|g (arrOf st) j) st):
  wpS (model prog w) A E s (ltAt' i j) Q st:=by
 rw[ltAt'_eq];refine Wr<|WY ?_;show wpS _ _ _ _ (do let x<-elem' (arrOf st) i;let y<-elem' (arrOf st) j;lt' x y) Q st;rw[elem'_eq,elem'_eq,eZ (by rwa[Jz.size]),eZ (by rwa[Jz.size])];refine Wr<|Wu (Wr<|Wu ?_);exact L _ _ st Q (Jz.mem hi) (Jz.mem z) Jz.kind h
omit L in
theorem G5{α:Type}{m m':StateT SortSt Sem α}{Q:α->SortSt->Prop}(e:m=m')(h:wpS (model prog w) A E s m' Q st):wpS (model prog w) A E s m Q st:=by rwa[e]
abbrev RA(lo:Nat)(xs ys:Sq):Prop:=∀k,k<lo->g ys k=g xs k
theorem iP(Jz:PV a₀ κ st)(z:j<=a₀.size)
  (h:∀st',PV a₀ κ st'->pendingOf st'=pendingOf st->(∀k,g (arrOf st') k=if i<=k/\k<j then g (arrOf st) (i+j-1-k)else g (arrOf st) k)->Q Unit.unit st'):
  wpS (model prog w) A E s (reverseSlice' i j) Q st:=by
 rw[reverseSlice'_eq];refine WQ<|h _ {Jz.kind,Jz.fine,(mirror_perm _ _ _ _).trans Jz.perm} M λk=>?_;exact IP (by rwa[Jz.size]) k
theorem G4{a:Nat}{f:Nat->Option γ×Nat->StateT SortSt Sem (ForInStep<|Option γ×Nat)}{Q:Option γ×Nat->SortSt->Prop}(C:RJ blt)(Jz:PV a₀ κ st)(ha:1<=a)(G:a<=nrem)(hz:lo+nrem<=a₀.size)(hs:On blt (arrOf st) lo (lo+a))
  (hf:∀(i n:Nat)(R:ForInStep (Option γ×Nat)->SortSt->Prop),n<nrem->1<=n->(blt (g (arrOf st)<|lo+n) (g (arrOf st)<|lo+n-1)=true->R (.done (none,n)) st)->(blt (g (arrOf st)<|lo+n) (g (arrOf st)<|lo+n-1)=false->R (.yield (none,n+1)) st)->wpS (model prog w) A E s (f i (none,n)) R st)
  (h:∀n,a<=n->n<=nrem->On blt (arrOf st) lo (lo+n)->(n<nrem->blt (g (arrOf st)<|lo+n) (g (arrOf st)<|lo+n-1)=true)->Q (none,n) st):
  wpS (model prog w) A E s (forIn [a:nrem] (none,a) f) Q st:=by
 refine WI (I:=λi c st'=>st'=st/\c=(none,i)/\a<=i/\i<=nrem/\On blt (arrOf st) lo (lo+i)) ?_ ?_ {M,M,Q4 _,G,hs}
 .rintro i c st' h1 h2 ⟨rfl,rfl,U,Y,O⟩;refine hf i i _ h2 () (λe=>?_)<|λe=>?_
  .exact h i U Y O λ_=>e
  .exact{M,M,(),(),O.snoc C () e}
 .rintro c st' ⟨rfl,rfl,U,Y,O⟩;have e:max a nrem=nrem:=Zx G;rw[e]at O⊢;exact h nrem G (Q4 _) O λz=>Ws z (Xs _)
omit L in
theorem ub{b:Nat}(hb:lo<=b)(h:Off blt xs lo e)(o:On blt xs b e)(hy:∀k,g ys k=if b<=k/\k<e then g xs (b+e-1-k)else g xs k):Off blt ys lo e:=λi j h1 h2 z=>by
 rw[hy i,hy j];by_cases jb:b<=j
 .rw[Wn ⟨jb,z⟩];by_cases G:b<=i
  .rw[Wn {G,()}];exact o _ _ () () ()
  .rw[Wm ()];exact h _ _ h1 () ()
 .rw[Wm (),Wm ()];exact h i j h1 h2 z
omit L in
theorem Ni(h:Off blt xs lo e)(hy:∀k,g ys k=if lo<=k/\k<e then g xs (lo+e-1-k)else g xs k):On blt ys lo e:=λi j h1 h2 z=>by
 rw[hy i,hy j,Wn {h1,()},Wn {(),z}];exact h _ _ () () ()
omit L in
theorem KN(h:On blt xs lo e)(hy:∀k,g ys k=if lo<=k/\k<e then g xs (lo+e-1-k)else g xs k):Off blt ys lo e:=λi j h1 h2 z=>by
 rw[hy i,hy j,Wn (show lo<=j/\j<e by lia),Wn (show lo<=i/\i<e by lia)];exact h _ _ () () ()
noncomputable def Jx(lo:Nat):Nat->Option (Option Nat)×Nat->StateT SortSt Sem (ForInStep<|Option (Option Nat)×Nat):=λ_ __s=>do
 let __x<-ltAt' (lo+__s.snd) (lo+__s.snd-1)
 match __x with
 |some smaller=>if smaller=true then pure (ForInStep.done (none,__s.snd))else pure (ForInStep.yield (none,__s.snd+1))
 |_=>pure (ForInStep.done (some none,__s.snd))
def ze(lo n nrem:Nat):StateT SortSt Sem (Option Nat):=do
 reverseSlice' lo (lo+n)
 let __s<-forIn [n:nrem] (none,n) (Jx lo)
 match __s.fst with
 |some r=>pure r
 |none=>pure (some __s.snd)
noncomputable def E2(lo:Nat):Nat->Option (Option Nat)×Nat×Nat->StateT SortSt Sem (ForInStep<|Option (Option Nat)×Nat×Nat):=λ_ __s=>do
 let __x<-ltAt' (lo+__s.snd.fst) (lo+__s.snd.fst-1)
 match __x with
 |some smaller=>
  if smaller=true then
   if __s.snd.snd>0 then do
    reverseSlice' (lo+__s.snd.fst-(__s.snd.snd+1)) (lo+__s.snd.fst)
    pure (ForInStep.yield (none,__s.snd.fst+1,0))
   else pure (ForInStep.yield (none,__s.snd.fst+1,0))
  else do
   let __x<-ltAt' (lo+__s.snd.fst-1) (lo+__s.snd.fst)
   match __x with
   |some larger=>
    if larger=true then pure (ForInStep.done (none,__s.snd.fst,__s.snd.snd))
    else pure (ForInStep.yield (none,__s.snd.fst+1,__s.snd.snd+1))
   |_=>pure (ForInStep.done (some none,__s.snd.fst,__s.snd.snd))
 |_=>pure (ForInStep.done (some none,__s.snd.fst,__s.snd.snd))
def zN(lo n nrem:Nat):StateT SortSt Sem (Option Nat):=do
 liftM (rule "list.sort.descending-run")
 let __s<-forIn [n+1:nrem] (none,n+1,0) (E2 lo)
 match __s.fst with
 |some r=>pure r
 |none=>
  if __s.snd.snd>0 then do
   reverseSlice' (lo+__s.snd.fst-(__s.snd.snd+1)) (lo+__s.snd.fst)
   ze lo __s.snd.fst nrem
  else ze lo __s.snd.fst nrem
theorem El{R:ForInStep (Option (Option Nat)×Nat)->SortSt->Prop}(Jz:PV a₀ κ st)(hz:lo+nrem<=a₀.size)(G:n<nrem)(h1:1<=n)
  (z:blt (g (arrOf st)<|lo+n) (g (arrOf st)<|lo+n-1)=true->R (.done (none,n)) st) (hf:blt (g (arrOf st)<|lo+n) (g (arrOf st)<|lo+n-1)=false->R (.yield (none,n+1)) st):wpS (model prog w) A E s (Jx lo i (none,n)) R st:=by
 unfold Jx;refine Wr<|qY L Jz (by dsimp only;lia) (by dsimp only;lia) ?_;dsimp only;cases e:blt (g (arrOf st)<|lo+n) (g (arrOf st)<|lo+n-1)with
 |true=>exact Wu<|z e
 |false=>exact Wu<|hf e
theorem qX{Q:Option Nat->SortSt->Prop}(C:RJ blt)(Jz:PV a₀ κ st)(h1:1<=n)(z:n<=nrem)(hz:lo+nrem<=a₀.size)(I:Off blt (arrOf st) lo (lo+n))
  (h:∀m st',PV a₀ κ st'->pendingOf st'=pendingOf st->1<=m->m<=nrem->On blt (arrOf st') lo (lo+m)->RA lo (arrOf st) (arrOf st')->Q (some m) st'):wpS (model prog w) A E s (ze lo n nrem) Q st:=by
 unfold ze;refine Wr<|iP L Jz () λst' G hp hy=>?_;refine Wr<|G4 L C G h1 z hz (Ni I hy) (λi n R z h1 O hf=>El L G (i:=i) hz z h1 O hf) (λm ha U hs _=>?_);exact Wu<|h m st' G hp () U hs λk hk=>by rw[hy k,Wm ()]
theorem Bq{Q:Option Nat->SortSt->Prop}(C:RJ blt)(Jz:PV a₀ κ st)(h1:1<=n)(hn:n+1<=nrem)(hz:lo+nrem<=a₀.size)(ho:Off blt (arrOf st) lo (lo+(n+1)))
  (h:∀m st',PV a₀ κ st'->pendingOf st'=pendingOf st->1<=m->m<=nrem->On blt (arrOf st') lo (lo+m)->RA lo (arrOf st) (arrOf st')->Q (some m) st'):wpS (model prog w) A E s (zN lo n nrem) Q st:=by
 unfold zN;refine Wr<|wpS_lift (WZ {M,?_});refine Wr (WI (I:=λi c st'=>∃q,c=(none,i,q)/\PV a₀ κ st'/\pendingOf st'=pendingOf st/\RA lo (arrOf st) (arrOf st')/\n+1<=i/\i<=nrem/\q+1<=i/\Off blt (arrOf st') lo (lo+i)/\On blt (arrOf st') (lo+i-(q+1)) (lo+i)) ?_ ?_
  {0,M,Jz,M,λ_ _=>M,Q4 _,hn,(),ho,λi j a b c=>()})
 .rintro i c st' a2 a3 ⟨q,rfl,Z,hp,hk,h2,h3,h4,off,on⟩;unfold E2;refine Wr<|qY L Z (by dsimp only;lia) (by dsimp only;lia) ?_;dsimp only;cases e:blt (g (arrOf st')<|lo+i) (g (arrOf st')<|lo+i-1)with
  |true=>
   by_cases q0:q>0
   .rw[Wn M,Wn q0];refine Wr<|iP L Z () λst2 B2 Y hy=>?_;refine Wu {0,M,B2,Y.trans hp,λk G=>by rw[hy k,Wm ()];exact hk k G,(),(),(),?_,λi j a b c=>()};refine(ub () off on hy).snoc C () ?_;rw[hy,hy,Wm (),Wn ()];have z:lo+i-(q+1)+(lo+i)-1-(lo+i-1)=lo+i-(q+1):=();rw[z];exact C.trans (C.of_lt e)<|off _ _ () () ()
   .rw[Wn M,Wm q0];exact Wu {0,M,Z,hp,hk,(),(),(),off.snoc C ()<|C.of_lt e,λi j a b c=>()}
  |false=>
   simp only[ZJ,if_false];refine Wr<|qY L Z () () ?_;dsimp only;cases e2:blt (g (arrOf st')<|lo+i-1) (g (arrOf st')<|lo+i)with
   |true=>
    simp only[if_true];refine Wu ?_;dsimp only;by_cases q0:q>0
    .rw[Wn q0];refine Wr<|iP L Z () λst2 B2 Y hy=>?_;refine qX L C B2 () h3 hz (ub () off on hy) λm O B3 U a b c d=>h m O B3 (U.trans<|Y.trans hp) a b c λk G=>?_;rw[d k G,hy k,Wm ()];exact hk k G
    .rw[Wm q0];exact qX L C Z () h3 hz off λm O B3 U a b c d=>h m O B3 (U.trans hp) a b c λk G=>(d k G).trans (hk k G)
   |false=>
    simp only[ZJ,if_false];refine Wu {q+1,M,Z,hp,hk,(),(),(),off.snoc C () e2,?_};have z:lo+(i+1)-(q+1+1)=lo+i-(q+1):=();rw[z];intro x y hx hy a4;by_cases a0:y<lo+i
    .exact on x y hx hy a0
    .have ey:y=lo+i:=();subst ey;by_cases a1:x=lo+i-1
     .subst a1;exact e
     .exact C.trans (on x (lo+i-1) hx () ()) e
 .rintro c st' ⟨q,rfl,Z,hp,hk,h2,h3,h4,off,on⟩;have em:max (n+1) nrem=nrem:=Zx hn;rw[em]at h3 h4 off on⊢;dsimp only;by_cases q0:q>0
  .rw[Wn q0];refine Wr<|iP L Z () λst2 B2 Y hy=>?_;refine qX L C B2 () h3 hz (ub () off on hy) λm O B3 U a b c d=>h m O B3 (U.trans<|Y.trans hp) a b c λk G=>?_;rw[d k G,hy k,Wm ()];exact hk k G
  .rw[Wm q0];exact qX L C Z () h3 hz off λm O B3 U a b c d=>h m O B3 (U.trans hp) a b c λk G=>(d k G).trans (hk k G)
theorem G3{Q:Option Nat->SortSt->Prop}(C:RJ blt)(Jz:PV a₀ κ st)(h1:1<=nrem)(hz:lo+nrem<=a₀.size)
  (h:∀n st',PV a₀ κ st'->pendingOf st'=pendingOf st->1<=n->n<=nrem->On blt (arrOf st') lo (lo+n)->RA lo (arrOf st) (arrOf st')->Q (some n) st'):wpS (model prog w) A E s (countRun' lo nrem) Q st:=by
 rw[countRun'_eq];dsimp only;refine Wr<|G4 L C Jz (Q4 1) h1 hz On.one (λi n R U h1 ht hf=>El L Jz (i:=i) hz U h1 ht hf) (λn ha U hs Y=>?_);dsimp only;by_cases en:n=nrem
 .subst en;simp only[WN,if_true];exact Wu<|h n st Jz M ha U hs λ_ _=>M
 .have eb:(n==nrem)=false:=WC.mpr en;simp only[eb,ZJ,if_false];have G:=Y ();by_cases n1:n>1
  .rw[Wn n1];refine Wr<|qY L Jz () () ?_;dsimp only;cases e:blt (g (arrOf st) lo) (g (arrOf st)<|lo+n-1)with
   |true=>
    simp only[if_true];exact Wu<|h n st Jz M ha U hs λ_ _=>M
   |false=>
    simp only[ZJ,if_false];refine Wr<|iP L Jz () λst2 B2 Z hy=>?_;have off:Off blt (arrOf st2) lo (lo+(n+1)):=by
     refine(KN hs hy).snoc C ha ?_;rw[hy,hy,Wm (),Wn ()];have z:lo+(lo+n)-1-(lo+n-1)=lo:=();rw[z];exact C.trans (C.of_lt G) e
    refine G5 (m':=zN lo n nrem) (by
      unfold zN ze Jx E2;congr 1;funext _u;congr 1;funext s2;let{O,n2,q2}:=s2;cases O with
      |some O=>rfl
      |none=>
       dsimp only;split
       .congr 1;funext _v;congr 1;funext _w;congr 1;funext s3;let{I,n3}:=s3;cases I<;>rfl
       .congr 1;funext _w;congr 1;funext s3;let{I,n3}:=s3;cases I<;>rfl)<|Bq L C B2 ha () hz off λm a0 B3 a1 a b c d=>h m a0 B3 (a1.trans Z) a b c λk hk=>by rw[d k hk,hy k,Wm ()]
  .rw[Wm n1];have e1:n=1:=();subst e1;refine G5 (m':=zN lo 1 nrem) (by
      unfold zN ze Jx E2;congr 1;funext _u;congr 1;funext s2;let{O,n2,q2}:=s2;cases O with
      |some O=>rfl
      |none=>
       dsimp only;split
       .congr 1;funext _v;congr 1;funext _w;congr 1;funext s3;let{I,n3}:=s3;cases I<;>rfl
       .congr 1;funext _w;congr 1;funext s3;let{I,n3}:=s3;cases I<;>rfl) (Bq L C Jz ha () hz (Off.one.snoc C (Q4 1)<|C.of_lt G) h)
omit L in
theorem Ek{k l:Nat}(Jz:PV a₀ κ st)(hk:k<a₀.size)(hl:l<=k)
  (h:∀st',PV a₀ κ st'->pendingOf st'=pendingOf st->(∀j,g (arrOf st') j=if j=l then g (arrOf st) k else if l<j/\j<=k then g (arrOf st) (j-1)else g (arrOf st) j)->Q Unit.unit st'):
  wpS (model prog w) A E s (moveDown' k l) Q st:=by
 rw[moveDown'_eq];refine WQ<|h _ {Jz.kind,Jz.fine,(bubble_perm _ _ _).trans Jz.perm} M λj=>?_;have e:=IQ (xs:=arrOf st) (src:=k) (d:=k-l) (by rwa[Jz.size]) () j;have z:k-(k-l)=l:=();rw[z]at e;exact e
theorem Fn{ok:Nat}{Q:Bool->SortSt->Prop}(C:RJ blt)(Jz:PV a₀ κ st)(h1:1<=ok)(hok:ok<=n)(hz:lo+n<=a₀.size)(hs:On blt (arrOf st) lo (lo+ok))
  (h:∀st',PV a₀ κ st'->pendingOf st'=pendingOf st->On blt (arrOf st') lo (lo+n)->RA lo (arrOf st) (arrOf st')->Q true st'):wpS (model prog w) A E s (binarySort' lo n ok) Q st:=by
 rw[binarySort'_eq];dsimp only;have em:max ok 1=ok:=Nat.max_eq_left h1;rw[em];refine Wr (WI (I:=λi c st'=>c=(none,Unit.unit)/\PV a₀ κ st'/\pendingOf st'=pendingOf st/\RA lo (arrOf st) (arrOf st')/\ok<=i/\i<=n/\On blt (arrOf st') lo (lo+i)) ?_ ?_
  {M,Jz,M,λ_ _=>M,Q4 _,hok,hs})
 .rintro k c st' a6 a8 ⟨rfl,Y,hp,hk,h2,h3,G⟩;refine Wr (WI (I:=λi c st2=>st2=st'/\∃l r,c=(none,l,r)/\l<=r/\r<=k/\r-l<=k-i/\(∀j,j<l->le blt (g (arrOf st')<|lo+j) (g (arrOf st')<|lo+k))/\(∀j,r<=j->j<k->le blt (g (arrOf st')<|lo+k) (g (arrOf st')<|lo+j))) ?_ ?_
   {M,0,k,M,QT _,Q4 _,Q4 _,λj hj=>Ws hj<|W5 _,λj a b=>()})
  .rintro i c st2 aa ac ⟨rfl,l,r,rfl,a0,a3,hm,z,above⟩;dsimp only;by_cases Z:l>=r
   .rw[Wn Z];refine Wu ?_;dsimp only;have a4:l=r:=();refine Wr<|Ek Y () () λa5 B3 O hy=>Wu {M,B3,O.trans hp,λq hq=>?_,(),(),?_}
    .rw[hy q,Wm (),Wm ()];exact hk q hq
    .intro a b ha U hb;rw[hy a,hy b];by_cases b1:b=lo+l
     .rw[Wn b1,Wm (),Wm ()];have:=z (a-lo) ();rwa [show lo+(a-lo)=a by lia]at this
     .rw[Wm b1];by_cases b2:lo+l<b/\b<=lo+k
      .rw[Wn b2];by_cases a1:a=lo+l
       .rw[Wn a1];have:=above (b-1-lo) () ();rwa [show lo+(b-1-lo)=b-1 by lia]at this
       .rw[Wm a1];by_cases a2:lo+l<a/\a<=lo+k
        .rw[Wn a2];exact G _ _ () () ()
        .rw[Wm a2];exact G _ _ () () ()
      .rw[Wm b2,Wm (),Wm ()];exact G _ _ ha U ()
   .rw[Wm Z];refine Wr<|qY L Y () () ?_;dsimp only;cases e:blt (g (arrOf st2)<|lo+k) (g (arrOf st2)<|lo+(l+r)/2)with
    |true=>
     rw[Wn M];refine Wu {M,l,(l+r)/2,M,(),(),(),z,λj a b=>?_};by_cases ej:j=(l+r)/2
     .subst ej;exact C.of_lt e
     .exact C.trans (C.of_lt e)<|G _ _ () () ()
    |false=>
     rw[Wm (_)];refine Wu {M,(l+r)/2+1,r,M,(),(),(),λj a=>?_,above};by_cases ej:j=(l+r)/2
     .subst ej;exact e
     .exact C.trans (G _ _ () () ()) e
  .rintro c st2 ⟨rfl,l,r,rfl,a0,a3,hm,z,above⟩;have ek:max 0 k=k:=Zx (QT _);rw[ek]at hm;have a4:l=r:=();dsimp only;refine Wr<|Ek Y () () λa5 B3 O hy=>Wu {M,B3,O.trans hp,λq hq=>?_,(),(),?_}
   .rw[hy q,Wm (),Wm ()];exact hk q hq
   .intro a b ha U hb;rw[hy a,hy b];by_cases b1:b=lo+l
    .rw[Wn b1,Wm (),Wm ()];have:=z (a-lo) ();rwa [show lo+(a-lo)=a by lia]at this
    .rw[Wm b1];by_cases b2:lo+l<b/\b<=lo+k
     .rw[Wn b2];by_cases a1:a=lo+l
      .rw[Wn a1];have:=above (b-1-lo) () ();rwa [show lo+(b-1-lo)=b-1 by lia]at this
      .rw[Wm a1];by_cases a2:lo+l<a/\a<=lo+k
       .rw[Wn a2];exact G _ _ () () ()
       .rw[Wm a2];exact G _ _ () () ()
     .rw[Wm b2,Wm (),Wm ()];exact G _ _ ha U ()
 .rintro c st' ⟨rfl,Y,hp,hk,h2,h3,G⟩;have e:max ok n=n:=Zx hok;rw[e]at G;exact Wu (h st' Y hp G hk)
noncomputable def Lh:Bool->Keyed->Array Keyed->Nat->Nat->Nat->StateT SortSt Sem (Option Nat):=sortPriv%PySem.Builtin.gallop
omit L in
theorem za{f:Nat->Option γ×Nat×Nat->StateT SortSt Sem (ForInStep<|Option γ×Nat×Nat)}{Q:Option γ×Nat×Nat->SortSt->Prop}(G:Nat->Bool)(mono:∀i j,i<=j->j<n->G j=true->G i=true)
  (hf:∀(i lo hi:Nat)(R:ForInStep (Option γ×Nat×Nat)->SortSt->Prop),hi<=n->(lo>=hi->R (.done (none,lo,hi)) st)->(lo<hi->G (lo+(hi-lo)/2)=true->R (.yield (none,lo+(hi-lo)/2+1,hi)) st)->(lo<hi->G (lo+(hi-lo)/2)=false->R (.yield (none,lo,lo+(hi-lo)/2)) st)->wpS (model prog w) A E s (f i (none,lo,hi)) R st)
  (h1:lo<=hi) (h2:hi<=n) (ht:∀i,i<lo->G i=true) (hF:∀i,hi<=i->i<n->G i=false)
  (h:∀k,k<=n->(∀i,i<k->G i=true)->(∀i,k<=i->i<n->G i=false)->Q (none,k,k) st):wpS (model prog w) A E s (forIn [0:n] (none,lo,hi) f) Q st:=by
 refine WI (I:=λi c st'=>st'=st/\∃lo hi,c=(none,lo,hi)/\lo<=hi/\hi<=n/\hi-lo<=n-i/\(∀i,i<lo->G i=true)/\(∀i,hi<=i->i<n->G i=false)) ?_ ?_
  {M,lo,hi,M,h1,h2,(),ht,hF}
 .rintro i c st' a0 a1 ⟨rfl,lo,hi,rfl,g1,O,Z,U,Y⟩;refine hf i lo hi _ O (λz=>?_) (λz e=>?_)<|λz e=>?_
  .have e:lo=hi:=();subst e;exact h lo O U Y
  .exact{M,_,_,M,(),O,(),λj hj=>mono j _ () () e,Y}
  .refine{M,_,_,M,(),(),(),U,λj a b=>?_};cases q:G j with
   |false=>rfl
   |true=>rw[mono _ j a b q]at e;cases e
 .rintro c st' ⟨rfl,lo,hi,rfl,g1,O,Z,U,Y⟩;have em:max 0 n=n:=Zx (QT _);rw[em]at Z;have e:lo=hi:=();subst e;exact h lo O U Y
theorem iJ{left:Bool}{key:Keyed}{arr:Sq}{base hint:Nat}{Q:Option Nat->SortSt->Prop}(hK:kindOf st=κ)(hk:key∈a₀)(ha:∀i,i<n->base+i<arr.size/\g arr (base+i)∈a₀)(hh:hint<n)
  (U:Nat->Bool) (a6:∀i,i<n->U i=if left=true then blt (g arr<|base+i) key else !blt key (g arr<|base+i)) (mono:∀i j,i<=j->j<n->U j=true->U i=true)
  (h:∀k,k<=n->(∀i,i<k->U i=true)->(∀i,k<=i->i<n->U i=false)->Q (some k) st):wpS (model prog w) A E s (Lh left key arr base n hint) Q st:=by
 have a0:∀(i:Nat)(R:Option Bool->SortSt->Prop),i<n->R (some<|U i) st->wpS (model prog w) A E s (elem' arr (base+i)>>=λx=>if left=true then lt' x key else lt' key x>>=λr=>pure<|r.map λx=>!x) R st:=by
  intro i R hi q;let{h1,h2}:=ha i hi;rw[elem'_eq,eZ h1];refine Wr<|Wu ?_;have e:=a6 i hi;cases left with
  |true=>
   rw[Wn M]at e⊢;exact L _ _ st R h2 hk hK<|by rw[<-e];exact q
  |false=>
   rw[Wm (_)]at e⊢;refine Wr<|L _ _ st _ hk h2 hK (Wu ?_);show R (some<|!blt key (g arr<|base+i)) st;rw[<-e];exact q
 refine Wr ?_;dsimp only;refine a0 hint _ hh ?_;dsimp only;cases e0:U hint with
 |true=>
  rw[Wn M];refine Wr (WW (WI (I:=λi c st'=>st'=st/\∃O G,c=(none,O,G)/\O<G/\i+1<=G/\hint+O<n/\U (hint+O)=true)
   (Q:=λc st'=>st'=st/\∃O G,c=(none,O,G)/\O<G/\hint+O<n/\U (hint+O)=true/\(n-hint<=G\/(hint+G<n/\U (hint+G)=false))) ?_ ?_ {M,0,1,M,(),(),(),e0}) ?_)
  .rintro i c st' a8 aa ⟨rfl,O,G,rfl,a1,a2,Z,Y⟩;dsimp only;by_cases z:G>=n-hint
   .rw[Wn z];exact Wu {M,O,G,M,a1,Z,Y,.inl z}
   .rw[Wm z];refine Wr<|a0 (hint+G) _ () ?_;dsimp only;cases e:U (hint+G)with
    |false=>
     rw[Wn (_)];exact Wu {M,O,G,M,a1,Z,Y,.inr {(),e}}
    |true=>
     rw[Wm (_)];exact Wu {M,G,2*G+1,M,(),(),(),e}
  .rintro c st' ⟨rfl,O,G,rfl,a1,a2,Z,Y⟩;have em:max 0 n=n:=Zx (QT _);rw[em]at a2;exact{M,O,G,M,a1,Z,Y,.inl ()}
  .rintro c st' ⟨rfl,O,G,rfl,a1,Z,Y,a5⟩;dsimp only;refine Wr<|za U mono (λi lo hi R hn c1 c2 c3=>?_) () () (λi hi=>mono i (hint+O) () Z Y) (λi h1 h2=>?_) λk h1 h2 h3=>?_
   .dsimp only;by_cases z:lo>=hi
    .rw[Wn z];exact Wu<|c1 z
    .rw[Wm z];refine Wr<|a0 _ _ () ?_;dsimp only;cases e:U (lo+(hi-lo)/2)with
     |true=>rw[Wn M];exact Wu<|c2 () e
     |false=>rw[Wm (_)];exact Wu<|c3 () e
   .rcases a5 with z|⟨z1,z2⟩
    .lia
    .cases q:U i with
     |false=>rfl
     |true=>rw[mono (hint+G) i () h2 q]at z2;cases z2
   .exact Wu<|h k h1 h2 h3
 |false=>
  rw[Wm (_)];refine Wr (WW (WI (I:=λi c st'=>st'=st/\∃O G,c=(none,O,G)/\O<G/\i+1<=G/\O<=hint/\U (hint-O)=false)
   (Q:=λc st'=>st'=st/\∃O G,c=(none,O,G)/\O<G/\O<=hint/\U (hint-O)=false/\(hint+1<=G\/(G<=hint/\U (hint-G)=true))) ?_ ?_ {M,0,1,M,(),(),(),e0}) ?_)
  .rintro i c st' a8 aa ⟨rfl,O,G,rfl,a1,a2,Z,Y⟩;dsimp only;by_cases z:G>=hint+1
   .rw[Wn z];exact Wu {M,O,G,M,a1,Z,Y,.inl z}
   .rw[Wm z];refine Wr<|a0 (hint-G) _ () ?_;dsimp only;cases e:U (hint-G)with
    |true=>
     rw[Wn M];exact Wu {M,O,G,M,a1,Z,Y,.inr {(),e}}
    |false=>
     rw[Wm (_)];exact Wu {M,G,2*G+1,M,(),(),(),e}
  .rintro c st' ⟨rfl,O,G,rfl,a1,a2,Z,Y⟩;have em:max 0 n=n:=Zx (QT _);rw[em]at a2;exact{M,O,G,M,a1,Z,Y,.inl ()}
  .rintro c st' ⟨rfl,O,G,rfl,a1,Z,Y,a5⟩;dsimp only;refine Wr<|za U mono (λi lo hi R hn c1 c2 c3=>?_) () () (λi hi=>?_) (λi h1 h2=>?_) λk h1 h2 h3=>?_
   .dsimp only;by_cases z:lo>=hi
    .rw[Wn z];exact Wu<|c1 z
    .rw[Wm z];refine Wr<|a0 _ _ () ?_;dsimp only;cases e:U (lo+(hi-lo)/2)with
     |true=>rw[Wn M];exact Wu<|c2 () e
     |false=>rw[Wm (_)];exact Wu<|c3 () e
   .rcases a5 with z|⟨z1,z2⟩
    .lia
    .exact mono i (hint-G) () () z2
   .cases q:U i with
    |false=>rfl
    |true=>rw[mono (hint-O) i () h2 q]at Y;cases Y
   .exact Wu<|h k h1 h2 h3
end
abbrev _root_.Tj:=List Keyed
variable{A:Sv}{a₀:Sq}{x:Keyed}{blt:Td}{R:Keyed->SortSt->Prop}{all o ra rb:Tj}{i n:Nat}{prog:Sr}{Jz:Prop}{s:L'}{κ:SortKind}{st:SortSt}{r:Std.Legacy.Range}{α β:Type}{Q:Unit->SortSt->Prop}{E:Sw}{w:Ss}
noncomputable def Ib:Array Keyed->Array Keyed->StateT SortSt Sem (Array Keyed):=sortPriv%PySem.Builtin.mergeLo
noncomputable def Ic:Array Keyed->Array Keyed->StateT SortSt Sem (Array Keyed):=sortPriv%PySem.Builtin.mergeHi
abbrev PW(blt:Td)(l:Tj):Prop:=l.Pairwise (le blt)
structure Lo(blt:Td)(all o ra rb:Tj):Prop where
 perm:(o++(ra++rb)).Perm all
 srt:PW blt o
 low:∀x∈o,∀y∈ra++rb,le blt x y
theorem Lo.a{ca:Tj}(h:Lo blt all o (ca++ra) rb)(hs:PW blt (ca++ra))(hc:∀x∈ca,∀y∈rb,le blt x y):Lo blt all (o++ca) ra rb where
 perm:=by
  refine WP ?_ h.perm;rw[QV,QV]
 srt:=QU.mpr {h.srt,(QU.mp hs).1,λx hx y hy=>h.low x hx y<|by simp[hy]}
 low:=λx hx y hy=>by
  rcases Q5.mp hx with q|q
  .exact h.low x q y<|by rcases Q5.mp hy with z|z<;>simp[z]
  .rcases Q5.mp hy with z|z
   .exact(QU.mp hs).2.2 x q y z
   .exact hc x q y z
theorem Lo.b{G:Tj}(h:Lo blt all o ra (G++rb))(hs:PW blt (G++rb))(hc:∀x∈G,∀y∈ra,le blt x y):Lo blt all (o++G) ra rb where
 perm:=by
  refine WP ?_ h.perm;rw[QV];refine WV o ?_;rw[<-QV,<-QV];exact WO rb XX
 srt:=QU.mpr {h.srt,(QU.mp hs).1,λx hx y hy=>h.low x hx y<|by simp[hy]}
 low:=λx hx y hy=>by
  rcases Q5.mp hx with q|q
  .exact h.low x q y<|by rcases Q5.mp hy with z|z<;>simp[z]
  .rcases Q5.mp hy with z|z
   .exact hc x q y z
   .exact(QU.mp hs).2.2 x q y z
theorem Lo.endA(h:Lo blt all o ra [])(hs:PW blt ra):(o++ra).Perm all/\PW blt (o++ra):=
 {by simpa using h.perm,QU.mpr {h.srt,hs,λx hx y hy=>h.low x hx y<|by simp[hy]}}
theorem Lo.endB{z:Keyed}(h:Lo blt all o [z] rb)(hs:PW blt rb)(hz:∀x∈rb,le blt x z):(o++(rb++ [z])).Perm all/\PW blt (o++(rb++ [z])):=by
 refine{WP (WV o XX) h.perm,QU.mpr {h.srt,QU.mpr {hs,ZZ _ _,λx hx y hy=>?_},λx hx y hy=>h.low x hx y ?_}}
 .rw[Q7.mp hy];exact hz x hx
 .rcases Q5.mp hy with q|q<;>simp_all
theorem xy{a:Sq}(h:i<a.size):a.toList.drop i=g a i::a.toList.drop (i+1):=by
 have e:=eZ h;rw[<-Zg]at e;let{h1,h2}:=Q2.mp e;rw[ZQ h1,h2]
theorem lX{a:Sq}(h:x∈a.toList.drop i):∃j,i<=j/\j<a.size/\x=g a j:=by
 let{k,hk,e}:=XY.mp h;rw[Zc]at hk;have hs:i+k<a.size:=by rw[<-QN];lia
 refine{i+k,(),hs,?_};have e2:=eZ hs;rw[<-Zg]at e2;rw[XT]at e;rw[Q3 (by rwa[QN])]at e2;rw[<-e];exact Wq e2
theorem i6{a:Sq}(h:On blt a 0 a.size)(i:Nat):PW blt (a.toList.drop i):=by
 refine ZR.mpr λj k G hk I=>?_;rw[Zc,QN]at G hk;have z:=eZ (xs:=a) (i:=i+j) ();have e2:=eZ (xs:=a) (i:=i+k) ();rw[<-Zg,Q3 (by rw[QN];lia)]at z e2;rw[XT,XT,Wq z,Wq e2];exact h _ _ (QT _) () ()
theorem HP{a:Sq}(h:PW blt a.toList):On blt a 0 a.size:=λi j _ z I=>by
 have G:=eZ (xs:=a) (i:=i) ();have e2:=eZ (xs:=a) (i:=j) I;rw[<-Zg,Q3 (by rw[QN];lia)]at G e2;rw[<-Wq G,<-Wq e2];exact ZR.mp h i j _ _ z
theorem sO(a:Sq)(i k:Nat):(a.extract i<|i+k).toList=(a.toList.drop i).take k:=by
 rw[ZX,ZD];congr 1;lia
theorem iK(a:Sq)(i:Nat):(a.extract i).toList=a.toList.drop i:=by
 rw[ZX,ZD,Z1];rw[Zc,QN];exact Q4 _
theorem Ie{a:Sq}{k:Nat}(h:x∈(a.toList.drop i).take k):∃j,j<k/\x=g a (i+j):=by
 let{j,z,e}:=XY.mp h;rw[Q9,Zc,QN]at z;refine{j,(),?_};have e2:=eZ (xs:=a) (i:=i+j) ();rw[<-Zg,Q3 (by rw[QN];lia)]at e2;rw[XU,XT]at e;rw[<-e];exact Wq e2
theorem Cm(l:Tj)(i k:Nat):l.drop i=(l.drop i).take k++l.drop (i+k):=by
 rw[<-We,Zm]
theorem EN{P H:α->Prop}(body:(∀x,H x->P x)->Jz)(last:∀x,H x->P x):Jz:=body last
theorem si{P H:α->β->Prop}(body:(∀x y,H x y->P x y)->Jz)(last:∀x y,H x y->P x y):Jz:=body last
structure Ps(st st':SortSt):Prop where
 kind:kindOf st'=kindOf st
 arr:arrOf st'=arrOf st
 pend:pendingOf st'=pendingOf st
 fail:failedOf st'=failedOf st
theorem Ps.refl(st:SortSt):Ps st st:=⟨M,M,M,M⟩
section
theorem b3{arr:Sq}(h:i<arr.size)(q:R (g arr i) st):wpS (model prog w) A E s (elem' arr i) R st:=by
 rw[elem'_eq,eZ h];exact Wu q
noncomputable def Dq:Nat->StateT SortSt Sem Unit:=sortPriv%PySem.Builtin.setMinGallop
theorem G2{m:Nat}(h:∀st',Ps st st'->Q Unit.unit st'):wpS (model prog w) A E s (Dq m) Q st:=WQ (h _ ⟨M,M,M,M⟩)
theorem nmK{m:StateT SortSt Sem α}{k:α->StateT SortSt Sem β}{Q:β->SortSt->Prop}(h:let k':=k;wpS (model prog w) A E s (m>>=k') Q st):wpS (model prog w) A E s (m>>=k) Q st:=h
theorem nmF{γ:Type}{c:β}{f:Nat->β->StateT SortSt Sem (ForInStep β)}{k:β->StateT SortSt Sem γ}{Q:γ->SortSt->Prop}(h:let z:=f;let k':=k;wpS (model prog w) A E s (forIn r c z>>=k') Q st):wpS (model prog w) A E s (forIn r c f>>=k) Q st:=h
inductive MQ{δ:Type}(Q:Array Keyed->Prop)(I:Option (Array Keyed)×δ->Prop):Option (Array Keyed)×δ->Prop
 |ret{res x}(q:Q res):MQ Q I (some res,x)
 |go{c}(h:I c):MQ Q I c
inductive Sf(blt:Td)(a b:Sq){τ:Type}(n:Nat):Option (Array Keyed)×Array Keyed×Nat×Nat×τ->Prop
 |mk{out ia ib x}(ha:ia+1<a.size)(hb:ib<b.size)(hn:n<=ia+ib)(lo:Lo blt (a.toList++b.toList) out.toList (a.toList.drop ia) (b.toList.drop ib)):Sf blt a b n (none,out,ia,ib,x)
theorem Ps.trans{st' st2:SortSt}(h:Ps st st')(k:Ps st' st2):Ps st st2:={k.kind.trans h.kind,k.arr.trans h.arr,k.pend.trans h.pend,k.fail.trans h.fail}
theorem HZ{a:Sq}(C:RJ blt)(G:On blt a 0 a.size)(ka:Nat)(x:Keyed)(i j:Nat)(h1:i<=j)(h2:ka+j<a.size)(z:(!blt x (g a<|ka+j))=true):(!blt x (g a<|ka+i))=true:=by
 have z:blt x (g a<|ka+j)=false:=by simpa using z
 by_cases e:i=j
 .subst e;simpa using z
 .have:=C.trans (G (ka+i) (ka+j) (QT _) () h2) z;simpa using this
theorem HY{b:Sq}(C:RJ blt)(ob:On blt b 0 b.size)(G:Nat)(x:Keyed)(i j:Nat)(h1:i<=j)(h2:G+j<b.size)(I:blt (g b<|G+j) x=true):blt (g b<|G+i) x=true:=by
 by_cases e:i=j
 .subst e;exact I
 .have q:=ob (G+i) (G+j) (QT _) () h2;cases z:blt (g b<|G+i) x with
  |true=>rfl
  |false=>
   have f:blt (g b<|G+j) x=false:=C.trans z q;rw[I]at f;cases f
variable(L:Bg prog w A E s a₀ κ blt)
include L
theorem C9{a b:Sq}{Q:Array Keyed->SortSt->Prop}(C:RJ blt)(hK:kindOf st=κ)(hm:∀x,x∈a.toList++b.toList->x∈a₀)(oa:On blt a 0 a.size)(ob:On blt b 0 b.size)(ha:0<a.size)(hb:0<b.size)
  (a5:blt (g b 0) (g a 0)=true) (ah:∀j,j<b.size->blt (g b j) (g a<|a.size-1)=true)
  (h:∀res st',Ps st st'->res.toList.Perm (a.toList++b.toList)->PW blt res.toList->Q res st'):wpS (model prog w) A E s (Ib a b) Q st:=by
 have ma:∀i,i<a.size->g a i∈a₀:=λi hi=>hm _ (by have:=zF hi;simp[this]);have mb:∀i,i<b.size->g b i∈a₀:=λi hi=>hm _ (by have:=zF hi;simp[this]);have an:∀(o:Tj)(G:Nat)(st':SortSt)(res:Sq),Ps st st'->Lo blt (a.toList++b.toList) o (a.toList.drop G) []->res.toList=o++a.toList.drop G->Q res st':=λo G st' res lk lo e=>by
  let{p1,p2}:=lo.endA (i6 oa G);exact h res st' lk (by rwa[e])<|by rwa[e]
 have ax:∀(o:Tj)(O:Nat)(st':SortSt)(res:Sq),Ps st st'->Lo blt (a.toList++b.toList) o (a.toList.drop<|a.size-1) (b.toList.drop O)->res.toList=o++(b.toList.drop O++a.toList.drop (a.size-1))->Q res st':=λo O st' res lk lo e=>by
  have ez:a.toList.drop (a.size-1)=[g a (a.size-1)]:=by
   rw[xy (),Xd (by rw[QN];lia)]
  rw[ez]at lo e;let{p1,p2}:=lo.endB (i6 ob O) (λx hx=>by
   let{j,_,hj,rfl}:=lX hx;exact C.of_lt<|ah j hj)
  exact h res st' lk (by rwa[e])<|by rwa[e]
 have a6:∀(out:Sq)(G O k:Nat),Lo blt (a.toList++b.toList) out.toList (a.toList.drop G) (b.toList.drop O)->(∀i,i<k->blt (g b O) (g a<|G+i)=false)->
   Lo blt (a.toList++b.toList) (out++a.extract G (G+k)).toList (a.toList.drop<|G+k) (b.toList.drop O):=λout G O k lo hk=>by
  rw[Zn,sO];have pa:=i6 oa G;rw[Cm a.toList G k]at lo pa;refine lo.a pa λx hx y hy=>?_;let{i,hi,rfl}:=Ie hx;let{j,be,bh,rfl}:=lX hy;rcases Nat.eq_or_lt_of_le be with ej|ej
  .rw[<-ej];exact hk i hi
  .exact C.trans (hk i hi)<|ob O j (QT _) ej bh
 have a8:∀(out:Sq)(G O k:Nat),Lo blt (a.toList++b.toList) out.toList (a.toList.drop G) (b.toList.drop O)->(∀i,i<k->blt (g b<|O+i) (g a G)=true)->
   Lo blt (a.toList++b.toList) (out++b.extract O (O+k)).toList (a.toList.drop G) (b.toList.drop<|O+k):=λout G O k lo hk=>by
  rw[Zn,sO];have pb:=i6 ob O;rw[Cm b.toList O k]at lo pb;refine lo.b pb λx hx y hy=>?_;let{i,hi,rfl}:=Ie hx;let{j,be,bh,rfl}:=lX hy;have l1:=C.of_lt (hk i hi);rcases Nat.eq_or_lt_of_le be with ej|ej
  .rwa[<-ej]
  .exact C.trans l1<|oa G j (QT _) ej bh
 have one:∀(x:Sq)(i:Nat),i<x.size->(x.extract i<|i+1)= #[g x i]:=λx i hi=>by
  apply Array.ext';rw[sO,xy hi];rfl
 have b2:∀(out:Sq)(G O:Nat),G<a.size->O<b.size->Lo blt (a.toList++b.toList) out.toList (a.toList.drop G) (b.toList.drop O)->blt (g b O) (g a G)=true->
   Lo blt (a.toList++b.toList) (out.push<|g b O).toList (a.toList.drop G) (b.toList.drop<|O+1):=λout G O h1 h2 lo hk=>by
  have:=a8 out G O 1 lo λi hi=>by rwa[Nat.lt_one_iff.mp hi]
  rwa [one b O h2,<-XZ]at this
 have b5:∀(out:Sq)(G O:Nat),G<a.size->O<b.size->Lo blt (a.toList++b.toList) out.toList (a.toList.drop G) (b.toList.drop O)->blt (g b O) (g a G)=false->
   Lo blt (a.toList++b.toList) (out.push<|g a G).toList (a.toList.drop<|G+1) (b.toList.drop O):=λout G O h1 h2 lo hk=>by
  have:=a6 out G O 1 lo λi hi=>by rwa[Nat.lt_one_iff.mp hi]
  rwa [one a G h1,<-XZ]at this
 have endA:∀(out:Sq)(G O:Nat)(st':SortSt),Ps st st'->b.size<=O->Lo blt (a.toList++b.toList) out.toList (a.toList.drop G) (b.toList.drop O)->Q (out++a.extract G++b.extract O) st':=λout G O st' lk hb lo=>by
  have en:b.toList.drop O=[]:=Xd (by rwa[QN]);rw[en]at lo;refine an _ G st' _ lk lo ?_;rw[Zn,Zn,iK,iK,en,Zu]
 have endB:∀(out:Sq)(G O:Nat)(st':SortSt),Ps st st'->G+1=a.size->Lo blt (a.toList++b.toList) out.toList (a.toList.drop G) (b.toList.drop O)->Q (out++b.extract O++a.extract G) st':=λout G O st' lk ha lo=>by
  have en:G=a.size-1:=by rw[<-ha,Nat.add_sub_cancel]
  refine ax out.toList O st' _ lk (by rwa[<-en]) ?_;rw[Zn,Zn,iK,iK,<-en,QV]
 refine Wr ?_;dsimp only;refine wpS_lift<|WZ {M,?_};refine nmK ?_;intro k0;refine Wr<|b3 hb ?_;have start:Lo blt (a.toList++b.toList) [g b 0] (a.toList.drop 0) (b.toList.drop 1):=by
  have l0:Lo blt (a.toList++b.toList) [] (a.toList.drop 0) ([g b 0]++b.toList.drop 1):=by
   refine{?_,WK,λx hx=>Ws hx ZU};have e:=xy hb;rw[Zz]at e;rw[Zz,W6,List.singleton_append,<-e]
  have:=l0.b (by have:=i6 ob 0;rw[xy hb]at this;exact this) (λx hx y hy=>by
   rw[Q7.mp hx];let{j,_,hj,rfl}:=lX hy;by_cases j0:j=0
   .rw[j0];exact C.of_lt a5
   .exact C.trans (C.of_lt a5)<|oa 0 j (Q4 _) (V9 j0) hj)
  simpa using this
 dsimp only[k0];by_cases b1:1=b.size
 .have eb:(1==b.size)=true:=WA.mpr b1;rw[Wn eb];refine Wu ?_;have en:b.toList.drop 1=[]:=Xd (by rw[QN];exact ZA b1.symm);rw[en]at start;refine an _ 0 st _ (Ps.refl _) start ?_;simp[b1]
 .have eb:¬(1==b.size)=true:=by simpa using b1
  rw[Wm eb];by_cases a1:0+1=a.size
  .have ea:(0+1==a.size)=true:=WA.mpr a1;rw[Wn ea];refine Wu ?_;have e0:a.size-1=0:=by rw[<-a1]
   refine ax [g b 0] 1 st _ (Ps.refl _) (by rw[e0];exact start) ?_;rw[e0,Zn,Zn,iK,iK,QV]
  .have ea:¬(0+1==a.size)=true:=by simpa using a1
   rw[Wm ea];refine nmK ?_;intro k1;refine Wr<|WY ?_;dsimp only[k1];refine nmF ?_;intro f1 k2;refine Wr (WW (WI (I:=λi c st'=>Ps st st'/\Sf blt a b i c) (Q:=λc st'=>MQ (Q · st') (λ_=>False) c) ?_ ?_ {Ps.refl _,Zl ha a1,Zl hb b1,QT _,start}) ?_)
   .rintro i c st'- -⟨lk,@⟨out,G,O,mg,c5,hb1,hi,lo⟩⟩;have c8:kindOf st'=κ:=lk.kind.trans hK;dsimp only[f1];refine nmF ?_;intro f2 k3;refine Wr (WW (WI (I:=λ_ c st2=>st2=st'/\Sf blt a b i c) (Q:=λc st2=>st2=st'/\MQ (Q · st') (Sf blt a b i) c) ?_ (λc st2 h=>{h.1,.go h.2}) ⟨M,c5,hb1,hi,lo⟩) ?_)
    .rintro j c st2- -⟨rfl,@⟨out,ja,jb,x,aa,Z,U,lo⟩⟩;dsimp only[f2];have b8:=VO aa;refine Wr<|b3 Z (Wr<|b3 b8<|Wr<|L _ _ _ _ (mb jb Z) (ma ja b8) c8 ?_);dsimp only;cases e:blt (g b jb) (g a ja)with
     |true=>
      rw[Wn M];have a2:=b2 out ja jb b8 Z lo e;refine Wr<|b3 Z ?_;by_cases z:jb+1=b.size
      .rw[Wn (WA.mpr z)];exact Wu {M,.ret<|endA _ ja (jb+1) _ lk (ZA z.symm) a2}
      .rw[Wm (by simpa using z)];have hz:jb+1<b.size:=Zl Z z;have U:=X6 U;split
       .exact Wu {M,.go ⟨aa,hz,U,a2⟩}
       .exact Wu ⟨M,aa,hz,U,a2⟩
     |false=>
      rw[Wm (_)];have a2:=b5 out ja jb b8 Z lo e;refine Wr<|b3 b8 ?_;by_cases z:ja+1+1=a.size
      .rw[Wn (WA.mpr z)];exact Wu {M,.ret<|endB _ (ja+1) jb _ lk z a2}
      .rw[Wm (by simpa using z)];have hz:ja+1+1<a.size:=Zl aa z;have U:i<=ja+1+jb:=by rw[Nat.add_right_comm];exact X6 U
       split
       .exact Wu {M,.go ⟨hz,Z,U,a2⟩}
       .exact Wu ⟨M,hz,Z,U,a2⟩
    .rintro c st2 ⟨rfl,⟨q⟩| @⟨_,@⟨out,ja,jb,x,aa,Z,U,lo⟩⟩⟩
     .exact Wu<|.ret q
     .dsimp only[k3];refine nmK ?_;intro k5;refine Wr<|wpS_lift (WZ {M,?_});dsimp only[k5];refine nmF ?_;intro f3 k6;refine Wr (WW (WI (I:=λj c a3=>Ps st a3/\Sf blt a b (i+j) c) (Q:=λc a3=>Ps st a3/\MQ (Q · a3) (Sf blt a b<|i+1) c) ?_ ?_ ⟨lk,aa,Z,U,lo⟩) ?_)
      .rintro j c a3- -⟨a4,@⟨out,ka,Y,⟨m',x⟩,bb,a0,U,lo⟩⟩;dsimp only[f3];apply EN (α:=Nat) (H:=λ_=>True)
       .intro key;by_cases m1:m'>1
        .rw[Wn m1];generalize m'-1=mm;exact key mm trivial
        .rw[Wm m1];exact key m' trivial
       intro mm _;refine nmK ?_;intro k7;refine Wr<|G2 λc9 lk4=>?_;replace lk4:=a4.trans lk4;have br:kindOf c9=κ:=lk4.kind.trans hK;dsimp only[k7];refine nmK ?_;intro k8;refine Wr<|b3 a0 ?_;refine nmK ?_;intro k9;have ca:=VO bb;refine Wr<|iJ L br (mb Y a0) (λi hi=>{ZT hi,ma _<|ZT hi}) (VP ca) (λi=>!blt (g b Y) (g a<|ka+i)) (λi hi=>M) (λi j h1 h2 h3=>HZ C oa ka _ i j h1 (ZT h2) h3) λk cb bi bt=>?_;have c0:k<a.size-ka:=by
        rcases VQ k (a.size-ka)with z|z
        .exact z
        .have f:=bi (a.size-1-ka) ();rw[show ka+(a.size-1-ka)=a.size-1 by lia,ah Y a0]at f;cases f
       have c3:∀i,i<k->blt (g b Y) (g a<|ka+i)=false:=λi hi=>by have:=bi i hi;simpa using this
       have bw:blt (g b Y) (g a<|ka+k)=true:=by have:=bt k (Q4 _) c0;simpa using this
       clear cb bi bt;dsimp only[k9];apply si (H:=λ(kc:Nat)(o':Array Keyed)=>ka<=kc/\kc+1<a.size/\Lo blt (a.toList++b.toList) o'.toList (a.toList.drop kc) (b.toList.drop Y)/\blt (g b Y) (g a kc)=true)
       .intro key;by_cases k0:k>0
        .rw[Wn k0];have lo1:=a6 out ka Y k lo c3;by_cases z:ka+k+1=a.size
         .rw[Wn (WA.mpr z)];exact Wu {lk4,.ret<|endB _ (ka+k) Y _ lk4 z lo1}
         have kk:=ZT c0;have zz:¬ka+k=a.size:=Zb kk;rw[Wm (by simpa using z),Wm (by simpa using zz)];have k5:ka<=ka+k/\ka+k+1<a.size:={Nat.le_add_right _ _,Zl kk z};have bv:=bw;generalize out++a.extract ka (ka+k)=o' at lo1⊢;generalize ka+k=kc at lo1 bv k5⊢;exact key kc o' ⟨k5.1,k5.2,lo1,bv⟩
        .rw[Wm k0];have bv:=bw;rw[Nat.eq_zero_of_not_pos k0,XS]at bv;exact key ka out {Q4 _,bb,lo,bv}
       intro kc o' hc;let{c1,c2,lo1,bw}:=hc;refine nmK ?_;intro cc;refine Wr<|b3 a0 ?_;have ba:=VO c2;have bl:=b2 _ kc Y ba a0 lo1 bw;dsimp only[cc];by_cases z2:Y+1=b.size
       .rw[Wn (WA.mpr z2)];exact Wu {lk4,.ret<|endA _ kc (Y+1) _ lk4 (ZA z2.symm) bl}
       rw[Wm (by simpa using z2)];refine nmK ?_;intro cf;refine Wr<|b3 ba ?_;refine nmK ?_;intro ce;have bo:Y+1<b.size:=Zl a0 z2;refine Wr<|iJ L br (ma _ ba) (λi hi=>{ZT hi,mb _<|ZT hi}) (VP bo) (λi=>blt (g b<|Y+1+i)<|g a kc) (λi hi=>M) (λi j h1 h2 h3=>HY C ob (Y+1) _ i j h1 (ZT h2) h3) λk2 h1 h2 h3=>?_;dsimp only[ce];apply si (H:=λ(kd:Nat)(o2:Array Keyed)=>Y+1<=kd/\kd<b.size/\Lo blt (a.toList++b.toList) o2.toList (a.toList.drop kc) (b.toList.drop kd)/\blt (g b kd) (g a kc)=false)
       .intro key;by_cases q0:k2>0
        .rw[Wn q0];have ac:=a8 _ kc (Y+1) k2 bl h2;by_cases z3:Y+1+k2=b.size
         .rw[Wn (WA.mpr z3)];exact Wu {lk4,.ret<|endA _ kc (Y+1+k2) _ lk4 (ZA z3.symm) ac}
         rw[Wm (by simpa using z3)];have w3:=h3 k2 (Q4 _) ();have k5:Y+1<=Y+1+k2/\Y+1+k2<b.size:=();generalize o'.push (g b Y)++b.extract (Y+1) (Y+1+k2)=o2 at ac⊢;generalize Y+1+k2=kd at ac w3 k5⊢;exact key kd o2 ⟨k5.1,k5.2,ac,w3⟩
        .rw[Wm q0];have w3:blt (g b<|Y+1) (g a kc)=false:=h3 0 (Nat.le_of_not_lt q0) (VP bo);exact key (Y+1) _ {Q4 _,bo,bl,w3}
       intro kd o2 hd;let{d1,d2,ac,w3}:=hd;refine Wr<|b3 ba ?_;have bp:=b5 _ kc kd ba d2 ac w3;have U:i+(j+1)<=kc+1+kd:=();by_cases z4:kc+1+1=a.size
       .rw[Wn (WA.mpr z4)];exact Wu {lk4,.ret<|endB _ (kc+1) kd _ lk4 z4 bp}
       rw[Wm (by simpa using z4)];have hz:kc+1+1<a.size:=Zl c2 z4;split
       .exact Wu {lk4,.go {hz,d2,Z4 (XD (Nat.le_add_left 1 j) i) U,bp}}
       .exact Wu ⟨lk4,hz,d2,U,bp⟩
      .rintro c a3 ⟨a4,@⟨_,ka,Y,_,_,_,U,_⟩⟩;have em:max 0 (a.size+b.size)=a.size+b.size:=Zx (QT _);rw[em]at U;lia
      .rintro c a3 ⟨a4,⟨q⟩| @⟨_,⟨bb,a0,U,lo⟩⟩⟩
       .exact Wu<|.ret q
       .dsimp only[k6];exact Wr<|WQ (Wu {⟨a4.kind,a4.arr,a4.pend,a4.fail⟩,bb,a0,U,lo})
   .rintro c st' ⟨lk,@⟨_,G,O,_,_,_,hi,_⟩⟩;have em:max 0 (a.size+b.size)=a.size+b.size:=Zx (QT _);rw[em]at hi;lia
   .rintro c st' (⟨q⟩|⟨⟨⟩⟩);exact Wu q
end
structure Hi(blt:Td)(all o ra rb:Tj):Prop where
 perm:((ra++rb)++o).Perm all
 srt:PW blt o
 high:∀x∈ra++rb,∀y∈o,le blt x y
theorem Hi.a{ca:Tj}(h:Hi blt all o (ra++ca) rb)(hs:PW blt (ra++ca))(hc:∀x∈rb,∀y∈ca,le blt x y):Hi blt all (ca++o) ra rb where
 perm:=by
  refine WP ?_ h.perm;rw[<-QV];refine WO o ?_;rw[QV,QV];exact WV ra XX
 srt:=QU.mpr {(QU.mp hs).2.1,h.srt,λx hx y hy=>h.high x (by simp[hx]) y hy}
 high:=λx hx y hy=>by
  rcases Q5.mp hy with q|q
  .rcases Q5.mp hx with z|z
   .exact(QU.mp hs).2.2 x z y q
   .exact hc x z y q
  .exact h.high x (by rcases Q5.mp hx with z|z<;>simp[z]) y q
theorem Hi.b{G:Tj}(h:Hi blt all o ra (rb++G))(hs:PW blt (rb++G))(hc:∀x∈ra,∀y∈G,le blt x y):Hi blt all (G++o) ra rb where
 perm:=by
  refine WP ?_ h.perm;rw[<-QV];refine WO o ?_;rw[QV]
 srt:=QU.mpr {(QU.mp hs).2.1,h.srt,λx hx y hy=>h.high x (by simp[hx]) y hy}
 high:=λx hx y hy=>by
  rcases Q5.mp hy with q|q
  .rcases Q5.mp hx with z|z
   .exact hc x z y q
   .exact(QU.mp hs).2.2 x z y q
  .exact h.high x (by rcases Q5.mp hx with z|z<;>simp[z]) y q
theorem He{a:Sq}(h:i<a.size):a.toList.take (i+1)=a.toList.take i++ [g a i]:=by
 have e:=eZ h;rw[<-Zg]at e;rw[QY,e];rfl
theorem je{a:Sq}(h:x∈a.toList.take n):∃j,j<n/\j<a.size/\x=g a j:=by
 let{k,hk,e}:=XY.mp h;rw[Q9,QN]at hk;refine{k,(),(),?_};have e2:=eZ (xs:=a) (i:=k) ();rw[<-Zg,Q3 (by rw[QN];lia)]at e2;rw[XU]at e;rw[<-e];exact Wq e2
theorem fj{a:Sq}(h:x∈(a.extract i n).toList):∃j,i<=j/\j<n/\j<a.size/\x=g a j:=by
 rw[ZX,ZD]at h;let{k,hk,e}:=XY.mp h;rw[Q9,Zc,QN]at hk;refine{i+k,(),(),(),?_};have e2:=eZ (xs:=a) (i:=i+k) ();rw[<-Zg,Q3 (by rw[QN];lia)]at e2;rw[XU,XT]at e;rw[<-e];exact Wq e2
theorem oR{a:Sq}(h:On blt a 0 a.size)(n:Nat):PW blt (a.toList.take n):=by
 have:=i6 h 0;rw[Zz]at this;exact List.Pairwise.sublist (Vd _ _) this
theorem Bx{a:Sq}(h:i<=n):a.toList.take n=a.toList.take i++(a.extract i n).toList:=by
 rw[ZX,ZD];obtain⟨k,rfl⟩:∃k,n=i+k:={n-i,()};rw[List.take_add,show i+k-i=k by lia]
theorem Ln(a:Sq)(n:Nat):(a.extract 0 n).toList=a.toList.take n:=by
 rw[ZX,ZD,Zz,Nat.sub_zero]
section
inductive Sh(blt:Td)(a b:Sq){τ:Type}(n:Nat):Option (Array Keyed)×Nat×Nat×Array Keyed×τ->Prop
 |mk{na nb out x}(h1:1<=na)(h2:na<=a.size)(h3:2<=nb)(h4:nb<=b.size)(hn:na+nb+n<=a.size+b.size)(lo:Hi blt (a.toList++b.toList) out.reverse.toList (a.toList.take na) (b.toList.take nb)):Sh blt a b n (none,na,nb,out,x)
variable(L:Bg prog w A E s a₀ κ blt)
include L
theorem Da{a b:Sq}{Q:Array Keyed->SortSt->Prop}(C:RJ blt)(hK:kindOf st=κ)(hm:∀x,x∈a.toList++b.toList->x∈a₀)(oa:On blt a 0 a.size)(ob:On blt b 0 b.size)(ha:0<a.size)(hb:0<b.size)
  (a8:blt (g b 0) (g a 0)=true) (bv:∀j,j<b.size->blt (g b j) (g a<|a.size-1)=true)
  (h:∀res st',Ps st st'->res.toList.Perm (a.toList++b.toList)->PW blt res.toList->Q res st'):wpS (model prog w) A E s (Ic a b) Q st:=by
 have ma:∀i,i<a.size->g a i∈a₀:=λi hi=>hm _ (by have:=zF hi;simp[this]);have mb:∀i,i<b.size->g b i∈a₀:=λi hi=>hm _ (by have:=zF hi;simp[this]);have aa:∀i,i<a.size->blt (g b 0) (g a i)=true:=λi hi=>by
  by_cases i0:i=0
  .rwa[i0]
  .cases z:blt (g b 0) (g a i)with
   |true=>rfl
   |false=>
    have f:blt (g b 0) (g a 0)=false:=C.trans (oa 0 i (Q4 _) () hi) z;rw[a8]at f;cases f
 have ac:∀(out:Sq)(G O k:Nat),k<=G->G<=a.size->1<=O->O<=b.size->Hi blt (a.toList++b.toList) out.reverse.toList (a.toList.take G) (b.toList.take O)->(∀i,k<=i->i<G->blt (g b<|O-1) (g a i)=true)->
   Hi blt (a.toList++b.toList) (out++(a.extract k G).reverse).reverse.toList (a.toList.take k) (b.toList.take O):=λout G O k h1 h2 h3 h4 lo hk=>by
  have er:(out++(a.extract k G).reverse).reverse.toList=(a.extract k G).toList++out.reverse.toList:=by simp
  have pa:=oR oa G;rw[Bx h1]at lo pa;rw[er];refine lo.a pa λx hx y hy=>?_;let{i,be,bh,co,rfl}:=fj hy;let{j,bi,bw,rfl}:=je hx;have l1:=C.of_lt (hk i be bh);by_cases ej:j=O-1
  .rwa[ej]
  .exact C.trans (ob j (O-1) (QT _) (Zl (Ve bi) ej)<|Zi h3 h4) l1
 have ah:∀(out:Sq)(G O k:Nat),k<=O->O<=b.size->1<=G->G<=a.size->Hi blt (a.toList++b.toList) out.reverse.toList (a.toList.take G) (b.toList.take O)->(∀i,k<=i->i<O->blt (g b i) (g a<|G-1)=false)->
   Hi blt (a.toList++b.toList) (out++(b.extract k O).reverse).reverse.toList (a.toList.take G) (b.toList.take k):=λout G O k h1 h2 h3 h4 lo hk=>by
  have er:(out++(b.extract k O).reverse).reverse.toList=(b.extract k O).toList++out.reverse.toList:=by simp
  have pb:=oR ob O;rw[Bx h1]at lo pb;rw[er];refine lo.b pb λx hx y hy=>?_;let{i,be,bh,co,rfl}:=fj hy;let{j,bi,bw,rfl}:=je hx;have l1:le blt (g a<|G-1) (g b i):=hk i be bh;by_cases ej:j=G-1
  .rwa[ej]
  .exact C.trans (oa j (G-1) (QT _) (Zl (Ve bi) ej)<|Zi h3 h4) l1
 have one:∀(x:Sq)(i:Nat),i<x.size->(x.extract i<|i+1).reverse= #[g x i]:=λx i hi=>by
  have:x.extract i (i+1)= #[g x i]:=by
   apply Array.ext';rw[sO,xy hi];rfl
  rw[this];rfl
 have b5:∀(out:Sq)(G O:Nat),1<=G->G<=a.size->1<=O->O<=b.size->Hi blt (a.toList++b.toList) out.reverse.toList (a.toList.take G) (b.toList.take O)->blt (g b<|O-1) (g a<|G-1)=true->
   Hi blt (a.toList++b.toList) (out.push<|g a<|G-1).reverse.toList (a.toList.take<|G-1) (b.toList.take O):=λout G O h1 h2 h3 h4 lo hk=>by
  have:=ac out G O (G-1) (Wf _ _) h2 h3 h4 lo λi hi hj=>by rwa[Nat.le_antisymm (Ve hj) hi]
  rwa [show a.extract (G-1) G=a.extract (G-1) (G-1+1) by rw[Nat.sub_add_cancel h1],one a (G-1) (Zi h1 h2),<-XZ]at this
 have b8:∀(out:Sq)(G O:Nat),1<=G->G<=a.size->1<=O->O<=b.size->Hi blt (a.toList++b.toList) out.reverse.toList (a.toList.take G) (b.toList.take O)->blt (g b<|O-1) (g a<|G-1)=false->
   Hi blt (a.toList++b.toList) (out.push<|g b<|O-1).reverse.toList (a.toList.take G) (b.toList.take<|O-1):=λout G O h1 h2 h3 h4 lo hk=>by
  have:=ah out G O (O-1) (Wf _ _) h4 h1 h2 lo λi hi hj=>by rwa[Nat.le_antisymm (Ve hj) hi]
  rwa [show b.extract (O-1) O=b.extract (O-1) (O-1+1) by rw[Nat.sub_add_cancel h3],one b (O-1) (Zi h3 h4),<-XZ]at this
 have endA:∀(out:Sq)(G O:Nat)(st':SortSt),Ps st st'->G=0->O<=b.size->Hi blt (a.toList++b.toList) out.reverse.toList (a.toList.take G) (b.toList.take O)->Q (a.extract 0 G++b.extract 0 O++out.reverse) st':=λout G O st' lk hn cc lo=>by
  subst hn;have e:(a.extract 0 0++b.extract 0 O++out.reverse).toList=b.toList.take O++out.reverse.toList:=by
   rw[Zn,Zn,Ln,Ln];rfl
  refine h _ st' lk ?_ ?_
  .rw[e];exact lo.perm
  .rw[e];exact QU.mpr {oR ob O,lo.srt,λx hx y hy=>lo.high x (by simp[hx]) y hy}
 have endB:∀(out:Sq)(G O:Nat)(st':SortSt),Ps st st'->O=1->G<=a.size->Hi blt (a.toList++b.toList) out.reverse.toList (a.toList.take G) (b.toList.take O)->Q (b.extract 0 O++a.extract 0 G++out.reverse) st':=λout G O st' lk hn ce lo=>by
  subst hn;have e:(b.extract 0 1++a.extract 0 G++out.reverse).toList=(b.toList.take 1++a.toList.take G)++out.reverse.toList:=by
   rw[Zn,Zn,Ln,Ln]
  refine h _ st' lk ?_ ?_
  .rw[e];exact WP (WO _ XX) lo.perm
  .rw[e];refine QU.mpr {QU.mpr {oR ob 1,oR oa G,λx hx y hy=>?_},lo.srt,λx hx y hy=>lo.high x ?_ y hy}
   .let{i,be,bh,rfl}:=je hx;let{j,bi,bw,rfl}:=je hy;rw[show i=0 by lia];exact C.of_lt<|aa j bw
   .rcases Q5.mp hx with z|z
    .exact Q5.mpr<|.inr z
    .exact Q5.mpr<|.inl z
 refine Wr ?_;dsimp only;refine wpS_lift<|WZ {M,?_};refine nmK ?_;intro k0;refine Wr<|b3 () ?_;have start:Hi blt (a.toList++b.toList) (#[g a (a.size-1)]:Sq).reverse.toList (a.toList.take<|a.size-1) (b.toList.take b.size):=by
  have l0:Hi blt (a.toList++b.toList) [] (a.toList.take (a.size-1)++ [g a (a.size-1)]) (b.toList.take b.size):=by
   refine{?_,WK,λx _ y hy=>Ws hy ZU};rw[<-He (),show a.size-1+1=a.size by lia,Zu];have e1:a.toList.take a.size=a.toList:=Z1 (by rw[QN];exact Q4 _);have e2:b.toList.take b.size=b.toList:=Z1 (by rw[QN];exact Q4 _);rw[e1,e2]
  have:=l0.a (by rw[<-He ()];exact oR oa _) (λx hx y hy=>by
   rw[Q7.mp hy];let{j,_,hj,rfl}:=je hx;exact C.of_lt<|bv j hj)
  exact this
 dsimp only[k0];by_cases a1:a.size-1=0
 .rw[Wn (WA.mpr a1)];exact Wu<|endA _ (a.size-1) b.size st (Ps.refl _) a1 (Q4 _) start
 .rw[Wm (by simpa using a1)];by_cases b1:b.size=1
  .rw[Wn (WA.mpr b1)];exact Wu<|endB _ (a.size-1) b.size st (Ps.refl _) b1 () start
  .rw[Wm (by simpa using b1)];refine nmK ?_;intro k1;refine Wr<|WY ?_;dsimp only[k1];refine nmF ?_;intro f1 k2;refine Wr (WW (WI (I:=λi c st'=>Ps st st'/\Sh blt a b i c) (Q:=λc st'=>MQ (Q · st') (λ_=>False) c) ?_ ?_ {Ps.refl _,(),(),(),Q4 _,(),start}) ?_)
   .rintro i c st'- -⟨lk,@⟨G,O,out,mg,cp,ce,hb1,cc,hi,lo⟩⟩;have cs:kindOf st'=κ:=lk.kind.trans hK;dsimp only[f1];refine nmF ?_;intro f2 k3;refine Wr (WW (WI (I:=λ_ c st2=>st2=st'/\Sh blt a b i c) (Q:=λc st2=>st2=st'/\MQ (Q · st') (Sh blt a b i) c) ?_ (λc st2 h=>{h.1,.go h.2}) ⟨M,cp,ce,hb1,cc,hi,lo⟩) ?_)
    .rintro j c st2- -⟨rfl,@⟨ja,jb,out,x,a3,U,ba,Y,Z,lo⟩⟩;dsimp only[f2];have c0:=XV ba;have bl:=Zi c0 Y;have bo:=Zi a3 U;refine Wr<|b3 bl (Wr<|b3 bo<|Wr<|L _ _ _ _ (mb (jb-1) bl) (ma (ja-1) bo) cs ?_);dsimp only;cases e:blt (g b<|jb-1) (g a<|ja-1)with
     |true=>
      rw[Wn M];have a4:=b5 out ja jb a3 U c0 Y lo e;refine Wr<|b3 bo ?_;by_cases z:ja-1=0
      .rw[Wn (WA.mpr z)];exact Wu {M,.ret<|endA _ (ja-1) jb _ lk z Y a4}
      .rw[Wm (by simpa using z)];have h1:=V9 z;have h2:=Zq bo;have h3:ja-1+jb+i<=a.size+b.size:=Z4 (Vy (Vy (Wf _ _) _) _) Z;split
       .exact Wu {M,.go ⟨h1,h2,ba,Y,h3,a4⟩}
       .exact Wu ⟨M,h1,h2,ba,Y,h3,a4⟩
     |false=>
      rw[Wm (_)];have a4:=b8 out ja jb a3 U c0 Y lo e;refine Wr<|b3 bl ?_;by_cases z:jb-1=1
      .rw[Wn (WA.mpr z)];exact Wu {M,.ret<|endB _ ja (jb-1) _ lk z U a4}
      .rw[Wm (by simpa using z)];have h1:2<=jb-1:=();have h2:=Zq bl;have h3:ja+(jb-1)+i<=a.size+b.size:=Z4 (Vy (XD (Wf _ _) _) _) Z;split
       .exact Wu {M,.go ⟨a3,U,h1,h2,h3,a4⟩}
       .exact Wu ⟨M,a3,U,h1,h2,h3,a4⟩
    .rintro c st2 ⟨rfl,⟨q⟩| @⟨_,@⟨ja,jb,out,x,a3,U,ba,Y,Z,lo⟩⟩⟩
     .exact Wu<|.ret q
     .dsimp only[k3];refine nmK ?_;intro k5;refine Wr<|wpS_lift (WZ {M,?_});dsimp only[k5];refine nmF ?_;intro f3 k6;refine Wr (WW (WI (I:=λj c a5=>Ps st a5/\Sh blt a b (i+j) c) (Q:=λc a5=>Ps st a5/\MQ (Q · a5) (Sh blt a b<|i+1) c) ?_ ?_ ⟨lk,a3,U,ba,Y,Z,lo⟩) ?_)
      .rintro j c a5- -⟨a6,@⟨ka,kb,out,⟨m',x⟩,bp,a0,c5,a2,Z,lo⟩⟩;dsimp only[f3];apply EN (α:=Nat) (H:=λ_=>True)
       .intro key;by_cases m1:m'>1
        .rw[Wn m1];generalize m'-1=mm;exact key mm trivial
        .rw[Wm m1];exact key m' trivial
       intro mm _;refine nmK ?_;intro k7;refine Wr<|G2 λct lk4=>?_;replace lk4:=a6.trans lk4;have cf:kindOf ct=κ:=lk4.kind.trans hK;dsimp only[k7];refine nmK ?_;intro k8;have c8:=XV c5;have br:=Zi c8 a2;have up:∀{i m n},i<m->m<=n->0+i<n:=λh1 h2=>by rw[V6];exact Z5 h1 h2
       refine Wr<|b3 br ?_;refine nmK ?_;intro k9;refine Wr<|iJ L cf (mb (kb-1) br) (λi hi=>{up hi a0,ma _<|up hi a0}) (Zi bp<|Q4 _) (λi=>!blt (g b<|kb-1) (g a<|0+i)) (λi hi=>M) (λi j h1 h2 h3=>HZ C oa 0 _ i j h1 (up h2 a0) h3) λk cg ci cj=>?_;have an:∀i,i<k->blt (g b<|kb-1) (g a i)=false:=λi hi=>by have f:=ci i hi;rw[V6]at f;simpa using f
       have ck:∀i,k<=i->i<ka->blt (g b<|kb-1) (g a i)=true:=λi hi hj=>by have f:=cj i hi hj;rw[V6]at f;simpa using f
       clear ci cj;dsimp only[k9];apply si (H:=λ(kc:Nat)(o':Sq)=>0<kc/\kc<=ka/\(∀i,i<kc->blt (g b<|kb-1) (g a i)=false)/\Hi blt (a.toList++b.toList) o'.reverse.toList (a.toList.take kc) (b.toList.take kb))
       .intro key;by_cases k0:ka-k>0
        .rw[Wn k0];have lo1:=ac out ka kb k cg a0 c8 a2 lo ck;by_cases z:k=0
         .rw[Wn (WA.mpr z)];exact Wu {lk4,.ret<|endA _ k kb _ lk4 z a2 lo1}
         rw[Wm (by simpa using z)];generalize out++(a.extract k ka).reverse=o' at lo1⊢;obtain⟨kc,ek⟩:∃kc,kc=k:={_,M};rw[<-ek]at lo1⊢;exact key kc o' {by rw[ek];exact V9 z,by rwa[ek],by rwa[ek],lo1}
        .rw[Wm k0];have e0:k=ka:=();rw[e0];exact key ka out {bp,Q4 _,by rwa[<-e0],lo}
       intro kc o' hc;let{c1,c2,an,lo1}:=hc;refine nmK ?_;intro cv;refine Wr<|b3 br ?_;have c3:=Z4 c2 a0;have ax:=Zi c1 c3;have c9:=b8 _ kc kb c1 c3 c8 a2 lo1 (an (kc-1)<|Zi c1<|Q4 _);dsimp only[cv];by_cases z2:kb-1=1
       .rw[Wn (WA.mpr z2)];exact Wu {lk4,.ret<|endB _ kc (kb-1) _ lk4 z2 c3 c9}
       rw[Wm (by simpa using z2)];refine nmK ?_;intro d5;have ca:1<kb-1:=();have bb:=Zq br;refine Wr<|b3 ax ?_;refine nmK ?_;intro cz;refine Wr<|iJ L cf (ma _ ax) (λi hi=>{up hi bb,mb _<|up hi bb}) (Zi (XV ca)<|Q4 _) (λi=>blt (g b<|0+i)<|g a<|kc-1) (λi hi=>M) (λi j h1 h2 h3=>HY C ob 0 _ i j h1 (up h2 bb) h3) λk2 h1 h2 h3=>?_;have cm:0<k2:=by
        rcases Xo k2 with z|z
        .have f:blt (g b<|0+0) (g a<|kc-1)=false:=h3 0 (ZA z) (XV ca);rw[XS,aa (kc-1) ax]at f;cases f
        .exact z
       have bt:∀i,i<k2->blt (g b i) (g a<|kc-1)=true:=λi hi=>by have f:=h2 i hi;rwa [V6]at f
       have d4:∀i,k2<=i->i<kb-1->blt (g b i) (g a<|kc-1)=false:=λi hi hj=>by have f:=h3 i hi hj;rwa [V6]at f
       clear h2 h3;dsimp only[cz];apply si (H:=λ(kd:Nat)(o2:Sq)=>1<kd/\kd<=kb-1/\(∀i,i<kd->blt (g b i) (g a<|kc-1)=true)/\Hi blt (a.toList++b.toList) o2.reverse.toList (a.toList.take kc) (b.toList.take kd))
       .intro key;by_cases q0:kb-1-k2>0
        .rw[Wn q0];have b2:=ah _ kc (kb-1) k2 h1 bb c1 c3 c9 d4;by_cases z3:k2=1
         .rw[Wn (WA.mpr z3)];exact Wu {lk4,.ret<|endB _ kc k2 _ lk4 z3 c3 b2}
         have zz:¬k2=0:=V4 cm;rw[Wm (by simpa using z3),Wm (by simpa using zz)];generalize o'.push (g b<|kb-1)++(b.extract k2<|kb-1).reverse=o2 at b2⊢;obtain⟨kd,ed⟩:∃kd,kd=k2:={_,M};rw[<-ed]at b2⊢;exact key kd o2 {by rw[ed];exact Zl cm<|Ne.symm z3,by rwa[ed],by rwa[ed],b2}
        .rw[Wm q0];have e2:k2=kb-1:=();rw[e2];exact key (kb-1) _ {ca,Q4 _,by rwa[<-e2],c9}
       intro kd o2 hd;let{d1,d2,bt,b2}:=hd;refine Wr<|b3 ax ?_;have d0:=XV d1;have d3:=Z4 d2 bb;have cb:=b5 _ kc kd c1 c3 d0 d3 b2 (bt (kd-1)<|Zi d0<|Q4 _);by_cases z4:kc-1=0
       .rw[Wn (WA.mpr z4)];exact Wu {lk4,.ret<|endA _ (kc-1) kd _ lk4 z4 d3 cb}
       rw[Wm (by simpa using z4)];have hz:=V9 z4;have Z:kc-1+kd+(i+(j+1))<=a.size+b.size:=();split
       .exact Wu {lk4,.go {hz,Zq ax,d1,d3,Z4 (XD (XD (Nat.le_add_left 1 j) i) _) Z,cb}}
       .exact Wu {lk4,hz,Zq ax,d1,d3,Z,cb}
      .rintro c a5 ⟨a6,@⟨ka,kb,_,_,_,_,_,_,Z,_⟩⟩;have em:max 0 (a.size+b.size)=a.size+b.size:=Zx (QT _);rw[em]at Z;lia
      .rintro c a5 ⟨a6,⟨q⟩| @⟨_,⟨bp,a0,c5,a2,Z,lo⟩⟩⟩
       .exact Wu<|.ret q
       .dsimp only[k6];exact Wr<|WQ (Wu {⟨a6.kind,a6.arr,a6.pend,a6.fail⟩,bp,a0,c5,a2,Z,lo})
   .rintro c st' ⟨lk,@⟨_,_,_,_,_,_,_,_,hi,_⟩⟩;have em:max 0 (a.size+b.size)=a.size+b.size:=Zx (QT _);rw[em]at hi;lia
   .rintro c st' (⟨q⟩|⟨⟨⟩⟩);exact Wu q
end
variable{A:Sv}{p:Array (Nat×Nat×Nat)}{arr a₀ m xs:Sq}{Q:Bool->SortSt->Prop}{blt:Td}{l:List (Nat×Nat×Nat)}{at_ i lo n:Nat}{prog:Sr}{s:L'}{κ:SortKind}{st:SortSt}{α:Type}{E:Sw}{w:Ss}
def SH(arr:Sq)(at_:Nat)(m:Sq):Array Keyed:=m.toList.zipIdx.foldl (λa p=>a.setIfInBounds (at_+p.2) p.1) arr
theorem Iv:∀(l:Tj)(j:Nat)(arr:Sq)(at_:Nat),at_+j+l.length<=arr.size->
  ((l.zipIdx j).foldl (λa p=>a.setIfInBounds (at_+p.2) p.1) arr).toList=arr.toList.take (at_+j)++l++arr.toList.drop (at_+j+l.length)
 | [],j,arr,at_,h=>by simp
 |x::l,j,arr,at_,h=>by
  rw[List.zipIdx_cons,List.foldl_cons];have hl:at_+j<arr.size:=by simp at h;lia
  have z:=Iv l (j+1) (arr.setIfInBounds (at_+j) x) at_ (by simp at h⊢;lia)
  rw[z,Wg];have G:(arr.toList.set (at_+j) x).take (at_+(j+1))=arr.toList.take (at_+j)++ [x]:=by
   rw[show at_+(j+1)=at_+j+1 by lia,QY,List.take_set_of_le (Q4 _),XQ (by rwa[QN])];rfl
  have e2:(arr.toList.set (at_+j) x).drop (at_+(j+1)+l.length)=arr.toList.drop (at_+j+(x::l).length):=by
   rw[List.drop_set_of_lt ()];congr 1;simp;lia
  rw[G,e2,QV,QV,QV];rfl
theorem Cd(h:at_+m.size<=arr.size):(SH arr at_ m).toList=arr.toList.take at_++m.toList++arr.toList.drop (at_+m.size):=by
 have:=Iv m.toList 0 arr at_ (by simpa using h)
 simpa[SH]using this
theorem AS(xs:Sq)(k:Nat):g xs k=(xs.toList[k]?).getD dk:=by unfold g;rw[Zg]
theorem O7(h:at_+m.size<=arr.size)(k:Nat):g (SH arr at_ m) k=if at_<=k/\k<at_+m.size then g m (k-at_)else g arr k:=by
 rw[AS,Cd h];have l1:(arr.toList.take at_).length=at_:=by rw[Q9,QN];lia
 by_cases a:k<at_
 .rw[Wm (),QV,Zy (),Vg a,<-AS]
 .by_cases b:k<at_+m.size
  .rw[Wn {(),b},QV,Zw (),l1,Zy (by rw[QN];lia),<-AS]
  .rw[Wm (),Zw (by rw[Q6,l1,QN];lia),Q6,l1,QN,Xp,show at_+m.size+(k-(at_+m.size))=k by lia,<-AS]
theorem Iu(h:at_+m.size<=arr.size)(p:m.toList.Perm ((arr.toList.drop at_).take m.size)):(SH arr at_ m).Perm arr:=by
 rw[Va,Cd h];have e:arr.toList=arr.toList.take at_++((arr.toList.drop at_).take m.size++arr.toList.drop (at_+m.size)):=by
  rw[<-We,Zm,Zm]
 refine WP ?_<|WU e.symm;rw[QV];exact WV _<|WO _ p
theorem pS(h:n<=arr.size){k:Nat}(hk:k<n-i):g (arr.extract i n) k=g arr (i+k):=by
 unfold g;rw[Array.getElem?_extract,Wn ()]
theorem v8(h:n<=arr.size):(arr.extract i n).size=n-i:=by rw[Array.size_extract];lia
theorem AE(h:n<=arr.size)(o:On blt arr i n):On blt (arr.extract i n) 0 (arr.extract i n).size:=λa b _ z hb=>by
 rw[v8 h]at hb;rw[pS h (),pS h hb];exact o _ _ () () ()
section
theorem Kk{x:SortSt}{Q:PUnit->SortSt->Prop}(h:Q ⟨⟩ x):wpS (model prog w) A E s (set x:StateT SortSt Sem PUnit) Q st:=by
 unfold wpS;rw[StateT.run_set];exact Wx ⟨M,h⟩
variable(L:Bg prog w A E s a₀ κ blt)
include L
theorem Db{G I pa sb U pb:Nat}(C:RJ blt)(Jz:PV a₀ κ st)(hi:(pendingOf st)[i]?=some (G,I,pa))(O:(pendingOf st)[i+1]?=some (sb,U,pb))(hb:sb=G+I)(h1:1<=I)(h2:1<=U)(hz:sb+U<=a₀.size)
  (oa:On blt (arrOf st) G (G+I)) (ob:On blt (arrOf st) sb (sb+U))
  (h:∀st',PV a₀ κ st'->pendingOf st'=((pendingOf st).setIfInBounds i (G,I+U,pa)).eraseIdxIfInBounds (i+1)->On blt (arrOf st') G (G+(I+U))->(∀k,k<G\/G+(I+U)<=k->g (arrOf st') k=g (arrOf st) k)->Q true st'):
  wpS (model prog w) A E s (mergeAt' i) Q st:=by
 subst hb;have hsz:=Jz.size;have b1:((sortPriv%PySem.Builtin.SortState.a) st).size=a₀.size:=Jz.size;refine Wr<|WY ?_;dsimp only;rw[hi,O];dsimp only;refine Wr<|Kk ?_;have B1:PV a₀ κ (SortSt.mk' (kindOf st) (arrOf st) (((pendingOf st).setIfInBounds i (G,I+U,pa)).eraseIdxIfInBounds<|i+1) (gallopOf st)<|failedOf st):=⟨Jz.kind,Jz.fine,Jz.perm⟩;refine Wr<|b3 () ?_;refine Wr<|iJ L B1.kind (Jz.mem ()) (λj O=>{(),Jz.mem ()}) () (λj=>!blt (g (arrOf st)<|G+I) (g (arrOf st)<|G+j)) (λj O=>M) (λx y h3 h4 h5=>?_) λk b2 ac ah=>?_
 .have h5:blt (g (arrOf st)<|G+I) (g (arrOf st)<|G+y)=false:=by simpa using h5
  by_cases e:x=y
  .subst e;simpa using h5
  .have:=C.trans (oa (G+x) (G+y) () () ()) h5;simpa using this
 .dsimp only;have low:∀j,j<k->le blt (g (arrOf st)<|G+j) (g (arrOf st)<|G+I):=λj O=>by have:=ac j O;simpa using this
  have up:∀j,k<=j->j<I->blt (g (arrOf st)<|G+I) (g (arrOf st)<|G+j)=true:=λj O an=>by have:=ah j O an;simpa using this
  have a1:∀j x,j<k->G+I<=x->x<G+I+U->le blt (g (arrOf st)<|G+j) (g (arrOf st) x):=λj x O hx Y=>by
   by_cases e:x=G+I
   .rw[e];exact low j O
   .exact C.trans (low j O)<|ob (G+I) x (Q4 _) () Y
  by_cases n0:I-k=0
  .rw[Wn (WA.mpr n0)];refine Wu<|h _ B1 M (λx y hx Z hy=>?_) λ_ _=>M;by_cases c:y<G+I
   .exact oa x y hx Z c
   .by_cases d:x<G+I
    .have:=a1 (x-G) y () () ();rwa [show G+(x-G)=x by lia]at this
    .exact ob x y () Z ()
  .rw[Wm (by simpa using n0)];refine Wr<|b3 () ?_;rw[show G+k+(I-k)-1=G+I-1 by lia];refine Wr<|iJ L B1.kind (Jz.mem ()) (λj O=>{(),Jz.mem ()}) () (λj=>blt (g (arrOf st)<|G+I+j)<|g (arrOf st)<|G+I-1) (λj O=>M) (λx y h3 h4 h5=>?_) λm b5 ax a5=>?_
   .by_cases e:x=y
    .subst e;exact h5
    .cases z:blt (g (arrOf st)<|G+I+x) (g (arrOf st)<|G+I-1)with
     |true=>rfl
     |false=>
      have f:blt (g (arrOf st)<|G+I+y) (g (arrOf st)<|G+I-1)=false:=C.trans z (ob (G+I+x) (G+I+y) () () ());rw[h5]at f;cases f
   .dsimp only;have a2:∀j,j<m->blt (g (arrOf st)<|G+I+j) (g (arrOf st)<|G+I-1)=true:=ax;have first:blt (g (arrOf st)<|G+I+0) (g (arrOf st)<|G+k+0)=true:=by
     rw[XS,XS];exact up k (Q4 _) ()
    have mp:0<m:=by
     rcases Xo m with z|z
     .have f:blt (g (arrOf st)<|G+I+0) (g (arrOf st)<|G+I-1)=false:=a5 0 () ();have q:=up (I-1) () ();rw[show G+(I-1)=G+I-1 by lia]at q;rw[XS,q]at f;cases f
     .exact z
    have high:∀x,G+I+m<=x->x<G+I+U->le blt (g (arrOf st)<|G+I-1) (g (arrOf st) x):=λx hx Y=>by
     have f:blt (g (arrOf st)<|G+I+(x-(G+I))) (g (arrOf st)<|G+I-1)=false:=a5 (x-(G+I)) () ();rwa [show G+I+(x-(G+I))=x by lia]at f
    have a0:∀y x,G<=y->y<G+I->G+I+m<=x->x<G+I+U->le blt (g (arrOf st) y) (g (arrOf st) x):=λy x hy b8 hx Y=>by
     by_cases e:y=G+I-1
     .rw[e];exact high x hx Y
     .exact C.trans (oa y (G+I-1) hy () ())<|high x hx Y
    have m0:¬m=0:=();rw[Wm (by simpa using m0)];have sx:((arrOf st).extract (G+k)<|G+I).size=G+I-(G+k):=v8 ();have sy:((arrOf st).extract (G+I)<|G+I+m).size=G+I+m-(G+I):=v8 ();have a6:On blt (arrOf st) (G+k) (G+I):=oa.sub () ();have a8:On blt (arrOf st) (G+I) (G+I+m):=ob.sub () ();have a3:∀(res:Sq)(st2:SortSt),Ps (SortSt.mk' (kindOf st) (arrOf st) (((pendingOf st).setIfInBounds i (G,I+U,pa)).eraseIdxIfInBounds<|i+1) (gallopOf st)<|failedOf st) st2->res.toList.Perm (((arrOf st).extract (G+k)<|G+I).toList++((arrOf st).extract (G+I)<|G+I+m).toList)->PW blt res.toList->
      wpS (model prog w) A E s (modify (λs=>SortSt.mk' (kindOf s) (SH (arrOf s) (G+k) res) (pendingOf s) (gallopOf s)<|failedOf s)>>=λ_=>get>>=λx=>pure (failedOf x).isNone) Q st2:=λres st2 lk pm pw=>by
     have rs:res.size=I-k+m:=by
      have:=pm.length_eq;rw[Q6,QN,QN,QN,sx,sy]at this;lia
     have rm:∀j,j<res.size->∃x,G+k<=x/\x<G+I+m/\g res j=g (arrOf st) x:=λj O=>by
      have mem:g res j∈res.toList:=by have:=zF O;simpa using this
      rcases Q5.mp (pm.mem_iff.mp mem)with q|q
      .let{x,x1,x2,_,x4}:=fj q;exact{x,(),(),x4}
      .let{x,x1,x2,_,x4}:=fj q;exact{x,(),(),x4}
     have aa:G+k+res.size<=(arrOf st2).size:=by rw[lk.arr];show G+k+res.size<=(arrOf st).size;lia
     refine Wr<|WQ ?_;refine Wr<|WY (Wu ?_);have hg:∀x,g (SH (arrOf st2) (G+k) res) x=if G+k<=x/\x<G+k+res.size then g res (x-(G+k))else g (arrOf st) x:=λx=>by
      rw[O7 aa,lk.arr]
     have ef:(failedOf st2).isNone=true:=by
      rw[lk.fail];show(failedOf st).isNone=true;rw[Jz.fine];rfl
     show Q (failedOf st2).isNone _;rw[ef];have on:=HP pw;refine h _ {lk.kind.trans Jz.kind,lk.fail.trans Jz.fine,?_} lk.pend ?_ ?_
     .refine(Iu aa ?_).trans (by rw[lk.arr];exact Jz.perm);rw[lk.arr];show res.toList.Perm (((arrOf st).toList.drop<|G+k).take res.size);refine pm.trans<|WU ?_;rw[ZX,ZX,ZD,ZD,rs,show G+I-(G+k)=I-k by lia,show G+I+m-(G+I)=m by lia,List.take_add,We,show G+k+(I-k)=G+I by lia]
     .intro x y hx Z hy;show le blt (g (SH (arrOf st2) (G+k) res) x) (g (SH (arrOf st2) (G+k) res) y);rw[hg x,hg y];by_cases y1:G+k<=y/\y<G+k+res.size
      .rw[Wn y1];by_cases x1:G+k<=x/\x<G+k+res.size
       .rw[Wn x1];exact on _ _ (QT _) () ()
       .rw[Wm x1];let{z,z1,z2,z3}:=rm (y-(G+k)) ();rw[z3];by_cases zz:z<G+I
        .exact oa x z hx () zz
        .have:=a1 (x-G) z () () ();rwa [show G+(x-G)=x by lia]at this
      .rw[Wm y1];by_cases x1:G+k<=x/\x<G+k+res.size
       .rw[Wn x1];let{z,z1,z2,z3}:=rm (x-(G+k)) ();rw[z3];by_cases zz:z<G+I
        .exact a0 z y () zz () ()
        .exact ob z y () () ()
       .rw[Wm x1];by_cases yy:y<G+I
        .exact oa x y hx Z yy
        .by_cases xx:x<G+I
         .exact a0 x y hx xx () ()
         .exact ob x y () Z ()
     .intro x hx;show g (SH (arrOf st2) (G+k) res) x=g (arrOf st) x;rw[hg x,Wm ()]
    by_cases c:I-k<=m
    .rw[Wn c];refine Wr<|C9 L C B1.kind (λx hx=>?_) (AE () a6) (AE () a8) (by rw[sx];lia) (by rw[sy];lia) ?_ ?_ λres st2 lk pm pw=>?_
     .rcases Q5.mp hx with q|q
      .let{j,_,_,a4,rfl}:=fj q;exact Jz.mem ()
      .let{j,_,_,a4,rfl}:=fj q;exact Jz.mem ()
     .rwa[pS () (),pS () ()]
     .intro j O;rw[sy]at O;rw[sx,pS () (),pS () (),show G+k+(G+I-(G+k)-1)=G+I-1 by lia];exact a2 j ()
     .exact a3 res st2 lk pm pw
    .rw[Wm c];refine Wr<|Da L C B1.kind (λx hx=>?_) (AE () a6) (AE () a8) (by rw[sx];lia) (by rw[sy];lia) ?_ ?_ λres st2 lk pm pw=>?_
     .rcases Q5.mp hx with q|q
      .let{j,_,_,a4,rfl}:=fj q;exact Jz.mem ()
      .let{j,_,_,a4,rfl}:=fj q;exact Jz.mem ()
     .rwa[pS () (),pS () ()]
     .intro j O;rw[sy]at O;rw[sx,pS () (),pS () (),show G+k+(G+I-(G+k)-1)=G+I-1 by lia];exact a2 j ()
     .exact a3 res st2 lk pm pw
end
def P5(blt:Td)(xs:Sq):List (Nat×Nat×Nat)->Nat->Nat->Prop
 | [],f,t=>f=t
 |(st,len,_)::r,f,t=>st=f/\1<=len/\On blt xs st (st+len)/\P5 blt xs r (st+len) t
theorem P5.le{xs:Sq}:∀{l:List (Nat×Nat×Nat)}{f t:Nat},P5 blt xs l f t->f+l.length<=t
 | [],f,t,h=>by cases h;simp
 |(st,len,p)::r,f,t,h=>by
  let{rfl,h1,_,z}:=h;have:=P5.le z;simp;lia
theorem P5.app{xs:Sq}:∀{l r:List (Nat×Nat×Nat)}{f t:Nat},P5 blt xs (l++r) f t↔∃m,P5 blt xs l f m/\P5 blt xs r m t
 | [],r,f,t=>{λh=>⟨f,M,h⟩,λzz=>by let{m,e,h}:=zz;cases e;exact h}
 |(st,len,p)::l,r,f,t=>by
  constructor
  .rintro ⟨h1,h2,z,G⟩;let{m,a,b}:=P5.app.mp G;exact{m,⟨h1,h2,z,a⟩,b}
  .rintro ⟨m,⟨h1,h2,z,a⟩,b⟩;exact{h1,h2,z,P5.app.mpr ⟨m,a,b⟩}
theorem P5.congr{ys:Sq}:∀{l:List (Nat×Nat×Nat)}{f t:Nat},P5 blt xs l f t->(∀k,f<=k->k<t->g ys k=g xs k)->P5 blt ys l f t
 | [],f,t,h,_=>h
 |(st,len,p)::r,f,t,h,e=>by
  let{rfl,h1,h2,z}:=h;have:=z.le;exact{M,h1,h2.congr λk a b=>e k a (),z.congr λk a b=>e k () b}
theorem P5.pw{a b p q:Nat}{f t:Nat}(h:P5 blt xs (l++ [(a,b,p)]) f t):P5 blt xs (l++ [(a,b,q)]) f t:=by
 let{m,h1,h2}:=P5.app.mp h;exact P5.app.mpr ⟨m,h1,h2⟩
theorem lP{q:Nat}(S:P5 blt xs p.toList 0 lo)(h:1<=n)(o:On blt xs lo (lo+n)):P5 blt xs (p.push (lo,n,q)).toList 0 (lo+n):=by
 rw[VR];exact P5.app.mpr ⟨lo,S,M,h,o,M⟩
theorem B0(q:Array α)(x:α)(f:α->α):(q.push x).modify ((q.push x).size-1) f=q.push (f x):=by
 have e:(q.push x).size-1=q.size:=by simp
 rw[e];apply Array.ext
 .simp
 .intro i h1 h2;rw[Array.getElem_modify];by_cases hi:q.size=i
  .subst hi;simp
  .rw[Wm hi];have:i<q.size:=by simp at h2;lia
   rw[Vs this,Vs this]
theorem rY{pw:Nat}(z:1<=p.size)(S:P5 blt xs p.toList 0 lo):P5 blt xs (p.modify (p.size-1) λx=>(x.1,x.2.1,pw)).toList 0 lo:=by
 obtain⟨q,x,rfl⟩:∃q x,p=q.push x:={p.pop,p[p.size-1],by
  apply Array.ext
  .simp;lia
  .intro i h1 h2;by_cases hi:i<p.pop.size
   .rw[Vs hi];simp
   .have:i=p.size-1:=by simp at h2 hi;lia
    subst this;rw[Array.getElem_push];rw[dif_neg (by simp)]}
 rw[B0,VR];rw[VR]at S;let{a,b,c}:=x;exact S.pw
theorem Ho{l:List α}{x y:α}(h1:l[i]?=some x)(h2:l[i+1]?=some y):∃p r,l=p++x::y::r/\p.length=i:=by
 let{I,O}:=Q2.mp h1;let{U,e2}:=Q2.mp h2;refine{l.take i,l.drop<|i+2,?_,by rw[Q9];lia};have z:=ZQ I;have G:=ZQ U;rw[O]at z;rw[e2]at G
 calc l=l.take i++l.drop i:=(Zm _ _).symm
  _=_:=by rw[z,G]
theorem IZ{p r:List α}{x y v:α}:((p++x::y::r).set p.length v).eraseIdx (p.length+1)=p++v::r:=by
 rw[List.set_append_right _ _ (Q4 _),Nat.sub_self];rw[VI (),show p.length+1-p.length=1 by lia];rfl
section
variable(L:Bg prog w A E s a₀ κ blt)
include L
theorem tG(C:RJ blt)(Jz:PV a₀ κ st)(S:P5 blt (arrOf st) (pendingOf st).toList 0 lo)(a0:lo<=a₀.size)(hi:i+1<(pendingOf st).size)
  (h:∀st',PV a₀ κ st'->P5 blt (arrOf st') (pendingOf st').toList 0 lo->(pendingOf st').size+1=(pendingOf st).size->(∀k,lo<=k->g (arrOf st') k=g (arrOf st) k)->Q true st'):
  wpS (model prog w) A E s (mergeAt' i) Q st:=by
 have O:(pendingOf st)[i]?=some ((pendingOf st)[i]'()):=getElem?_pos _ _ _;have U:(pendingOf st)[i+1]?=some ((pendingOf st)[i+1]'hi):=getElem?_pos _ _ _;obtain⟨⟨z,G,pa⟩,e1⟩:∃x,x=(pendingOf st)[i]'():={_,M};obtain⟨⟨sb,I,pb⟩,e2⟩:∃x,x=(pendingOf st)[i+1]'hi:={_,M};rw[<-e1]at O;rw[<-e2]at U;have t1:=O;have t2:=U;rw[<-Zg]at t1 t2;let{p,r,Y,pl}:=Ho t1 t2;rw[Y]at S;let{m,S1,S2}:=P5.app.mp S;let{rfl,n1,o1,rfl,n2,o2,S3}:=S2;have l3:=S3.le;have l1:=S1.le;refine Db L C Jz O U M n1 n2 () o1 o2 λst' B' hp on keep=>?_;have ep:(pendingOf st').toList=p++(z,G+I,pa)::r:=by
  rw[hp,Array.toList_eraseIdxIfInBounds,Wg,Y,<-pl,IZ]
 have Z:∀k,k<z\/z+G+I<=k->g (arrOf st') k=g (arrOf st) k:=λk hk=>keep k ();refine h st' B' ?_ ?_ λk hk=>Z k ()
 .rw[ep];refine P5.app.mpr {z,S1.congr λk a b=>Z k<|.inl b,M,(),on,?_};rw[show z+(G+I)=z+G+I by lia];exact S3.congr λk a b=>Z k (.inr a)
 .have a:=WG List.length ep;have b:=WG List.length Y;simp at a b;lia
theorem Bp{Q:Unit->SortSt->Prop}(C:RJ blt)(Jz:PV a₀ κ st)(hp:pendingOf st= #[])(h2:1<=a₀.size)
  (h:∀st',PV a₀ κ st'->On blt (arrOf st') 0 a₀.size->Q Unit.unit st'):wpS (model prog w) A E s sortRuns' Q st:=by
 rw[sortRuns'_eq];refine Wr<|WY ?_;dsimp only;have hsz:=Jz.size;rw[hsz];refine Wr (WW (WI
  (I:=λi c st'=>∃lo,c=(none,lo)/\i<=lo/\lo<=a₀.size/\PV a₀ κ st'/\P5 blt (arrOf st') (pendingOf st').toList 0 lo)
  (Q:=λc st'=>c=(none,a₀.size)/\PV a₀ κ st'/\P5 blt (arrOf st') (pendingOf st').toList 0 a₀.size) ?step ?fin {0,M,Q4 _,QT _,Jz,by rw[hp];exact M}) ?post)
 case fin=>
  rintro c st' ⟨lo,rfl,h1,h3,B',S⟩;have em:max 0 a₀.size=a₀.size:=Zx (QT _);rw[em]at h1;have e:lo=a₀.size:=();subst e;exact⟨M,B',S⟩
 case step=>
  rintro i c st' _ hi ⟨lo,rfl,h1,h3,B',S⟩;dsimp only;by_cases z:lo>=a₀.size
  .rw[Wn z];have e:lo=a₀.size:=();subst e;exact Wu ⟨M,B',S⟩
  .rw[Wm z];refine Wr<|G3 L C B' () () λn st2 B2 p2 m1 m2 O2 k2=>?_;dsimp only;have S2:P5 blt (arrOf st2) (pendingOf st2).toList 0 lo:=by
    rw[p2];exact S.congr λk _ b=>k2 k b
   by_cases U:n<minRun' a₀.size a₀.size 0
   .rw[Wn U];refine Wr<|wpS_lift (WZ {M,?_});refine Wr<|Fn L C B2 m1 () () O2 λO B3 p3 O3 k3=>?_;rw[Wm (_)];have S3:P5 blt (arrOf O) (pendingOf O).toList 0 lo:=by
     rw[p3];exact S2.congr λk _ b=>k3 k b
    generalize hn:min (a₀.size-lo) (minRun' a₀.size a₀.size 0)=n' at O3;have a2:1<=n':=();have a3:lo+n'<=a₀.size:=();refine Wr<|WY ?_;cases eb:(pendingOf O).back? with
    |none=>
     dsimp only;exact Wr<|WQ (Wu {lo+n',M,(),(),⟨B3.kind,B3.fine,B3.perm⟩,lP S3 () O3})
    |some tt=>
     let{s1,n1,p1}:=tt;dsimp only;have Z:1<=(pendingOf O).size:=by
      rcases Xo (pendingOf O).size with q|q
      .rw[Array.size_eq_zero_iff.mp q]at eb;cases eb
      .exact q
     refine Wr (WW (WI (I:=λ_ c G=>c=(none,Unit.unit)/\PV a₀ κ G/\P5 blt (arrOf G) (pendingOf G).toList 0 lo/\On blt (arrOf G) lo (lo+n')/\1<=(pendingOf G).size)
      (Q:=λc G=>c=(none,Unit.unit)/\PV a₀ κ G/\P5 blt (arrOf G) (pendingOf G).toList 0 lo/\On blt (arrOf G) lo (lo+n')/\1<=(pendingOf G).size) ?_ (λ_ _ q=>q) ⟨M,B3,S3,O3,Z⟩) ?_)
     .rintro j c G _ _ ⟨rfl,Y,S4,O4,z4⟩;refine Wr<|WY ?_;by_cases big:(pendingOf G).size>1
      .rw[Wn big,getElem?_pos (pendingOf G) ((pendingOf G).size-2) ()];obtain⟨⟨u1,u2,a0⟩,eu⟩:∃x,x=(pendingOf G)[(pendingOf G).size-2]'(by(clear big Z eb a3 a2 hn p3 U m2 m1 p2 z h3 h1 hi hsz h2 hp;omega (config:={}))):={_,M};rw[<-eu];dsimp only;split
       .exact Wu ⟨M,Y,S4,O4,z4⟩
       .refine Wr<|tG L C Y S4 () () λa4 B5 S5 z5 k5=>?_;rw[Wm (_)];exact Wu {M,B5,S5,O4.congr λk a b=>k5 k a,()}
      .rw[Wm big];exact Wu ⟨M,Y,S4,O4,z4⟩
     .rintro c G ⟨rfl,Y,S4,O4,z4⟩;dsimp only;refine Wr<|WQ (Wr<|WQ<|Wu {lo+n',M,(),(),⟨Y.kind,Y.fine,Y.perm⟩,?_});exact lP (rY z4 S4) () O4
   .rw[Wm U];have B3:=B2;have S3:=S2;have O3:=O2;obtain⟨O,e3⟩:∃x,x=st2:={_,M};rw[<-e3]at B3 S3 O3⊢;refine Wr<|WY ?_;cases eb:(pendingOf O).back? with
    |none=>
     dsimp only;exact Wr<|WQ (Wu {lo+n,M,(),(),⟨B3.kind,B3.fine,B3.perm⟩,lP S3 () O3})
    |some tt=>
     let{s1,n1,p1}:=tt;dsimp only;have Z:1<=(pendingOf O).size:=by
      rcases Xo (pendingOf O).size with q|q
      .rw[Array.size_eq_zero_iff.mp q]at eb;cases eb
      .exact q
     refine Wr (WW (WI (I:=λ_ c G=>c=(none,Unit.unit)/\PV a₀ κ G/\P5 blt (arrOf G) (pendingOf G).toList 0 lo/\On blt (arrOf G) lo (lo+n)/\1<=(pendingOf G).size)
      (Q:=λc G=>c=(none,Unit.unit)/\PV a₀ κ G/\P5 blt (arrOf G) (pendingOf G).toList 0 lo/\On blt (arrOf G) lo (lo+n)/\1<=(pendingOf G).size) ?_ (λ_ _ q=>q) ⟨M,B3,S3,O3,Z⟩) ?_)
     .rintro j c G _ _ ⟨rfl,Y,S4,O4,z4⟩;refine Wr<|WY ?_;by_cases big:(pendingOf G).size>1
      .rw[Wn big,getElem?_pos (pendingOf G) ((pendingOf G).size-2) ()];obtain⟨⟨u1,u2,a0⟩,eu⟩:∃x,x=(pendingOf G)[(pendingOf G).size-2]'(by omega (config:={})):={_,M};rw[<-eu];dsimp only;split
       .exact Wu ⟨M,Y,S4,O4,z4⟩
       .refine Wr<|tG L C Y S4 () () λa4 B5 S5 z5 k5=>?_;rw[Wm (_)];exact Wu {M,B5,S5,O4.congr λk a b=>k5 k a,()}
      .rw[Wm big];exact Wu ⟨M,Y,S4,O4,z4⟩
     .rintro c G ⟨rfl,Y,S4,O4,z4⟩;dsimp only;refine Wr<|WQ (Wr<|WQ<|Wu {lo+n,M,(),(),⟨Y.kind,Y.fine,Y.perm⟩,?_});exact lP (rY z4 S4) () O4
 case post=>
  rintro c st' ⟨rfl,B',S⟩;dsimp only;have a1:=S.le;refine Wr (WW (WI (I:=λi c st2=>c=(none,Unit.unit)/\PV a₀ κ st2/\P5 blt (arrOf st2) (pendingOf st2).toList 0 a₀.size/\(pendingOf st2).size+i<=a₀.size+1)
   (Q:=λc st2=>c=(none,Unit.unit)/\PV a₀ κ st2/\P5 blt (arrOf st2) (pendingOf st2).toList 0 a₀.size/\(pendingOf st2).size<=1) ?_ ?_ {M,B',S,by rw[QN]at a1;lia}) ?_)
  .rintro i c st2 _ hi ⟨rfl,B2,S2,z2⟩;refine Wr<|WY ?_;by_cases one:(pendingOf st2).size<=1
   .rw[Wn one];exact Wu ⟨M,B2,S2,one⟩
   .rw[Wm one];generalize a5:(if Option.any _ _=true then(pendingOf st2).size-2-1 else(pendingOf st2).size-2)=ix;have a6:∀bb:Bool,(if bb=true then(pendingOf st2).size-2-1 else(pendingOf st2).size-2)+1<(pendingOf st2).size:=λbb=>by
     cases bb with
     |true=>rw[Wn M];lia
     |false=>rw[Wm (_)];lia
    have hx:ix+1<(pendingOf st2).size:=by
     rw[<-a5];exact a6 _
    refine Wr<|tG L C B2 S2 (Q4 _) hx λO B3 S3 z3 k3=>?_;rw[Wm (_)];exact Wu {M,B3,S3,()}
  .rintro c st2 ⟨rfl,B2,S2,z2⟩;have em:max 0 a₀.size=a₀.size:=Zx (QT _);rw[em]at z2;exact{M,B2,S2,()}
  .rintro c st2 ⟨rfl,B2,S2,z2⟩;dsimp only;refine Wu (h st2 B2 ?_)
   match hl:(pendingOf st2).toList,S2 with
   | [],S2=>
    have e:0=a₀.size:=S2;lia
   | [(a,b,p)],S2=>
    let{rfl,_,o,e}:=S2;have e:0+b=a₀.size:=e;rw[e]at o;exact o
   |_::_::_,_=>
    have:=WG List.length hl;simp at this;lia
end
variable{blt:Td}{vs:Sl}{E Q:Sw}
section
variable{prog:Sr}{w:Ss}{A:Sv}{s:L'}{κ:SortKind}
abbrev But(a:K')(s s':L'):Prop:=∀b o,b≠a->s.heap.get? b=some o->s'.heap.get? b=some o
theorem zg{a:K'}{n:Nat}{P:PySem.Fin->Shared->Prop}(U:s.heap.get? a=some (seqObj ff vs.toArray n))(hz:vs.length<=sizeLine)(C:RJ blt)
  (Y:∀h':Heap,But a s {s with heap:=h'}->2<=vs.length->∀Q':SortKind->Shared->Prop,Q' κ {s with heap:=h'}->wpAny (model prog w) A (keyKind' vs.toArray) Q' E {s with heap:=h'})
  (L:∀h':Heap,But a s {s with heap:=h'}->Bg prog w A E {s with heap:=h'} (pairsOf vs) κ blt)
  (h:∀out:Array Keyed,out.Perm (pairsOf vs)->PW blt out.toList->P (.done<|.ret .none) {s with heap:=sortedHeap s.heap a vs (out.map (·.2))}):wpAny (model prog w) A (Builtin.«list.sort» {[.ref a],[]}) P E s:=by
 have hv:vs.toArray.size=vs.length:=QQ;have ha:=Ww U;rw[list_sort_plain];refine Wp<|listItems_at U M (Wp<|listUpdate_at U M ?_ (hsz:=by rwa[hv]));obtain⟨e1,G⟩:∃k,(s.heap.update a<|Obj.mapSeq λ_=> #[]).get? a=some (seqObj ff #[] k):={_,get?_update_seq U<|λ_=> #[]};refine Wp<|seqEpoch_at G M (Wp<|wpAny_newTuple ?_ (hsz:=hz));refine Wp<|wpAny_newList (WH ?_);generalize Z:((s.heap.update a<|Obj.mapSeq λ_=> #[]).push<|seqObj oo vs.toArray 0).push (seqObj ff #[] 0)=h6;have up:∀b o,(s.heap.update a<|Obj.mapSeq λ_=> #[]).get? b=some o->h6.get? b=some o:=λb o e=>by
  rw[<-Z];exact Wo _<|Wo _ e
 have z:=up a _ G;have I:But a s {s with heap:=h6}:=λb o hb e=>up b o (by exact(WE _ _<|Ne.symm hb).trans e);have fin:∀out:Array Keyed,out.Perm (pairsOf vs)->PW blt out.toList->P (.done<|.ret .none) {s with heap:=h6.update a (Obj.mapSeq λ_=>out.map (·.2))}:=λout p q=>by
  have:=h out p q;unfold sortedHeap at this;rw[Z]at this;exact this
 have hsz2:∀out:Array Keyed,out.Perm (pairsOf vs)->(out.map (·.2)).size<=sizeLine+1:=λout p=>by
  have:=p.size_eq;rw[pairsOf_size]at this;rw[Array.size_map];lia
 dsimp only;by_cases h2:vs.toArray.size<2
 .rw[Wn h2,Wn h2];refine Wp<|Wx ?_;rw[StateT.run_pure];refine Wp<|Wx ?_;dsimp only;have pr:(SortSt.mk' general' (vs.toArray.zip vs.toArray) #[] 7 none|>arrOf).Perm (pairsOf vs):=Array.Perm.refl _;refine Wp<|seqEpoch_at z M (Wp<|listUpdate_at z M ?_ (hsz:=QT _) (hsz2:=hsz2 _ pr));simp only[bne_self_eq_false,ZJ,if_false];refine Wx<|fin _ pr ?_;have l1:(vs.toArray.zip vs.toArray).toList.length<=1:=by simp at h2⊢;lia
  show PW blt (vs.toArray.zip vs.toArray).toList;revert l1;generalize (vs.toArray.zip vs.toArray).toList=l;rcases l with _|⟨x,_|⟨y,t⟩⟩<;>intro l1<;>first|exact WK|exact ZZ _ _|exact Ws l1<|Nat.not_le_of_lt (Nat.succ_lt_succ<|Nat.succ_pos _)
 .rw[Wm h2,Wm h2];refine Wp<|Y h6 I () _ ?_;refine Wp (WJ (Bp (L h6 I) (st:=SortSt.mk' κ (vs.toArray.zip vs.toArray) #[] 7 none) (Q:=λ_ st'=>PV (pairsOf vs) κ st'/\On blt (arrOf st') 0 (pairsOf vs).size) C
   {M,M,Array.Perm.refl _} M (by rw[pairsOf_size];lia) λst' Jz O=>⟨Jz,O⟩) ?_ λ_ _ e=>e)
  rintro ⟨⟨⟩,st'⟩ s' ⟨rfl,Jz,O⟩;dsimp only;refine Wp<|seqEpoch_at z M (Wp<|listUpdate_at z M ?_ (hsz:=QT _) (hsz2:=hsz2 _ Jz.perm));rw[Jz.fine];simp only[bne_self_eq_false,ZJ,if_false];refine Wx<|fin _ Jz.perm ?_;have:=i6 (a:=arrOf st') (blt:=blt) (by rwa[Jz.size]) 0;rwa [Zz]at this
theorem sorted_any{l:K'}(hl:s.heap.IsList l vs.toArray)(hz:vs.length<=sizeLine)(C:RJ blt)
  (G:∀h':Heap,(∀b o,s.heap.get? b=some o->h'.get? b=some o)->2<=vs.length->∀Q':SortKind->Shared->Prop,Q' κ {s with heap:=h'}->wpAny (model prog w) A.in1.in1 (keyKind' vs.toArray) Q' (λ_ _=>False) {s with heap:=h'})
  (L:∀h':Heap,(∀b o,s.heap.get? b=some o->h'.get? b=some o)->Bg prog w A.in1.in1 (λ_ _=>False) {s with heap:=h'} (pairsOf vs) κ blt)
  (h:∀out:Array Keyed,out.Perm (pairsOf vs)->PW blt out.toList->Q (.ref<|s.heap.objs.size+1) {s with heap:=sortedAll s.heap vs (out.map (·.2))}):wpAny (model prog w) A (call (.builtin zm) [.ref l]) Q E s:=by
 refine Calls.call_function_entry kind_sorted plain_sorted entry_sorted (args_sorted1 _) ?_;unfold Builtin.«sorted»;refine Wp (m:=checkCount zm 1 1 _)<|Wx (Wp<|collect_list hl ?_ (hsz:=hz));refine Wp<|wpAny_newList ?_ (hsz:=hz);generalize I:(s.heap.push<|seqObj ff #[] 0).update s.heap.objs.size (Obj.mapSeq (· ++vs.toArray))=h1;have z:h1.objs.size=s.heap.objs.size+1:=by rw[<-I,Heap.size_update,size_push']
 have old:∀b o,s.heap.get? b=some o->(h1.push<|seqObj ff vs.toArray 0).get? b=some o:=λb o e=>by
  refine Wo _ ?_;rw[<-I];exact(WE _ _<|Ne.symm<|Zb<|Ww e).trans<|Wo _ e
 have new:(h1.push<|seqObj ff vs.toArray 0).get? (s.heap.objs.size+1)=some (seqObj ff vs.toArray 0):=by
  rw[<-z];exact Wy _ M
 have keep:∀h':Heap,But (s.heap.objs.size+1) {s with heap:=h1.push (seqObj ff vs.toArray 0)} {s with heap:=h'}->∀b o,s.heap.get? b=some o->h'.get? b=some o:=λh' k b o e=>
  k b o (Zb<|Nat.lt_succ_of_lt<|Ww e) (old b o e)
 show wpAny _ _ _ _ _ {s with heap:=h1.push (seqObj ff vs.toArray 0)};rw[z];refine Wp<|WH (WJ (wpAny_call_entry (E:=λ_ _=>False) slot_list_sort {_,new,M} entry_list_sort (zg (κ:=κ) (blt:=blt) new hz C (λh' k=>G h'<|keep h' k) (λh' k=>L h'<|keep h' k) λout p q=>{_,M,?_})<|args_list_sort _) (λ_ _ q=>q) λ_ _ f=>f.elim);refine Wx {_,M,?_};have:=h out p q;unfold sortedAll at this;rw[I]at this;exact this
end
variable{blt:Td}{E:Sw}
theorem Cc:∀(a b:R'),HT.lexLt a b=true->HT.lexLt b a=false
 | [],[],h=>rfl
 | [],_::_,_=>rfl
 |_::_,[],h=>by rw[HT.lexLt_cons_nil]at h;cases h
 |x::xs,y::ys,h=>by
  rw[HT.lexLt_cons]at h⊢;by_cases e:x=y
  .rw[Wn e]at h;rw[Wn e.symm];exact Cc xs ys h
  .rw[Wm e]at h;rw[Wm (Ne.symm e)];have:=Wt h;exact Wz ()
theorem Iq:∀(a b c:R'),HT.lexLt b a=false->HT.lexLt c b=false->HT.lexLt c a=false
 | [],b,[],_,_=>rfl
 |x::xs,[],c,h,_=>by rw[HT.lexLt_nil_cons]at h;cases h
 |a,y::ys,[],_,h=>by rw[HT.lexLt_nil_cons]at h;cases h
 | [],_,_::_,_,_=>HT.lexLt_cons_nil _ _
 |x::xs,y::ys,z::zs,h1,h2=>by
  rw[HT.lexLt_cons]at h1 h2⊢;by_cases G:y=x
  .rw[Wn G]at h1;by_cases e2:z=y
   .rw[Wn e2]at h2;rw[Wn (e2.trans G)];exact Iq xs ys zs h1 h2
   .rw[Wm e2]at h2;rw[Wm (by rwa[<-G])];have:=WM h2;exact Wz ()
  .rw[Wm G]at h1;have O:=WM h1;by_cases e2:z=y
   .rw[Wn e2]at h2;rw[Wm ()];exact Wz ()
   .rw[Wm e2]at h2;have U:=WM h2;by_cases I:z=x
    .lia
    .rw[Wm I];exact Wz ()
theorem cmp_of(k:Keyed->List Int):RJ λp q=>HT.lexLt (k p) (k q):={λx y h=>Cc _ _ h,λx y z h1 h2=>Iq _ _ _ h1 h2}
theorem runs_of{prog:Sr}{w:Ss}{A:Sv}{s:L'}{a₀:Sq}{κ:SortKind} 
  (h:∀(x y:Keyed)(E':Value->Shared->Prop)(Q:Bool->Shared->Prop),x∈a₀->y∈a₀->Q (blt x y) s->wpAny (model prog w) A (keyLt' κ x.1 y.1) Q E' s):Bg prog w A E s a₀ κ blt:=by
 intro x y st Q hx hy hk q;rw[lt'_eq];refine Wr<|WY ?_;rw[hk];refine Wr<|wpS_lift (wpAny_attempt<|h x y _ _ hx hy {M,?_});exact Wu q
end Srt
namespace L2
open PySem PySem.Spec PyProof.Rows
variable{H:Hp}{W:So}{xs ys:Sm}{its us:Sl}{s:L'}{B:St}{u:Sk}
def R7(u:Sk):V:=(absV u).getD .non
def vK{x:V}(r:RelV x u):R7 u=x:=by unfold R7;rw[r.abs];rfl
def Em(h:M2 xs us):us.map R7=xs:=by
 induction h with
 |nil=>rfl
 |cons r t z=>rw[Z0,vK r,z]
def mX(h:M2 xs us)(hu:u∈us):∃x∈xs,RelV x u:=by
 induction h with
 |nil=>exact Ws hu ZU
 |cons r t z=>
  rcases QS.mp hu with e|e
  .subst e;exact{_,QK,r}
  .let{x,h1,h2}:=z e;exact{x,QM _ h1,h2}
theorem Af:∀{us:Sl},(∀u∈us,RelV (R7 u) u)->M2 (us.map R7) us
 | [],_=> .nil
 |u::r,h=> .cons (h u QK) (Af λv z=>h v<|QM _ z)
section
variable{X:Cx}
def FA{Q:VK}{p:K'}{κ:SortKind}{ky:V->List Int}(I:Inv X W B H s)(hz:xs.length<=sizeLine)(rv:M2 xs its)(hl:s.heap.IsList p its.toArray)
  (Z:∀h':Heap,(∀b o,s.heap.get? b=some o->h'.get? b=some o)->2<=its.length->∀Q':SortKind->Shared->Prop,Q' κ {s with heap:=h'}->wpAny (model X.prog X.w) X.A.in1.in1 (keyKind' its.toArray) Q' (λ_ _=>False) {s with heap:=h'})
  (a0:∀h':Heap,(∀b o,s.heap.get? b=some o->h'.get? b=some o)->∀(x y:V)(u v:Sk)(E':Sw)(Q':Bool->Shared->Prop),x∈xs->y∈xs->RelV x u->RelV y v->Q' (HT.lexLt (ky x)<|ky y) {s with heap:=h'}->wpAny (model X.prog X.w) X.A.in1.in1 (keyLt' κ u v) Q' E' {s with heap:=h'})
  (q:∀l ys,H l=none->ys.Perm xs->ys.Pairwise (λa b=>HT.lexLt (ky b) (ky a)=false)->Q (.ref l) (upd H l<|.lst ys)):
  Bf X (call (.builtin zm) [.ref p]) (EP X W B Q) X.xe s:=by
 have hi:its.length<=sizeLine:=by rwa[<-rv.length]
 have mem:∀z:Keyed,z∈pairsOf its->z.1=z.2/\z.1∈its:=λz hz=>by
  have:z∈(pairsOf its).toList:=by simpa using hz
  rw[pairsOf_toList]at this;exact mem_zip_self this
 refine Srt.sorted_any (κ:=κ) (blt:=λa b=>HT.lexLt (ky<|R7 a.1)<|ky<|R7 b.1) hl hi (Srt.cmp_of λa=>ky<|R7 a.1) Z (λh' k=>Srt.runs_of λx y E' Q' hx hy q'=>?_) λout pm pw=>?_
 .let{x',a1,G}:=mX rv (mem x hx).2;let{y',a2,O}:=mX rv (mem y hy).2;rw[vK G,vK O]at q';exact a0 h' k x' y' x.1 y.1 E' Q' a1 a2 G O q'
 .have U:out.toList.Perm (its.zip its):=by
   have:=Va.mp pm;rwa [pairsOf_toList]at this
  have Y:∀z∈out.toList,z.1=z.2/\z.1∈its:=λz hz=>mem_zip_self (U.mem_iff.mp hz);have e2:(out.map (·.2)).toList=out.toList.map (·.2):=Array.toList_map;have pv:((out.map (·.2)).toList).Perm its:=by
   rw[e2];refine(U.map _).trans<|WU ?_;exact List.map_snd_zip<|Q4 _
  have hu:∀u∈(out.map (·.2)).toList,RelV (R7 u) u:=λu hu=>by
   let{x,_,r}:=mX rv (pv.mem_iff.mp hu);rwa[vK r]
  have vy:=Af hu;have fresh:H (s.heap.objs.size+1)=none:=I.hok.fresh (ZO _);have py:((out.map (·.2)).toList.map R7).Perm xs:=by
   rw[<-Em rv];exact pv.map _
  let{e,at_}:=sortedAll_at s.heap its (out.map (·.2));refine{.ref<|s.heap.objs.size+1,upd H (s.heap.objs.size+1) (.lst ((out.map (·.2)).toList.map R7)),I.laid (t':=s.toks) (λb o q=>sortedAll_old q) (ZO _) {?_,_,e,vy,?_},M,q _ _ fresh py ?_}
  .rwa[py.length_eq]
  .rw[at_,Vv]
  .rw[e2,Z2];refine Zr.mpr<|pw.imp_of_mem λ{a b} ha hb h=>?_;show HT.lexLt (ky<|R7 b.2) (ky<|R7 a.2)=false;rwa[<-(Y a ha).1,<-(Y b hb).1]
noncomputable def AN:V->List Int
 | .int i=> [i]
 |_=> []
def FL{ns:R'}(h:ys.Perm (ns.map V.int)):∃ms:List Int,ys=ms.map V.int/\ms.Perm ns:=by
 have e:ys=(ys.map λy=>match y with| .int i=>i|_=>0).map V.int:=by
  rw[Z2];refine(VS ys).symm.trans<|X8 λy hy=>?_;let{i,_,rfl}:=QJ.mp (h.mem_iff.mp hy);rfl
 refine{_,e,?_};refine(h.map λy=>match y with| .int i=>i|_=>0).trans<|WU ?_;rw[Z2];exact VS ns
noncomputable def kRef(ky:Addr->List Int):V->List Int
 | .ref a=>ky a
 |_=> []
def FK{as:Su}(h:ys.Perm (as.map V.ref)):∃bs:List Addr,ys=bs.map V.ref/\bs.Perm as:=by
 have e:ys=(ys.map λy=>match y with| .ref i=>i|_=>0).map V.ref:=by
  rw[Z2];refine(VS ys).symm.trans<|X8 λy hy=>?_;let{i,_,rfl}:=QJ.mp (h.mem_iff.mp hy);rfl
 refine{_,e,?_};refine(h.map λy=>match y with| .ref i=>i|_=>0).trans<|WU ?_;rw[Z2];exact VS as
def Dh{a:K'}(I:Inv X W B H s)(h:H a=some (.tup xs)){h':Heap}(k:∀b o,s.heap.get? b=some o->h'.get? b=some o):
  ∃(o:Obj)(its:Sl)(n:Nat),M2 xs its/\h'.get? a=some o/\o.cls= .type oo/\o.data= .seq its.toArray n:=by
 let{_,its,rv,o,e,c,n,d}:=(show P7 X.prog X.w H s.heap a (.tup xs) from I.hok a _ h);exact{o,its,n,rv,k _ _ e,c,d}
def ME{x y:V}(r:M2 [x,y] its):∃u v,its=[u,v]/\RelV x u/\RelV y v:=qZ r
end
end L2
namespace Srt
open PySem PyProof.Rows
variable{blt:Td}{E Q:Sw}
section
variable{prog:Sr}{w:Ss}{A:Sv}{s:L'}{κ:SortKind}
theorem sorted_src{r:Sk}{G:List Value->Prop} 
  (hc:∀(R:List Value->Shared->Prop)(E':Sw),(∀(h1:Heap)(tk:Nat)(vs:Sl),(∀b o,s.heap.get? b=some o->h1.get? b=some o)->G vs->R vs {s with heap:=h1,toks:=tk})->wpAny (model prog w) A.in1 (collect r) R E' s)
  (hz:∀vs,G vs->vs.length<=sizeLine) (C:RJ blt)
  (z:∀(vs:Sl)(h':Heap)(tk:Nat),G vs->(∀b o,s.heap.get? b=some o->h'.get? b=some o)->2<=vs.length->∀Q':SortKind->Shared->Prop,Q' κ {s with heap:=h',toks:=tk}->wpAny (model prog w) A.in1.in1 (keyKind' vs.toArray) Q' (λ_ _=>False) {s with heap:=h',toks:=tk})
  (L:∀(vs:Sl)(h':Heap)(tk:Nat),G vs->(∀b o,s.heap.get? b=some o->h'.get? b=some o)->Bg prog w A.in1.in1 (λ_ _=>False) {s with heap:=h',toks:=tk} (pairsOf vs) κ blt)
  (h:∀(vs:Sl)(h1 h2:Heap)(tk e:Nat)(out:Sq),G vs->(∀b o,s.heap.get? b=some o->h1.get? b=some o)->(∀b o,h1.get? b=some o->h2.get? b=some o)->h2.get? h1.objs.size=some (seqObj ff (out.map (·.2)) e)->out.Perm (pairsOf vs)->PW blt out.toList->Q (.ref h1.objs.size) {s with heap:=h2,toks:=tk}):
  wpAny (model prog w) A (call (.builtin zm) [r]) Q E s:=by
 refine Calls.call_function_entry kind_sorted plain_sorted entry_sorted (args_sorted1 _) ?_;unfold Builtin.«sorted»;refine Wp (m:=checkCount zm 1 1 _)<|Wx (Wp<|hc _ _ λh1 tk vs k1 g=>?_);refine Wp<|wpAny_newList ?_ (hsz:=hz vs g);have new:(h1.push<|seqObj ff vs.toArray 0).get? h1.objs.size=some (seqObj ff vs.toArray 0):=Wy _ M;have keep:∀h':Heap,But h1.objs.size {s with heap:=h1.push (seqObj ff vs.toArray 0),toks:=tk} {s with heap:=h',toks:=tk}->∀b o,s.heap.get? b=some o->h'.get? b=some o:=λh' k b o e=>
  k b o (Zb<|Ww<|k1 b o e) (Wo _<|k1 b o e)
 show wpAny _ _ _ _ _ {s with heap:=h1.push (seqObj ff vs.toArray 0),toks:=tk};refine Wp<|WH (WJ (wpAny_call_entry (E:=λ_ _=>False) slot_list_sort {_,new,M} entry_list_sort (zg (s:={s with heap:=h1.push (seqObj ff vs.toArray 0),toks:=tk}) (κ:=κ) (blt:=blt) new (hz vs g) C (λh' k=>z vs h' tk g<|keep h' k) (λh' k=>L vs h' tk g<|keep h' k) λout p q=>{_,M,?_})<|args_list_sort _) (λ_ _ q=>q) λ_ _ f=>f.elim);refine Wx {_,M,?_};let{e,at_}:=sortedHeap_at (out:=out.map (·.2)) new;refine h vs h1 _ tk e out g k1 (λb o q=>?_) at_ p q
 have lt:=Ww q;rw[sortedHeap_old (Zb lt) (by rw[size_push'];exact Nat.lt_succ_of_lt lt)];exact Wo _ q
end
end Srt
namespace L2
open PySem PySem.Spec PyProof.Rows
variable{C D d:K'}{X:Cx}{elt iter tg:Expr}{H H1 H4:Hp}{Fin:Hp->Prop}{J:It}{R:It->Hp->Prop}{W:So}{kvs:Ta}{vs:Ti}{cl:List (Str×Addr)}{elts ifs:Tk}{M' N':Sx}{xs ys:Sm}{i n:Nat}{ob:Obj}{pos px:Pos}{P:Sr}{K:JZ}{scope:Scope}{s:L'}{B:St}{x y:Str}{nx:To}{Jz:St->VK->It->Hp->Prop}{te:TE}{g:TG}{wi:TI}{tc:TT}{Q:VK}{RR:Value->Addr->Result->Shared->Prop}{w:Ss}
def EQ{k:Key}{v:Sk}(h:(a7 P w).is k v=true):RelV (kV k) v:=by
 rw[DP]at h;cases k with
 |inl i=>
  cases v with
  |int j t=>exact{t,by simp[n8,Value.isInt]at h;rw[h]}
  |_=>simp[n8,Value.isInt]at h
 |inr x=>
  cases v with
  |str y t=>exact{t,by simp[n8,Value.isStrOf]at h;rw[h]}
  |_=>simp[n8,Value.isStrOf]at h
def uG(kvs:Ta):List V:=kvs.map λp=>kV p.1
set_option tactic.hygienic true in
def Dd{acc:Sl}(z:KV kvs vs)(hl:acc.length=vs.length)
  (G:∀(j:Nat)(v:Sk),acc[j]?=some v->∃k x,vs[j]?=some (k,x)/\(a7 P w).is k v=true):M2 (uG kvs) acc:=by
 induction z generalizing acc with
 |nil=>cases acc with
  |nil=>exact .nil
  |cons a b=>simp at hl
 |cons r t O=>
  rename_i p q ps qs
  cases acc with
  |nil=>simp at hl
  |cons a b=>
   refine .cons ?_<|O (by simpa using hl) λj v e=>?_
   .let{k,x,I,e2}:=G 0 a M;simp at I;subst I;show RelV (kV p.1) a;rw[r.1];exact EQ e2
   .exact G (j+1) v<|by simpa using e
def BE{T:String}{r:K'}{OK:Heap->Prop}{ns:R'}(hh:X.A.handled=none)(I:Inv X W B H s)(Z:KV kvs vs)(z:kvs.length<=sizeLine)
  (src:PySem.W.KdlSrc X.prog X.w T r d vs.length (λi v=>∃k x,vs[i]?=some (k,x)/\(a7 X.prog X.w).is k v=true) OK) (hok:OK s.heap) (Y:uG kvs=ns.map V.int)
  (q:∀(l:Addr)(ms:List Int),H l=none->ms.Perm ns->ms.Pairwise (· <= ·)->Q (.ref l) (upd H l<|.lst<|ms.map V.int)):Bf X (call (.builtin zm) [.ref r]) (EP X W B Q) X.xe s:=by
 have a5:kvs.length=vs.length:=Z.length;have a0:(uG kvs).length=kvs.length:=Q0 _;have O:∀its:List Value,M2 (uG kvs) its->∀v∈its,∃i t,v=Value.int i t:=λits rv v hv=>by
  let{x,hx,rx}:=mX rv hv;rw[Y]at hx;let{i,_,rfl}:=QJ.mp hx;let{t,e}:=rx;exact⟨i,t,e⟩
 have mem:∀(its:Sl)(z:Keyed),z∈pairsOf its->z.1=z.2/\z.1∈its:=λits z hz=>by
  have:z∈(pairsOf its).toList:=by simpa using hz
  rw[pairsOf_toList]at this;exact mem_zip_self this
 refine Srt.sorted_src (G:=λits=>M2 (uG kvs) its) (κ:=oneType') (blt:=λa b=>HT.lexLt (AN<|R7 a.1)<|AN<|R7 b.1) (λR E' k=>?_) (λits rv=>by rwa[<-rv.length,a0]) (Srt.cmp_of λa=>AN<|R7 a.1)
  (λits h' tk rv k h2 Q' hQ=>?_) (λits h' tk rv k=>Srt.runs_of λx y E' Q' hx hy hQ=>?_) (λits h1 h2 tk e out rv k1 k2 at_ pm pw=>?_)
 .refine PySem.W.kdu_collect src hh hok () λh' tk acc hk U=>k h' tk acc.toList hk ?_;exact Dd Z (by rw[QN];exact U.1) λj v e=>U.2 j v (by rwa[<-Zg])
 .refine PySem.W.kas_kind (T:= .type "int") h2 (λv hv=>?_) ∅ ∅ hQ;let{i,t,rfl}:=O its rv v hv;exact PySem.W.Looks.of_pure M
 .let{i,t,e1}:=O its rv _ (mem its x hx).2;let{j,t',e2}:=O its rv _ (mem its y hy).2;rw[e1,e2]at hQ⊢;refine PySem.W.kat_lt_int ?_;have e:HT.lexLt (AN<|R7<|.int i t) (AN<|R7<|.int j t')=decide (i<j):=by
   show HT.lexLt [i] [j]=_;rw[HT.lexLt_cons];by_cases z:i=j
   .rw[Wn z,HT.lexLt_nil_nil,Wz ()]
   .rw[Wm z]
  rw[e]at hQ;exact hQ
 .have a1:out.toList.Perm (its.zip its):=by
   have:=Va.mp pm;rwa [pairsOf_toList]at this
  have a2:∀z∈out.toList,z.1=z.2/\z.1∈its:=λz hz=>mem_zip_self (a1.mem_iff.mp hz);have e2:(out.map (·.2)).toList=out.toList.map (·.2):=Array.toList_map;have pv:((out.map (·.2)).toList).Perm its:=by
   rw[e2];refine(a1.map _).trans<|WU ?_;exact List.map_snd_zip<|Q4 _
  have hu:∀u∈(out.map (·.2)).toList,RelV (R7 u) u:=λu hu=>by
   let{x,_,r}:=mX rv (pv.mem_iff.mp hu);rwa[vK r]
  have vy:=Af hu;have I1:Inv X W B H {s with heap:=h1,toks:=tk}:=I.kept k1;have py:((out.map (·.2)).toList.map R7).Perm (ns.map V.int):=by
   rw[<-Y,<-Em rv];exact pv.map _
  have a3:((out.map (·.2)).toList.map R7).Pairwise (λa b=>HT.lexLt (AN b) (AN a)=false):=by
   rw[e2,Z2];refine Zr.mpr<|pw.imp_of_mem λ{a b} ha hb h=>?_;show HT.lexLt (AN<|R7 b.2) (AN<|R7 a.2)=false;rwa[<-(a2 a ha).1,<-(a2 b hb).1]
  have lz:((out.map (·.2)).toList.map R7).length<=sizeLine:=by
   rwa[py.length_eq,<-Y,a0]
  let{ms,em,a4}:=FL py;rw[em]at vy a3 lz;refine{.ref h1.objs.size,upd H h1.objs.size<|.lst<|ms.map V.int,I1.laid (t':=tk) k2 (Q4 _) {lz,_,e,vy,?_},M,q _ _ (I1.hok.fresh<|Q4 _) a4 ?_}
  .rw[at_,Vv]
  .refine(Zr.mp a3).imp λ{a b} h=>?_;have h:HT.lexLt [b] [a]=false:=h;rw[HT.lexLt_cons]at h;by_cases z:b=a
   .lia
   .rw[Wm z]at h;have:=WM h;lia
def sQ(Y:X.A.handled=none):gV X (.builtin zm) (λxs H Q=>∃(a:K')(kvs:Ta)(ns:R'),xs=[.ref a]/\Rd H a (.dK kvs)/\uG kvs=ns.map V.int/\
  ∀(l:K')(ms:R'),H l=none->ms.Perm ns->ms.Pairwise (· <= ·)->Q (.ref l) (upd H l<|.lst<|ms.map V.int)):=by
 intro W s B H xs us Q I r h;let{a,kvs,ns,rfl,hd,G,q}:=h;let{u,rfl,Z}:=pG r;cases Z;let{z,lo,vs,O,dd}:=xz I.hok hd;let{ep,U}:=dd.dictAt;exact BE Y I O z (PySem.W.kdl_dict (knd:=a7 X.prog X.w) (kvs:=vs) (ep:=ep) lo) U G q
inductive OH(x:V)(vs:Sm)(H:Hp)(Q:VK):Prop
 |mk(a kvs k v:_)(_:x= .ref a)(_:vs=[kV k])(_:H a=some (.dK kvs))(_:aH kvs k=some v)(_:Q v (upd H a<|.dK<|bT kvs k))
def EE:SD X "dict.pop" OH:=by
 intro W s B H x vs v us Q I z rv h;let{a,kvs,k,y,rfl,rfl,G,hl,q}:=h;cases z;let{u,rfl,O}:=rv.one;exact Mm I G O hl (.inl M) λw' s' U Y=>{y,_,U,Y,q}
inductive OG(K:JZ)(x:V)(vs:Sm)(H:Hp)(Q:VK):Prop
 |mk(sep:Str)(a:K')(ys:Sx)(_:x= .str sep)(_:vs=[.ref a])(_:E7 K H a (ys.map V.str))(_:sep.length<=16)(_:(ys.map (·.length)).sum+ys.length<=1048576)(_:Q (.str<|Txt.join sep ys) H)
theorem By:∀{ys:Sx}{its:Sl},M2 (ys.map V.str) its->StrsAre its ys
 | [],_,.nil=> .nil
 |_::_,_,.cons ⟨t,e⟩ r=>by subst e;exact .cons _ _<|By r
def KR:SD X "str.join" (OG X.K):=by
 intro W s B H x vs v us Q I z rv h;let{G,a,ys,rfl,rfl,hS,h1,h2,q}:=h;let{t,rfl}:=z;let{u,rfl,O}:=rv.one;cases O;let{its,r,pl,_}:=I.list hS;exact join_listW pl.isList (by simpa using By r) h1 h2 λt' k=>{.str _,H,I.tok _,⟨t',M⟩,q}
set_option tactic.hygienic true in
theorem qR{env:Env}:∀(l:List (Str×NameKind))(G:List (Str×Addr)),(∀p∈l,p.2= .free->∃c,env.cells.lookup p.1=some c)->
  ∃cl,(forIn l G (λp G=>if(p.2==NameKind.free)=true then cellOf env p.1>>=λa=>pure (ForInStep.yield ((p.1,a)::G))else pure (ForInStep.yield G)):Sem _)=pure cl/\
   (∀y c,cl.lookup y=some c->G.lookup y=some c\/env.cells.lookup y=some c)/\(∀y c,G.lookup y=some c->∃I,cl.lookup y=some I)/\(∀y,(y,NameKind.free)∈l->∃c,cl.lookup y=some c)
 | [],G,_=>{G,by rw[List.forIn_nil],λy c h=> .inl h,λy c h=>⟨c,h⟩,λy h=>nomatch h}
 |(n,k)::r,G,h=>by
  rw[List.forIn_cons];by_cases hk:k= .free
  .subst hk;let{c,hc}:=h (n,.free) QK M;have hc:env.cells.lookup n=some c:=hc;have e:cellOf env n=pure c:=by unfold cellOf;rw[hc]
   let{cl,h1,h2,O,U}:=qR r ((n,c)::G) λp hp=>h p (QM _ hp);refine{cl,?_,λy I hy=>?_,λy I hy=>?_,λy hy=>?_}
   .simp only[WN,if_true,e,pure_bind];exact h1
   .rcases h2 y I hy with q|q
    .rw[XA]at q;split at q
     .rename_i z
      cases q;rw[WA]at z;subst z;exact .inr hc
     .exact .inl q
    .exact .inr q
   .by_cases z:y=n
    .exact O y c<|by rw[XA,z];simp
    .exact O y I<|by rwa[XA,WC.mpr z]
   .rcases QS.mp hy with q|q
    .have Y:y=n:=(Y0 q).1;exact O y c<|by rw[XA,Y];simp
    .exact U y q
  .have hb:(k==NameKind.free)=false:=by simpa using hk
   let{cl,h1,h2,O,U}:=qR r G λp hp=>h p (QM _ hp);refine{cl,?_,h2,O,λy hy=>?_}
   .simp only[hb,ZJ,if_false,pure_bind];exact h1
   .rcases QS.mp hy with q|q
    .exact Ws (Y0 q).2.symm hk
    .exact U y q
def xC{env:Env}(h:∀p∈scope.names,p.2= .free->∃c,env.cells.lookup p.1=some c):
  ∃cl,closureFor scope env=pure cl/\(∀y c,cl.lookup y=some c->env.cells.lookup y=some c)/\(∀y,(y,NameKind.free)∈scope.names->∃c,cl.lookup y=some c):=by
 let{cl,h1,h2,_,G}:=qR scope.names [] h;refine{cl,?_,λy c hy=>(h2 y c hy).resolve_left λz=>by simp at z,G};unfold closureFor;simp only[bind_pure];exact h1
def RB(X:Cx)(M' N':Sx)(scope:Scope)(cl:List (Str×Addr))(C:K')(s₂:L')(H₂:Hp)(fp:Su):Cx:=
 {X with N:=M'++N',s₀:=s₂,H₀:=H₂,env:=compEnvC scope cl C X.env,outer:=X.stack,stack:=X.stack,ex:=fp,fn:=λ_=>false,pn:=[],xe:=λ_ _=>False}
structure P9(X:Cx)(M' N':Sx)(scope:Scope):Prop where
 kind:scope.kind= .function
 nd:(M'++N').Nodup
 ln:N'.length=X.N.length
 own:∀x∈M',scope.names.lookup x=some .local
 nocell:∀y∈scope.names,y.2≠ .cell
 names:∀y∈scope.names,y.2= .local->scope.names.lookup y.1=some .local
 free:∀y∈scope.names,y.2= .free->X.env.kindOf y.1=some .cell
 vis:∀(j:Nat)(y:Str),N'[j]?=some y->Si (relabel scope X.env) y->X.N[j]?=some y/\(y,NameKind.free)∈scope.names/\(relabel scope X.env).names.lookup y=some .cell
 cells:∀y,((relabel scope X.env).names.lookup y=some .cell\/(relabel scope X.env).names.lookup y=some .free)->(y,NameKind.free)∈scope.names
def Cz(n:Nat)(g:TG)(tc:TT)(te:TE)(B:St)(Q:VK)(J:It)(H1:Hp):Prop:=∀D,H1 D=none->∃J0:Nat->Nat->St->List V->Hp->Prop,(∃m,J0 0 m (List.replicate n none++B) [] (upd H1 D<|.lst []))/\∀i m τ ys H2,J0 i m τ ys H2->H2 D=some (.lst ys)->
 (J.stop i H2/\Q (.ref D) H2)\/(J.go i H2/\∀x H3,J.yld i H2 x H3->∃G:St->Hp->Prop,(∀τ2 H4,G τ2 H4->∃(Ny:VK)(Ns:Hp->Prop),(∀y H6,Ny y H6->H6 D=some (.lst ys)/\ys.length<sizeLine/\∃m',m'<m/\J0 (i+1) m' τ2 (ys++ [y]) (upd H6 D<|.lst<|ys++ [y]))/\
  (∀H5,Ns H5->H5 D=some (.lst ys)/\∃m',m'<m/\J0 (i+1) m' τ2 ys H5)/\tc τ2 H4 λb H5=>if b=true then te τ2 H5 Ny else Ns H5)/\g x τ H3 G)
def LS:TT:=λ_ H Q=>Q true H
def PTs(X:Cx)(ifs:Tk)(tc:TT):Prop:=∀(W:So)(s:L')(B:St)(H:Hp)(Q:Bool->Hp->Prop),Inv X W B H s->tc B H Q->
 Bf X (forIn ifs true λc r=>if r=true then do let ok<-isTrue c X.env (eval c X.env);pure (ForInStep.yield ok)else pure (ForInStep.yield r)) (λb s'=>∃H',Inv X W B H' s'/\Q b H') X.xe s
def KH:PTs X [] LS:=λ_ _ _ H _ I h=>wpAny_tests_nil ⟨H,I,h⟩
def Ex{c:Expr}(h:PT X c tc):PTs X [c] tc:=λW s B H Q I q=>wpAny_tests_one (h W s B H Q I q)
def P9.pg{s₂:L'}{z:Hp}{fp:Su}(S:P9 X M' N' scope)(h:M'[i]?=some x):PG (RB X M' N' scope cl C s₂ z fp) (.Name x px) (gi i):=
 Ey S.nd (by show(M'++N')[i]?=_;rwa[Zy (Q2.mp h).1]) (.inl<|lookup_relabel_local<|S.own x<|Q1 h) (.inr<|lookup_relabel_local<|S.own x<|Q1 h)
structure My(X:Cx)(W:So)(H:Hp)(C:K'):Prop where
 no:H C=none
 fr:C≠X.env.locals
 ab:X.s₀.heap.objs.size<=C
 ce:∀x c,X.env.cells.lookup x=some c->c≠C
 pi:∀p∈X.pn++W,p.1≠C
def zO(hc:X.calm=true)(S:P9 X M' N' scope)(hi:PI X tg iter wi)
  (hg:∀cl C s₂ Z fp,PG (RB X M' N' scope cl C s₂ Z fp) tg g) (bb:∀cl C s₂ Z fp,PTs (RB X M' N' scope cl C s₂ Z fp) ifs tc) (he:∀cl C s₂ Z fp,PE (RB X M' N' scope cl C s₂ Z fp) elt te)
  (a0:∀y c,cl.lookup y=some c->X.env.cells.lookup y=some c) (an:∀y,(y,NameKind.free)∈scope.names->∃c,cl.lookup y=some c) (I:Inv X W B H s) (h:wi B H R) (hB:∀J H,R J H->Cz M'.length g tc te B Q J H)
  (hR:∀D C s4 H',Inv X W B H' s4->(∃m,s4.heap.Ns C m)->My X W H' C->Q (.ref D) H'->RR (.ref D) C (.ok .next) s4):
  Bf X (eval iter X.env) (λv s1=>Bf X (pyIter v) (λax s2=>Bf X (newList []) (λacc s3=>
   Bf X (newFunctionEnv scope X.env.globals cl [] X.env.qual none .none<|some X.env) (λa5 s4=>
    codeAny (model X.prog X.w) X.A (.compStart (.ListComp elt [{tg,iter,ifs,0}] scope pos) 0 ax acc {a5 with scope:=relabel scope X.env}) (RR acc a5.locals) s4) X.xe s3) X.xe s2) X.xe s1) X.xe s:=by
 refine P8 (hi W s B H _ I h) λv s1 h1=>P8 h1 λax s2 h2=>?_;let{it,fp,tn,J,H2,e,O,T,st2,f2,h}:=h2;subst e;refine wpAny_newObj_type<|wpAny_newFunctionEnv S.nocell (by intro y hy;simp at hy) (λh₁ U Y=>?_) S.kind;dsimp only at U Y⊢;generalize hD:s2.heap.objs.size=D at*;generalize aa:s2.heap.push {cls:= .type ff,dict:=none,data:= .seq ([]:List Value).toArray}=h3 at U Y⊢;have a2:h3.objs.size=D+1:=by rw[<-aa,Heap.size_push,hD]
 have fD:H2 D=none:=O.hok.fresh (ZA hD);let{J0,{m0,w0},turn}:=hB _ _ h D fD;generalize hC:h3.objs.size=C at*;have gD:s2.heap.get? D=none:=WT (ZA hD);have gC:s2.heap.get? C=none:=WT (by rw[hD,a2];exact ZO _);have DC:D≠C:=by rw[a2];exact Zb<|Xy _
 have be:∀b o,s2.heap.get? b=some o->h3.get? b=some o:=λb o e=>by rw[<-aa];exact Wo _ e
 have a6:∀b o,h3.get? b=some o->h₁.get? b=some o:=λb o e=>Y.extBut b o (by intro z;have:=Ww e;rw[z,hC]at this;exact Ws this<|Xs _) (Wo _ e);have up:∀b o,s2.heap.get? b=some o->h₁.get? b=some o:=λb o e=>a6 b o (be b o e);have oD:h₁.get? D=some {cls:= .type ff,dict:=none,data:= .seq ([]:List Value).toArray}:=a6 _ _ (by rw[<-aa,<-hD];exact Wy _ M);have a4:∀b∈fp,b≠C/\b∉RF X.stack:=λb hb=>by
  let{o,e,_}:=T.obj _ _ st2 b hb;refine{λz=>(by rw[z,gC]at e;cases e),λz=>?_};rcases QS.mp (O.stkSub b z)with q|q
  .exact(f2 b hb).2.1 q
  .exact(f2 b hb).2.2.1 q
 have fC:H2 C=none:=O.hok.fresh (by rw[hD,a2];exact ZO _);have ok:(RB X M' N' scope cl C s2 H2 fp).Ok:=
  {mod:=O.ok.mod,kind:=S.kind,glob:=O.ok.glob,blt:=O.ok.blt,above:=by show s2.heap.objs.size<=C;rw[hD,a2];exact ZO _
   inj:=λy z c h1 h2=>O.ok.inj y z c (a0 _ _ h1) (a0 _ _ h2),has:=λy hy=>an y (S.cells y hy),cab:=λy c z=>by cases z
   hd:=O.ok.hd,frames:=O.ok.frames,stk:= .inl M,exf:=λb hb=>{(a4 b hb).1,λy c e=>(f2 b hb).2.2.2.2.1 y c<|a0 y c e}
   bs:=O.bs,bsz:=Z4 O.ok.bsz O.sz
   noex:=λb o e hb=>by
    rcases(f2 b hb).2.2.2.1 with q|q
    .exact O.ok.noex b o e q
    .exact Ws (Z5 (Ww e)<|Z4 O.ok.bsz q) (Xs _)
   exfs:=λb hb=>(a4 b hb).2,funs:=O.stack,frf:=O.stkFree}
 have bt:∀b u,H2 b=some u->b≠D:=λb u e=>ao e fD;have I3:Inv (RB X M' N' scope cl C s2 H2 fp) [] (List.replicate M'.length none++B) (upd H2 D<|.lst []) {s2 with heap:=h₁,toks:=s2.toks+([]:Tt).length}:=
  {ok:=ok,os:=rfl,bare:=O.bare,base:=Un.laid up (ZA hD) fD
   loc:={_,U,λi y v e1 e2 e3=>by
    by_cases lt:i<M'.length
    .have e2:(List.replicate M'.length none++B)[i]?=some (some v):=e2;rw[Zy (by rwa[Xh]),List.getElem?_replicate,Wn lt]at e2;cases e2
    .have e1:(M'++N')[i]?=some y:=e1;have e2:(List.replicate M'.length none++B)[i]?=some (some v):=e2;rw[Zw (Wd.mp lt)]at e1;rw[Zw (by rw[Xh];exact Wd.mp lt),Xh]at e2;generalize i-M'.length=j at e1 e2;let{e1,q1,q2}:=S.vis j y e1 e3;have kc:=S.free _ q1 M;let{m,hn,hl}:=O.loc;let{u,r,l}:=hl j y v e1 e2 (.inr<|.inl kc);refine{u,r,?_};rcases l with⟨k,_⟩|⟨_,c,e,z⟩
     .rw[kc]at k;cases k
     .let{c',e'}:=an y q1;have ee:=a0 _ _ e';rw[e]at ee;cases ee;let{o,ho,hd}:=z;exact .inr {.inl q2,c,e',o,up _ _ ho,hd}}
   cell:=λy c e=>by
    let{v,o,ho,hd}:=O.cell y c (a0 _ _ e);exact{v,o,up _ _ ho,hd}
   free:=by show upd H2 D (.lst []) C=none;rwa[af DC.symm]
   freeC:=λy c e=>by
    have q:=O.freeC y c (a0 _ _ e);let{v,o,ho,hd}:=O.cell y c (a0 _ _ e);rw[af (λz=>by rw[z,gD]at ho;cases ho)];exact q
   pin:=λp hp=>Ws (show p∈([]:So) from hp) (by simp)
   hok:=O.hok.laid up (ZA hD) {QT _,[],0,.nil,oD}
   len:=by show(List.replicate M'.length none++B).length=(M'++N').length;rw[Q6,Q6,Xh,O.len,S.ln]}
 have a3:∀{H':Hp},(∀b∈fp,H' b=none)->∀b∈fp,oO (RB X M' N' scope cl C s2 H2 fp) [] H' b:=λhn b hb=>
  {hn b hb,(a4 b hb).1,(a4 b hb).2,.inl hb,λy c e=>(f2 b hb).2.2.2.2.1 y c<|a0 _ _ e,λp hp=>Ws (show p∈([]:So) from hp)<|by simp}
 have b1:tn 0 h₁:=T.keep _ _ _ st2 λb hb o e=>up b o e;have a8:∀s3:Shared,s3={s2 with heap:=h₁,toks:=s2.toks+([]:Tt).length}->
   codeAny (model X.prog X.w) X.A (.compLoop (.ListComp elt [{tg,iter,ifs,0}] scope pos) 0 (.ref it) (.ref D)<|compEnvC scope cl C X.env) (RR (.ref D) C) s3:=by
  rintro s3 rfl;refine codeAny_loop M (λn s'=>∃i τ ys H',Inv (RB X M' N' scope cl C s2 H2 fp) [] τ H' s'/\tn i s'.heap/\(∀b∈fp,H' b=none)/\H' D=some (.lst ys)/\J0 i n τ ys H') ?_ m0
   {0,_,[],_,I3,b1,λb hb=>by rw[af (λz=>by let{o,e,_}:=T.obj _ _ st2 b hb;rw[z,gD]at e;cases e)];exact(f2 b hb).1,ag,w0}
  rintro n s' ⟨i,τ,ys,H',I',st',b2,bh,w'⟩;show wpAny _ X.A ((compTurn (.ListComp elt [{tg,iter,ifs,0}] scope pos) 0 (.ref it) (.ref D)<|compEnvC scope cl C X.env).onRaise<|λx=>do noteFrame x (compEnvC scope cl C X.env);theTreesLotGoes x) _ _ s';refine wpAny_noted ?_;rw[compTurn_list];refine Wp<|wpAny_standAt (Wp ?_);rcases turn i n τ ys H' w' bh with⟨b5,qn⟩|⟨go,step⟩
  .refine P8 (T.done (RB X M' N' scope cl C s2 H2 fp) M M M hc i [] s' _ H' _ I' (a3 b2) st' b5) λr s4 zz=>?_;let{hr,I4}:=zz;subst hr;refine Wx ?_;let{m,hn,_}:=I4.loc;have IX:Inv X W B H' s4:=O.call' (s':=s4) I4.os (show Un (RF X.stack) fp H2 H' s2.heap s4.heap from I4.base) I4.hok I4.bare λb hb=>{(f2 b hb).2.2.2.1,(f2 b hb).2.1,(f2 b hb).2.2.2.2.1,(f2 b hb).2.2.2.2.2};refine hR D C s4 H' IX ⟨m,hn⟩ {I4.free,λz=>?_,?_,λy c e z=>?_,λp hp z=>?_} qn
   .have:=O.lt;rw[<-z,a2,hD]at this;exact Ws this<|Wd.mpr (ZO _)
   .refine Z4 O.sz ?_;rw[hD,a2];exact ZO _
   .let{v,o,ho,_}:=O.cell y c e;rw[z,gC]at ho;cases ho
   .have ho:=(O.pin p hp).1;rw[z,gC]at ho;cases ho
  .refine P8 (T.item (RB X M' N' scope cl C s2 H2 fp) M M M hc i [] s' _ H' _ I' (a3 b2) st' go) λr s4 zz=>?_;let{u,hr,h4}:=zz;subst hr;refine Wp<|P8 h4 λ_ s5 a1=>?_;let{y,H5,I5,r5,y5,ac,bi}:=a1;have bl:=I5.pinned (a3 bi) (T.obj _ _ ac);let{G,hG,gq}:=step y H5 y5;refine Wp<|WJ (hg cl C s2 H2 fp _ s5 _ H5 y _ _ bl r5 gq) (λ_ s6 a1=>?_) λ_ _ f=>f.elim;let{b8,H6,I6,q6}:=a1;have fin:∀{ba:St}{H7:Hp}{s7:L'},Inv (RB X M' N' scope cl C s2 H2 fp) ([]++wF fp s5.heap) ba H7 s7->tn (i+1) s7.heap/\∀b∈fp,H7 b=none:=λ{ba H7 s7} I7=>by
    refine{T.keep _ _ _ ac λb hb o e=>(I7.pin (b,o)<|Z8 _<|Z8 _<|lW hb e).1,λb hb=>?_};let{o,e,d}:=T.obj _ _ ac b hb;exact(I7.pin (b,o)<|Z8 _<|Z8 _<|lW hb e).2.1
   let{Ny,Ns,hy,hn,q6}:=hG _ _ q6;refine Wp<|WJ (bb cl C s2 H2 fp _ s6 _ H6 _ I6 q6) (λb s7 zz=>?_) λ_ _ f=>f.elim;let{H7,I7,q7}:=zz;cases b with
   |false=>
    rw[Wm Q8]at q7;let{bo,m',ah,w7}:=hn _ q7;exact Wx<|show _/\_ from{M,m',ah,i+1,b8,ys,_,I7.unpinned,(fin I7).1,(fin I7).2,bo,w7}
   |true=>
    rw[Wn M]at q7;refine Wp<|Wp (WJ (he cl C s2 H2 fp _ s7 _ H7 _ I7 q7) (λz s8 a1=>?_) λ_ _ f=>f.elim);let{y',H8,I8,r8,q8}:=a1;let{bp,br,m',ah,w8}:=hy _ _ q8;refine Wp<|WJ (fh (X:=RB X M' N' scope cl C s2 H2 fp) _ s8 _ H8 (.ref D) [y'] (.ref D) [z] (λ_ H9=>H9=upd H8 D (.lst<|ys++ [y'])) I8 M (.cons r8 .nil) ⟨D,ys,y',M,M,bp,br,M⟩) (λz9 s9 a1=>?_) λ_ _ f=>f.elim;let{_,H9,I9,_,e9}:=a1;subst e9;exact Wx<|Wx {M,m',ah,i+1,b8,ys++ [y'],_,I9.unpinned,(fin I9).1,(fin I9).2,ag,w8}
 exact codeAny_compStart_list (a8 _ M)<|T.self _ 0 _ _ _ b1 (a8 _ M)
def Inv.loose{h':Heap}(I:Inv X W B H s)(l:My X W H C)(z:Heap.SameBut C s.heap h'):Inv X W B H {s with heap:=h'}:=
 I.turned (t':=s.toks) (λb o hb e=>(z.2 b hb).trans e) l.no l.fr (.inr l.ab) l.ce l.pi
section
variable{py spos:Pos}
def BO(hB:∀B Q J H,Jz B Q J H->Cz M'.length g tc te B Q J H)(hc:X.calm=true)(S:P9 X M' N' scope)(hi:PI X tg iter wi)(hg:P9 X M' N' scope->∀cl C s₂ z fp,PG (RB X M' N' scope cl C s₂ z fp) tg g)(O:∀cl C s₂ z fp,PTs (RB X M' N' scope cl C s₂ z fp) ifs tc)(he:∀cl C s₂ z fp,PE (RB X M' N' scope cl C s₂ z fp) elt te)
  (hs:∀x,foldedSetIterable iter X.env x=pure x:=by subst_eqs):PE X (.ListComp elt [{tg,iter,ifs,0}] scope pos) (λB H Q=>wi B H<|Jz B Q):=by
 intro W s B H Q I h;let{cl,G,U,Y}:=xC (env:=X.env) (scope:=scope) λp hp hf=>I.ok.has p.1 (.inl<|S.free p hp hf);rw[eval_ListComp];refine wpAny_comprehension_free (use:=none) M hs G S.kind S.names<|zO hc S hi (hg S) O he U Y I h (hB _ _) λD C s4 H' I4 Z l q=>?_;let{m,Z}:=Z;exact{m,Z,λh' sb=>{.ref D,H',I4.loose l sb,M,q}}
def HE(hB:∀B Q J H,Jz B Q J H->Cz M'.length g tc te B Q J H)(hc:X.calm=true)(S:P9 X M' N' scope)(hi:PI X tg iter wi)(hg:P9 X M' N' scope->∀cl C s₂ G fp,PG (RB X M' N' scope cl C s₂ G fp) tg g)(U:∀cl C s₂ G fp,PTs (RB X M' N' scope cl C s₂ G fp) ifs tc)(he:∀cl C s₂ G fp,PE (RB X M' N' scope cl C s₂ G fp) elt te)
  (hN:X.N.Nodup) (hy:X.N[i]?=some y) (hk:X.env.scope.names.lookup y=some .local) (Y:swapsWith (.ListComp elt [{tg,iter,ifs,0}] scope pos) (some<|.Name y py) spos.line X.env=pure true:=by rfl)
  (hs:∀x,foldedSetIterable iter X.env x=pure x:=by subst_eqs):PS X (.Assign [.Name y py] (.ListComp elt [{tg,iter,ifs,0}] scope pos) spos) (Hl (λB H Q=>wi B H<|Jz B Q)<|gi i):=by
 intro W s B H D I h;let{cl,O,Z,a0}:=xC (env:=X.env) (scope:=scope) λp hp hf=>I.ok.has p.1 (.inl<|S.free p hp hf);rw[exec_Assign_Name_used _ _ _ _ Y];refine Wp<|wpAny_standAt (Wp ?_);show wpAny _ X.A (do let _<-comprehension (.ListComp elt [{tg,iter,ifs,0}] scope pos) scope X.env _ (newList []) false (eval iter X.env) (some<|assign (.Name y py) X.env)) _ _ s;refine Wp (P8 (wpAny_comprehension_free (use:=some<|assign (.Name y py) X.env) (Q:=λ_ s'=>SP X W D .next s') M hs O S.kind S.names
  (zO (Q:=λv H'=>D.nx (B.set i<|some v) H') hc S hi (hg S) U he Z a0 I h (hB _ _) λD' C s4 H' I4 hn l q=>?_)) λ_ s' hq=>Wx<|Wx hq)
 let{m,hn}:=hn;show wpAny _ X.A (assign (.Name y py) X.env<|.ref D') _ _ _;refine wpAny_assign_Name<|zf (v:= .ref D') I4 hN hy (.inl hk) M (λs5 I5 a1=>?_) (.inr hk);let{a,sb,ha}:=a1;have ne:C≠a:=by
  rcases ha with z|z
  .rw[z];exact l.fr
  .exact Ne.symm<|l.ce _ _ z
 exact{m,hn.sameBut sb ne,λh' a2=>{_,H',I5.loose l a2,q}}
end
def D9(te:TE)(B:St)(Q:VK)(J:It)(H1:Hp):Prop:=∀D,H1 D=none->∃J0:Nat->Nat->List V->Hp->Prop,(∃m,J0 0 m [] (upd H1 D<|.lst []))/\∀i m ys H2,J0 i m ys H2->H2 D=some (.lst ys)->
 (J.stop i H2/\Q (.ref D) H2)\/(J.go i H2/\∀x H3,J.yld i H2 x H3->te (some x::B) H3 λy H4=>H4 D=some (.lst ys)/\ys.length<sizeLine/\∃m',m'<m/\J0 (i+1) m' (ys++ [y]) (upd H4 D<|.lst<|ys++ [y]))
def Ox(wi:TI)(te:TE):TE:=λB H Q=>wi B H (D9 te B Q)
def Pb(h:D9 te B Q J H1):Cz 1 (gi 0) LS te B Q J H1:=λD hD=>by
 let{J0,{m0,O},turn}:=h D hD;refine{λi m I ys H=>(∃v,I=v::B)/\J0 i m ys H,{m0,⟨none,M⟩,O},λi m I ys H2 w e=>?_};let{{v,rfl},w}:=w;rcases turn i m ys H2 w e with z|⟨go,z⟩
 .exact .inl z
 .refine .inr {go,λx H3 y=>{λG H4=>G=some x::B/\H4=H3,λG H4 e=>?_,M,M}};let{rfl,rfl}:=e;refine{λy H6=>H6 D=some (.lst ys)/\ys.length<sizeLine/\∃m',m'<m/\J0 (i+1) m' (ys++ [y]) (upd H6 D<|.lst<|ys++ [y]),λ_=>False,λy H6 n=>?_,λ_ n=>n.elim,?_}
  .let{n1,U,m',Y,Z}:=n;exact{n1,U,m',Y,{_,M},Z}
  .exact cy (Jz:=False)<|z x _ y
def oW(hc:X.calm=true)(S:P9 X [x] N' scope)(hi:PI X (.Name x px) iter wi)(he:∀cl C s₂ z fp,PE (RB X [x] N' scope cl C s₂ z fp) elt te)
  (hs:∀x,foldedSetIterable iter X.env x=pure x:=by subst_eqs):PE X (.ListComp elt [{.Name x px,iter,[],0}] scope pos) (Ox wi te):=
 BO (Jz:=D9 te) (λ_ _ _ _=>Pb) hc S hi (λS _ _ _ _ _=>S.pg M) (λ_ _ _ _ _=>KH) he hs
noncomputable def BK(scope dsc:Scope):List (Str×NameKind):=scope.names.map λp=>if(p.2==NameKind.free&&dsc.kind==ScopeKind.function&&dsc.names.lookup p.1==some NameKind.cell)=true then(p.1,NameKind.cell)else(p.1,p.2)
def Mo(M' N N':Sx)(dsc:Scope)(scope:Scope):Bool:=
 (scope.kind==ScopeKind.function)&&decide (M'++N').Nodup&&(M'.all λx=>scope.names.lookup x==some NameKind.local)&&(scope.names.all λy=>y.2 !=NameKind.cell)&&(scope.names.all λy=>y.2 !=NameKind.local||scope.names.lookup y.1==some NameKind.local)
 &&(scope.names.all λy=>y.2 !=NameKind.free||dsc.names.lookup y.1==some NameKind.cell)&&(N'.all λy=>(BK scope dsc).lookup y !=some NameKind.local&&(BK scope dsc).lookup y !=some NameKind.free)&&decide (N'.length=N.length)&&(N'.zip N).all λp=>p.1==p.2||(BK scope dsc).lookup p.1==none
set_option tactic.hygienic true in
theorem rL{dsc:Scope}:∀{l:List (Str×NameKind)}{y:Str}{k:NameKind},(∀p∈l,p.2≠NameKind.cell)->(l.map λp=>if(p.2==NameKind.free&&dsc.kind==ScopeKind.function&&dsc.names.lookup p.1==some NameKind.cell)=true then(p.1,NameKind.cell)else(p.1,p.2)).lookup y=some k->(k= .cell\/k= .free)->(y,NameKind.free)∈l
 | [],y,k,_,h,_=>by simp at h
 |(n,kk)::r,y,k,hn,h,hk=>by
  rw[Z0]at h;by_cases c:(kk==NameKind.free&&dsc.kind==ScopeKind.function&&dsc.names.lookup n==some NameKind.cell)=true
  .dsimp only at h;rw[Wn c,XA]at h;split at h
   .rename_i z
    rw[WA]at z;subst z;have:kk= .free:=by
     rw[Zf,Zf]at c;simpa using c.1.1
    rw[this];exact QK
   .exact QM _<|rL (λp hp=>hn p<|QM _ hp) h hk
  .dsimp only at h;rw[Wm c,XA]at h;split at h
   .rename_i z
    rw[WA]at z;subst z;cases h;rcases hk with e|e
    .exact Ws e<|hn _ QK
    .rw[e];exact QK
   .exact QM _<|rL (λp hp=>hn p<|QM _ hp) h hk
def P9.of{dsc:Scope}{N:Sx}(Y:X.N=N)(Z:X.env.scope=dsc)(h:Mo M' N N' dsc scope=true):P9 X M' N' scope:=by
 unfold Mo at h;simp only[Zf]at h;let{{{{{{{{h1,h2},h3},h4},h5},h6},h7},h8},h9}:=h;have I:(relabel scope X.env).names=BK scope dsc:=by rw[<-Z];rfl
 have G:∀y∈scope.names,y.2≠NameKind.cell:=λy hy=>by have:=Zp.mp h4 y hy;simpa using this
 refine{by simpa using h1,Wt h2,by rw[Y];exact Wt h8,λx hx=>by simpa using Zp.mp h3 x hx,G,λy hy e=>?_,λy hy e=>?_,λj y U v=>?_,λy e=>?_}
 .have:=Zp.mp h5 y hy;rw[e]at this;simpa using this
 .have:=Zp.mp h6 y hy;rw[e]at this;show X.env.scope.names.lookup y.1=_;rw[Z];simpa using this
 .have O:=Zp.mp h7 y (Q1 U);have hz:∃z,N[j]?=some z/\(y,z)∈N'.zip N:=by
   have lj:=(Q2.mp U).1;have l8:N'.length=N.length:=Wt h8;refine{N[j]'(),Q3 _,?_};refine Q1 (i:=j) ?_;rw[List.getElem?_zip_eq_some];exact{U,Q3 _}
  let{z,hz,mz}:=hz;have e9:=Zp.mp h9 _ mz;unfold Si at v;rw[I]at v⊢;have O:¬(BK scope dsc).lookup y=some NameKind.local/\¬(BK scope dsc).lookup y=some NameKind.free:=by simpa using O
  rcases v with v|v|v
  .exact Ws v O.1
  .refine{?_,rL G v<|.inl M,v};rw[Y,hz];dsimp only at e9;rw[v,Bool.or_eq_true]at e9;rcases e9 with e9|e9
   .rw[WA]at e9;rw[e9]
   .cases e9
  .exact Ws v O.2
 .have e:(BK scope dsc).lookup y=some .cell\/(BK scope dsc).lookup y=some .free:=by rwa[<-I]
  rcases e with e|e
  .exact rL G e<|.inl M
  .exact rL G e<|.inr M
abbrev _root_.Ts:=Nat->List V->Hp->Prop
def Pq(n i:Nat)(ys:Sm)(D:K')(Pv:Ts):VK:=λy H4=>H4 D=some (.lst ys)/\ys.length<sizeLine/\∃m',m'<n-i/\m'=n-(i+1)/\i+1<=n/\Pv (i+1) (ys++ [y]) (upd H4 D<|.lst<|ys++ [y])
def Pq.mk{Pv:Ts}{y:V}(hi:i<n)(h1:H4 D=some (.lst ys))(h2:ys.length<sizeLine)(z:Pv (i+1) (ys++ [y]) (upd H4 D<|.lst<|ys++ [y])):Pq n i ys D Pv y H4:=
 {h1,h2,n-(i+1),(),M,hi,z}
def uy{a:K'}(Pv:Ts)(z:Pv 0 [] (upd H1 D<|.lst []))(hl:∀i ys H,i<=xs.length->Pv i ys H->E7 K H a xs)
  (hs:∀i x ys H2,xs[i]?=some x->Pv i ys H2->H2 D=some (.lst ys)->te (some x::B) H2 (Pq xs.length i ys D Pv))
  (hd:∀ys H2,Pv xs.length ys H2->H2 D=some (.lst ys)->Fin H2):
  ∃J0:Nat->Nat->List V->Hp->Prop,(∃m,J0 0 m [] (upd H1 D<|.lst []))/\∀i m ys H2,J0 i m ys H2->H2 D=some (.lst ys)->
   ((Rh K a).stop i H2/\Fin H2)\/((Rh K a).go i H2/\∀x H3,(Rh K a).yld i H2 x H3->te (some x::B) H3 λy H4=>H4 D=some (.lst ys)/\ys.length<sizeLine/\∃m',m'<m/\J0 (i+1) m' (ys++ [y]) (upd H4 D<|.lst<|ys++ [y])):=by
 refine{λi m ys H=>m=xs.length-i/\i<=xs.length/\Pv i ys H,{xs.length,by simp,QT _,z},?_};rintro i m ys H ⟨rfl,hi,p⟩ hD;have q:=hl i ys H hi p;by_cases lt:i<xs.length
 .refine .inr {{xs,xs[i],q,by simp[lt]},λx H' y=>?_};let{e,y}:=y;subst e;exact hs i x ys _ (y xs q) p hD
 .have e:i=xs.length:=();subst e;exact .inl {{xs,q,Q4 _},hd ys H p hD}
def qP{lo:Int}(Pv:Ts)(z:Pv 0 [] (upd H1 D<|.lst []))
  (hs:∀i ys H2,i<n->Pv i ys H2->H2 D=some (.lst ys)->te (some (.int<|lo+i)::B) H2 (Pq n i ys D Pv))
  (hd:∀ys H2,Pv n ys H2->H2 D=some (.lst ys)->Fin H2):
  ∃J0:Nat->Nat->List V->Hp->Prop,(∃m,J0 0 m [] (upd H1 D<|.lst []))/\∀i m ys H2,J0 i m ys H2->H2 D=some (.lst ys)->
   ((Rq lo n).stop i H2/\Fin H2)\/((Rq lo n).go i H2/\∀x H3,(Rq lo n).yld i H2 x H3->te (some x::B) H3 λy H4=>H4 D=some (.lst ys)/\ys.length<sizeLine/\∃m',m'<m/\J0 (i+1) m' (ys++ [y]) (upd H4 D<|.lst<|ys++ [y])):=by
 refine{λi m ys H=>m=n-i/\i<=n/\Pv i ys H,{n,by simp,QT _,z},?_};rintro i m ys H ⟨rfl,hi,p⟩ hD;by_cases lt:i<n
 .refine .inr {lt,λx H' y=>?_};let{e,y}:=y;subst e y;exact hs i ys _ lt p hD
 .have e:i=n:=();subst e;exact .inl {Q4 _,hd ys H p hD}
def AY(tc:TT)(te:TE)(B:St)(Q:VK)(J:It)(H1:Hp):Prop:=∀D,H1 D=none->∃J0:Nat->Nat->List V->Hp->Prop,(∃m,J0 0 m [] (upd H1 D<|.lst []))/\∀i m ys H2,J0 i m ys H2->H2 D=some (.lst ys)->
 (J.stop i H2/\Q (.ref D) H2)\/(J.go i H2/\∀x H3,J.yld i H2 x H3->tc (some x::B) H3 λb H4=>if b=true then te (some x::B) H4 λy H5=>H5 D=some (.lst ys)/\ys.length<sizeLine/\∃m',m'<m/\J0 (i+1) m' (ys++ [y]) (upd H5 D<|.lst<|ys++ [y])else H4 D=some (.lst ys)/\∃m',m'<m/\J0 (i+1) m' ys H4)
def Hj(wi:TI)(tc:TT)(te:TE):TE:=λB H Q=>wi B H (AY tc te B Q)
def Mp(h:AY tc te B Q J H1):Cz 1 (gi 0) tc te B Q J H1:=λD hD=>by
 let{J0,{m0,Y},turn}:=h D hD;refine{λi m U ys H=>(∃v,U=v::B)/\J0 i m ys H,{m0,⟨none,M⟩,Y},λi m U ys H2 w e=>?_};let{{v,rfl},w}:=w;rcases turn i m ys H2 w e with z|⟨go,z⟩
 .exact .inl z
 .refine .inr {go,λx H3 y=>{λG H4=>G=some x::B/\H4=H3,λG H4 e=>?_,M,M}};let{rfl,rfl}:=e;refine{_,_,λy H6 n=>?_,λH5 n=>?_,z x _ y}
  .let{n1,Z,m',I,O}:=n;exact{n1,Z,m',I,{_,M},O}
  .let{n1,m',I,O}:=n;exact{n1,m',I,{_,M},O}
def nN{G:Expr}(hc:X.calm=true)(S:P9 X [x] N' scope)(hi:PI X (.Name x px) iter wi)(I:∀cl C s₂ z fp,PT (RB X [x] N' scope cl C s₂ z fp) G tc)(he:∀cl C s₂ z fp,PE (RB X [x] N' scope cl C s₂ z fp) elt te)
  (hs:∀x,foldedSetIterable iter X.env x=pure x:=by subst_eqs):PE X (.ListComp elt [{.Name x px,iter,[G],0}] scope pos) (Hj wi tc te):=
 BO (Jz:=AY tc te) (λ_ _ _ _=>Mp) hc S hi (λS _ _ _ _ _=>S.pg M) (λ_ _ _ _ _=>Ex<|I _ _ _ _ _) he hs
def HF{G:Expr}{py spos:Pos}(hc:X.calm=true)(S:P9 X [x] N' scope)(hi:PI X (.Name x px) iter wi)(I:∀cl C s₂ z fp,PT (RB X [x] N' scope cl C s₂ z fp) G tc)(he:∀cl C s₂ z fp,PE (RB X [x] N' scope cl C s₂ z fp) elt te)
  (hN:X.N.Nodup) (hy:X.N[i]?=some y) (hk:X.env.scope.names.lookup y=some .local) (O:swapsWith (.ListComp elt [{.Name x px,iter,[G],0}] scope pos) (some<|.Name y py) spos.line X.env=pure true:=by rfl)
  (hs:∀x,foldedSetIterable iter X.env x=pure x:=by subst_eqs):PS X (.Assign [.Name y py] (.ListComp elt [{.Name x px,iter,[G],0}] scope pos) spos) (Hl (Hj wi tc te)<|gi i):=
 HE (Jz:=AY tc te) (λ_ _ _ _=>Mp) hc S hi (λS _ _ _ _ _=>S.pg M) (λ_ _ _ _ _=>Ex<|I _ _ _ _ _) he hN hy hk O hs
def Qn(n i:Nat)(ys:Sm)(D:K')(Pv:Ts)(H4:Hp):Prop:=H4 D=some (.lst ys)/\∃m',m'<n-i/\m'=n-(i+1)/\i+1<=n/\Pv (i+1) ys H4
def Qn.mk{Pv:Ts}(hi:i<n)(h1:H4 D=some (.lst ys))(z:Pv (i+1) ys H4):Qn n i ys D Pv H4:={h1,n-(i+1),(),M,hi,z}
def jr{a:K'}(Pv:Ts)(G:Pv 0 [] (upd H1 D<|.lst []))(hl:∀i ys H,i<=xs.length->Pv i ys H->E7 K H a xs)
  (hs:∀i x ys H2,xs[i]?=some x->Pv i ys H2->H2 D=some (.lst ys)->tc (some x::B) H2 λb H4=>if b=true then te (some x::B) H4 (Pq xs.length i ys D Pv)else Qn xs.length i ys D Pv H4)
  (hd:∀ys H2,Pv xs.length ys H2->H2 D=some (.lst ys)->Fin H2):
  ∃J0:Nat->Nat->List V->Hp->Prop,(∃m,J0 0 m [] (upd H1 D<|.lst []))/\∀i m ys H2,J0 i m ys H2->H2 D=some (.lst ys)->
   ((Rh K a).stop i H2/\Fin H2)\/((Rh K a).go i H2/\∀x H3,(Rh K a).yld i H2 x H3->tc (some x::B) H3 λb H4=>if b=true then te (some x::B) H4 λy z=>z D=some (.lst ys)/\ys.length<sizeLine/\∃m',m'<m/\J0 (i+1) m' (ys++ [y]) (upd z D<|.lst<|ys++ [y])else H4 D=some (.lst ys)/\∃m',m'<m/\J0 (i+1) m' ys H4):=by
 refine{λi m ys H=>m=xs.length-i/\i<=xs.length/\Pv i ys H,{xs.length,by simp,QT _,G},?_};rintro i m ys H ⟨rfl,hi,p⟩ hD;have q:=hl i ys H hi p;by_cases lt:i<xs.length
 .refine .inr {{xs,xs[i],q,by simp[lt]},λx H' y=>?_};let{e,y}:=y;subst e;exact hs i x ys _ (y xs q) p hD
 .have e:i=xs.length:=();subst e;exact .inl {{xs,q,Q4 _},hd ys H p hD}
noncomputable def SV(a d:K'):HO:= .ext λh=>h.IsItemsView a d
def Itd(ob:Obj)(d:K')(kvs:Ta):It:=
 {λi H=>H d=some (.frz ob<|.dK kvs)/\i<kvs.length,λi H x H'=>∃p k v,x= .ref p/\H p=none/\kvs[i]?=some (k,v)/\H'=upd H p (.tup [kV k,v]),λi H=>H d=some (.frz ob<|.dK kvs)/\kvs.length<=i}
def DObj(P:Sr)(w:Ss)(ob:Obj)(d:K')(kvs:Ta)(vs:Ti)(ep:Nat):Prop:=
 KV kvs vs/\∀h:Heap,h.get? d=some ob->h.DictAt (a7 P w) d vs ep
set_option tactic.hygienic true in
def KV.getI(h:KV kvs vs):∀{i:Nat}{k:Key}{v:V},kvs[i]?=some (k,v)->∃u,vs[i]?=some (k,u)/\RelV v u:=by
 induction h with
 |nil=>intro i k v e;simp at e
 |cons r t z=>
  rename_i p q ps qs
  intro i k v e;cases i with
  |zero=>
   simp at e;subst e;exact{q.2,by simp[show k=q.1 from r.1],r.2}
  |succ j=>
   let{u,h1,h2}:=z (i:=j) (by simpa using e);exact{u,by simpa using h1,h2}
def Dg{x1}{ep:Nat}(it:K')(D:DObj P w ob d kvs vs ep):
  Ee P w K (.Tuple elts x1 pos) (Itd ob d kvs) [it] it (λi h=>∃ok Y,IsItemIter h it d i vs.length ep ok Y) where
 mem:=by simp
 obj:=λi h st b hb=>by
  let{ok,Y,st}:=st;have z:b=it:=by simpa using hb
  subst z;exact{_,st,λv z=>by cases z}
 keep:=λi h h' st k=>by
  let{ok,Y,st}:=st;exact{ok,Y,k it (by simp) _ st}
 item:=by
  intro X hP hw hK hc i W s B H E I hf st hg;subst hP hw hK;let{ok,Y,st}:=st;let{hq,hi}:=hg;have fi:=hf it (by simp);let{G,_}:=I.hok d _ hq;have O:=D.2 s.heap G;obtain⟨⟨k,v⟩,hx⟩:∃kv,kvs[i]?=some kv:={kvs[i],by simp[hi]};let{u,hu,ru}:=KV.getI D.1 hx;refine wpAny_pyNext_items_item st O hu λkey h' Z g1 g3 gz g5=>{_,M,?_};refine wpAny_letOwnedTupleGo_items g1 λh2 k1 k2=>?_;have rk:RelV (kV k) key:=EQ Z;have np:H s.heap.objs.size=none:=I.hok.fresh (Q4 _);have a0:s.heap.objs.size≠it:=V4 (Ww st);have keep:∀b o,b≠it->s.heap.get? b=some o->h2.get? b=some o:=λb o z q=>(k2.2 b z).trans (g5 b o z q);have U:h2.get? s.heap.objs.size=some {cls:= .type oo,data:= .seq #[key,u]}:=(k2.2 _ a0).trans g3;have SU:∀b v,H b=some v->b≠it:=λb v q z=>by rw[z,fi.1]at q;cases q
  have un:Un (RF X.stack) [it] H (upd H s.heap.objs.size<|.tup [kV k,v]) s.heap h2:=by
   refine{λb o q n hb hx=>keep b o (λz=>hx<|by simp[z]) q,λb o q n hb hx=>{o.slots,keep b o (λz=>hx<|by simp[z]) q},λb o q n hx=>?_,
    λb o q hx=>{o,keep b o (λz=>hx<|by simp[z]) q},λb ys q=>?_,λb o v q=>?_,λb ps q=>{#[],?_}}
   .rwa[af (Zb<|Ww q)]
   .rw[af (ao q np)];exact q
   .rw[af (ao q np)];exact q
   .rw[af (ao q np),q];simp
  have hok:QH X.prog X.w (upd H s.heap.objs.size<|.tup [kV k,v]) h2:=λb v' q=>by
   by_cases z:b=s.heap.objs.size
   .subst z;rw[ag]at q;cases q;exact{by show 2<=sizeLine;decide,[key,u],.cons rk<|.cons ru .nil,_,U,M,_,M}
   .rw[af z]at q;refine(I.hok b v' q).stay (λc o hc r=>?_) (λc r=>by rwa[af (ao r np)]) λc ys r=>by rwa[af (ao r np)]
    rcases hc with rfl|hc
    .exact keep _ _ (SU _ _ q) r
    .exact keep _ _ (SU _ _ hc) r
  have I2:Inv X W B (upd H s.heap.objs.size<|.tup [kV k,v]) {s with heap:=h2}:=I.call' (s':={s with heap:=h2}) M un hok I.bare λb hb=>by
   have z:oO X W H b:=hf b hb;exact⟨z.2.2.2.1,z.2.1,z.2.2.2.2.1,z.2.2.2.2.2⟩
  refine{.ref s.heap.objs.size,_,I2,M,{_,k,v,M,np,hx,M},⟨key,u,k1⟩,λb hb=>?_};have z:b=it:=by simpa using hb
  subst z;rw[af (Ne.symm a0)];exact fi.1
 done:=by
  intro X hP hw hK hc i W s B H E I hf st hg;subst hP hw hK;let{ok,Y,st}:=st;let{hq,hi}:=hg;let{G,_}:=I.hok d _ hq;have O:=D.2 s.heap G;let{f0,f1,f2,f3,f4,f5}:=hf it (by simp);have hl:kvs.length=vs.length:=D.1.length;exact wpAny_pyNext_items_end (I.ok.hd hc) st O (by simp;lia) λh' eb=>{M,I.turned (t':=s.toks) (λb o hb e=>eb b o hb e) f0 f1 f3 f4 f5}
 self:=λ_ _ _ _ _ st h=>let⟨_,_,st⟩:=st;PySem.W.kcp_self st h
inductive M0(x:V)(vs:Sm)(H:Hp)(Q:VK):Prop
 |mk(d kvs:_)(_:x= .ref d)(_:vs=[])(_:H d=some (.dK kvs))(_:∀a,H a=none->Q (.ref a) (upd H a<|SV a d))
def BX:SD X "dict.items" M0:=by
 intro W s B H x vs v us Q I G rv h;let{d,kvs,rfl,rfl,hd,q}:=h;cases G;cases rv;let{z,lo,O,U,dd}:=kO I.hok hd;refine WX Vj dd.typeIs PySem.F.entry_dict_items (PySem.F.args_dict_items_1 _) (meets_dict_items (a7 X.prog X.w) d lo) {⟨O,dd⟩,?_};have new:(s.heap.push {cls:= .type "dict_items",data:= .fields #[.ref d]}).get? s.heap.objs.size=some {cls:= .type "dict_items",data:= .fields #[.ref d]}:=Wy _ M;refine{.ref s.heap.objs.size,_,I.laid (t':=s.toks) (λb o e=>Wo _ e) (Q4 _) (show P7 X.prog X.w _ _ _ (SV s.heap.objs.size d) from{{_,new,M,M},{_,new},λh1 h2 p k=>?_}),M,q _<|I.hok.fresh (Q4 _)};let{o,e,c}:=p;exact{o,k o e,c}
def Inv.freeze{H:Hp}{d:K'}{kvs:Ta}(I:Inv X W B H s)(hd:H d=some (.dK kvs))(G:s.heap.get? d=some ob):Inv X W B (upd H d<|.frz ob<|.dK kvs) s:=by
 have own:∀b y,H b=some (.own y)->upd H d (.frz ob<|.dK kvs) b=some (.own y):=λb y q=>by rw[af (λz=>by rw[z,hd]at q;cases q)];exact q
 have tup:∀b xs,H b=some (.tup xs)->upd H d (.frz ob<|.dK kvs) b=some (.tup xs):=λb xs q=>by rw[af (λz=>by rw[z,hd]at q;cases q)];exact q
 have non:∀b,H b=none->upd H d (.frz ob<|.dK kvs) b=none:=λb q=>by rw[af (λz=>by rw[z,hd]at q;cases q)];exact q
 refine{I.ok,I.os,I.bare,{I.base.keep,I.base.slot,λb o e n hx=>non b<|I.base.free b o e n hx,I.base.there,λb xs e=>tup b xs<|I.base.tups b xs e,λb o u e=>?_,λb ps e=>?_},I.loc,I.cell,non _ I.free,λx c e=>non c<|I.freeC x c e,λp hp=>?_,λb o e=>?_,I.len}
 .have:=I.base.frzs b o u e;rwa[af (λz=>by rw[z,hd]at this;cases this)]
 .let{m,q}:=I.base.tbls b ps e;exact{m,by rw[af (λz=>by rw[z,hd]at q;cases q)];exact q}
 .let{h1,h2,O}:=I.pin p hp;exact{h1,non _ h2,O}
 .by_cases z:b=d
  .subst z;rw[ag]at e;cases e;exact{G,(I.hok b _ hd).stay (λ_ _ _ q=>q) (λc q=>own c b q) tup}
  .rw[af z]at e;exact(I.hok b o e).stay (λ_ _ _ q=>q) (λc q=>own c b q) tup
def Inv.thaw{H:Hp}{d:K'}{kvs:Ta}(I:Inv X W B H s)(hd:H d=some (.frz ob<|.dK kvs))(G:∀o u,X.H₀ d≠some (.frz o u)):Inv X W B (upd H d<|.dK kvs) s:=by
 have own:∀b y,H b=some (.own y)->upd H d (.dK kvs) b=some (.own y):=λb y q=>by rw[af (λz=>by rw[z,hd]at q;cases q)];exact q
 have tup:∀b xs,H b=some (.tup xs)->upd H d (.dK kvs) b=some (.tup xs):=λb xs q=>by rw[af (λz=>by rw[z,hd]at q;cases q)];exact q
 have non:∀b,H b=none->upd H d (.dK kvs) b=none:=λb q=>by rw[af (λz=>by rw[z,hd]at q;cases q)];exact q
 refine{I.ok,I.os,I.bare,{I.base.keep,I.base.slot,λb o e n hx=>non b<|I.base.free b o e n hx,I.base.there,λb xs e=>tup b xs<|I.base.tups b xs e,λb o u e=>?_,λb ps e=>?_},I.loc,I.cell,non _ I.free,λx c e=>non c<|I.freeC x c e,λp hp=>?_,λb o e=>?_,I.len}
 .have:=I.base.frzs b o u e;rwa[af (λz=>by rw[z]at e;exact G _ _ e)]
 .let{m,q}:=I.base.tbls b ps e;exact{m,by rw[af (λz=>by rw[z,hd]at q;cases q)];exact q}
 .let{h1,h2,O}:=I.pin p hp;exact{h1,non _ h2,O}
 .by_cases z:b=d
  .subst z;rw[ag]at e;cases e;let{_,q}:=I.hok b _ hd;exact P7.stay (show P7 X.prog X.w H s.heap b (.dK kvs) from q) (λ_ _ _ q=>q) (λc q=>own c b q) tup
  .rw[af z]at e;exact(I.hok b o e).stay (λ_ _ _ q=>q) (λc q=>own c b q) tup
def Inv.noFrz{H:Hp}{d:K'}{kvs:Ta}(I:Inv X W B H s)(hd:H d=some (.dK kvs)):∀o u,X.H₀ d≠some (.frz o u):=λo u e=>by
 have:=I.base.frzs d o u e;rw[hd]at this;cases this
def NH(te:TE):TI:=λB H R=>te B H λx H1=>∃a d kvs,x= .ref a/\H1 a=some (SV a d)/\H1 d=some (.dK kvs)/\∀ob,R (Itd ob d kvs) (upd H1 d<|.frz ob<|.dK kvs)
def BM{l:Expr}{x1}(hl:PE X l te):PI X (.Tuple elts x1 pos) l (NH te):=by
 intro W s B H R I h;refine P8 (hl W s B H _ I h) λv s1 O=>?_;let{x,H1,U,r1,q1}:=O;let{a,d,kvs,e,ha,hd,q}:=q1;subst e;cases r1;let{z,lo,vs,Y,dd}:=kO U.hok hd;let{ep,G}:=dd.dictAt;let{vw,_,_}:=(show P7 X.prog X.w H1 s1.heap a (SV a d) from U.hok a _ ha);let{ob,es,Z,rest}:=id G;refine wpAny_pyIter_items vw G ?_;have If:=U.freeze hd Z;refine{s1.heap.objs.size,[s1.heap.objs.size],_,_,_,M,If.kept (t':=s1.toks) λb o e=>Wo _ e,Dg _ {Y,λh e=>⟨ob,es,e,rest⟩},{_,_,Wy _ M},λb hb=>?_,q ob};have e:b=s1.heap.objs.size:=by simpa using hb
 subst e;exact If.fpOk (Q4 _) (If.hok.fresh<|Q4 _)
inductive Oj(t:TS)(D:Qo)(B:St)(H:Hp):Prop
 |mk(d kvs:_)(_:H d=some (.dK kvs))(_:t {λσ' H'=>∃ob,H' d=some (.frz ob<|.dK kvs)/\D.nx σ' (upd H' d<|.dK kvs),λv H'=>∃ob,H' d=some (.frz ob<|.dK kvs)/\D.rt v (upd H' d<|.dK kvs),λσ' H'=>∃ob,H' d=some (.frz ob<|.dK kvs)/\D.bk σ' (upd H' d<|.dK kvs),λσ' H'=>∃ob,H' d=some (.frz ob<|.dK kvs)/\D.ct σ' (upd H' d<|.dK kvs)} B H)
def Ay{st:Stmt}{t:TS}(h:PS X st t):PS X st (Oj t):=by
 intro W s B H D I ⟨d,kvs,hd,q⟩;have U:=I.noFrz hd;refine P8 (h W s B H _ I q) λf s1 Y=>?_;cases f with
 |next=>let{z,H7,G,ob,e,O}:=Y;exact{z,_,G.thaw e U,O}
 |cont=>let{z,H7,G,ob,e,O}:=Y;exact{z,_,G.thaw e U,O}
 |brk=>let{z,H7,G,ob,e,O}:=Y;exact{z,_,G.thaw e U,O}
 |ret v=>let{Z,z,H7,G,r7,ob,e,O}:=Y;exact{Z,z,_,G.thaw e U,r7,O}
def xv{tb:TS}{rt:VK}(Pv:Tu)(O:Pv 0 B H)(hl:∀i B H,i<=kvs.length->Pv i B H->H d=some (.frz ob<|.dK kvs))
  (hs:∀i k v p B H,kvs[i]?=some (k,v)->Pv i B H->H p=none->g (.ref p) B (upd H p<|.tup [kV k,v]) λG H2=>tb {Pv<|i+1,rt,nx,Pv<|i+1} G H2) (hd:∀B H,Pv kvs.length B H->nx B H):
  ∃J0:Nat->Nat->St->Hp->Prop,(∃m,J0 0 m B H)/\∀i m B H,J0 i m B H->
   ((Itd ob d kvs).stop i H/\nx B H)\/((Itd ob d kvs).go i H/\∃N:St->Hp->Prop,(∀I H',N I H'->∃m',m'<m/\J0 (i+1) m' I H')/\∀x H',(Itd ob d kvs).yld i H x H'->g x B H' λG H2=>tb ⟨N,rt,nx,N⟩ G H2):=by
 refine{λi m B H=>m=kvs.length-i/\i<=kvs.length/\Pv i B H,{kvs.length,by simp,QT _,O},?_};rintro i m B H ⟨rfl,hi,p⟩;have q:=hl i B H hi p;by_cases lt:i<kvs.length
 .refine .inr {⟨q,lt⟩,Pv<|i+1,λI H' z=>{kvs.length-(i+1),(),M,lt,z},λx H' y=>?_};let{U,k,v,rfl,np,e,rfl}:=y;exact hs i k v U B H e p np
 .have e:i=kvs.length:=();subst e;exact .inl {{q,Q4 _},hd B H p}
section
variable(K:JZ)(hK:X.K=K)
include hK
theorem pV:gV X (.builtin "len") (λxs H Q=>∃p ys,xs=[.ref p]/\(E7 K H p ys\/Px K H p ys)/\Q (.int ys.length) H):=by subst hK;exact aE
theorem IC:IxR X (rIxL K):=by subst hK;exact aQ
theorem vE:IxR X (rIxT K):=by subst hK;exact bY
end
def zP(hc:X.calm=true):gV X (.builtin "min") (λxs H Q=>∃(p:K')(ns:R'),xs=[.ref p]/\E7 X.K H p (ns.map V.int)/\0<ns.length/\∀M',M'∈ns->(∀a∈ns,M'<=a)->Q (.int M') H):=by
 intro W s B H xs us Q I r h;let{p,ns,rfl,hq,G,q}:=h;let{u,rfl,U}:=pG r;cases U;let{its,rv,pl,hz}:=I.list hq;have hi:IntsAre its ns:=xp rv;let{xs,e}:=hi.allInts.items;have z:ns=xs.toList.map (·.1):=by
  rw[<-hi.numsOf,<-nums_intItems,<-e]
 have hsz:0<xs.size:=by
  have O:=G;rw[z,Q0,QN]at O;exact O
 have hl:=pl.isList;rw[e]at hl;refine min_intList (I.ok.hd hc) hl hsz λv h' tk Y hk=>?_;let{t,rfl}:=intItems_at Y;let{h1,h2}:=argBest_lt (numAt xs) (xs.size-1);refine{.int _,H,I.kept (t':=tk) hk,⟨t,M⟩,q _ ?_ λa ha=>?_}
 .rw[z,numAt_eq];exact getD_mem<|by rw[Q0,QN];lia
 .rw[z]at ha;let{j,Z,rfl}:=mem_getD ha;rw[Q0,QN]at Z;rw[<-numAt_eq];exact h2 j ()
theorem zr{y:Int}:∀{ns:R'}{m:Nat},m<ns.idxOf y->(h:m<ns.length)->ns[m]≠y
 | [],m,_,h=>by simp at h
 |a::r,m,lt,h=>by
  rw[List.idxOf_cons]at lt;by_cases c:a=y
  .rw[c]at lt;simp at lt
  .have:(a==y)=false:=WC.mpr c;rw[this]at lt;cases m with
   |zero=>exact c
   |succ j=>exact zr (ns:=r) (m:=j) (by simpa using lt)<|by simpa using h
theorem zJ:∀(ns:R')(i:Nat),(ns.eraseIdx i).map V.int=(ns.map V.int).eraseIdx i
 | [],_=>rfl
 |_::_,0=>rfl
 |a::r,i+1=>by
  show V.int a::(r.eraseIdx i).map V.int=V.int a::(r.map V.int).eraseIdx i;rw[zJ r i]
inductive KC(x:V)(vs:Sm)(H:Hp)(Q:VK):Prop
 |mk(l:K')(xs:Sm)(k:Int)(y:V)(_:x= .ref l)(_:vs=[.int k,y])(_:H l=some (.lst xs))(_:0<=k)(_:k<=(xs.length:Int))(_:xs.length<sizeLine)(_:Q .non (upd H l<|.lst (xs.take k.toNat++y::xs.drop k.toNat)))
def zt:MtM X "list.insert" KC:=by
 intro W s B H x vs v us Q I Y rv h;let{l,xs,k,y,rfl,rfl,O,h0,hk,hz,q}:=h;cases Y;let{u1,u,rfl,{t,rfl},Z}:=rv.two;let{z,its,n,r,hl,e}:=I.lstM O;have G:¬(!Builtin.List.listFitsIndex k)=true:=by
  have U:=xj;rw[fitsIndex_both () ()];exact Q8
 have hsz:its.toArray.size<=sizeLine:=by rw[QQ];lia
 refine call_meets F.slot_list_insert {_,e,M} F.entry_list_insert (F.args_list_insert_3 _ _ _) (AutoListH.list_insert_list_int_val_1 l its.toArray n k t u G hsz) {e,?_};refine{.non,_,I.lset (its':=its.take k.toNat++u::its.drop k.toNat) O e ?_ ((r.take k.toNat).append<|.cons Z<|r.drop k.toNat) ?_,M,q}
 .have e0:(if k<0 then(k+((its.toArray.size:Nat):Int)).toNat else min k.toNat its.toArray.size)=k.toNat:=by
   rw[Wm (),QQ];lia
  show(its.toArray.extract 0 _).push u++its.toArray.extract _=_;rw[e0];simp;exact Z1<|by rw[Zc];lia
 .rw[Q6,QW,Q9,Zc];lia
inductive KB(x:V)(vs:Sm)(H:Hp)(Q:VK):Prop
 |mk(l:K')(ns:R')(y:Int)(_:x= .ref l)(_:vs=[.int y])(_:H l=some (.lst<|ns.map V.int))(_:y∈ns)(_:Q .non (upd H l<|.lst<|(ns.erase y).map V.int))
def FX:MtM X "list.remove" KB:=by
 intro W s B H x vs v us Q I rx rv h;let{l,ns,y,rfl,rfl,hH,hy,q}:=h;cases rx;let{u,rfl,ru}:=rv.one;let{t,rfl}:=ru;let{z,its,n,r,hl,e}:=I.lstM hH;have hi:IntsAre its ns:=xp r;have at_:∀(m:Nat)(O:m<its.toArray.size),∃t',its.toArray[m]=Value.int (ns.getD m 0) t':=λm O=>by
  have G:m<ns.length:=by rw[QQ,<-hl,Q0]at O;exact O
  let{w,hw,Y}:=r.get (i:=m) (x:= .int<|ns.getD m 0) (by rw[Z3,Q3 G,QR,Q3 G];rfl);let{t',rfl}:=Y;refine{t',?_};have:=(Q2.mp hw).2;simpa using this
 have hx:ns.idxOf y<ns.length:=List.idxOf_lt_length_of_mem hy;have ga:∀m,m<ns.length->ns.getD m 0=ns[m]!:=λm O=>by simp[O]
 refine call_meets F.slot_list_remove {_,e,M} F.entry_list_remove (F.args_list_remove_2 _ _) (MeetsSeq.list_remove l its.toArray n (.int y t) (λv=>match v with| .int i _=>i==y|_=>false) (λv hv=>?_) (ns.idxOf y) (by rwa[QQ,<-hl,Q0]) ?_ (λm O lt=>?_)<|by rw[QQ];lia) {e,?_}
 .let{m,O,Z}:=Array.getElem_of_mem hv;let{t',U}:=at_ m O
  rw[<-Z,U];exact MeetsSeq.EqGives.int _ _ _ _
 .let{t',U}:=at_ (ns.idxOf y) (by rwa[QQ,<-hl,Q0])
  rw[U];show(ns.getD (ns.idxOf y) 0==y)=true;rw[QR,Q3 hx,Option.getD_some,List.getElem_idxOf hx];exact WN y
 .let{t',U}:=at_ m O
  rw[U];show(ns.getD m 0==y)=false;have G:m<ns.length:=();rw[QR,Q3 G,Option.getD_some];exact WC.mpr<|λw=>zr lt G w
 .have ee:ns.erase y=ns.eraseIdx (ns.idxOf y):=(List.erase_eq_eraseIdx_of_idxOf M);have Z:(ns.eraseIdx<|ns.idxOf y).map V.int=(ns.map V.int).eraseIdx (ns.idxOf y):=zJ _ _;rw[ee,Z]at q;refine{.non,_,I.lset (its':=its.eraseIdx<|ns.idxOf y) hH e ?_ (r.eraseIdx<|ns.idxOf y) ?_,M,q}
  .show its.toArray.eraseIdxIfInBounds (ns.idxOf y)=(its.eraseIdx<|ns.idxOf y).toArray;rw[VX]
  .have:=ug (ns.map V.int) (ns.idxOf y);lia
def xE:gV X (.type "dict") (λxs H Q=>∃d kvs,xs=[.ref d]/\H d=some (.dK kvs)/\∀p,H p=none->Q (.ref p) (upd H p<|.dK kvs)):=by
 intro W s B H xs us Q I r h;let{d,kvs,rfl,hd,q}:=h;let{u,rfl,O}:=pG r;cases O;let{z,lo,vs,G,dd}:=kO I.hok hd;refine kt_call_dict lo dd (by rwa[<-G.length]) λh' U hs=>?_;let{_,nm,_}:=sJ (P:=X.prog) (w:=X.w) (H:=H) s.heap I.big;refine{.ref s.heap.objs.size,_,I.laid (a:=s.heap.objs.size) (o:= .dK kvs) (t':=s.toks) (λb o e=>(hs.2 b<|Zb<|Ww e).trans<|Wo _ e) (Q4 _) ⟨z,nm,vs,G,U⟩,M,q _<|I.hok.fresh (Q4 _)}
inductive KA(x:V)(vs:Sm)(H:Hp)(Q:VK):Prop
 |mk(a kvs k y:_)(_:x= .ref a)(_:vs=[kV k,y])(_:H a=some (.dK kvs))(_:kvs.length<sizeLine)(_:(∀v,aH kvs k=some v->Q v H))(_:(aH kvs k=none->Q y (upd H a<|.dK<|a9 kvs k y)))
def FW:SD X "dict.setdefault" KA:=by
 intro W s B H x vs v us Q I Z rv h;let{a,kvs,k,y,rfl,rfl,U,hl,q1,q2}:=h;cases Z;let{u,r,rfl,ru,Y}:=qZ rv;let{z,hd,ws,O,dd}:=kO I.hok U;have G:=O.val k;refine WX W7 dd.typeIs PySem.F.entry_dict_setdefault (PySem.F.args_dict_setdefault_3 _ _ _) (kt_meets_setdefault (a7 X.prog X.w) a (sk ru) hd r) {ws,dd,by rwa[<-O.length],λv hv=>?_,λhn h' dd' hs=>?_}
 .rw[hv]at G;cases e:aH kvs k with
  |none=>rw[e]at G;exact G.elim
  |some x=>
   rw[e]at G;exact{x,H,I.tok _,G,q1 x e}
 .rw[hn]at G;cases e:aH kvs k with
  |some x=>rw[e]at G;exact G.elim
  |none=>
   have he:∃q,h'.get? a=some q:=let⟨q,_,_,hq,_⟩:=dd';⟨q,hq⟩
   have lp:=cw kvs k y;exact{y,_,sK I (by rw[U];exact WD) hs he<|AV () hd (O.put k Y) dd',Y,q2 e}
def ud(kvs more:Ta):List (Key×V):=more.foldl (λacc p=>a9 acc p.1 p.2) kvs
set_option tactic.hygienic true in
def KV.mrg{more:Ta}{z:Ti}(h:KV more z):∀{kvs:Ta}{G:Ti},KV kvs G->KV (ud kvs more) (merged G z):=by
 induction h with
 |nil=>intro kvs G r;exact r
 |cons r t I=>
  rename_i p q ps qs
  intro kvs G rw;have e:p.1=q.1:=r.1;have:=I (rw.put p.1 r.2);rw[e]at this;show KV (ud (a9 kvs p.1 p.2) ps) _;rwa[e]
theorem w9:∀{more kvs:Ta},(ud kvs more).length<=kvs.length+more.length
 | [],_=>Q4 _
 |p::r,kvs=>by
  have h1:=w9 (more:=r) (kvs:=a9 kvs p.1 p.2);have h2:=cw kvs p.1 p.2;show(ud (a9 kvs p.1 p.2) r).length<=_;rw[QW];lia
inductive rUpd(x:V)(vs:Sm)(H:Hp)(Q:VK):Prop
 |mk(d o kvs more:_)(_:x= .ref d)(_:vs=[.ref o])(_:d≠o)(_:H d=some (.dK kvs))(_:H o=some (.dK more))(_:kvs.length+more.length<=sizeLine)(_:Q .non (upd H d<|.dK<|ud kvs more))
def FV:SD X "dict.update" rUpd:=by
 intro W s B H x vs v us Q I rx rv h;let{d,o,kvs,more,rfl,rfl,ne,hd,ho,hl,q}:=h;cases rx;let{u,rfl,ru}:=pG rv;cases ru;let{z,lo,ws,O,dd}:=kO I.hok hd;let{z2,U,Y,G,Z}:=kO I.hok ho;refine WX PySem.F.slot_dict_update dd.typeIs PySem.F.entry_dict_update (PySem.F.args_dict_update_2 _ _) (meets_dict_update (a7 X.prog X.w) d o ne U) {ws,Y,dd,Z,by rwa[<-O.length,<-G.length],λh' dd' _ hs=>?_};have he:∃q,h'.get? d=some q:=let⟨q,_,_,hq,_⟩:=dd';⟨q,hq⟩
 exact{.non,_,sK I (by rw[hd];exact WD) hs he<|AV (Z4 w9 hl) lo (G.mrg O) dd',M,q}
end L2
namespace PySem
open PySem.Spec
variable{E:Sw}
section
variable{prog:Sr}{w:Ss}{A:Sv}{s:L'}
def Je:typeLookup (.type ff) "keys"=pure none:=am_miss_of_fast ∅
def Jg{a:K'}{o:Obj}{xs:Tc}{k:Nat}{Q:Option Value->Shared->Prop}(hx:s.heap.get? a=some o)(hc:o.cls= .type ff)(z:o.data= .seq xs k)(hd:o.dict=none)(O:A.handled=none)
  (h:∀h' tk,(∀b ob,s.heap.get? b=some ob->h'.get? b=some ob)->Q none {s with heap:=h',toks:=tk}):
  wpAny (model prog w) A (getAttr? (.ref a) "keys") Q E s:=by
 let{c,U,Y,Z}:=o;simp only at hc z hd;subst hc z hd;let{hp,g,d,tk,os}:=s;have I:∀G,(⟨hp,g,d,G,os⟩:L').TypeIs (.ref a) ff:=λ_=>{_,hx,M};have f1:=sub_AttributeError;have f3:=F.slot_list_getattribute.lookup;have f4:=F.slot_list_getattribute.bind (.ref a);have f5:=am_list_getattr_none;unfold getAttr? getAttrBy? getAttrBy
 repeat (any_goals (first|assumption|exact I _|((with_reducible show wpAny _ _ (call (Value.builtin "list.__getattribute__") _ _) _ _ _);refine call_meets F.slot_list_getattribute (I _) am_entry_list_getattribute (F.args_list_getattribute_2 _ _) (meets_getattribute_miss_list a xs k Z "keys" _ Je ∅) {hx,O,λh' G e hx'=>?_})|wp_step))
 let{t',u',he}:=hx'.there;show wpAny _ _ (getattributeRaised _ _ _ _ _ _ _) _ _ _;unfold getattributeRaised
 repeat (any_goals (first|assumption|wp_step))
 exact h _ _ hx'.keeps
end
namespace F
def entry_dict_update_loop:entryFor table "dict.update.loop"=some Builtin.«dict.update.loop»:=entryFor_of_tree (by kernel_rfl)
def plain_dict_update_loop:plainId "dict.update.loop"=true:=by decide+kernel
end F
section
variable{prog:Sr}{w:Ss}{K:Type}[DecidableEq K]{knd:KeyKind prog w K}{A:Sv}{R:Result->Shared->Prop}{s:L'}
def Jc{E:Sw}{p:K'}{k v:Sk}{Q:List Value->Shared->Prop}(hp:s.heap.IsTuple p #[k,v])(h:Q [k,v] s):wpAny (model prog w) A (Builtin.Dict.pairItems<|.ref p) Q E s:=by
 let{o,z,hc,n,hd}:=hp;have G:s.TypeIs (.ref p) oo:={_,z,hc};unfold Builtin.Dict.pairItems;refine Wp<|wpAny_typeOf G ?_;have e:((Value.type oo==Value.type ff)||(Value.type oo==Value.type oo))=true:=by decide
 rw[Wn e];let{hp,g,d,tk,os}:=s;let{c,I,O,U}:=o;simp only at hc hd;subst hc hd
 repeat (any_goals (first|assumption|wp_step))
def Jf{I ax D:K'}{items:Tc}{ps:List (K×Value)}{h₀:Heap}(hh:A.handled=none)(a1:ax≠I)(G:D≠I)(a2:D≠ax)(n0:h₀.get? D=none)(n1:h₀.get? I=none)(hl:ps.length<=sizeLine)
  (hi:∀(j:Nat)(v:Sk),items[j]?=some v->∃p k key x,v= .ref p/\ps[j]?=some (k,x)/\knd.is k key=true/\h₀.IsTuple p #[key,x]) (hs:ps.length=items.size):
  ∀(n i:Nat)(s:L'),items.size-i=n->i<=items.size->s.heap.IsListIter I ax i->s.heap.IsList ax items->(∀b o,h₀.get? b=some o->s.heap.get? b=some o)->s.heap.DictOf knd D (merged []<|ps.take i)->
   (∀h' tk,(∀b o,h₀.get? b=some o->h'.get? b=some o)->h'.DictOf knd D (merged [] ps)->R (.ok<|.ret .none) {s with heap:=h',toks:=tk})->
   codeAny (model prog w) A (.builtin "dict.update.loop" {[.ref D,.ref I,rawInt i,.none],[]}) R s:=by
 intro n
 induction n with
 |zero=>
  intro i s hn hi' it il kp dd hR;have e:i=items.size:=();subst e;refine codeAny_builtin F.entry_dict_update_loop ?_;rw[Around.under_plainId F.plain_dict_update_loop _];show wpAny _ A.in1 (pyNext (.ref I)>>=_) _ _ s;have a3:A.in1.handled=none:=by simp[hh]
  refine Wp<|wpAny_pyNext_list_end a3 it il (by simp) λh' Y=>?_;show wpAny _ A.in1 (Builtin.Dict.addKeywords D []>>=_) _ _ _;refine Wp<|Wx (Wx ?_);rw[Z1 (ZA hs)]at dd;refine hR h' s.toks (λb o e=>Y b o (λz=>by rw[z,n1]at e;cases e)<|kp b o e) ?_;exact dd.at λo e=>Y D o G e
 |succ n ih=>
  intro i s hn hi' it il kp dd hR;have O:i<items.size:=();refine codeAny_builtin F.entry_dict_update_loop ?_;rw[Around.under_plainId F.plain_dict_update_loop _];show wpAny _ A.in1 (pyNext (.ref I)>>=_) _ _ s;refine Wp<|wpAny_pyNext_list_item it il (x:=items[i]) (by simp[O]) λh' Z U=>?_;let{p,k,key,x,ev,ep,hk,tp}:=hi i items[i] (by simp[O]);rw[ev];have a0:∀b o,h₀.get? b=some o->h'.get? b=some o:=λb o e=>U.extBut b o (λz=>by rw[z,n1]at e;cases e) (kp b o e);have a4:h'.IsTuple p #[key,x]:=tp.at λo e=>a0 p o e;show wpAny _ A.in1 (holding [Value.ref p] _>>=_) _ _ _;refine Wp<|WH (Wp<|wpAny_tryCatch<|Jc a4 ?_);show wpAny _ _ (holding [key,x]<|dictSet D key x) _ _ _;refine WH<|wpAny_dictSet_pairs hk (kvs:=merged []<|ps.take i) ?_ (λh2 d2 s2=>?_) ?_
  .exact dd.at λo e=>U.extBut D o G e
  .refine Wx {plainId_quiet F.plain_dict_update_loop _,ih (i+1) _ () O ?_ ?_ ?_ ?_ λh3 tk k3 d3=>hR h3 tk k3 d3}
   .exact Z.at λo e=>(s2.2 I<|Ne.symm G).trans e
   .exact(il.at λo e=>U.extBut ax o a1 e).at λo e=>(s2.2 ax<|Ne.symm a2).trans e
   .exact λb o e=>(s2.2 b<|λz=>by rw[z,n0]at e;cases e).trans (a0 b o e)
   .rwa[merged_take_succ _ _ _ _ ep]
  .have:=merged_length_le [] (ps.take i);rw[Q9]at this;simp only[XJ]at this;lia
end
variable{E Q:Sw}
section
variable{prog:Sr}{w:Ss}{K:Type}[DecidableEq K]{knd:KeyKind prog w K}{A:Sv}{s:L'}
def Jh{l:K'}{items:Tc}{ps:List (K×Value)}(O:A.handled=none)(hl:PlainL s.heap l items)(hsz:ps.length<=sizeLine)
  (hi:∀(j:Nat)(v:Sk),items[j]?=some v->∃p k key x,v= .ref p/\ps[j]?=some (k,x)/\knd.is k key=true/\s.heap.IsTuple p #[key,x]) (hs:ps.length=items.size)
  (h:∀h' tk,h'.DictOf knd s.heap.objs.size (merged [] ps)->(∀b o,s.heap.get? b=some o->h'.get? b=some o)->Q (.ref s.heap.objs.size) {s with heap:=h',toks:=tk}):
  wpAny (model prog w) A (call (.type "dict") [.ref l]) Q E s:=by
 refine callType_codes (Q₁:=λobj s₁=>obj= .ref s.heap.objs.size/\s₁={s with heap:=s.heap.push {cls:= .type "dict",data:= .dict #[]}}) F.kt_called_dict (F.kt_typeCall_dict_1 _) F.entry_dict_init (kt_code_dict_new _ ⟨M,M⟩) ?_;rintro obj s₁ ⟨rfl,rfl⟩;have z:(s.heap.push {cls:= .type "dict",data:= .dict #[]}).DictOf knd s.heap.objs.size []:=Heap.DictOf.new s.heap;let{o,n,U,hc,hd,I}:=hl;have G:(s.heap.push {cls:= .type "dict",data:= .dict #[]}).get? l=some o:=Wo _ U;have lD:l<s.heap.objs.size:=Ww U;refine{z.typeIs,F.args_dict_init_2 _ _,?_};unfold Builtin.«dict.__init__»;refine Wp ?_;unfold Builtin.Dict.selfAndRest;refine Wp<|wpAny_notOrdered_dict z.typeIs ?_;show wpAny _ _ (pure (s.heap.objs.size,[Value.ref l])) _ _ _;refine Wx ?_;show wpAny _ _ (Builtin.Dict.updateFrom "dict.__init__" s.heap.objs.size (.ref l) [] .none) _ _ _;unfold Builtin.Dict.updateFrom;refine Wp<|wpAny_typeOf (show Shared.TypeIs _ (.ref l) ff from{_,G,hc}) ?_;rw[Wn (_)];refine Wp<|Jg G hc I hd O λh1 Z k1=>?_;simp only[Option.isNone_none,if_true];refine Wp<|WZ ?_;have l1:h1.IsList l items:={_,k1 _ _ G,hc,n,I};refine Wp<|wpAny_pyIter_list l1 ?_;have D1:h1.DictOf knd s.heap.objs.size []:=z.at λo e=>k1 _ _ e;have sl:l<h1.objs.size:=Ww (k1 _ _ G);have Y:s.heap.objs.size<h1.objs.size:=by let{o',_,_,e,_}:=D1;exact Ww e
 refine Wx {by first|rfl|exact plainId_quiet F.plain_dict_update_loop _,?_};refine Jf (knd:=knd) (h₀:=s.heap) (ax:=l) (by simp[O]) (Zb sl) (Zb Y) (V4 lD) (WT<|Q4 _) (WT<|Zq Y) hsz hi hs _ 0 _ M (QT _) ?_ ?_ ?_ ?_ ?_
 .exact{_,Wy _ M,M,M}
 .exact l1.push _
 .exact λb o e=>Wo _ (k1 _ _<|Wo _ e)
 .exact D1.push _
 .exact λh' tk kp dd=>{M,h h' tk dd kp}
end
end PySem
namespace L2
open PySem PySem.Spec PyProof.Rows
variable{d:K'}{X:Cx}{tg:Expr}{H:Hp}{hi lo st:Int}{R:It->Hp->Prop}{W:So}{kvs:Ta}{vs wb:Ti}{ob:Obj}{P:Sr}{K:JZ}{s:L'}{B:St}{nx:To}{g:TG}{tb:TS}{rt:VK}{E:Sw}{w:Ss}
theorem Cp(I:Inv X W B H s):∀{ts:List (Addr×Key×V)}{us:Sl},M2 (ts.map λe=>V.ref e.1) us->(∀e∈ts,Px X.K H e.1 [kV e.2.1,e.2.2])->∃ps:List (Key×Value),KV (ts.map (·.2)) ps/\∀(j:Nat)(v:Sk),us[j]?=some v->∃p k key x,v= .ref p/\ps[j]?=some (k,x)/\(a7 X.prog X.w).is k key=true/\s.heap.IsTuple p #[key,x]
 | [],_,.nil,_=>{[],.nil,λj v h=>by cases j<;>cases h}
 |e::r,_,.cons h1 h2,tu=>by
  let{ps,kv,g}:=Cp I h2 λy hy=>tu y (QM _ hy);cases h1;let{its,rv,tp,_}:=I.tuple (tu e QK);let{a,b,rfl,ra,rb}:=ME rv;refine{(e.2.1,b)::ps,.cons ⟨M,rb⟩ kv,λj v h=>?_};cases j with
  |zero=>cases h;exact{_,_,_,_,M,M,sk ra,tp}
  |succ j=>exact g j v h
def D8(G:X.A.handled=none):gV X (.type "dict") (λxs H Q=>∃(a:K')(ts:List (Addr×Key×V)),xs=[.ref a]/\E7 X.K H a (ts.map λe=>V.ref e.1)/\(∀e∈ts,Px X.K H e.1 [kV e.2.1,e.2.2])/\∀p,H p=none->Q (.ref p) (upd H p (.dK (ud [] (ts.map (·.2)))))):=by
 intro W s B H xs us Q I r h;let{a,ts,rfl,hl,tu,q}:=h;let{u,rfl,O}:=pG r;cases O;let{its,rv,pl,z}:=I.list hl;let{ps,kv,g}:=Cp I rv tu;have l1:ts.length=ps.length:=by have:=kv.length;rwa [Q0]at this
 have Z:ts.length=its.length:=by have:=rv.length;rwa [Q0]at this
 rw[Q0]at z;refine Jh (knd:=a7 X.prog X.w) (ps:=ps) G pl () (λj v e=>g j v<|by simpa using e) (by rw[QQ];lia) λh' tk dd U=>?_;let{_,nm,_}:=sJ (P:=X.prog) (w:=X.w) (H:=H) s.heap I.big;have Y:(ud [] (ts.map (·.2))).length<=sizeLine:=by
  have:=w9 (kvs:=[]) (more:=ts.map (·.2));rw[Q0]at this;simp only[XJ]at this;lia
 refine{.ref s.heap.objs.size,_,I.laid (a:=s.heap.objs.size) (o:= .dK (ud [] (ts.map (·.2)))) (t':=tk) U (Q4 _) {Y,nm,_,kv.mrg .nil,dd},M,q _<|I.hok.fresh (Q4 _)}
def Lk{A:Sv}{I:Ta}(rb:KV I wb):∀{ka:Ta}{z:Ti},KV ka z->(∀p∈ka,Fl p.2/\aH I p.1=some p.2)->PySem.W.KeqHits A s wb z true:=λ{ka z} h=>by
 induction h with
 |nil=>exact λ_=> .nil
 | @cons p q r wr h1 h2 O=>
  intro g;let{f,e}:=g p QK;let{k,v}:=p;let{k',u}:=q;let{G,rv}:=h1;have G:k=k':=G;subst G;let{y,hy,U}:=Qj.some_of (v:=v) (o:=valueAt wb k) (by rw[<-e];exact rb.val k);exact .hit (e:=true) (b:=true) hy (AU f rv U)<|O λq hq=>g q (QM _ hq)
noncomputable def SI(a d:K'):HO:= .ext λh=>h.IsValuesView a d
def Itw(ob:Obj)(d:K')(kvs:Ta):It:=
 {λi H=>H d=some (.frz ob<|.dK kvs)/\i<kvs.length,λi H x H'=>H'=H/\∃k,kvs[i]?=some (k,x),λi H=>H d=some (.frz ob<|.dK kvs)/\kvs.length<=i}
def Fq{ep:Nat}(it:K')(D:DObj P w ob d kvs vs ep):
  Ee P w K tg (Itw ob d kvs) [it] it (λi h=>h.IsValIter it d i vs.length ep) where
 mem:=by simp
 obj:=λi h st b hb=>by
  have z:b=it:=by simpa using hb
  subst z;let{o,e,c,dd}:=st;exact{o,e,λv z=>by rw[dd]at z;cases z}
 keep:=λi h h' st k=>by
  let{o,e,r}:=st;exact{o,k it (by simp) _ e,r}
 item:=by
  intro X U hw hK hc i W s B H E I hf st Y;subst U hw hK;let{hq,hi}:=Y;let{Z,f1,f2,f3,f4,f5}:=hf it (by simp);let{G,_}:=I.hok d _ hq;have O:=D.2 s.heap G;obtain⟨⟨k,v⟩,hx⟩:∃kv,kvs[i]?=some kv:={kvs[i],by simp[hi]};let{u,hu,ru}:=KV.getI D.1 hx;refine wpAny_pyNext_values_item st O hu λh' st' sb=>?_;have I1:Inv X W B H {s with heap:=h'}:=I.turned (t':=s.toks) (λb o hb e=>(sb.2 b hb).trans e) Z f1 f3 f4 f5;let{o,e,c,dd}:=id st';exact{u,M,Cg (s:={s with heap:=h'}) e c dd (_) {v,H,I1,ru,⟨M,k,hx⟩,st',λb hb=>(hf b hb).1}}
 done:=by
  intro X U hw hK hc i W s B H E I hf st Y;subst U hw hK;let{hq,hi}:=Y;let{G,_}:=I.hok d _ hq;have O:=D.2 s.heap G;let{Z,f1,f2,f3,f4,f5}:=hf it (by simp);have hl:kvs.length=vs.length:=D.1.length;exact wpAny_pyNext_values_end (I.ok.hd hc) st O (by simp;lia) λh' eb=>{M,I.turned (t':=s.toks) (λb o hb e=>eb b o hb e) Z f1 f3 f4 f5}
 self:=λ_ _ _ _ _ st h=>wpAny_pyIter_valiter st h
inductive OE(x:V)(vs:Sm)(H:Hp)(Q:VK):Prop
 |mk(d kvs:_)(_:x= .ref d)(_:vs=[])(_:H d=some (.dK kvs))(_:∀a,H a=none->Q (.ref a) (upd H a<|SI a d))
def FU:SD X "dict.values" OE:=by
 intro W s B H x vs v us Q I G rv h;let{d,kvs,rfl,rfl,hd,q}:=h;cases G;cases rv;let{z,lo,O,U,dd}:=kO I.hok hd;refine WX PySem.F.slot_dict_values dd.typeIs PySem.F.entry_dict_values (PySem.F.args_dict_values_1 _) (meets_dict_values (a7 X.prog X.w) d lo) {⟨O,dd⟩,?_};have new:(s.heap.push {cls:= .type "dict_values",data:= .fields #[.ref d]}).get? s.heap.objs.size=some {cls:= .type "dict_values",data:= .fields #[.ref d]}:=Wy _ M;refine{.ref s.heap.objs.size,_,I.laid (t':=s.toks) (λb o e=>Wo _ e) (Q4 _) (show P7 X.prog X.w _ _ _ (SI s.heap.objs.size d) from{{_,new,M,M},{_,new},λh1 h2 p k=>?_}),M,q _<|I.hok.fresh (Q4 _)};let{o,e,c}:=p;exact{o,k o e,c}
def OY(te:TE):TI:=λB H R=>te B H λx H1=>∃a d kvs,x= .ref a/\H1 a=some (SI a d)/\H1 d=some (.dK kvs)/\∀ob,R (Itw ob d kvs) (upd H1 d<|.frz ob<|.dK kvs)
def KI{l:Expr}{te:TE}(hl:PE X l te):PI X tg l (OY te):=by
 intro W s B H R I h;refine P8 (hl W s B H _ I h) λv s1 O=>?_;let{x,H1,U,r1,q1}:=O;let{a,d,kvs,e,ha,hd,q}:=q1;subst e;cases r1;let{z,lo,vs,Y,dd}:=kO U.hok hd;let{ep,G}:=dd.dictAt;let{vw,_,_}:=(show P7 X.prog X.w H1 s1.heap a (SI a d) from U.hok a _ ha);let{ob,es,Z,rest}:=id G;refine wpAny_pyIter_values vw G ?_;have If:=U.freeze hd Z;refine{s1.heap.objs.size,[s1.heap.objs.size],_,_,_,M,If.kept (t':=s1.toks) λb o e=>Wo _ e,Fq _ {Y,λh e=>⟨ob,es,e,rest⟩},{_,Wy _ M,M,M},λb hb=>?_,q ob};have e:b=s1.heap.objs.size:=by simpa using hb
 subst e;exact If.fpOk (Q4 _)<|If.hok.fresh (Q4 _)
def IR(Pv:Tu)(O:Pv 0 B H)(hl:∀i B H,i<=kvs.length->Pv i B H->H d=some (.frz ob<|.dK kvs))
  (hs:∀i k v B H,kvs[i]?=some (k,v)->Pv i B H->g v B H λG H2=>tb {Pv<|i+1,rt,nx,Pv<|i+1} G H2) (hd:∀B H,Pv kvs.length B H->nx B H):
  ∃J0:Nat->Nat->St->Hp->Prop,(∃m,J0 0 m B H)/\∀i m B H,J0 i m B H->
   ((Itw ob d kvs).stop i H/\nx B H)\/((Itw ob d kvs).go i H/\∃N:St->Hp->Prop,(∀I H',N I H'->∃m',m'<m/\J0 (i+1) m' I H')/\∀x H',(Itw ob d kvs).yld i H x H'->g x B H' λG H2=>tb ⟨N,rt,nx,N⟩ G H2):=by
 refine{λi m B H=>m=kvs.length-i/\i<=kvs.length/\Pv i B H,{kvs.length,by simp,QT _,O},?_};rintro i m B H ⟨rfl,hi,p⟩;have q:=hl i B H hi p;by_cases lt:i<kvs.length
 .refine .inr {⟨q,lt⟩,Pv<|i+1,λI H' z=>{kvs.length-(i+1),(),M,lt,z},λx H' y=>?_};let{rfl,k,e}:=y;exact hs i k x B _ e p
 .have e:i=kvs.length:=();subst e;exact .inl {{q,Q4 _},hd B H p}
def GJ(lo st:Int)(n:Nat):It:={λi _=>i<n,λi H x H'=>H'=H/\x= .int (lo+i*st),λi _=>n<=i}
def Bt(it:K')(lo st:Int)(n:Nat):Ee P w K tg (GJ lo st n) [it] it (λi h=>IsRangeIter h it (lo+(i:Nat)*st) ((n:Int)-(i:Nat)) st) where
 mem:=by simp
 obj:=λi h G b hb=>by
  have e:b=it:=by simpa using hb
  subst e;exact{_,G,λv z=>by
   have z':Data.fields _=Data.cell v:=z;cases z'}
 keep:=λi h h' G k=>k it (by simp) _ G
 item:=by
  intro X O hw hK hc i W s B H E I hf G U;subst O hw hK;let{Y,Z,f2,f3,f4,f5}:=hf it (by simp);have J0:=Walks.range (prog:=X.prog) (w:=X.w) (I.ok.hd hc) it lo st n;refine J0.item i s _ _ U G λv h' tk hv st' kk=>?_;let{t,rfl}:=hv;have I1:Inv X W B H {s with heap:=h',toks:=tk}:=I.turned (λb o hb e=>kk b o (by simpa using hb) e) Y Z f3 f4 f5;exact{_,M,Cg (s:={s with heap:=h',toks:=tk}) (n:="range_iterator") st' M M (_) {.int<|lo+i*st,H,I1,⟨t,M⟩,⟨M,M⟩,st',λb hb=>(hf b hb).1}}
 done:=by
  intro X O hw hK hc i W s B H E I hf G U;subst O hw hK;let{Y,Z,f2,f3,f4,f5}:=hf it (by simp);exact wpAny_pyNext_range_end (I.ok.hd hc) G (by have:n<=i:=U;lia) λh' eb=>{M,I.turned (t':=s.toks) (λb o hb e=>eb b o hb e) Y Z f3 f4 f5}
 self:=λ_ _ _ _ _ G h=>wpAny_pyIter_rangeiter G h
noncomputable def qQ(lo hi st:Int):Nat:=(Builtin.Range.rangeSize lo hi st).toNat
def pK(h:0<st):Builtin.Range.rangeSize lo hi st=if lo<hi then(hi-lo-1)/st+1 else 0:=by
 unfold Builtin.Range.rangeSize;rw[Wn h]
def Aw(h:0<st)(z:0<=lo)(h1:0<=hi):0<=Builtin.Range.rangeSize lo hi st/\Builtin.Range.rangeSize lo hi st<=hi:=by
 rw[pK h];split
 .have a:0<=(hi-lo-1)/st:=W8 () ();have b:(hi-lo-1)/st<=hi-lo-1:=Int.ediv_le_self _ ();lia
 .lia
def FG{t u v:Tok}{tk:Nat}(I:Inv X W B H s)(h1:0<=lo)(h2:lo<2^30)(Y:0<=hi)(Z:hi<2^30)(U:0<st)(h6:st<2^30)
  (q:R (GJ lo st<|qQ lo hi st) H):Bf X (pyIter<|.ref s.heap.objs.size) (PIE X W B tg R) E {s with heap:=s.heap.push {cls:= .type sL,data:= .fields #[.int lo t,.int hi u,.int st v]},toks:=tk}:=by
 have bd:=Aw (lo:=lo) (hi:=hi) U h1 Y;refine wpAny_pyIter_range (IsRange.new ..) ?_ ?_
 .unfold Builtin.Range.small;simp only[Builtin.Range.rangeFitsLong,Zf,Bool.or_eq_true,WB,WA,U,if_true];generalize Builtin.Range.rangeSize lo hi st=n at bd⊢;have z:(2:Int)^63=9223372036854775808:=by decide
  have G:(2:Int)^30=1073741824:=by decide
  rw[G]at h2 Z h6
  try rw[z]
  lia
 have O:Inv X W B H {s with heap:=s.heap.push {cls:= .type sL,data:= .fields #[.int lo t,.int hi u,.int st v]},toks:=tk}:=I.kept λb o e=>Wo _ e;refine{(s.heap.push {cls:= .type sL,data:= .fields #[.int lo t,.int hi u,.int st v]}).objs.size,[(s.heap.push {cls:= .type sL,data:= .fields #[.int lo t,.int hi u,.int st v]}).objs.size],_,_,H,M,
  O.kept (t':=tk) λb o e=>Wo _ e,Bt _ lo st<|qQ lo hi st,?_,λb hb=>?_,q}
 .have e1:lo+((0:Nat):Int)*st=lo:=by simp
  have e2:((qQ lo hi st:Nat):Int)-((0:Nat):Int)=Builtin.Range.rangeSize lo hi st:=by unfold qQ;lia
  show IsRangeIter _ _ (lo+((0:Nat):Int)*st) (((qQ lo hi st:Nat):Int)-((0:Nat):Int)) st;rw[e1,e2];exact Wy _ M
 .have e:b=(s.heap.push {cls:= .type sL,data:= .fields #[.int lo t,.int hi u,.int st v]}).objs.size:=by simpa using hb
  subst e;exact O.fpOk (Q4 _)<|O.hok.fresh (Q4 _)
def OZ(ta:TA):TI:=λB H R=>ta B H λvs H1=>∃i j k:Int,vs=[.int i,.int j,.int k]/\(0<=i/\i<2^30/\0<=j/\j<2^30/\0<k/\k<2^30)/\R (GJ i k<|qQ i j k) H1
def FJ{a b c:Expr}{ta:TA}{p pos:Pos}(Z:Gl X sL)(hm:X.mg sL=none)(ha:PA X [a,b,c] ta)(hs:starEach [a,b,c] X.env=[(false,eval a X.env),(false,eval b X.env),(false,eval c X.env)]:=by rfl)
  (z:starEach [b,c] X.env=[(false,eval b X.env),(false,eval c X.env)]:=by rfl):PI X tg (.Call (.Name sL p) [a,b,c] [] pos) (OZ ta):=by
 intro W s B H R I h;refine Call_<|uh I Z hm boot_range (PyProof.Rows.callWith_type1 (P8 (ha pos W s B H _ I h) λus s1 O=>?_) (by rw[hs,z])<|by rw[z];rfl);let{vs,H1,I1,r1,U}:=O;let{i,j,k,e,{U,q2,q3,q4,q5,q6},q}:=U;subst e;cases r1 with
 |cons r G=>
  cases G with
  |cons r' G=>
   cases G with
   |cons Y G=>
    cases G;let{t,rfl}:=r;let{t',rfl}:=r';let{a0,rfl}:=Y;exact call_range_3 () (FG I1 U q2 q3 q4 q5 q6 q)<|.inl (PyProof.noPylong_small ())
def Ch{n:Nat}(Pv:Tu)(O:Pv 0 B H)
  (hs:∀i B H,i<n->Pv i B H->g (.int<|lo+i*st) B H λz H2=>tb {Pv<|i+1,rt,nx,Pv<|i+1} z H2) (hd:∀B H,Pv n B H->nx B H):
  ∃J0:Nat->Nat->St->Hp->Prop,(∃m,J0 0 m B H)/\∀i m B H,J0 i m B H->
   ((GJ lo st n).stop i H/\nx B H)\/((GJ lo st n).go i H/\∃N:St->Hp->Prop,(∀G H',N G H'->∃m',m'<m/\J0 (i+1) m' G H')/\∀x H',(GJ lo st n).yld i H x H'->g x B H' λz H2=>tb ⟨N,rt,nx,N⟩ z H2):=by
 refine{λi m B H=>m=n-i/\i<=n/\Pv i B H,{n,by simp,QT _,O},?_};rintro i m B H ⟨rfl,hi,p⟩;by_cases I:i<n
 .refine .inr {I,Pv<|i+1,λG H' U=>{n-(i+1),(),M,I,U},λx H' y=>?_};let{e,y}:=y;subst e y;exact hs i B _ I p
 .have e:i=n:=();subst e;exact .inl {Q4 _,hd B H p}
open Srt
section
variable{X:Cx}
def K3f(H:Hp)(a:K')(k:R'):Prop:=∃i j m:Int,H a=some (.tup [.int i,.int j,.int m])/\k=[i,j,m]
def vL{x y z:V}{its:Sl}(r:M2 [x,y,z] its):∃u v w,its=[u,v,w]/\RelV x u/\RelV y v/\RelV z w:=by
 cases r with
 |cons r1 r=>
  let{v,w,rfl,h2,G}:=qZ r;exact{_,v,w,M,r1,h2,G}
def yW:gV X (.builtin zm) (λvs H Q=>∃(p:K')(as:Su)(ky:Addr->List Int),vs=[.ref p]/\E7 X.K H p (as.map V.ref)/\(∀a∈as,K3f H a (ky a))/\
  ∀(l:K')(bs:Su),H l=none->bs.Perm as->bs.Pairwise (λa b=>HT.lexLt (ky b) (ky a)=false)->Q (.ref l) (upd H l<|.lst<|bs.map V.ref)):=by
 intro W s B H xs us Q I r h;let{p,as,ky,rfl,hq,hk,q}:=h;let{u,rfl,ru}:=pG r;cases ru;let{its,rv,pl,hz}:=I.list hq;refine FA (κ:=tuples'<|Value.type "int" !=Value.type oo) (ky:=kRef ky) I hz rv pl.isList (λh' k h2 Q' G=>?_) (λh' k x y u v E' Q' hx hy rx ry G=>?_) λl ys hl pm pw=>?_
 .have tups:∀(bs:Su)(U:Sl),(∀a∈bs,K3f H a (ky a))->M2 (bs.map V.ref) U->∃fs:List Value,PySem.W.KatTups h' U fs/\(∀f∈fs,∃i t,f=Value.int i t)/\fs.length=U.length:=by
   intro bs
   induction bs with
   |nil=>intro U _ r;cases r;exact{[],.nil,λ_ h=>Ws h ZU,M}
   |cons a bs ih=>
    intro U hk r;cases r with
    |cons r1 r2=>
     cases r1;let{fs,t,hi,hl}:=ih _ (λb hb=>hk b<|QM _ hb) r2;let{i,j,m,ha,_}:=hk a QK;let{o,Y,n,O,e,c,d}:=Dh I ha k;let{u1,u2,u3,rfl,q1,q2,q3}:=vL O;let{Z,rfl}:=q1;refine{Value.int i Z::fs,.cons e c d M t,λf hf=>?_,by rw[QW,QW,hl]};rcases QS.mp hf with z|z
     .exact⟨i,Z,z⟩
     .exact hi f z
  let{fs,t,hi,hl}:=tups as its hk rv;refine PySem.W.kat_kind (T:= .type "int") t () (λv hv=>?_) ∅ G;let{i,t,rfl}:=hi v hv;exact PySem.W.Looks.of_pure M
 .let{a,ha,rfl}:=QJ.mp hx;let{b,hb,rfl}:=QJ.mp hy;cases rx;cases ry;let{i,j,m,ea,ka}:=hk a ha;let{i',j',m',eb,kb}:=hk b hb;have G:Q' (HT.lexLt (ky a)<|ky b) {s with heap:=h'}:=G;rw[ka,kb,HT.lexLt_cons,HT.lexLt_cons,HT.lexLt_cons,HT.lexLt_nil_nil]at G;let{o,a2,n,a0,e1,c1,d1}:=Dh I ea k;let{u1,u2,u3,rfl,{Z,rfl},{t2,rfl},{t5,rfl}}:=vL a0;let{o',Y,n',O,e2,c2,d2}:=Dh I eb k;let{w1,w2,w3,rfl,{t3,rfl},{t4,rfl},{t6,rfl}}:=vL O;refine PySem.W.kat_lt e1 d1 e2 d2<|VY (SeqAt.EqAt.int_int _ _ _ _ _ _ _ _<|Wi (λe=>W9 ?_)<|λe=>Wj ?_)
  .rw[Wn (WA.mp e)]at G;refine VY<|SeqAt.EqAt.int_int _ _ _ _ _ _ _ _ (Wi (λe=>W9 ?_)<|λe=>Wj ?_)
   .rw[Wn (WA.mp e)]at G;refine VY<|SeqAt.EqAt.int_int _ _ _ _ _ _ _ _ (Wi (λe=>W9 ?_)<|λe=>Wj ?_)
    .rw[Wn (WA.mp e)]at G;exact PySem.W.kat_nil<|by simpa using G
    .rw[Wm (WC.mp e)]at G;exact PySem.W.kat_one _ _<|lt_int G
   .rw[Wm (WC.mp e)]at G;exact PySem.W.kat_one _ _<|lt_int G
  .rw[Wm (WC.mp e)]at G;exact oneLt_int G
 .let{bs,rfl,a1}:=FK pm;exact q l bs hl a1<|Zr.mp pw
end
end L2
namespace L2
open PySem PySem.Spec PyProof.Rows
variable{tg:Expr}{K:JZ}
def Itv(K:JZ)(a:K')(n:Nat):It:=
 {λi H=>i<n/\∃xs x,E7 K H a xs/\xs[n-1-i]?=some x,λi H x H'=>H'=H/\∀xs,E7 K H a xs->xs[n-1-i]?=some x,λi _=>n<=i}
def G9{P:Sr}{w:Ss}(a it:K')(n:Nat):Ee P w K tg (Itv K a n) [it] it (λi h=>i<=n/\h.IsRevIter it a ((n:Int)-1-(i:Int))) where
 mem:=by simp
 obj:=λi h st b hb=>by
  have e:b=it:=by simpa using hb
  subst e;let{_,o,e,c,d}:=st;exact{o,e,λv z=>by rw[d]at z;cases z}
 keep:=λi h h' st k=>{st.1,st.2.at λo e=>k it (by simp) o e}
 item:=by
  intro X O hw hK hc i W s B H E I hf st U;subst O hw hK;let{hi,xs,x,hq,hx}:=U;let{its,rv,p,hz}:=I.list hq;let{u,hu,ru}:=rv.get hx;let{Y,Z,f2,f3,f4,f5}:=hf it (by simp);have e1:(n:Int)-1-(i:Int)=((n-1-i:Nat):Int):=();have G:=st.2;rw[e1]at G;refine wpAny_pyNext_rev_item G p.isList (x:=u) (by simpa using hu) λh' st' sb=>?_;have e2:((n-1-i:Nat):Int)-1=(n:Int)-1-((i+1:Nat):Int):=();rw[e2]at st';have I1:Inv X W B H {s with heap:=h'}:=I.turned (t':=s.toks) (λb o hb e=>(sb.2 b hb).trans e) Y Z f3 f4 f5;let{o,e,c,d}:=id st';exact{u,M,Cg (s:={s with heap:=h'}) e c d (_) {x,H,I1,ru,{M,λys hy=>by rwa[I.list_inj hy hq]},⟨hi,st'⟩,λb hb=>(hf b hb).1}}
 done:=by
  intro X O hw hK hc i W s B H E I hf st U;subst O hw hK;let{Y,Z,f2,f3,f4,f5}:=hf it (by simp);have G:=st.2;have hn:n<=i:=U;have e:(n:Int)-1-(i:Int)= -1:=by have:=st.1;lia
  rw[e]at G;exact wpAny_pyNext_rev_end (I.ok.hd hc) G λh' eb=>{M,I.turned (t':=s.toks) (λb o hb e=>eb b o hb e) Y Z f3 f4 f5}
 self:=λ_ _ _ _ _ st h=>wpAny_pyIter_revIter st.2 h
section
variable{X:Cx}
def iRev(K:JZ)(ta:TA):TI:=λB H R=>ta B H λvs H1=>∃a xs,vs=[.ref a]/\E7 K H1 a xs/\R (Itv K a xs.length) H1
def M9{a:Expr}{ta:TA}{p pos:Pos}(O:Gl X "reversed")(U:X.mg "reversed"=none)(ha:PA X [a] ta)(hs:starEach [a] X.env=[(false,eval a X.env)]:=by rfl):PI X tg (.Call (.Name "reversed" p) [a] [] pos) (iRev X.K ta):=by
 intro W s B H R I h;refine Call_<|uh I O U Boot.«reversed» (PyProof.Rows.callWith_type1 (P8 (ha pos W s B H _ I h) λus s1 G=>?_) hs M);let{vs,H1,z,r1,Y}:=G;let{b,xs,e,hq,q}:=Y;subst e;cases r1 with
 |cons r Z=>
  cases Z;cases r;let{its,rv,p,hz}:=z.list hq;have hl:=rv.length;refine call_reversed_list p.isList ?_;refine wpAny_pyIter_revIter (l:=b) (i:=(its.toArray.size:Int)-1) {_,Wy _ M,M,M} ?_;refine{s1.heap.objs.size,[s1.heap.objs.size],_,_,H1,M,z.kept (t':=s1.toks) λb o e=>Wo _ e,G9 b _ xs.length,{QT _,?_},λb hb=>?_,q}
  .have e:(xs.length:Int)-1-((0:Nat):Int)=(its.toArray.size:Int)-1:=by simp;lia
   rw[e];exact{_,Wy _ M,M,M}
  .have e:b=s1.heap.objs.size:=by simpa using hb
   subst e;exact z.fpOk (Q4 _)<|z.hok.fresh (Q4 _)
end
def Gy{a D:K'}{xs:Sm}{te:TE}{tc:TT}{B:St}{H1:Hp}{Fin:Hp->Prop}(Pv:Ts)(G:Pv 0 [] (upd H1 D<|.lst []))(hl:∀i ys H,i<=xs.length->Pv i ys H->E7 K H a xs)
  (hs:∀i x ys H2,xs.reverse[i]?=some x->Pv i ys H2->H2 D=some (.lst ys)->tc (some x::B) H2 λb H4=>if b=true then te (some x::B) H4 (Pq xs.length i ys D Pv)else Qn xs.length i ys D Pv H4)
  (hd:∀ys H2,Pv xs.length ys H2->H2 D=some (.lst ys)->Fin H2):
  ∃J0:Nat->Nat->List V->Hp->Prop,(∃m,J0 0 m [] (upd H1 D<|.lst []))/\∀i m ys H2,J0 i m ys H2->H2 D=some (.lst ys)->
   ((Itv K a xs.length).stop i H2/\Fin H2)\/((Itv K a xs.length).go i H2/\∀x H3,(Itv K a xs.length).yld i H2 x H3->tc (some x::B) H3 λb H4=>if b=true then te (some x::B) H4 λy z=>z D=some (.lst ys)/\ys.length<sizeLine/\∃m',m'<m/\J0 (i+1) m' (ys++ [y]) (upd z D<|.lst<|ys++ [y])else H4 D=some (.lst ys)/\∃m',m'<m/\J0 (i+1) m' ys H4):=by
 refine{λi m ys H=>m=xs.length-i/\i<=xs.length/\Pv i ys H,{xs.length,by simp,QT _,G},?_};rintro i m ys H ⟨rfl,hi,p⟩ hD;have q:=hl i ys H hi p;by_cases lt:i<xs.length
 .refine .inr {{lt,xs,xs[xs.length-1-i]'(),q,Q3 _},λx H' y=>?_};let{e,y}:=y;subst e;exact hs i x ys _ (by rw[List.getElem?_reverse lt];exact y xs q) p hD
 .have e:i=xs.length:=();subst e;exact .inl {Q4 _,hd ys H p hD}
open SeqAt
variable{A:Sv}{xs:Sm}
section
variable{X:Cx}{W:So}{B:St}{H:Hp}{s:L'}
inductive M1(x:V)(vs:Sm)(H:Hp)(Q:VK):Prop
 |mk(a kvs k y:_)(_:x= .ref a)(_:vs=[kV k,y])(_:H a=some (.dK kvs))(_:(∀v,aH kvs k=some v->Q v (upd H a<|.dK<|bT kvs k)))(_:(aH kvs k=none->Q y H))
def HV:SD X "dict.pop" M1:=by
 intro W s B H x vs v us Q I Y rv h;let{a,kvs,k,y,rfl,rfl,O,Z,q2}:=h;cases Y;let{u,r,rfl,U,rr}:=qZ rv;cases l:aH kvs k with
 |some v=>exact Mm I O U l (.inr ⟨r,M⟩) λw' s4 z G=>{v,_,z,G,Z v l}
 |none=>exact NQ I O U l λs4 z=>{y,H,z,rr,q2 l}
def pE:List V->List V->Bool
 | [],[]=>true
 |x::xs,y::ys=>RW x y&&pE xs ys
 |_,_=>false
def q9(H:Hp)(a:K'):List V:=match H a with
 |some (.tup ys)=>ys
 |_=> []
theorem Cj:∀(xs ys:Sm),pE xs ys=((List.range<|min xs.length ys.length).all (λj=>RW (xs.getD j .non)<|ys.getD j .non)&&xs.length==ys.length)
 | [],[]=>rfl
 | [],y::ys=>by simp[pE]
 |x::xs,[]=>by simp[pE]
 |x::xs,y::ys=>by
  rw[pE,Cj xs ys,QW,QW,Nat.succ_min_succ,List.range_succ_eq_map,List.all_cons,List.all_map,Bool.and_assoc];congr 1;congr 1;rw[V0];simp
def SM{A:Sv}{us:Sl}(r:M2 xs us){j:Nat}(h:j<us.length):RelV (xs.getD j .non) us[j]:=by
 let{x,e,q}:=qU r j h;rw[QR,e];exact q
def rw_eq{p q:K'}{ys:Sm}(I:Inv X W B H s)(hu:A.units<cLine)(G:xs.all ir=true)(O:ys.all ir=true)(h1:Px X.K H p xs)(h2:Px X.K H q ys)(n:p≠q):EqAt A s (.ref p) (.ref q) (pE xs ys):=by
 let{U,r1,Y,_}:=I.tuple h1;let{Z,z,t2,_}:=I.tuple h2;have l1:=r1.length;have l2:=z.length;have:=RcAt.tuples (A:=A) (e:=λj=>RW (xs.getD j .non)<|ys.getD j .non) Y t2 hu (λj a b=>by
  have a:j<U.length:=by simpa using a
  have b:j<Z.length:=by simpa using b
  have e1:xs[j]?=some (xs.getD j .non):=by rw[QR,Q3 ()];rfl
  have e2:ys[j]?=some (ys.getD j .non):=by rw[QR,Q3 ()];rfl
  simpa using Jb (A:=A.in1) (s:=s) (SM (A:=A) r1 a) (SM (A:=A) z b) (Zp.mp G _<|Q1 e1) (Zp.mp O _<|Q1 e2))
 refine EqAt.of_refs n ?_;rw[Cj];simpa[<-l1,<-l2]using this
inductive rInR(K:JZ)(neg:Bool)(x y:V)(H:Hp)(Q:VK):Prop
 |mk(p l:K')(xs:Sm)(as:Su)(_:x= .ref p)(_:y= .ref l)(_:H p=some (.tup xs))(_:xs.all ir=true)(_:E7 K H l (as.map V.ref))(_:(∀a∈as,a≠p/\∃ys,H a=some (.tup ys)/\ys.all ir=true))(_:Q (.bl<|if neg then !(as.any λa=>pE (q9 H a) xs)else as.any λa=>pE (q9 H a) xs) H)
def Ld(H:Hp)(xs:Sm):Value->Bool
 | .ref a=>pE (q9 H a) xs
 |_=>false
def NE{l p:K'}{as:Su}(I:Inv X W B H s)(hu:A.units<cLine)(hp:H p=some (.tup xs))(G:xs.all ir=true)(O:∀a∈as,a≠p/\∃ys,H a=some (.tup ys)/\ys.all ir=true):∀u∈(as.map Value.ref),EqAt A s u (.ref p) (Ld H xs u):=λu z=>by
 let{a,ha,rfl}:=QJ.mp z;let{n,ys,e,f}:=O a ha;have:q9 H a=ys:=by unfold q9;rw[e]
 show EqAt A s (.ref a) (.ref p) (pE (q9 H a) xs);rw[this];exact rw_eq I hu f G (Px.of e) (Px.of hp) n
def Ng(K:JZ)(hK:X.K=K)(hu:X.A.units+20<cLine):Qs X (compareOp .In) (rInR K false):=by
 subst hK;intro W s B H x y v u Q I z G h;let{p,l,xs,as,rfl,rfl,hp,O,hl,U,q}:=h;cases z;cases G;let{its,r,pl,hz}:=I.list hl;cases Br r;refine SeqAt.in_listAt (Ld H xs) (PlainL.isL pl) (λw hw=>NE (l:=l) I (by first|lia|(show _+1<_;lia)) hp O U w<|by simpa using hw) {.bl _,H,I,M,?_};rw[show(as.map Value.ref).toArray.any (Ld H xs)=(as.map Value.ref).any (Ld H xs) by simp,List.any_map];exact q
end
variable{vs:Ti}{P:Sr}{w:Ss}
def DG{P':Sr}{w':Ss}:∀{es:List DictEntry}{vs:Ti},Pairs (a7 P w) es vs->Pairs (a7 P' w') es vs:=λ{es vs} h=>by
 induction h with
 |nil=>exact .nil
 |cons h1 h2 r z=>exact .cons h1 h2 z
def FN{e:DictEntry}:∀{es:List DictEntry}{vs:Ti},Pairs (a7 P w) es vs->e∈es->∃p∈vs,(a7 P w).is p.1 e.key=true:=λ{es vs} r h=>by
 induction r with
 |nil=>cases h
 |cons h1 _ r z=>
  rcases QS.mp h with rfl|h
  .exact{_,QK,h1}
  .let{p,hp,q}:=z h;exact{p,QM _ hp,q}
def zM{P':Sr}{w':Ss}{h:Heap}{a:K'}(d:h.DictOf (a7 P w) a vs)(hi:∀p∈vs,∃i:Int,p.1= .inl i):h.DictOf (a7 P' w') a vs:=by
 let{o,es,ep,G,hx,hd,hk,hp,I}:=d;refine{o,es,ep,G,hx,hd,λe he=>?_,DG hp,I};let{k,h1,h2}:=hk e he;let{p,O,U}:=FN hp (Array.mem_toList_iff.mpr he);let{i,Y}:=hi p O;have z:=(a7 P w).inj _ _ _ h1 U;rw[Y]at z;subst z;exact{.inl i,h1,h2}
def Od(H:Hp)(x y:V):Prop:=∃(a b:K')(ka kb:Ta),x= .ref a/\y= .ref b/\H a=some (.dK ka)/\H b=some (.dK kb)/\ka.length=kb.length/\(∀p∈ka,(∃i:Int,p.1= .inl i)/\Fl p.2/\aH kb p.1=some p.2)/\∀p∈kb,∃i:Int,p.1= .inl i
def EO:∀{ka:Ta}{G:Ti},KV ka G->(∀p∈ka,∃i:Int,p.1= .inl i)->∀p∈G,∃i:Int,p.1= .inl i:=λ{ka G} h=>by
 induction h with
 |nil=>exact λ_ _ z=>Ws z ZU
 |cons h1 h2 I=>
  intro g p hp;rcases QS.mp hp with rfl|hp
  .let{i,e}:=g _ QK;exact{i,h1.1▸e}
  .exact I (λq hq=>g q<|QM _ hq) p hp
section
variable{X:Cx}{W:So}{B:St}{H:Hp}{s:L'}
def LE(I:Inv X W B H s){A:Sv}{x y:V}{u v:Sk}(hu:A.units<cLine)(h:Od H x y)(r1:RelV x u)(r2:RelV y v):EqAt A s u v true:=by
 let{a,b,ka,kb,rfl,rfl,ha,hb,l,g,gb}:=h;cases r1;cases r2;by_cases e:a=b
 .subst e;exact EqAt.same _
 let{z,lo,vs,O,dd}:=kO I.hok ha;let{z2,U,Z,G,Y}:=kO I.hok hb;have l1:ka.length=vs.length:=O.length;have l2:kb.length=Z.length:=G.length;have hl:vs.length=Z.length:=();have i1:=EO O λp hp=>(g p hp).1;have i2:=EO G gb;refine EqAt.of_refs e λprog w E Q hq=>?_;exact PySem.W.keq_eq (r:=true) lo U (zM (P':=prog) (w':=w) dd i1) (zM (P':=prog) (w':=w) Y i2) hu (λ_=>Lk G O λp hp=>(g p hp).2) (by simpa[hl]using hq)
inductive OI(K:JZ)(f:Bool)(x y:V)(H:Hp)(Q:VK):Prop
 |mk(a b:K')(xs ys:Sm)(_:x= .ref a)(_:y= .ref b)(_:Px K H a xs)(_:Px K H b ys)(_:xs.length=ys.length)(_:(∀(j:Nat)(u v:V),xs[j]?=some u->ys[j]?=some v->Sa K H 4 u v\/Od H u v))(_:Q (.bl<|!f) H)
def Nh(K:JZ)(hK:X.K=K)(hu:X.A.units+20<cLine):Qs X (compareOp .Eq) (OI K false):=by
 subst hK;intro W s B H x y v u Q I rx ry h;let{a,b,xs,ys,rfl,rfl,h1,h2,l,g,q}:=h;cases rx;cases ry;let{z,O,p1,_}:=I.tuple h1;let{G,U,p2,_}:=I.tuple h2;have it:∀(j:Nat)(Y:j<z.length)(Z:j<G.length),EqAt X.A.in1 s z[j] G[j] true:=λj Y Z=>by
  let{x,e1,q1}:=qU O j Y;let{y,e2,q2}:=qU U j Z;rcases g j x y e1 e2 with h|h
  .exact Ed I 4 (by show X.A.units+1+4<cLine;lia) h q1 q2
  .exact LE I (by show X.A.units+1<cLine;lia) h q1 q2
 have:=RcAt.tuples (A:=X.A) (e:=λ_=>true) p1 p2 () (λj a b=>by simpa using it j (by simpa using a) (by simpa using b));rw[Zp.mpr λ_ _=>M,show(true&&z.toArray.size==G.toArray.size)=true by simp[<-O.length,<-U.length,l]]at this;exact this _ _ _ _ {.bl _,H,I,M,q}
end
end L2
namespace L2
open PySem PySem.Spec PyProof.Rows
def MN(k1 k2:Str)(i1 i2:Int):TE:=λ_ H Q=>∀p,H p=none->Q (.ref p) (upd H p<|.dK [(Sum.inr k1,.int i1),(Sum.inr k2,.int i2)])
def BN{X:Cx}{pos U p2 Y Z:Pos}{k1 k2:Str}{G O:Int}{a b c d:_}(ne:(k1==k2)=false:=by decide+kernel):PE X (.Dict [some (.Constant (.str k1) a U),some (.Constant (.str k2) b p2)] [.Constant (.int G) c Y,.Constant (.int O) d Z] pos) (MN k1 k2 G O):=λW s B H Q I h=>by
 have nk:k1≠k2:=λz=>by rw[z,WN]at ne;cases ne
 refine wpAny_Dict_pairs (knd:=a7 X.prog X.w) (pairs:=[(eval (.Constant (.str k1) a U) X.env,do let x<-eval (.Constant (.int G) c Y) X.env;standAt pos;pure x),(eval (.Constant (.str k2) b p2) X.env,do let x<-eval (.Constant (.int O) d Z) X.env;standAt pos;pure x)]) M (by simp) (by show 2<=15;decide) ?_;unfold evalPairs;refine Wp<|wpAny_Constant_str ?_;refine Wp<|WH (Wp<|wpAny_Constant_int<|Wp<|wpAny_standAt<|Wx ?_);refine Wp<|WH ?_;unfold evalPairs;refine Wp<|wpAny_Constant_str ?_;refine Wp<|WH (Wp<|wpAny_Constant_int<|Wp<|wpAny_standAt<|Wx ?_);refine Wp<|WH ?_;unfold evalPairs;refine Wx<|Wx (Wx ?_);dsimp only;let{_,nm,_}:=sJ (P:=X.prog) (w:=X.w) (H:=H) s.heap I.big;refine{[(Sum.inr k1,Value.int G (s.toks+1)),(Sum.inr k2,Value.int O (s.toks+1+1+1))],{uj k1 s.toks,M,uj k2<|s.toks+1+1,M,trivial},Heap.DictOf.new _,λh' dd sb=>?_};have mg:merged ([]:Ti) [(Sum.inr k1,Value.int G (s.toks+1)),(Sum.inr k2,Value.int O (s.toks+1+1+1))]=[(Sum.inr k1,Value.int G (s.toks+1)),(Sum.inr k2,Value.int O (s.toks+1+1+1))]:=by
  simp[merged,stored,nk]
 rw[mg]at dd;exact{.ref s.heap.objs.size,_,I.laid (a:=s.heap.objs.size) (o:= .dK [(Sum.inr k1,.int G),(Sum.inr k2,.int O)]) (t':=_) (λb o q=>(sb.2 b<|Zb<|Ww q).trans<|Wo _ q) (Q4 _) {by show 2<=sizeLine;decide,nm,_,.cons {M,_,M}<|.cons {M,_,M} .nil,dd},M,h _<|I.hok.fresh (Q4 _)}
end L2
namespace SW
open PySem L2
set_option maxHeartbeats 0
abbrev _root_.Sn:=List (Int×V)
abbrev _root_.Th:=List (List Int)
variable{C L a b c dd dd0 dd1 dx nt p q r tb:K'}{F F':O'}{t:PB}{X X' X0 X1:PQ}{D:Qo}{o:HO}{x':PX}{H H' H1:Hp}{J0 hi k lo m m0 m1 n n1:Int}{R:Int->Bool}{T kv' ps qs:Sn}{kvs:Ta}{ls:Th}{fs:Tb}{A:Su}{ds l mo:List DR}{ks ns x y:R'}{pa':List Pk}{ts:List Tp}{xs:Sm}{i i0 j:Nat}{E:Nat->Prop}{K:JZ}{st:P6}{B:St}{f:Str}{α β:Type}{a' av e v:V}{Q:VK}
structure Txt(K:JZ)(mg:Sz)(t:PB):Prop where
 KU:mg "WalkError"=some (.ref t.bL)
 Of:mg "NoPart"=some (.ref t.xF)
 iF:mg "OutOfTurn"=some (.ref t.bI)
 B8:mg "Token"=some (.ref t.gP)
 xb:mg "BySlots"=some (.ref t.aX)
 Ia:mg "Up"=some (.ref t.dZ)
 KW:mg "Down"=some (.ref t.cv)
 Pg:mg "Page"=some (.ref t.bZ)
 FZ:mg "Copier"=some (.ref t.aY)
 Og:mg "Leaves"=some (.ref t.bJ)
 OT:mg "Makes"=some (.ref t.gQ)
 OS:mg "Slots"=some (.ref t.a8)
 OU:mg "House"=some (.ref t.bi)
 Cb:mg "turned"=some (.ref t.CD)
 xR:PL K "turned" "turned" wC t.CD t.xA
 CA:Binds K t.xA ["number"] []
 Gc:mg "mark_of"=some (.ref t.zZ)
 Ac:PL K "mark_of" "mark_of" tU t.zZ t.uu
 GC:Binds K t.uu [et] []
 DU:mg "place_of"=some (.ref t.xL)
 xT:PL K "place_of" "place_of" qy t.xL t.qM
 Ea:Binds K t.qM [et] []
 zA:mg "slot_of"=some (.ref t.zX)
 uA:PL K "slot_of" "slot_of" tS t.zX t.ur
 zU:Binds K t.ur [et,vm] []
 K7:mg "stretch_of"=some (.ref t.sS)
 Bh:PL K "stretch_of" "stretch_of" lh t.sS t.l7
 Lr:Binds K t.l7 ["slot",vm] []
 Gb:mg "slot_at"=some (.ref t.zY)
 Ab:PL K "slot_at" "slot_at" tT t.zY t.ut
 GB:Binds K t.ut [zk,vm] []
 Nm:mg "is_whole"=some (.ref t.xM)
 Ef:PL K "is_whole" "is_whole" qz t.xM t.qN
 NW:Binds K t.qN ["thing"] []
 kN:mg "is_from"=some (.ref t.z8)
 iO:PL K "is_from" "is_from" tW t.z8 t.uw
 kQ:Binds K t.uw ["thing","low"] []
 Ga:mg "word_of"=some (.ref t.zW)
 Aa:PL K "word_of" "word_of" tR t.zW t.uq
 GA:Binds K t.uq ["bound"] []
 kC:PL K i3 "Token.__init__" jJ t.kB t.j5
 pX:Binds K t.j5 [cC,"kind",va,mu] []
 JC:PL K "words" "Token.words" iV t.dP t.jn
 oz:Binds K t.jn [cC] []
 GZ:R3 K i3 "BySlots.__init__" g7 t.mO t.dh
 vv:Binds K t.dh [cC,va,mu] []
 GO:PL K "holds" "BySlots.holds" gu t.kX t.gJ
 kR:Binds K t.gJ [cC,et] []
 Oc:R3 K i3 "Up.__init__" qA t.xO t.jk
 Eb:Binds K t.jk [cC,va,mu] []
 Mz:PL K "holds" "Up.holds" nB t.uN t.oj
 oy:Binds K t.oj [cC,et] []
 LN:R3 K i3 "Down.__init__" lM t.tD t.f9
 Bc:Binds K t.f9 [cC,va,mu] []
 Kj:PL K "holds" "Down.holds" jU t.qi t.kx
 kA:Binds K t.kx [cC,et] []
 Po:mg "ask"=some (.ref t.Mv)
 Pd:R3 K "ask" "ask" Hs t.Mv t.Cr
 NY:ju K t.Cr [oq,fe,nj,"sieve"] [.non]
 GR:mg "page_by_slots"=some (.ref t.mK)
 vx:PL K "page_by_slots" "page_by_slots" gW t.mK t.hJ
 GU:Binds K t.hJ [G',fe,nj] []
 Ij:mg "page_by_keys"=some (.ref t.oC)
 xU:PL K "page_by_keys" "page_by_keys" fF t.oC t.jg
 Jq:Binds K t.jg [oq,fe,nj] []
 Ik:mg "keys_of_page"=some (.ref t.oE)
 xV:PL K "keys_of_page" "keys_of_page" fG t.oE t.jh
 Jr:Binds K t.jh [hL,fe,nj] []
 Mh:mg "keys_near"=some (.ref t.uJ)
 CG:PL K "keys_near" "keys_near" ni t.uJ t.n9
 Mq:Binds K t.n9 [hL,fe,xG] []
 Ii:mg "token_behind"=some (.ref t.oB)
 xS:PL K "token_behind" "token_behind" iR t.oB t.jf
 Jp:Binds K t.jf [fe,et] []
 Gd:mg "is_left"=some (.ref t.z7)
 Ad:PL K "is_left" "is_left" tV t.z7 t.uv
 GD:Binds K t.uv [fe,et] []
 Il:mg "change"=some (.ref t.CF)
 CH:PL K "change" "change" wD t.CF t.xB
 Js:Binds K t.xB [v7,"row"] []
 LK:PL K i3 "Page.__init__" lJ t.tq t.mC
 LA:Binds K t.mC [cC,fe] []
 LJ:PL K "read" "Page.read" lI t.tm t.mB
 Lz:Binds K t.mB [cC,oq,nj] []
 GL:PL K "in_piece" "Page.in_piece" gl t.kT t.gG
 GE:Binds K t.gG [cC,et] []
 GX:PL K "outcome" "Page.outcome" gY t.mM t.hX
 GW:Binds K t.hX [cC] []
 JG:R3 K i3 "Copier.__init__" iZ t.oM t.gd
 ig:ju K t.gd [cC,oq,fe,"stopped"] [.non]
 C7:PL K "open_page" "Copier.open_page" eh t.iB t.eF
 CY:Binds K t.eF [cC] []
 C6:R3 K "read_page" "Copier.read_page" d9 t.iA t.cO
 CW:Binds K t.cO [cC,nj] []
 CM:PL K "close_page" "Copier.close_page" dL t.gU t.dO
 CB:Binds K t.dO [cC] []
 GM:PL K "follow" "Copier.follow" gp t.kU t.gH
 GF:Binds K t.gH [cC,"steps"] []
 Bn:PL K "follow_mark" "Copier.follow_mark" dj t.gj t.dn
 Bm:Binds K t.dn [cC,"number"] []
 Ae:PL K "follow_change" "Copier.follow_change" cT t.fk t.cY
 zV:Binds K t.cY [cC,"row"] []
 JH:PL K "copy" "Copier.copy" i4 t.oN t.jq
 xJ:Binds K t.jq [cC] []
 GN:PL K "covers" "Copier.covers" gr t.kW t.gI
 GG:Binds K t.gI [cC,et] []
 GY:PL K zk "Copier.place" gZ t.mN t.hZ
 ie:Binds K t.hZ [cC] []
 JF:PL K "left" "Copier.left" iY t.oK t.jp
 xI:Binds K t.jp [cC] []
 JD:PL K i3 "Leaves.__init__" iW t.oI t.jo
 Jv:Binds K t.jo [cC] []
 Ke:PL K "add" "Leaves.add" gN t.qd t.ko
 JV:Binds K t.ko [cC,et] []
 Fk:PL K "discard" "Leaves.discard" fJ t.jF t.fX
 Fb:Binds K t.fX [cC,et] []
 Kd:PL K "has" "Leaves.has" jP t.qc t.kj
 yZ:Binds K t.kj [cC,et] []
 Fj:PL K "from_on" "Leaves.from_on" dA t.jE t.fW
 Fa:Binds K t.fW [cC,et,xG] []
 C5:PL K "down_from" "Leaves.down_from" cJ t.iz t.eE
 CV:Binds K t.eE [cC,et,xG] []
 Fi:PL K "leaf_of" "Leaves.leaf_of" fI t.jD t.fV
 dG:Binds K t.fV [cC,et] []
 CZ:PL K "part_leaf" "Leaves.part_leaf" d8 t.iy t.eD
 CU:Binds K t.eD [cC,va] []
 CL:PL K "join_small" "Leaves.join_small" dJ t.gT t.dN
 oA:Binds K t.dN [cC,va] []
 Kc:PL K i3 "Makes.__init__" jO t.qb t.kh
 JU:Binds K t.kh [cC] []
 Kb:PL K "note" "Makes.note" jN t.qa t.kg
 JT:Binds K t.kg [cC,"moment",u0] []
 uE:mg "empty_row"=some (.ref t.uK)
 oP:PL K "empty_row" "empty_row" jx t.uK t.oe
 uI:Binds K t.oe [vm] []
 J9:PL K i3 "Slots.__init__" jL t.p7 t.j9
 JR:Binds K t.j9 [cC] []
 LG:PL K "put" "Slots.put" lF t.sY t.mq
 Lw:Binds K t.mq [cC,et,u0] []
 Ka:PL K J' "Slots.drop" jM t.p8 t.kf
 JS:Binds K t.kf [cC,et] []
 LI:PL K "get" "Slots.get" lH t.tj t.my
 Lx:Binds K t.my [cC,et] []
 LH:PL K "has" "Slots.has" lG t.sZ t.mw
 Bb:Binds K t.mw [cC,et] []
 J8:PL K "rows" "Slots.rows" gM t.p6 t.j8
 yY:Binds K t.j8 [cC] []
 J7:PL K "span" "Slots.span" eJ t.pZ t.j7
 JQ:Binds K t.j7 [cC,"low","high"] []
 J6:PL K "stop" "Slots.stop" jK t.pY t.j6
 yX:Binds K t.j6 [cC,zk] []
 GK:PL K "cell_of" "Slots.cell_of" gk t.kS t.gF
 gK:Binds K t.gF [cC,et] []
 Fh:PL K "lying_at" "Slots.lying_at" fH t.jC t.fS
 E9:Binds K t.fS [cC,zk] []
 Eh:PL K "move_slot" "Slots.move_slot" eS t.js t.e6
 qS:Binds K t.e6 [cC] []
 Ei:PL K "begin_row" "Slots.begin_row" eT t.jt t.e7
 qT:Binds K t.e7 [cC] []
 Kf:PL K i3 "House.__init__" jQ t.qe t.kq
 JW:Binds K t.kq [cC] []
 LL:PL K "put" "House.put" lK t.tw t.mD
 LB:Binds K t.mD [cC,et,u0] []
 Kh:PL K J' "House.drop" jS t.qg t.kt
 JY:Binds K t.kt [cC,et] []
 LM:PL K "get" "House.get" lL t.tx t.mE
 LC:Binds K t.mE [cC,et] []
 Fm:PL K "lay_mark" "House.lay_mark" fK t.jG t.fY
 sR:Binds K t.fY [cC] []
 JE:R3 K "diary" "House.diary" iX t.oJ t.fZ
 Jw:Binds K t.fZ [cC,"low"] []
 bh:ju K t.fZ [cC,"low"] [(.int<|0)]
 Kg:PL K "held" "House.held" jR t.qf t.kr
 JX:Binds K t.kr [cC] []
 Ki:PL K "done" "House.done" jT t.qh t.ku
 y6:Binds K t.ku [cC,"row",u0] []
 Io:mg "_law_cell_at"=some (.ref t.oH)
 xX:PL K "_law_cell_at" "_law_cell_at" iU t.oH t.jj
 Ju:Binds K t.jj [u5,z9] []
 AM:mg "_law_mixed"=some (.ref t.sW)
 tF:PL K "_law_mixed" "_law_mixed" lw t.sW t.mj
 Ba:Binds K t.mj [eH,z9] []
 Nn:mg "_law_run"=some (.ref t.xN)
 Eg:PL K "_law_run" "_law_run" iS t.xN t.qO
 NX:Binds K t.qO [eH] []
 Mj:mg "_law_deed"=some (.ref t.uM)
 CK:PL K "_law_deed" "_law_deed" nz t.uM t.oi
 Ms:Binds K t.oi [eR,"_law_kept",eH] []
 La:mg "_law_house"=some (.ref t.sX)
 Bk:PL K "_law_house" "_law_house" lE t.sX t.mn
 Lv:Binds K t.mn ["_law_cells"] []
 CS:mg "_law_numbers_told"=some (.ref t.iw)
 pF:PL K "_law_numbers_told" "_law_numbers_told" d7 t.iw t.eC
 CT:Binds K t.eC ["_law_kind",eH] []
 Im:mg "_law_numbers"=some (.ref t.oG)
 xW:PL K "_law_numbers" "_law_numbers" iT t.oG t.ji
 Jt:Binds K t.ji [eH,"_law_keys"] []
 K8:mg "_law_token"=some (.ref t.sU)
 Bi:PL K "_law_token" "_law_token" lu t.sU t.mh
 Ls:Binds K t.mh ["_law_numbers_here"] []
 AL:mg "_law_words"=some (.ref t.sT)
 tE:PL K "_law_words" "_law_words" lq t.sT t.mf
 A9:Binds K t.mf [xP] []
 Mi:mg "_law_step"=some (.ref t.uL)
 CJ:PL K "_law_step" "_law_step" nu t.uL t.oh
 Mr:Binds K t.oh [gs,kP,"_law_many"] []
 K9:mg "_law_right"=some (.ref t.sV)
 Bj:PL K "_law_right" "_law_right" iC t.sV t.mi
 Lu:Binds K t.mi [gs,eR,pT,kP,eH] []
 GS:mg "_law_followed"=some (.ref t.mL)
 vz:PL K "_law_followed" "_law_followed" gX t.mL t.hV
 GV:Binds K t.hV [gs,eR,pT,"_law_steps"] []
 Pn:mg "law"=some (.ref t.Mu)
 Pc:PL K "law" "law" Hr t.Mu t.E6
 qW:Qc K t.bL (([]:Su).map Value.ref++RU)
 y9:Qc K t.xF (([t.bL]:Su).map Value.ref++RU)
 aN:Qc K t.bI (([t.bL]:Su).map Value.ref++RU)
 fu:SN K t.bI
 j4:PySem.W.findIn K (.ref t.bI) i3=some (some<|.builtin "ValueError.__init__")
 vq:E8 K t.aX "kind"
 jZ:E8 K t.aX va
 cW:E8 K t.aX mu
 bR:R6 K t.aX
 DO:Mk K t.aX t.mO
 qj:SN K t.aX
 DX:PySem.W.kitOne K (.ref t.aX) (.ref t.aX)=some true
 F9:bN K t.aX "words" t.dP
 kM:bN K t.aX "holds" t.kX
 DM:E8 K t.dZ "kind"
 rX:E8 K t.dZ va
 kL:E8 K t.dZ mu
 iu:R6 K t.dZ
 OO:Mk K t.dZ t.xO
 mW:SN K t.dZ
 JP:PySem.W.kitOne K (.ref t.dZ) (.ref t.aX)=some false
 IB:PySem.W.kitOne K (.ref t.dZ) (.ref t.dZ)=some true
 Mg:bN K t.dZ "words" t.dP
 nZ:bN K t.dZ "holds" t.uN
 AI:E8 K t.cv "kind"
 jd:E8 K t.cv va
 jA:E8 K t.cv mu
 cP:R6 K t.cv
 KS:Mk K t.cv t.tD
 fv:SN K t.cv
 GT:PySem.W.kitOne K (.ref t.cv) (.ref t.aX)=some false
 DW:PySem.W.kitOne K (.ref t.cv) (.ref t.dZ)=some false
 JO:bN K t.cv "words" t.dP
 j2:bN K t.cv "holds" t.qi
 pQ:E8 K t.bZ "asked"
 bV:E8 K t.bZ "found"
 jY:E8 K t.bZ "ahead"
 pP:E8 K t.bZ "noted"
 c8:E8 K t.bZ "closing"
 bp:R6 K t.bZ
 Pf:Mk K t.bZ t.tq
 K3:bN K t.bZ "read" t.tm
 F6:bN K t.bZ "in_piece" t.kT
 GQ:bN K t.bZ "outcome" t.mM
 eQ:E8 K t.aY oq
 vp:E8 K t.aY "first"
 cV:E8 K t.aY "rest"
 cZ:E8 K t.aY "followed"
 gy:E8 K t.aY "copied"
 a6:E8 K t.aY "page"
 aC:R6 K t.aY
 FY:Mk K t.aY t.oM
 CQ:bN K t.aY "open_page" t.iB
 CP:bN K t.aY "read_page" t.iA
 Ca:bN K t.aY "close_page" t.gU
 F7:bN K t.aY "follow" t.kU
 Bl:bN K t.aY "follow_mark" t.gj
 zy:bN K t.aY "follow_change" t.fk
 xh:bN K t.aY "copy" t.oN
 F8:bN K t.aY "covers" t.kW
 hI:bN K t.aY zk t.mN
 xg:bN K t.aY "left" t.oK
 aF:E8 K t.bJ hL
 aM:R6 K t.bJ
 Oe:Mk K t.bJ t.oI
 JL:bN K t.bJ "add" t.qd
 EJ:bN K t.bJ "discard" t.jF
 yU:bN K t.bJ "has" t.qc
 EI:bN K t.bJ "from_on" t.jE
 CO:bN K t.bJ "down_from" t.iz
 dD:bN K t.bJ "leaf_of" t.jD
 CN:bN K t.bJ "part_leaf" t.iy
 n6:bN K t.bJ "join_small" t.gT
 yQ:E8 K t.gQ "made"
 Cv:R6 K t.gQ
 OQ:Mk K t.gQ t.qb
 JK:bN K t.gQ "note" t.qa
 aZ:E8 K t.a8 v7
 b8:E8 K t.a8 "shifted"
 bU:E8 K t.a8 "kept"
 aK:R6 K t.a8
 OP:Mk K t.a8 t.p7
 K0:bN K t.a8 "put" t.sY
 JJ:bN K t.a8 J' t.p8
 K2:bN K t.a8 "get" t.tj
 AK:bN K t.a8 "has" t.sZ
 yT:bN K t.a8 "rows" t.p6
 JI:bN K t.a8 "span" t.pZ
 yS:bN K t.a8 "stop" t.pY
 gA:bN K t.a8 "cell_of" t.kS
 EH:bN K t.a8 "lying_at" t.jC
 qG:bN K t.a8 "move_slot" t.js
 qH:bN K t.a8 "begin_row" t.jt
 lV:E8 K t.bi "now"
 wZ:E8 K t.bi "floor"
 dM:E8 K t.bi G'
 g8:E8 K t.bi hL
 gx:E8 K t.bi "written"
 jc:E8 K t.bi "marks"
 yR:E8 K t.bi "past"
 uc:E8 K t.bi "holders"
 aO:R6 K t.bi
 OR:Mk K t.bi t.qe
 K4:bN K t.bi "put" t.tw
 JN:bN K t.bi J' t.qg
 K5:bN K t.bi "get" t.tx
 r6:bN K t.bi "lay_mark" t.jG
 cX:bN K t.bi "diary" t.oJ
 JM:bN K t.bi "held" t.qf
 yV:bN K t.bi "done" t.qh
 pO:JB K t.gP i3 (.ref t.kB)
 ii:PySem.W.subIn K (.ref t.bI) (.ref t.xF)=some false
 fB:PySem.W.subIn K (.ref t.bI) (.ref t.bI)=some true
 fA:PySem.W.subIn K (.ref t.bI) (.ref t.bL)=some true
 g_BITS:∃tk,mg "BITS"=some (.int 16 tk)
 g_PLACES:∃tk,mg "PLACES"=some (.int 65536 tk)
 g_STRETCHES_A_KEY:∃tk,mg "STRETCHES_A_KEY"=some (.int 4 tk)
 g_MOST_IN_LEAF:∃tk,mg "MOST_IN_LEAF"=some (.int 8 tk)
 g_LEAST_IN_TWO:∃tk,mg "LEAST_IN_TWO"=some (.int 5 tk)
 g_LEAST_SIZE:∃tk,mg "LEAST_SIZE"=some (.int 4 tk)
 g_GREATEST_SIZE:∃tk,mg "GREATEST_SIZE"=some (.int 256 tk)
 Pj:mg "bool"=none
 G1:mg "dict"=none
 Pm:mg "int"=none
 dQ:mg xQ=none
 bS:mg "len"=none
 Ph:mg ff=none
 G0:mg "max"=none
 vJ:mg "min"=none
 qV:mg sL=none
 MA:mg "reversed"=none
 Bo:mg zm=none
 Pl:mg "str"=none
def FD:ar ["number","told","rest","step"] ["number"] (am wC):=PN
def Du:ar [et] [et] (am tU):=PN
def BG:ar [et] [et] (am qy):=PN
def Ds:ar [et,vm] [et,vm] (am tS):=PN
def yo:ar ["slot",vm,"low"] ["slot",vm] (am lh):=PN
def Dt:ar [zk,vm] [zk,vm] (am tT):=PN
def BH:ar ["thing"] ["thing"] (am qz):=PN
def Dx:ar ["thing","low"] ["thing","low"] (am tW):=PN
def Dr:ar ["bound"] ["bound"] (am tR):=PN
def wf:ar [cC,"kind",va,mu] [cC,"kind",va,mu] (am jJ):=PN
def u8:ar [cC] [cC] (am iV):=PN
def Qg:ar [cC,va,mu] [cC,va,mu] (am g7):=PN
def rJ:ar [cC,et] [cC,et] (am gu):=PN
def R5:ar [cC,va,mu] [cC,va,mu] (am qA):=PN
def At:ar [cC,et] [cC,et] (am nB):=PN
def Qq:ar [cC,va,mu] [cC,va,mu] (am lM):=PN
def wB:ar [cC,et] [cC,et] (am jU):=PN
def S0:ar [oq,fe,nj,"sieve","page"] [oq,fe,nj,"sieve"] (am Hs):=PN
def Qd:ar [G',fe,nj,"rows","reached","gone","stop"] [G',fe,nj] (am gW):=PN
def uY:ar [oq,fe,nj,"page"] [oq,fe,nj] (am fF):=PN
def Ql:ar [hL,fe,nj,xG,"held","page"] [hL,fe,nj] (am fG):=PN
def Aq:ar [hL,fe,xG] [hL,fe,xG] (am ni):=PN
def uX:ar [fe,et] [fe,et] (am iR):=PN
def Dv:ar [fe,et] [fe,et] (am tV):=PN
def FE:ar [v7,"row"] [v7,"row"] (am wD):=PN
def yA:ar [cC,fe] [cC,fe] (am lJ):=PN
def yz:ar [cC,oq,nj,"answer"] [cC,oq,nj] (am lI):=PN
def rF:ar [cC,et] [cC,et] (am gl):=PN
def tO:ar [cC,v7,"row"] [cC] (am gY):=PN
def Qm:ar [cC,oq,fe,"stopped"] [cC,oq,fe,"stopped"] (am iZ):=PN
def QB:ar [cC] [cC] (am eh):=PN
def QE:ar [cC,nj,"page"] [cC,nj] (am d9):=PN
def Pw:ar [cC,"page"] [cC] (am dL):=PN
def rG:ar [cC,"steps","rows","row"] [cC,"steps"] (am gp):=PN
def lg:ar [cC,"number","page"] [cC,"number"] (am dj):=PN
def jI:ar [cC,"row",et,"page"] [cC,"row"] (am cT):=PN
def vc:ar [cC] [cC] (am i4):=PN
def rH:ar [cC,et] [cC,et] (am gr):=PN
def tP:ar [cC] [cC] (am gZ):=PN
def vb:ar [cC] [cC] (am iY):=PN
def u9:ar [cC] [cC] (am iW):=PN
def ww:ar [cC,et,va,"leaf"] [cC,et] (am gN):=PN
def qv:ar [cC,et,va] [cC,et] (am fJ):=PN
def wv:ar [cC,et,va] [cC,et] (am jP):=PN
def Qb:ar [cC,et,xG,"told",va] [cC,et,xG] (am dA):=PN
def QD:ar [cC,et,xG,"told",va] [cC,et,xG] (am cJ):=PN
def qu:ar [cC,et,"low","high","middle"] [cC,et] (am fI):=PN
def m9:ar [cC,va,"leaf","middle"] [cC,va] (am d8):=PN
def mR:ar [cC,va,"both"] [cC,va] (am dJ):=PN
def wu:ar [cC] [cC] (am jO):=PN
def wt:ar [cC,"moment",u0] [cC,"moment",u0] (am jN):=PN
def Ar:ar [vm] [vm] (am jx):=PN
def wm:ar [cC] [cC] (am jL):=PN
def yv:ar [cC,et,u0,"cell"] [cC,et,u0] (am lF):=PN
def wq:ar [cC,et] [cC,et] (am jM):=PN
def yx:ar [cC,et,"cell"] [cC,et] (am lH):=PN
def yw:ar [cC,et] [cC,et] (am lG):=PN
def wk:ar [cC] [cC] (am gM):=PN
def wj:ar [cC,"low","high","found","reached",mu,"inside"] [cC,"low","high"] (am eJ):=PN
def wg:ar [cC,zk,vm] [cC,zk] (am jK):=PN
def rE:ar [cC,et,"old","slot","new"] [cC,et] (am gk):=PN
def qt:ar [cC,zk,vm,"found","row","slot",et,u0] [cC,zk] (am fH):=PN
def pC:ar [cC,"old","new",et,u0] [cC] (am eS):=PN
def pD:ar [cC,vm] [cC] (am eT):=PN
def wx:ar [cC] [cC] (am jQ):=PN
def yB:ar [cC,et,u0] [cC,et,u0] (am lK):=PN
def wz:ar [cC,et] [cC,et] (am jS):=PN
def yC:ar [cC,et] [cC,et] (am lL):=PN
def qw:ar [cC] [cC] (am fK):=PN
def Qk:ar [cC,"low"] [cC,"low"] (am iX):=PN
def wy:ar [cC] [cC] (am jR):=PN
def wA:ar [cC,"row",u0,et] [cC,"row",u0] (am jT):=PN
def u7:ar [u5,z9] [u5,z9] (am iU):=PN
def yt:ar [eH,z9,wp] [eH,z9] (am lw):=PN
def PR:ar [eH,"_law_start",wp,kP,"_law_step_here"] [eH] (am iS):=PN
def As:ar [eR,"_law_kept",eH,"_law_keys",z9,"_law_value"] [eR,"_law_kept",eH] (am nz):=PN
def yu:ar ["_law_cells",eR,"_law_kept",eH] ["_law_cells"] (am lE):=PN
def m8:ar ["_law_kind",eH,"_law_low","_law_high"] ["_law_kind",eH] (am d7):=PN
def uZ:ar [eH,"_law_keys","_law_kind",wp,"_law_low","_law_high"] [eH,"_law_keys"] (am iT):=PN
def yq:ar ["_law_numbers_here"] ["_law_numbers_here"] (am lu):=PN
def yp:ar [xP] [xP] (am lq):=PN
def Qv:ar [gs,kP,"_law_many","_law_found","e"] [gs,kP,"_law_many"] (am nu):=PN
def yr:ar [gs,eR,pT,kP,eH,"_law_rows","_law_before","_law_found","_law_after","_law_marks"] [gs,eR,pT,kP,eH] (am iC):=PN
def tN:ar [gs,eR,pT,"_law_steps","_law_rows","_law_place_here"] [gs,eR,pT,"_law_steps"] (am gX):=PN
def MV:ar [u5,eR,"_law_kept",xP,"_law_copiers","_law_states",eH,"_law_one",kP] [u5] (am Hr):=PN
def Sc:V->Prop
 | .non=>True| .bl _=>True| .int _=>True| .str _=>True|_=>False
def T0(z:Int):Sc (.int z):=WD
noncomputable def isW:V->Bool
 | .int _=>true|_=>false
def Fr(F F':O')(H H':Hp):Prop:=∀b o,¬F b->H b=some o->H' b=some o/\¬F' b
def Fr.refl:Fr F F H H:=λ_ _ n e=>⟨e,n⟩
def Fr.trans{z:O'}{H'':Hp}(x:Fr F F' H H')(y:Fr F' z H' H''):Fr F z H H'':=λb o n e=>y b o (x b o n e).2 (x b o n e).1
def Fr.of_same(s:GI H H'):Fr F F H H':=λb o n e=>{s b o e,n}
noncomputable def aI(kv:Sn):List (Key×V):=kv.map λp=>(Sum.inl p.1,p.2)
def PK{kv:Sn}:aH (aI kv) (Sum.inl k:Key)=aH kv k:=by
 induction kv with
 |nil=>rfl
 |cons p r G=>
  show aH ((Sum.inl p.1,p.2)::aI r) (Sum.inl k:Key)=_;by_cases e:p.1=k
  .rw[bD e,bD (by show(Sum.inl p.1:Key)=_;rw[e])]
  .rw[bz e,bz (by show ¬(Sum.inl p.1:Key)=_;exact λz=>e<|Sum.inl.inj z),G]
def Gf{kv:Sn}:((aI kv).any λx=>decide (x.1=(Sum.inl k:Key)))=kv.any λx=>decide (x.1=k):=by
 rw[dI,dI,PK]
def dW{kv:Sn}:a9 (aI kv) (Sum.inl k:Key) v=aI (a9 kv k v):=by
 unfold a9;rw[Gf];by_cases c:(kv.any λx=>decide (x.1=k))=true
 .rw[Wn c,Wn c];unfold aI;rw[Z2,Z2];refine X8 λp _=>?_;show(if(Sum.inl p.1:Key)=Sum.inl k then _ else _)=_;by_cases e:p.1=k
  .rw[Wn (by rw[e])];simp[e]
  .rw[Wm λz=>e (Sum.inl.inj z)];simp[e]
 .rw[Wm c,Wm c];unfold aI;rw[QO];rfl
def qI{kv:Sn}:bT (aI kv) (Sum.inl k:Key)=aI (bT kv k):=by
 unfold bT aI;rw[List.filter_map];congr 1;refine VT λp _=>?_;show decide ((Sum.inl p.1:Key)≠Sum.inl k)=_;by_cases e:p.1=k
 .rw[e];simp
 .have:¬(Sum.inl p.1:Key)=Sum.inl k:=λz=>e (Sum.inl.inj z);simp[e,this]
def b9{kv:Sn}:(aI kv).length=kv.length:=Q0 _
theorem nJ{f:Str}{v:V}:∀fs:List (Str×V),(bP f v fs).length<=fs.length+1
 | []=>Q4 _
 |(g,x)::r=>by
  rw[bP];split
  .rw[QW,QW];lia
  .have:=nJ (f:=f) (v:=v) r;rw[QW,QW];lia
section
variable{κ:Type}[DecidableEq κ]{kv:List (κ×V)}{k j:κ}
theorem fc:∀{kv:List (κ×V)},aH (bT kv k) j=if j=k then none else aH kv j
 | []=>by
  show aH ([]:List (κ×V)) j=_;rw[kD];split<;>rfl
 |p::r=>by
  by_cases e:p.1=k
  .rw[uo e,fc];by_cases z:j=k
   .rw[Wn z,Wn z]
   .rw[Wm z,Wm z,bz λy=>z (y.symm.trans e)]
  .rw[pj e];by_cases y:p.1=j
   .rw[bD y,bD y,Wm λz=>e (y.trans z)]
   .rw[bz y,bz y,fc]
theorem mem_keys:∀{kv:List (κ×V)},k∈kv.map (·.1)↔(aH kv k).isSome=true
 | []=>by simp[kD]
 |p::r=>by
  by_cases e:p.1=k
  .rw[bD e];simp[e]
  .rw[bz e,<-mem_keys];simp[Ne.symm e]
def sj:(a9 kv k v).map (·.1)=if(aH kv k).isSome=true then kv.map (·.1)else kv.map (·.1)++ [k]:=by
 unfold a9;rw[dI];by_cases c:(aH kv k).isSome=true
 .rw[Wn c,Wn c,Z2];refine X8 λp _=>?_;show(if p.1=k then(p.1,v)else p).1=p.1;split<;>rfl
 .rw[Wm c,Wm c,QO];rfl
def wY(h:(kv.map (·.1)).Nodup):((a9 kv k v).map (·.1)).Nodup:=by
 cases e:aH kv k with
 |none=>exact KQ v h e
 |some x=>rwa[sj,e]
theorem gR:∀{l S:List κ},l.Nodup->(∀x∈l,x∈S)->l.length<=S.length
 | [],_,_,_=>QT _
 |x::xs,S,hn,hs=>by
  let{h1,h2}:=Zv.mp hn;have hx:x∈S:=hs x QK;have:=gR (S:=S.erase x) h2 λy hy=>(List.mem_erase_of_ne λz=>h1<|by rwa[<-z]).mpr (hs y<|QM _ hy);rw[List.length_erase_of_mem hx]at this;have:=List.length_pos_of_mem hx;rw[QW];lia
def OW{S:List κ}(z:(kv.map (·.1)).Nodup)(hs:∀x∈kv.map (·.1),x∈S):kv.length<=S.length:=by
 have:=gR z hs;rwa [Q0]at this
end
def RZ(K:JZ)(F:O')(H:Hp)(a:K')(xs:Sm):Prop:=(Rd H a (.lst xs)/\¬F a)\/∀H',E7 K H' a xs
def RZ.sq(h:RZ K F H a xs):E7 K H a xs:=by
 rcases h with h|h
 .exact .inl h.1
 .exact h H
def RZ.of(h:E7 K H a xs)(n:∀o,H a=some o->¬F a):RZ K F H a xs:=by
 rcases h with h|h
 .rcases h with h|⟨o,h⟩
  .exact .inl {.inl h,n _ h}
  .exact .inl {.inr ⟨o,h⟩,n _ h}
 .exact .inr λ_=> .inr h
def RZ.fr(h:RZ K F H a xs)(f:Fr F F' H H'):RZ K F' H' a xs:=by
 rcases h with⟨h,n⟩|h
 .rcases h with h|⟨o,h⟩
  .exact .inl {.inl (f _ _ n h).1,(f _ _ n h).2}
  .exact .inl {.inr {o,(f _ _ n h).1},(f _ _ n h).2}
 .exact .inr h
def RZ.new(h:RZ K F H a xs)(n:H p=none):RZ K F (upd H p o) a xs:=h.fr (Fr.of_same<|al n)
def RZ.put(h:RZ K F H a xs)(e:H p=some (.dK kvs)):RZ K F (upd H p o) a xs:=by
 rcases h with⟨h,n⟩|h
 .rcases h with h|⟨u,h⟩
  .exact .inl {.inl (by rwa[af (λz=>by rw[z,e]at h;cases h)]),n}
  .exact .inl {.inr {u,by rwa[af (λz=>by rw[z,e]at h;cases h)]},n}
 .exact .inr h
set_option genInjectivity false in
structure P6 where
 kv:List (Int×V)
 size:Int
 nxt:Option Int
 mv:Int
noncomputable def P6.new:P6:={[],4,none,0}
noncomputable def P6.one(s:P6):P6:=match s.nxt with
 |none=>s
 |some m=>if s.mv+1=s.size then{s with size:=m,nxt:=none,mv:=0}else{s with mv:=s.mv+1}
noncomputable def P6.three(s:P6):P6:=match s.nxt with
 |some _=>s
 |none=>if s.size<(s.kv.length:Int)/\s.size<256 then{s with nxt:=some (2*s.size),mv:=0}else if 4*(s.kv.length:Int)<s.size/\4<s.size then{s with nxt:=some (s.size/2),mv:=0}else s
def P6.put(s:P6)(k:Int)(v:V):P6:=P6.three {s.one with kv:=a9 s.kv k v}
def P6.drop(s:P6)(k:Int):P6:=P6.three {s.one with kv:=bT s.kv k}
noncomputable def P6.rows(s:P6):List Int:=match s.nxt with
 |none=> [s.size]
 |some m=> [s.size,m]
noncomputable def P6.moved(s:P6):Int:=match s.nxt with
 |none=>0
 |some _=>s.mv
set_option genInjectivity false in
structure RT where
 tb:Addr
 r0:Addr
 r1:Addr
 A0:List Addr
 A1:List Addr
 C0:List (List<|Int×V)
 C1:List (List<|Int×V)
 n:Int
noncomputable def Qt(tb:K')(sh n:Int):List (Str×V):=[(v7,.ref tb),("shifted",.int sh),("kept",.int n)]
def fR{k:Str}{r:Tb}:((k,v)::r).lookup k=some v:=by
 have hb:(k==k)=true:=WA.mpr M;simp only[List.lookup,hb]
def bE{k m:Str}{r:Tb}(h:m≠k):((k,v)::r).lookup m=r.lookup m:=by
 have hb:(m==k)=false:=WC.mpr h;simp only[List.lookup,hb]
section
variable{tb':K'}{sh sh' n':Int}{m:Str}
def jw:(Qt tb sh n).lookup (v7:Str)=some (.ref tb):=fR
def BF:(Qt tb sh n).lookup ("shifted":Str)=some (.int sh):=by unfold Qt;rw[bE ∅,fR]
def rC:(Qt tb sh n).lookup ("kept":Str)=some (.int n):=by unfold Qt;rw[bE ∅,bE ∅,fR]
def NoM(m:Str):Prop:=m≠(v7:Str)/\m≠("shifted":Str)/\m≠("kept":Str)
instance:Decidable (NoM m):=by unfold NoM;infer_instance
def LZ(h:NoM m):(Qt tb sh n).lookup m=none:=by unfold Qt;rw[bE h.1,bE h.2.1,bE h.2.2];rfl
def OL:bP (v7:Str) (.ref tb') (Qt tb sh n)=Qt tb' sh n:=by unfold Qt;rw[bP,Wn M]
def L9:bP ("shifted":Str) (.int sh') (Qt tb sh n)=Qt tb sh' n:=by unfold Qt;rw[bP,Wm ∅,bP,Wn M]
def Ma:bP ("kept":Str) (.int n') (Qt tb sh n)=Qt tb sh n':=by unfold Qt;rw[bP,Wm ∅,bP,Wm ∅,bP,Wn M]
def rB:(Qt tb sh n).length<1000:=by show 3<1000;decide
end
structure PD(H:Hp)(r:K')(A:Su)(C:List (List<|Int×V))(sz:Int):Prop where
 lst:H r=some (.lst<|A.map V.ref)
 la:(A.length:Int)=sz
 lc:(C.length:Int)=sz
 cell:∀(j:Nat)(b:K')(kv:Sn),A[j]?=some b->C[j]?=some kv->H b=some (.dK<|aI kv)
 ndk:∀(j:Nat)(kv:Sn),C[j]?=some kv->(kv.map (·.1)).Nodup
 inj:∀(i j:Nat)(b:K'),A[i]?=some b->A[j]?=some b->i=j
 home:∀(j:Nat)(kv:Sn),C[j]?=some kv->∀p∈kv,p.1%65536%sz=(j:Int)
def PD.has{C:List (List<|Int×V)}{sz:Int}(h:PD H r A C sz)(hb:b∈A):∃(j:Nat)(kv:Sn),A[j]?=some b/\C[j]?=some kv/\H b=some (.dK<|aI kv):=by
 let{j,G,e}:=Zh hb;have hc:j<C.length:=by have:=h.la;have:=h.lc;lia
 have z:A[j]?=some b:=by rw[Q3 G,e]
 have e2:C[j]?=some C[j]:=Q3 hc;exact{j,C[j],z,e2,h.cell j b _ z e2}
def PD.frame{C:List (List<|Int×V)}{sz:Int}(h:PD H r A C sz)(f:∀b,b=r\/b∈A->H' b=H b):PD H' r A C sz:=
 {by rw[f r (.inl M)];exact h.lst,h.la,h.lc,λj b kv z e2=>by rw[f b (.inr<|Q1 z)];exact h.cell j b kv z e2,h.ndk,h.inj,h.home}
def PD.notr{C:List (List<|Int×V)}{sz:Int}(h:PD H r A C sz)(hb:b∈A){x:K'}(e:H x=some o)(ne:∀kvs,o≠ .dK kvs):b≠x:=λz=>by
 let{j,kv,_,_,q}:=h.has hb;rw[z,e]at q;cases q;exact ne _ M
def PD.set{C:List (List<|Int×V)}{sz:Int}(h:PD H r A C sz)(ea:A[j]?=some c)(nd:(kv'.map (·.1)).Nodup)(I:∀p∈kv',p.1%65536%sz=(j:Int)):
  PD (upd H c<|.dK<|aI kv') r A (C.set j kv') sz:=by
 have hc:r≠c:=(h.notr (Q1 ea) h.lst<|λ_ z=>by cases z).symm;refine{by rw[af hc];exact h.lst,h.la,by rw[Zo];exact h.lc,λi b kv G e2=>?_,λi kv e=>?_,h.inj,λi kv e=>?_}
 .rw[Z9]at e2;by_cases z:j=i
  .subst z;rw[ea]at G;cases G;rw[Wn M]at e2;split at e2
   .cases e2;exact ag
   .cases e2
  .rw[Wm z]at e2;rw[af λy=>z (h.inj j i c ea<|by rwa[<-y])];exact h.cell i b kv G e2
 .rw[Z9]at e;by_cases z:j=i
  .rw[Wn z]at e;split at e
   .cases e;exact nd
   .cases e
  .rw[Wm z]at e;exact h.ndk i kv e
 .rw[Z9]at e;by_cases z:j=i
  .subst z;rw[Wn M]at e;split at e
   .cases e;exact I
   .cases e
  .rw[Wm z]at e;exact h.home i kv e
def Qr(a:K')(st:P6)(d:RT):Addr->Prop:=λb=>b=a\/b=d.tb\/b=d.r0\/b∈d.A0\/(st.nxt.isSome=true/\b=d.r1)\/b∈d.A1
def IsCell(d:RT)(st:P6)(k:Int)(c:K')(kv:Sn):Prop:=
 (st.moved<=k%65536%st.size/\d.A0[(k%65536%st.size).toNat]?=some c/\d.C0[(k%65536%st.size).toNat]?=some kv)\/
 (∃m,st.nxt=some m/\k%65536%st.size<st.moved/\d.A1[(k%65536%m).toNat]?=some c/\d.C1[(k%65536%m).toNat]?=some kv)
structure PU(st:P6):Prop where
 pw:st.size∈([4,8,16,32,64,128,256]:R')
 nx:∀m,st.nxt=some m->m∈([4,8,16,32,64,128,256]:R')/\0<=st.mv/\st.mv<st.size/\(m=2*st.size\/2*m=st.size)
def nI{x:Int}(h:x∈([4,8,16,32,64,128,256]:List Int)):x=4\/x=8\/x=16\/x=32\/x=64\/x=128\/x=256:=by simpa using h
def cn{x:Int}(h:x∈([4,8,16,32,64,128,256]:List Int)):4<=x/\x<=256:=by
 rcases nI h with h|h|h|h|h|h|h<;>lia
structure Pu(t:PB)(H:Hp)(a:K')(st:P6)(d:RT):Prop where
 obj:∃dx,H a=some (.ins t.a8 dx<|Qt d.tb st.moved d.n)
 tbl:H d.tb=some (.lst<|match st.nxt with|none=> [.ref d.r0]|some _=> [.ref d.r0,.ref d.r1])
 row0:PD H d.r0 d.A0 d.C0 st.size
 row1:match st.nxt with|none=>d.A1=[]/\d.C1=[]|some m=>PD H d.r1 d.A1 d.C1 m
 dis:∀b,b∈d.A0->b∉d.A1
 tr:d.tb≠d.r0
 tr1:st.nxt.isSome=true->d.tb≠d.r1/\d.r0≠d.r1
 old:∀(j:Nat)(kv:Sn),d.C0[j]?=some kv->(j:Int)<st.moved->kv=[]
 new:∀(j:Nat)(kv:Sn),d.C1[j]?=some kv->∀p∈kv,p.1%65536%st.size<st.moved
 val:∀(k:Int)(c:K')(kv:Sn),IsCell d st k c kv->aH kv k=aH st.kv k
section
variable{d:RT}
def Pu.frame(h:Pu t H a st d)(f:∀b,Qr a st d b->H' b=H b):Pu t H' a st d:=by
 let{dx,z}:=h.obj;refine{{dx,by rwa[f a (.inl M)]},by rw[f d.tb (.inr<|.inl M)];exact h.tbl,h.row0.frame λb hb=>f b ?_,?_,h.dis,h.tr,h.tr1,h.old,h.new,h.val}
 .rcases hb with hb|hb
  .exact .inr<|.inr (.inl hb)
  .exact .inr<|.inr (.inr<|.inl hb)
 .have r1:=h.row1;have G:=f;unfold Qr at G;cases e:st.nxt with
  |none=>rw[e]at r1;exact r1
  |some m=>
   rw[e]at r1;refine PD.frame (H:=H) r1 λb hb=>f b ?_;unfold Qr;rw[e];rcases hb with hb|hb
   .exact .inr<|.inr (.inr<|.inr<|.inl ⟨M,hb⟩)
   .exact .inr<|.inr (.inr<|.inr<|.inr hb)
def Pu.dom(h:Pu t H a st d)(hb:Qr a st d b):∃o,H b=some o:=by
 let{dx,z}:=h.obj;rcases hb with rfl|rfl|rfl|hb|⟨hs,rfl⟩|hb
 .exact{_,z}
 .exact{_,h.tbl}
 .exact{_,h.row0.lst}
 .let{_,_,_,_,q}:=h.row0.has hb;exact{_,q}
 .have r1:=h.row1;cases e:st.nxt with
  |none=>rw[e]at hs;cases hs
  |some m=>rw[e]at r1;exact{_,r1.lst}
 .have r1:=h.row1;cases e:st.nxt with
  |none=>rw[e]at r1;rw[r1.1]at hb;cases hb
  |some m=>rw[e]at r1;let{_,_,_,_,q}:=r1.has hb;exact{_,q}
def Pu.at(h:Pu t H a st d){kv:Sn}(G:IsCell d st k c kv):H c=some (.dK<|aI kv)/\Qr a st d c/\(kv.map (·.1)).Nodup:=by
 rcases G with⟨_,z,e2⟩|⟨m,I,_,z,e2⟩
 .exact{h.row0.cell _ _ _ z e2,.inr<|.inr<|.inr<|.inl<|Q1 z,h.row0.ndk _ _ e2}
 .have r1:=h.row1;rw[I]at r1;exact{r1.cell _ _ _ z e2,.inr<|.inr<|.inr<|.inr<|.inr<|Q1 z,r1.ndk _ _ e2}
def uf(z:4<=m):0<=k%65536%m/\k%65536%m<m/\((k%65536%m).toNat:Int)=k%65536%m:=by
 have h1:=QP (k%65536) (show m≠0 by lia);have h2:=QL (k%65536) (show 0<m by lia);exact{h1,h2,VD h1}
def eB{l:List α}{z:Int}(G:0<=z)(h1:z<(l.length:Int)):∃x,l[z.toNat]?=some x:={l[z.toNat]'(),Q3 ()}
def Pu.cell(h:Pu t H a st d)(z:PU st)(k:Int):∃c kv,IsCell d st k c kv:=by
 let{s4,_}:=cn z.pw;let{m0,m1,U}:=uf (k:=k) s4;by_cases c:st.moved<=k%65536%st.size
 .let{x,G}:=eB (l:=d.A0) m0 (by rwa[h.row0.la]);let{y,e2}:=eB (l:=d.C0) m0 (by rwa[h.row0.lc]);exact{x,y,.inl ⟨c,G,e2⟩}
 .cases e:st.nxt with
  |none=>
   exfalso;have:st.moved=0:=by unfold P6.moved;rw[e]
   lia
  |some m=>
   let{I,_}:=z.nx m e;let{O,_}:=cn I;let{n0,n1,Y}:=uf (k:=k) O;have r1:=h.row1;rw[e]at r1;let{x,G}:=eB (l:=d.A1) n0 (by rwa[r1.la]);let{y,e2}:=eB (l:=d.C1) n0 (by rwa[r1.lc]);exact{x,y,.inr {m,e,(),G,e2}}
def IsCell.uniq{U:K'}{kv:Sn}(x:IsCell d st k c kv)(y:IsCell d st k U kv'):c=U/\kv=kv':=by
 rcases x with⟨Y,O,e2⟩|⟨m,Z,Y,O,e2⟩<;>rcases y with⟨g0,z,G⟩|⟨m',I,g0,z,G⟩
 .rw[O]at z;rw[e2]at G;cases z;cases G;exact⟨M,M⟩
 .lia
 .lia
 .rw[Z]at I;cases I;rw[O]at z;rw[e2]at G;cases z;cases G;exact⟨M,M⟩
def Pu.setN(h:Pu t H a st d):Pu t (upd H a<|.ins t.a8 dx<|Qt d.tb st.moved n) a st {d with n:=n}:=by
 let{I,G}:=h.obj;have n1:d.tb≠a:=c7 h.tbl G (by intro z;cases z);refine{⟨dx,ag⟩,by show upd H a _ d.tb=_;rw[af n1];exact h.tbl,h.row0.frame λb hb=>af ?_,?_,h.dis,h.tr,h.tr1,h.old,h.new,h.val}
 .rcases hb with rfl|hb
  .exact c7 h.row0.lst G<|by intro z;cases z
  .exact h.row0.notr hb G<|λ_ z=>by cases z
 .have r1:=h.row1;cases e:st.nxt with
  |none=>rw[e]at r1;exact r1
  |some m=>
   rw[e]at r1;refine PD.frame (H:=H) r1 λb hb=>af ?_;rcases hb with rfl|hb
   .exact c7 r1.lst G<|by intro z;cases z
   .exact r1.notr hb G<|λ_ z=>by cases z
def Pu.setCell(h:Pu t H a st d)(z:PU st){kv kvs:Sn}(ic:IsCell d st k c kv)(nd:(kv'.map (·.1)).Nodup)(hm:∀p∈kv',p∈kv\/p.1=k)
  (hk:aH kv' k=aH kvs k) (ho:∀j,j≠k->aH kv' j=aH kv j/\aH kvs j=aH st.kv j):
  ∃d',Pu t (upd H c<|.dK<|aI kv') a {st with kv:=kvs} d'/\d'.n=d.n/\∀b,Qr a {st with kv:=kvs} d' b↔Qr a st d b:=by
 let{hc,hf,_}:=h.at ic;let{dx,a1}:=h.obj;let{s4,_}:=cn z.pw;let{m0,m1,m2}:=uf (k:=k) s4;have na:a≠c:=c7 a1 hc (by intro z;cases z);have nt:d.tb≠c:=c7 h.tbl hc (by intro z;cases z);have nr:d.r0≠c:=c7 h.row0.lst hc (by intro z;cases z);have a0:∀(d':RT)(j:Int)(b:K')(x:Sn),IsCell d' {st with kv:=kvs} j b x->(∀y,IsCell d st j b y->(x=y/\b≠c)\/(x=kv'/\y=kv))->(∃y,IsCell d st j b y)->aH x j=aH kvs j:=λd' j b x hx f ⟨y,hy⟩=>by
  by_cases e:j=k
  .subst e;let{rfl,rfl}:=IsCell.uniq hy ic;rcases f y hy with⟨_,z⟩|⟨rfl,_⟩
   .exact Ws M z
   .exact hk
  .rw[(ho j e).2];rcases f y hy with⟨rfl,_⟩|⟨rfl,rfl⟩
   .exact h.val j b x hy
   .rw[(ho j e).1];exact h.val j b y hy
 rcases ic with⟨h0,e1,e2⟩|⟨m,em,h0,e1,e2⟩
 .have Y:c∈d.A0:=Q1 e1;have Z:∀p∈kv',p.1%65536%st.size=((k%65536%st.size).toNat:Int):=λp hp=>by
   rcases hm p hp with q|q
   .exact h.row0.home _ _ e2 p q
   .rw[q,m2]
  refine⟨{d with C0:=d.C0.set (k%65536%st.size).toNat kv'},{{dx,by rwa[af na]},by show upd H c _ d.tb=_;rw[af nt];exact h.tbl,h.row0.set e1 nd Z,?_,h.dis,h.tr,h.tr1,λj x e lt=>?_,h.new,λj b x hx=>?_},M,λb=>Iff.rfl⟩
  .have r1:=h.row1;show match st.nxt with|none=>_|some m=>_
   cases e:st.nxt with
   |none=>rw[e]at r1;exact r1
   |some m=>
    rw[e]at r1;refine PD.frame (H:=H) r1 λb hb=>af ?_;rcases hb with rfl|hb
    .exact c7 r1.lst hc<|by intro z;cases z
    .exact λy=>h.dis c Y (y▸hb)
  .have e:(d.C0.set (k%65536%st.size).toNat kv')[j]?=some x:=e;have lt:(j:Int)<st.moved:=lt;rw[Z9]at e;by_cases q:(k%65536%st.size).toNat=j
   .exfalso;lia
   .rw[Wm q]at e;exact h.old j x e lt
  .refine a0 _ j b x hx (λy hy=>?_) ?_
   .rcases hx with⟨U,G,O⟩|⟨m',I,U,G,O⟩
    .have O:(d.C0.set (k%65536%st.size).toNat kv')[(j%65536%st.size).toNat]?=some x:=O;have G:d.A0[(j%65536%st.size).toNat]?=some b:=G;have U:st.moved<=j%65536%st.size:=U;rcases hy with⟨_,y1,y2⟩|⟨_,_,y0,_,_⟩
     .rw[Z9]at O;by_cases q:(k%65536%st.size).toNat=(j%65536%st.size).toNat
      .rw[Wn q]at O;split at O
       .cases O;rw[<-q,e2]at y2;cases y2;exact .inr ⟨M,M⟩
       .cases O
      .rw[Wm q,y2]at O;cases O;exact .inl {M,λw=>q<|h.row0.inj _ _ c e1 (by rwa[<-w])}
     .lia
    .have G:d.A1[(j%65536%m').toNat]?=some b:=G;have O:d.C1[(j%65536%m').toNat]?=some x:=O;have U:j%65536%st.size<st.moved:=U;have I:st.nxt=some m':=I;rcases hy with⟨y0,_,_⟩|⟨m2,e3,y0,y1,y2⟩
     .lia
     .rw[I]at e3;cases e3;rw[O]at y2;cases y2;exact .inl {M,λw=>h.dis c Y<|w▸Q1 G}
   .let{b',y,hy}:=h.cell z j;have:b'=b:=by
     rcases hx with⟨U,G,O⟩|⟨m',I,U,G,O⟩<;>rcases hy with⟨y0,y1,y2⟩|⟨m3,e3,y0,y1,y2⟩
     .have G:d.A0[(j%65536%st.size).toNat]?=some b:=G;rw[y1]at G;exact Wq G
     .have U:st.moved<=j%65536%st.size:=U;lia
     .have U:j%65536%st.size<st.moved:=U;lia
     .have I:st.nxt=some m':=I;rw[I]at e3;cases e3;have G:d.A1[(j%65536%m').toNat]?=some b:=G;rw[y1]at G;exact Wq G
    subst this;exact⟨y,hy⟩
 .have r1:=h.row1;rw[em]at r1;have Y:c∈d.A1:=Q1 e1;let{pm,_}:=z.nx m em;let{s5,_}:=cn pm;let{n0,n1,n2}:=uf (k:=k) s5;have Z:∀p∈kv',p.1%65536%m=((k%65536%m).toNat:Int):=λp hp=>by
   rcases hm p hp with q|q
   .exact r1.home _ _ e2 p q
   .rw[q,n2]
  refine⟨{d with C1:=d.C1.set (k%65536%m).toNat kv'},{{dx,by rwa[af na]},by show upd H c _ d.tb=_;rw[af nt];exact h.tbl,h.row0.frame λb hb=>af ?_,?_,h.dis,h.tr,h.tr1,h.old,λj x e p hp=>?_,λj b x hx=>?_},M,λb=>Iff.rfl⟩
  .rcases hb with rfl|hb
   .exact nr
   .exact λy=>h.dis b hb (y▸Y)
  .show match st.nxt with|none=>_|some m=>_
   rw[em];exact r1.set e1 nd Z
  .have e:(d.C1.set (k%65536%m).toNat kv')[j]?=some x:=e;show p.1%65536%st.size<st.moved;rw[Z9]at e;by_cases q:(k%65536%m).toNat=j
   .rw[Wn q]at e;split at e
    .cases e;rcases hm p hp with q|q
     .exact h.new _ _ e2 p q
     .rwa[q]
    .cases e
   .rw[Wm q]at e;exact h.new j x e p hp
  .refine a0 _ j b x hx (λy hy=>?_) ?_
   .rcases hx with⟨U,G,O⟩|⟨m',I,U,G,O⟩
    .have G:d.A0[(j%65536%st.size).toNat]?=some b:=G;have O:d.C0[(j%65536%st.size).toNat]?=some x:=O;have U:st.moved<=j%65536%st.size:=U;rcases hy with⟨_,y1,y2⟩|⟨_,_,y0,_,_⟩
     .rw[O]at y2;cases y2;exact .inl {M,λw=>h.dis b (Q1 G)<|w▸Y}
     .lia
    .have I:st.nxt=some m':=I;rw[em]at I;cases I;have O:(d.C1.set (k%65536%m).toNat kv')[(j%65536%m).toNat]?=some x:=O;have G:d.A1[(j%65536%m).toNat]?=some b:=G;have U:j%65536%st.size<st.moved:=U;rcases hy with⟨y0,_,_⟩|⟨m2,e3,y0,y1,y2⟩
     .lia
     .rw[em]at e3;cases e3;rw[Z9]at O;by_cases q:(k%65536%m).toNat=(j%65536%m).toNat
      .rw[Wn q]at O;split at O
       .cases O;rw[<-q,e2]at y2;cases y2;exact .inr ⟨M,M⟩
       .cases O
      .rw[Wm q,y2]at O;cases O;exact .inl {M,λw=>q<|r1.inj _ _ c e1 (by rwa[<-w])}
   .let{b',y,hy}:=h.cell z j;have:b'=b:=by
     rcases hx with⟨U,G,O⟩|⟨m',I,U,G,O⟩<;>rcases hy with⟨y0,y1,y2⟩|⟨m3,e3,y0,y1,y2⟩
     .have G:d.A0[(j%65536%st.size).toNat]?=some b:=G;rw[y1]at G;exact Wq G
     .have U:st.moved<=j%65536%st.size:=U;lia
     .have U:j%65536%st.size<st.moved:=U;lia
     .have I:st.nxt=some m':=I;rw[I]at e3;cases e3;have G:d.A1[(j%65536%m').toNat]?=some b:=G;rw[y1]at G;exact Wq G
    subst this;exact⟨y,hy⟩
end
def xf{kv:Sn}{p:Int×V}(h:p∈a9 kv k v):p∈kv\/p.1=k:=by
 unfold a9 at h;split at h
 .let{q,hq,e}:=QJ.mp h;by_cases z:q.1=k
  .rw[Wn z]at e;rw[<-e];exact .inr z
  .rw[Wm z]at e;rw[<-e];exact .inl hq
 .rcases Q5.mp h with h|h
  .exact .inl h
  .rw[Q7.mp h];exact .inr M
def KY{kv:Sn}{p:Int×V}(h:p∈kv):(aH kv p.1).isSome=true:=mem_keys.mp (QJ.mpr ⟨p,h,M⟩)
def g9(m:Int)(C:List (List<|Int×V))(p:Int×V):List (List<|Int×V):=C.set (p.1%65536%m).toNat (a9 (C.getD (p.1%65536%m).toNat []) p.1 p.2)
def HX{C:List (List<|Int×V)}{p:Int×V}:(g9 m C p).length=C.length:=Zo
theorem EG{m:Int}:∀{kv:Sn}{C:List (List<|Int×V)},(kv.foldl (g9 m) C).length=C.length
 | [],_=>rfl
 |p::r,C=>by rw[List.foldl_cons,EG,HX]
def BZ{C:List (List<|Int×V)}{p:Int×V}{y:Sn}(e:C[j]?=some y):(g9 m C p)[j]?=some (if(p.1%65536%m).toNat=j then a9 y p.1 p.2 else y):=by
 unfold g9;rw[Z9];by_cases z:(p.1%65536%m).toNat=j
 .have G:j<C.length:=(Q2.mp e).1;rw[Wn z,Wn z,Wn (by rwa[z]),QR,z,e];rfl
 .rw[Wm z,Wm z,e]
set_option tactic.hygienic true in
theorem AJ{m:Int}:∀{kv:Sn}{C:List (List<|Int×V)}{j:Nat}{y:Sn},(kv.map (·.1)).Nodup->C[j]?=some y->∃x,(kv.foldl (g9 m) C)[j]?=some x/\
  (∀p∈x,p∈y\/p.1∈kv.map (·.1))/\∀k,aH x k=if(k%65536%m).toNat=j then(aH kv k).or (aH y k)else aH y k
 | [],C,j,y,_,e=>{y,e,λp hp=> .inl hp,λk=>by rw[kD];simp}
 |p::r,C,j,y,nd,e=>by
  let{n1,G}:=Zv.mp (show(p.1::r.map (·.1)).Nodup from nd);let{x,h1,h2,I}:=AJ (m:=m) G (BZ (m:=m) (p:=p) e);refine{x,h1,λq hq=>?_,λk=>?_}
  .rcases h2 q hq with z|z
   .split at z
    .rcases xf z with z|z
     .exact .inl z
     .exact .inr<|QJ.mpr ⟨p,QK,z.symm⟩
    .exact .inl z
   .exact .inr<|QM _ z
  .rw[I k];by_cases z:(k%65536%m).toNat=j
   .rw[Wn z,Wn z];by_cases w:p.1=k
    .subst w;have:aH r p.1=none:=by
      cases q:aH r p.1 with
      |none=>rfl
      |some v=>exact Ws (vA q) n1
     rw[this,bD M,Wn z,eI,Wn M];rfl
    .rw[bz w];congr 1;split
     .rw[eI,Wm (Ne.symm w)]
     .rfl
   .rw[Wm z,Wm z];split
    .rename_i w
     rw[eI,Wm (λy=>z<|by rwa[y])]
    .rfl
def PD.mov{C:List (List<|Int×V)}{sz:Int}{y:Sn}(h:PD H r A C sz)(s4:4<=sz)(ea:A[(k%65536%sz).toNat]?=some c)(G:C[(k%65536%sz).toNat]?=some y):
  PD (upd H c<|.dK<|aI<|a9 y k v) r A (g9 sz C (k,v)) sz:=by
 have e:g9 sz C (k,v)=C.set (k%65536%sz).toNat (a9 y k v):=by
  unfold g9;rw[QR];show C.set (k%65536%sz).toNat (a9 (C[(k%65536%sz).toNat]?.getD []) k v)=_;rw[G];rfl
 rw[e];let{m0,m1,I}:=uf (k:=k) s4;refine h.set ea (wY<|h.ndk _ _ G) λp hp=>?_;rcases xf hp with z|z
 .exact h.home _ _ G p z
 .rw[z,I]
section
variable{d:RT}
def P6.moved_some(e:st.nxt=some m):st.moved=st.mv:=by unfold P6.moved;rw[e]
def P6.moved_none(e:st.nxt=none):st.moved=0:=by unfold P6.moved;rw[e]
def Pu.movVal(h:Pu t H a st d)(z:PU st)(G:st.nxt=some m){kv:Sn}(I:d.C0[st.mv.toNat]?=some kv)(hk:k%65536%st.size<=st.mv){x:Sn}
  (ex:(kv.foldl (g9 m) d.C1)[(k%65536%m).toNat]?=some x):aH x k=aH st.kv k:=by
 let{pm,v0,v1,_}:=z.nx m G;let{s4,_}:=cn z.pw;let{s5,_}:=cn pm;have r1:=h.row1;rw[G]at r1;let{n0,n1,n2}:=uf (k:=k) s5;let{m0,m1,m2}:=uf (k:=k) s4;let{y,O}:=eB (l:=d.C1) n0 (by rwa[r1.lc]);let{c1,U}:=eB (l:=d.A1) n0 (by rwa[r1.la]);let{x',e',_,hv}:=AJ (m:=m) (h.row0.ndk _ _ I) O;rw[ex]at e';cases e';rw[hv k,Wn M];have hm:=P6.moved_some G;by_cases c:k%65536%st.size=st.mv
 .let{b0,Y}:=eB (l:=d.A0) m0 (by rwa[h.row0.la]);have Z:IsCell d st k b0 kv:= .inl {(),Y,by rw[c];exact I};have yn:aH y k=none:=by
   cases q:aH y k with
   |none=>rfl
   |some v=>
    let{p,hp,e}:=QJ.mp (vA q);have:=h.new _ _ O p hp;rw[e]at this;lia
  rw[h.val k b0 kv Z,yn];simp
 .have Z:IsCell d st k c1 y:= .inr {m,G,(),U,O};have kn:aH kv k=none:=by
   cases q:aH kv k with
   |none=>rfl
   |some v=>
    let{p,hp,e}:=QJ.mp (vA q);have:=h.row0.home _ _ I p hp;rw[e]at this;lia
  rw[kn,h.val k c1 y Z];rfl
def eL{l:List α}{x y:α}(e:(l.set i x)[j]?=some y):(i=j/\y=x)\/(i≠j/\l[j]?=some y):=by
 rw[Z9]at e;by_cases z:i=j
 .rw[Wn z]at e;split at e
  .cases e;exact .inl ⟨z,M⟩
  .cases e
 .rw[Wm z]at e;exact .inr ⟨z,e⟩
def Pu.one(h:Pu t H a st d)(z:PU st)(Y:st.nxt=some m){kv:Sn}(ek:d.C0[st.mv.toNat]?=some kv){b':K'}(nl:st.mv+1≠st.size)
  (ha:H' a=some (.ins t.a8 dx<|Qt d.tb (st.mv+1) d.n)) (ht:H' d.tb=H d.tb) (h0:H' d.r0=some (.lst<|(d.A0.set st.mv.toNat b').map V.ref)) (hb:H' b'=some (.dK [])) (hF:¬Qr a st d b')
  (hA:∀(j:Nat) b,d.A0[j]?=some b->j≠st.mv.toNat->H' b=H b) (hr:PD H' d.r1 d.A1 (kv.foldl (g9 m) d.C1) m):
  Pu t H' a st.one {d with A0:=d.A0.set st.mv.toNat b',C0:=d.C0.set st.mv.toNat [],C1:=kv.foldl (g9 m) d.C1}:=by
 let{pm,v0,v1,_}:=z.nx m Y;have a1:st.one={st with mv:=st.mv+1}:=by unfold P6.one;rw[Y];exact Wm nl
 have G:({st with mv:=st.mv+1}:P6).moved=st.mv+1:=P6.moved_some (st:={st with mv:=st.mv+1}) Y;have hm:=P6.moved_some Y;have a2:b'∉d.A0:=λq=>hF (.inr<|.inr<|.inr<|.inl q);have a3:b'∉d.A1:=λq=>hF (.inr<|.inr<|.inr<|.inr<|.inr q);rw[a1];have r1:=h.row1;rw[Y]at r1;refine{{dx,by rwa[G]},by rw[ht];exact h.tbl,{h0,by rw[Zo];exact h.row0.la,by rw[Zo];exact h.row0.lc,λj b x Z e2=>?_,λj x e=>?_,λi j b Z e2=>?_,λj x e p hp=>?_},?_,λb a4 hb1=>?_,h.tr,h.tr1,λj x e lt=>?_,λj x e p hp=>?_,λk c x ic=>?_}
 .rcases eL Z with⟨q,rfl⟩|⟨q,Z⟩
  .rcases eL e2 with⟨_,rfl⟩|⟨q2,_⟩
   .exact hb
   .exact Ws q q2
  .rcases eL e2 with⟨q2,_⟩|⟨_,e2⟩
   .exact Ws q2 q
   .rw[hA j b Z (Ne.symm q)];exact h.row0.cell j b x Z e2
 .rcases eL e with⟨_,rfl⟩|⟨_,e⟩
  .exact ZE
  .exact h.row0.ndk j x e
 .have Z:(d.A0.set st.mv.toNat b')[i]?=some b:=Z;have e2:(d.A0.set st.mv.toNat b')[j]?=some b:=e2;rcases eL Z with⟨q,y1⟩|⟨q,O⟩<;>rcases eL e2 with⟨q2,y2⟩|⟨q2,I⟩
  .exact q.symm.trans q2
  .rw[y1]at I;exact Ws (Q1 I) a2
  .rw[y2]at O;exact Ws (Q1 O) a2
  .exact h.row0.inj i j b O I
 .rcases eL e with⟨_,rfl⟩|⟨_,e⟩
  .cases hp
  .exact h.row0.home j x e p hp
 .show match st.nxt with|none=>_|some m=>_
  rwa[Y]
 .let{j,hj,e}:=Zh (show b∈d.A0.set st.mv.toNat b' from a4);rcases eL (Q2.mpr ⟨hj,e⟩)with⟨_,rfl⟩|⟨_,e⟩
  .exact a3 hb1
  .exact h.dis b (Q1 e) hb1
 .rw[G]at lt;rcases eL e with⟨_,rfl⟩|⟨q,e⟩
  .rfl
  .exact h.old j x e ()
 .rw[G];show p.1%65536%st.size<st.mv+1;obtain⟨y,ey⟩:∃y,d.C1[j]?=some y:=by
   have hj:j<(kv.foldl (g9 m) d.C1).length:=(Q2.mp e).1;rw[EG]at hj;exact{_,Q3 hj}
  let{x',e',a0,_}:=AJ (m:=m) (h.row0.ndk _ _ ek) ey;have e:(kv.foldl (g9 m) d.C1)[j]?=some x:=e;rw[e]at e';cases e';rcases a0 p hp with q|q
  .have:=h.new j y ey p q;lia
  .let{p',a0,e3}:=QJ.mp q;have:=h.row0.home _ _ ek p' a0;rw[e3]at this;lia
 .show aH x k=aH st.kv k;rcases ic with⟨g0,O,I⟩|⟨m',U,g0,O,I⟩
  .rw[G]at g0;have g0:st.mv+1<=k%65536%st.size:=g0;have O:(d.A0.set st.mv.toNat b')[(k%65536%st.size).toNat]?=some c:=O;have I:(d.C0.set st.mv.toNat [])[(k%65536%st.size).toNat]?=some x:=I;rcases eL O with⟨q,_⟩|⟨_,O⟩
   .lia
   .rcases eL I with⟨q,_⟩|⟨_,I⟩
    .lia
    .exact h.val k c x<|.inl {(),O,I}
  .rw[G]at g0;have U:st.nxt=some m':=U;rw[Y]at U;cases U;have g0:k%65536%st.size<st.mv+1:=g0;exact h.movVal z Y ek () I
def Pu.last(h:Pu t H a st d)(z:PU st)(U:st.nxt=some m){kv:Sn}(Y:d.C0[st.mv.toNat]?=some kv){tb':K'}(l:st.mv+1=st.size)
  (ha:H' a=some (.ins t.a8 dx<|Qt tb' 0 d.n)) (Z:H' tb'=some (.lst [.ref d.r1])) (hn:tb'≠d.r1) (hr:PD H' d.r1 d.A1 (kv.foldl (g9 m) d.C1) m):
  Pu t H' a st.one {tb',d.r1,d.r1,d.A1,[],kv.foldl (g9 m) d.C1,[],d.n}:=by
 have G:st.one={st with size:=m,nxt:=none,mv:=0}:=by unfold P6.one;rw[U];exact Wn l
 let{s4,_}:=cn z.pw;rw[G];refine{⟨dx,ha⟩,Z,hr,⟨M,M⟩,(λb _ q=>by cases q),hn,(λq=>by cases q),λj x e lt=>?_,(λj x e=>by simp at e),λk c x ic=>?_}
 .have lt:(j:Int)<0:=lt;lia
 .rcases ic with⟨g0,f1,I⟩|⟨m',O,_⟩
  .have I:(kv.foldl (g9 m) d.C1)[(k%65536%m).toNat]?=some x:=I;let{m0,m1,m2}:=uf (k:=k) s4;exact h.movVal z U Y () I
  .cases O
def Pu.begin(h:Pu t H a st d)(Z:st.nxt=none)(ha:H' a=H a)(ht:H' d.tb=some (.lst [.ref d.r0,.ref r]))(h0:∀b,b=d.r0\/b∈d.A0->H' b=H b)
  (hr:PD H' r A (List.replicate m.toNat []) m) (nr:¬Qr a st d r) (nA:∀b∈A,¬Qr a st d b):Pu t H' a {st with nxt:=some m,mv:=0} {d with r1:=r,A1:=A,C1:=List.replicate m.toNat []}:=by
 let{dx,O}:=h.obj;have U:=P6.moved_none Z;refine{{dx,by rw[ha];rw[U]at O;exact O},ht,h.row0.frame h0,hr,λb q q2=>nA b q2<|.inr<|.inr<|.inr<|.inl q,h.tr,λ_=>{λq=>nr<|.inr<|.inl q.symm,λq=>nr<|.inr (.inr<|.inl q.symm)},λj x e lt=>?_,λj x e p hp=>?_,λk c x ic=>?_}
 .have lt:(j:Int)<0:=lt;lia
 .have:=Xm (Q1 e);subst this;cases hp
 .rcases ic with⟨G,Y,I⟩|⟨m',a0,G,Y,I⟩
  .refine h.val k c x<|.inl {?_,Y,I};rwa[U]
  .have G:k%65536%st.size<0:=G;have I:(List.replicate m.toNat ([]:Sn))[(k%65536%m').toNat]?=some x:=I;have:0<=k%65536%st.size:=by
    have z:(0:Int)<=st.size:=by rw[<-h.row0.la];lia
    rcases Int.lt_or_eq_of_le z with q|q
    .exact QP _ ()
    .rw[<-q,Int.emod_zero];exact QP _ (_)
   lia
def Pu.fresh(ha:H a=some (.ins t.a8 dx<|Qt tb 0 0))(I:H tb=some (.lst [.ref r]))(O:PD H r A (List.replicate 4 []) 4)(n:tb≠r):Pu t H a P6.new {tb,r,r,A,[],List.replicate 4 [],[],0}:=by
 refine{⟨dx,ha⟩,I,O,⟨M,M⟩,(λb _ q=>by cases q),n,(λq=>by cases q),λj x e lt=>?_,(λj x e=>by simp at e),λk c x U=>?_}
 .have lt:(j:Int)<0:=lt;lia
 .rcases U with⟨Y,Z,z⟩|⟨m',G,_⟩
  .have z:(List.replicate 4 ([]:Sn))[(k%65536%4).toNat]?=some x:=z;have:=Xm (Q1 z);subst this;rfl
  .cases G
def Pu.short(h:Pu t H a st d)(z:PU st){kv:Sn}(Z:IsCell d st k c kv):kv.length<=st.kv.length:=by
 let{_,_,nd}:=h.at Z;have sub:∀x∈kv.map (·.1),x∈st.kv.map (·.1):=λx hx=>by
  let{p,hp,e}:=QJ.mp hx;subst e;refine mem_keys.mpr ?_;have hs:=KY hp;have:∃I,IsCell d st p.1 I kv:=by
   rcases Z with⟨g0,O,G⟩|⟨m,U,g0,O,G⟩
   .let{s4,_}:=cn z.pw;let{m0,m1,m2}:=uf (k:=k) s4;have e:=h.row0.home _ _ G p hp;rw[m2]at e;exact{c,.inl {by rwa[e],by rwa[e],by rwa[e]}}
   .let{pm,_}:=z.nx m U;let{s5,_}:=cn pm;let{n0,n1,n2}:=uf (k:=k) s5;have r1:=h.row1;rw[U]at r1;have e:=r1.home _ _ G p hp;rw[n2]at e;exact{c,.inr {m,U,h.new _ _ G p hp,by rwa[e],by rwa[e]}}
  let{I,Y}:=this;rwa[<-h.val p.1 I kv Y]
 have:=gR nd sub;rw[Q0,Q0]at this;exact this
end
theorem BY{m:Int}:∀{kv:Sn}{C:List (List<|Int×V)}{j:Nat}{x y:Sn},C[j]?=some y->(kv.foldl (g9 m) C)[j]?=some x->x.length<=y.length+kv.length
 | [],C,j,x,y,e,f=>by
  have f:C[j]?=some x:=f;rw[e]at f;cases f;exact Q4 _
 |p::r,C,j,x,y,e,f=>by
  have h:=BY (m:=m) (BZ (m:=m) (p:=p) e) f;have l:=cw y p.1 p.2;rw[QW];split at h<;>lia
section
variable{d:RT}
def Pu.short0(h:Pu t H a st d)(z:PU st){kv:Sn}(e:d.C0[j]?=some kv):kv.length<=st.kv.length:=by
 cases kv with
 |nil=>exact QT _
 |cons p r=>
  have hp:=h.row0.home j _ e p QK;have I:¬(j:Int)<st.moved:=λq=>by have:=h.old j _ e q;cases this
  have ej:(p.1%65536%st.size).toNat=j:=();have G:j<d.A0.length:=by
   have:=h.row0.la;have:=h.row0.lc;have:=(Q2.mp e).1;lia
  exact h.short z (k:=p.1) (c:=d.A0[j])<|.inl {(),by rw[ej];exact Q3 G,by rwa[ej]}
def Pu.short1(h:Pu t H a st d)(z:PU st)(G:st.nxt=some m){kv:Sn}(e:d.C1[j]?=some kv):kv.length<=st.kv.length:=by
 have r1:=h.row1;rw[G]at r1;cases kv with
 |nil=>exact QT _
 |cons p r=>
  have hp:=r1.home j _ e p QK;have I:=h.new j _ e p QK;have ej:(p.1%65536%m).toNat=j:=();have O:j<d.A1.length:=by
   have:=r1.la;have:=r1.lc;have:=(Q2.mp e).1;lia
  exact h.short z (k:=p.1) (c:=d.A1[j])<|.inr {m,G,I,by rw[ej];exact Q3 O,by rwa[ej]}
end
def PU.new:PU P6.new:={(_),λm e=>by cases e}
def PU.kv{kvs:Sn}(z:PU st):PU {st with kv:=kvs}:=⟨z.pw,z.nx⟩
set_option tactic.hygienic true in
def PU.one(z:PU st):PU st.one:=by
 unfold P6.one;cases e:st.nxt with
 |none=>exact z
 |some m=>
  let{G,O,U,I}:=z.nx m e;show PU (if _ then _ else _);split
  .exact{G,λm' q=>by cases q}
  .rename_i c
   refine{z.pw,λm' q=>?_};have q:some m=some m':=q;cases q;exact{G,by show 0<=st.mv+1;lia,by show st.mv+1<st.size;lia,I}
def OJ{x:Int}(h:x∈([4,8,16,32,64,128,256]:List Int))(c:x<256):2*x∈([4,8,16,32,64,128,256]:R'):=by
 rcases nI h with rfl|rfl|rfl|rfl|rfl|rfl|rfl<;>first|decide|exact Ws c (_)
def L8{x:Int}(h:x∈([4,8,16,32,64,128,256]:List Int))(c:4<x):x/2∈([4,8,16,32,64,128,256]:R')/\2*(x/2)=x:=by
 rcases nI h with rfl|rfl|rfl|rfl|rfl|rfl|rfl<;>first|decide|exact Ws c (_)
def L7{x:Int}(h:x∈([4,8,16,32,64,128,256]:List Int)):0<x:=by
 rcases nI h with rfl|rfl|rfl|rfl|rfl|rfl|rfl<;>decide
set_option tactic.hygienic true in
def PU.three(z:PU st):PU st.three:=by
 unfold P6.three;cases e:st.nxt with
 |some m=>exact z
 |none=>
  show PU (if _ then _ else _);split
  .rename_i c
   refine{z.pw,λm' q=>?_};cases q;exact{OJ z.pw c.2,ZL _,L7 z.pw,.inl M}
  .split
   .rename_i c
    refine{z.pw,λm' q=>?_};cases q;exact{(L8 z.pw c.2).1,ZL _,L7 z.pw,.inr (L8 z.pw c.2).2}
   .exact z
def QI(_K:JZ)(t:PB)(H:Hp)(a:K')(F:O')(st:P6):Prop:=
 ∃d,Pu t H a st d/\(∀b,F b↔Qr a st d b)/\d.n=(st.kv.length:Int)/\(st.kv.map (·.1)).Nodup/\PU st
def QI.ins(h:QI K t H a F st):∃dx fs,H a=some (.ins t.a8 dx fs)/\∀m,NoM m->fs.lookup m=none:=by
 let{d,hb,_}:=h;let{dx,z}:=hb.obj;exact{dx,_,z,λm G=>LZ G}
def QI.dom(h:QI K t H a F st)(hb:F b):∃o,H b=some o:=by
 let{d,h1,h2,_}:=h;exact h1.dom<|(h2 b).mp hb
def QI.frame(h:QI K t H a F st)(f:∀b,F b->H' b=H b):QI K t H' a F st:=by
 let{d,h1,h2,z}:=h;exact{d,h1.frame λb hb=>f b<|(h2 b).mpr hb,h2,z}
def QI.same(h:QI K t H a F st)(s:GI H H'):QI K t H' a F st:=h.frame λb hb=>by
 let{o,e}:=h.dom hb;rw[e];exact s b o e
def QI.out(h:QI K t H a F st)(e:H p=none):¬F p:=λz=>by
 let{o,q}:=h.dom z;rw[q]at e;cases e
def QI.upd(h:QI K t H a F st)(e:¬F p):QI K t (L2.upd H p o) a F st:=h.frame λb hb=>af λz=>e (z▸hb)
def QI.new(h:QI K t H a F st)(e:H p=none):QI K t (L2.upd H p o) a F st:=h.upd (h.out e)
def vQ(K:JZ)(t:PB):Sp:=λvs H Q _=>∃(a dx:K'),vs=[.ref a]/\H a=some (.ins t.a8 dx [])/\H dx=some (.own a)/\∀H' F,QI K t H' a F P6.new->Fr (λb=>b=a\/b=dx) F H H'->Q .non H'
def yd(K:JZ)(t:PB):Sp:=λvs H Q _=>∃(a:K')(k i:Int)(F:O')(st:P6),vs=[.ref a,.int k,.int i]/\QI K t H a F st/\0<=k/\st.kv.length<4096/\
 ∀H' F',QI K t H' a F' (st.put k<|.int i)->Fr F F' H H'->Q .non H'
def vR(K:JZ)(t:PB):Sp:=λvs H Q E=>∃(a:K')(k:Int)(F:O')(st:P6),vs=[.ref a,.int k]/\QI K t H a F st/\0<=k/\
 ((aH st.kv k).isSome=true->st.kv.length<4096/\∀H' F',QI K t H' a F' (st.drop k)->Fr F F' H H'->Q .non H')/\(aH st.kv k=none->False)
def yf(K:JZ)(t:PB):Sp:=λvs H Q E=>∃(a:K')(k:Int)(F:O')(st:P6),vs=[.ref a,.int k]/\QI K t H a F st/\0<=k/\
 (∀v,aH st.kv k=some v->∀H' F',QI K t H' a F' st->Fr F F' H H'->Q v H')/\(aH st.kv k=none->False)
def ye(K:JZ)(t:PB):Sp:=λvs H Q _=>∃(a:K')(k:Int)(F:O')(st:P6),vs=[.ref a,.int k]/\QI K t H a F st/\0<=k/\
 ∀H' F',QI K t H' a F' st->Fr F F' H H'->Q (.bl (aH st.kv k).isSome) H'
def vP(K:JZ)(t:PB):Sp:=λvs H Q _=>∃(a:K')(F:O')(st:P6),vs=[.ref a]/\QI K t H a F st/\
 ∀H' F' l,QI K t H' a F' st->Fr F F' H H'->H l=none->¬F' l->H' l=some (.lst<|st.rows.map V.int)->Q (.ref l) H'
def dH(l:R'):Prop:=l.Pairwise (· < ·)
structure Pp(ls:Th):Prop where
 ne:∀l∈ls,l≠[]
 le:∀l∈ls,l.length<=8
 nb:∀(i:Nat)(x y:R'),ls[i]?=some x->ls[i+1]?=some y->5<=x.length+y.length
 up:dH ls.flatten
def Pp.nil:Pp []:={(λ_ h=>by cases h),(λ_ h=>by cases h),(λi x y e=>by simp at e),WK}
def NR(e:ls[i]?=some x):ls=ls.take i++x::ls.drop (i+1):=by
 let{h,e}:=Q2.mp e;rw[<-e,<-ZQ h,Zm]
def iG(e:ls[i]?=some x):ls.flatten=(ls.take i).flatten++(x++(ls.drop<|i+1).flatten):=by
 conv=>lhs;rw[NR e]
 rw[X9,X7]
def R9{a b c:R'}:dH (a++(b++c))↔dH a/\dH b/\dH c/\(∀x∈a,∀y∈b,x<y)/\(∀x∈a,∀y∈c,x<y)/\∀x∈b,∀y∈c,x<y:=by
 unfold dH;rw[QU,QU];constructor
 .rintro ⟨h1,⟨h2,I,O⟩,G⟩;exact{h1,h2,I,λx hx y hy=>G x hx y<|ZW _ hy,λx hx y hy=>G x hx y<|Z8 _ hy,O}
 .rintro ⟨h1,h2,I,O,G,U⟩;refine{h1,⟨h2,I,U⟩,λx hx y hy=>?_};rcases Q5.mp hy with z|z
  .exact O x hx y z
  .exact G x hx y z
structure QF(ls:Th)(k:Int)(i:Nat):Prop where
 le:i<=ls.length
 lo:∀(j:Nat)(x:R'),j<i->ls[j]?=some x->∀y∈x,y<k
 hi:∀x,ls[i]?=some x->∃y∈x,k<=y
def Bw{y:Int}(h:y∈(ls.take i).flatten):∃(j:Nat)(x:R'),j<i/\ls[j]?=some x/\y∈x:=by
 let{x,hx,hy}:=VZ.mp h;let{j,z,e}:=Zh hx;rw[Q9]at z;rw[XU]at e;exact{j,x,(),Q2.mpr {(),e},hy}
def QF.ahead(h:QF ls k i):∀y∈(ls.take i).flatten,y<k:=λy hy=>by
 let{j,x,z,e,hx}:=Bw hy;exact h.lo j x z e y hx
def QF.behind(o:Pp ls)(h:QF ls k i):∀y∈(ls.drop<|i+1).flatten,k<y:=λy hy=>by
 cases e:ls[i]? with
 |none=>
  have:ls.length<=i:=Xi.mp e;rw[Xd ()]at hy;cases hy
 |some x=>
  let{z,hz,le}:=h.hi x e;have up:=o.up;rw[iG e]at up;have:=(R9.mp up).2.2.2.2.2 z hz y hy;lia
def QF.mem(o:Pp ls)(h:QF ls k i):k∈ls.flatten↔∃x,ls[i]?=some x/\k∈x:=by
 constructor
 .intro hk;cases e:ls[i]? with
  |none=>
   have l:ls.length<=i:=Xi.mp e;have:ls.take i=ls:=Z1 l;have:=h.ahead k (by rwa[this]);lia
  |some x=>
   rw[iG e]at hk;rcases Q5.mp hk with z|z
   .have:=h.ahead k z;lia
   .rcases Q5.mp z with z|z
    .exact⟨x,M,z⟩
    .have:=h.behind o k z;lia
 .rintro ⟨x,e,hk⟩;exact VZ.mpr {x,Q1 e,hk}
theorem Cs:∀{l:R'}{k:Int},dH l->k∉l->(∀x∈l.take (l.filter<|λz=>decide (z<k)).length,x<k)/\∀x∈l.drop (l.filter<|λz=>decide (z<k)).length,k<x
 | [],k,_,_=>{λx h=>by simp at h,λx h=>by simp at h}
 |a::r,k,up,nk=>by
  let{h1,h2}:=Xq.mp up;have nr:k∉r:=λz=>nk (QM _ z);have O:a≠k:=λz=>nk (by rw[z];exact QK);by_cases c:a<k
  .let{G,I}:=Cs h2 nr;rw[Xn,Wn (by simpa using c),QW,VE,List.drop_succ_cons];refine{λx hx=>?_,I};rcases QS.mp hx with rfl|hx
   .exact c
   .exact G x hx
  .have:(a::r).filter (λz=>decide (z<k))=[]:=by
    rw[Xr];intro x hx;rcases QS.mp hx with rfl|hx
    .simpa using c
    .have:=h1 x hx;simp;lia
   rw[this];refine{λx hx=>by simp at hx,λx hx=>?_};have hx:x∈a::r:=by simpa using hx
   rcases QS.mp hx with rfl|hx
   .lia
   .have:=h1 x hx;lia
noncomputable def gS(l:R')(k:Int):List Int:=l.take (l.filter<|λz=>decide (z<k)).length++k::l.drop (l.filter<|λz=>decide (z<k)).length
def IE{l:R'}:(gS l k).length=l.length+1:=by
 have h:=QX (λz=>decide (z<k)) l;unfold gS;rw[Q6,QW,Q9,Zc];lia
def RE{l:R'}{x:Int}:x∈gS l k↔x=k\/x∈l:=by
 unfold gS;rw[Q5,QS];have:x∈l↔x∈l.take (l.filter<|λz=>decide (z<k)).length\/x∈l.drop (l.filter<|λz=>decide (z<k)).length:=by
  rw[<-Q5,Zm]
 rw[this];constructor
 .rintro (h|h|h)
  .exact .inr<|.inl h
  .exact .inl h
  .exact .inr<|.inr h
 .rintro (h|h|h)
  .exact .inr<|.inl h
  .exact .inl h
  .exact .inr<|.inr h
def Gk{l:R'}(up:dH l)(I:k∉l):dH (gS l k):=by
 let{h1,h2}:=Cs up I;have G:dH (l.take (l.filter<|λz=>decide (z<k)).length++l.drop (l.filter<|λz=>decide (z<k)).length):=by rwa[Zm]
 let{O,U,Y}:=QU.mp G;unfold gS;refine QU.mpr {O,Xq.mpr ⟨h2,U⟩,λx hx y hy=>?_};rcases QS.mp hy with rfl|hy
 .exact h1 x hx
 .exact Y x hx y hy
structure Rz(ls:Th)(k:Int)(i:Nat)(x:R'):Prop where
 at_:ls[i]?=some x
 lo:∀y∈(ls.take i).flatten,y<k
 hi:∀y∈(ls.drop<|i+1).flatten,k<y
def QF.add(o:Pp ls)(h:QF ls k i)(ne:ls≠[]):∃x,Rz ls k (min i<|ls.length-1) x:=by
 have hl:0<ls.length:=ZM.mpr ne;by_cases c:i<ls.length
 .have:min i (ls.length-1)=i:=();rw[this];exact{ls[i],Q3 c,h.ahead,h.behind o}
 .have le:=h.le;have:min i (ls.length-1)=ls.length-1:=();rw[this];have z:ls.length-1<ls.length:=();refine{ls[ls.length-1],Q3 z,λy hy=>?_,λy hy=>?_}
  .let{j,x,G,e,hx}:=Bw hy;exact h.lo j x () e y hx
  .rw[Xd ()]at hy;cases hy
def Ao(e:ls[i]?=some x):ls.set i y=ls.take i++y::ls.drop (i+1):=by
 have hi:=(Q2.mp e).1;rw[List.set_eq_take_append_cons_drop,Wn hi]
def rD(e:ls[i]?=some x):(ls.set i y).flatten=(ls.take i).flatten++(y++(ls.drop<|i+1).flatten):=by
 rw[Ao e,X9,X7]
def Rz.set(o:Pp ls)(h:Rz ls k i x)(G:k∉ls.flatten):dH (ls.set i<|gS x k).flatten/\∀z,z∈(ls.set i<|gS x k).flatten↔z=k\/z∈ls.flatten:=by
 have up:=o.up;rw[iG h.at_]at up G;let{I,O,U,Y,Z,u6}:=R9.mp up;have nx:k∉x:=λz=>G (Z8 _<|ZW _ z);rw[rD h.at_,iG h.at_];refine{R9.mpr {I,Gk O nx,U,λa ha b hb=>?_,Z,λa ha b hb=>?_},λz=>?_}
 .rcases RE.mp hb with rfl|hb
  .exact h.lo a ha
  .exact Y a ha b hb
 .rcases RE.mp ha with rfl|ha
  .exact h.hi b hb
  .exact u6 a ha b hb
 .rw[Q5,Q5,Q5,Q5,RE];constructor
  .rintro (h|(h|h)|h)
   .exact .inr<|.inl h
   .exact .inl h
   .exact .inr<|.inr (.inl h)
   .exact .inr<|.inr (.inr h)
  .rintro (h|h|h|h)
   .exact .inr<|.inl (.inl h)
   .exact .inl h
   .exact .inr<|.inl (.inr h)
   .exact .inr<|.inr h
def ss{z:R'}(e:ls[i]?=some x)(f:(ls.set i y)[j]?=some z):(i=j/\z=y)\/(i≠j/\ls[j]?=some z):=by
 rw[Z9]at f;by_cases c:i=j
 .rw[Wn c]at f;split at f
  .cases f;exact .inl ⟨c,M⟩
  .cases f
 .rw[Wm c]at f;exact .inr ⟨c,f⟩
def vC{z:R'}(e:ls[i]?=some x)(h:z∈ls.set i y):z=y\/z∈ls:=by
 let{j,G,I}:=Zh h;rcases ss e (Q2.mpr ⟨G,I⟩)with⟨_,q⟩|⟨_,q⟩
 .exact .inl q
 .exact .inr<|Q1 q
def Pp.grown(o:Pp ls)(e:ls[i]?=some x)(l1:x.length<=y.length)(O:y.length<=8)(up:dH (ls.set i y).flatten):Pp (ls.set i y):=by
 have hx:=o.ne x (Q1 e);have px:0<x.length:=ZM.mpr hx;refine{λl hl=>?_,λl hl=>?_,λj a b f g=>?_,up}
 .rcases vC e hl with rfl|hl
  .exact Xj ()
  .exact o.ne l hl
 .rcases vC e hl with rfl|hl
  .exact O
  .exact o.le l hl
 .rcases ss e f with⟨c,h1⟩|⟨c,z⟩<;>rcases ss e g with⟨G,h2⟩|⟨G,I⟩
  .lia
  .subst c;have:=o.nb i x b e I;rw[h1];lia
  .rw[G]at e;have:=o.nb j a x z e;rw[h2];lia
  .exact o.nb j a b z I
set_option tactic.hygienic true in
def Pp.parted{a b:R'}(o:Pp ls)(e:ls[i]?=some x)(U:a.length=4)(Y:b.length=5)(up:dH (ls.set i<|a++b).flatten):
  Pp ((ls.set i a).take (i+1)++b::(ls.set i a).drop (i+1))/\((ls.set i a).take (i+1)++b::(ls.set i a).drop (i+1)).flatten=(ls.set i<|a++b).flatten:=by
 have hi:=(Q2.mp e).1;have lt:(ls.take i).length=i:=by rw[Q9];lia
 have O:(ls.set i a).take (i+1)++b::(ls.set i a).drop (i+1)=ls.take i++a::b::ls.drop (i+1):=by
  rw[Ao (y:=a) e];have h1:(ls.take i++a::ls.drop (i+1)).take (i+1)=ls.take i++ [a]:=by
   rw[List.take_append,lt,Z1 ()];have:i+1-i=1:=();rw[this];rfl
  have h2:(ls.take i++a::ls.drop (i+1)).drop (i+1)=ls.drop (i+1):=by
   rw[List.drop_append,lt,Xd ()];have:i+1-i=1:=();rw[this];rfl
  rw[h1,h2,QV];rfl
 have e2:(ls.take i++a::b::ls.drop (i+1)).flatten=(ls.set i<|a++b).flatten:=by
  rw[rD e,X9,X7,X7,QV]
 rw[O];refine{{λl hl=>?_,λl hl=>?_,λj p q f g=>?_,by rwa[e2]},e2}
 .rcases Q5.mp hl with h|h
  .exact o.ne l<|Zs h
  .rcases QS.mp h with rfl|h
   .exact Xj ()
   .rcases QS.mp h with rfl|h
    .exact Xj ()
    .exact o.ne l<|Xx h
 .rcases Q5.mp hl with h|h
  .exact o.le l<|Zs h
  .rcases QS.mp h with rfl|h
   .lia
   .rcases QS.mp h with rfl|h
    .lia
    .exact o.le l<|Xx h
 .have look:∀(j:Nat)(p:R'),(ls.take i++a::b::ls.drop (i+1))[j]?=some p->(j<i/\ls[j]?=some p)\/(j=i/\p=a)\/(j=i+1/\p=b)\/(i+2<=j/\ls[j-1]?=some p):=λj p f=>by
   rw[Vz,lt]at f;split at f
   .rename_i c
    rw[Vb,Wn c]at f;exact .inl ⟨c,f⟩
   .rename_i c
    rcases(show j=i\/j=i+1\/i+2<=j by lia)with rfl|rfl|h
    .have:j-j=0:=();rw[this]at f;cases f;exact .inr<|.inl ⟨M,M⟩
    .have:i+1-i=1:=();rw[this]at f;cases f;exact .inr<|.inr (.inl ⟨M,M⟩)
    .obtain⟨n,rfl⟩:∃n,j=i+2+n:={j-(i+2),()};have:i+2+n-i=n+1+1:=();rw[this,Vk,Vk,Xp]at f;refine .inr<|.inr (.inr {h,?_});have:i+2+n-1=i+1+n:=();rw[this];exact f
  have pos:∀(j:Nat)(p:R'),ls[j]?=some p->1<=p.length:=λj p f=>ZM.mpr (o.ne p<|Q1 f);rcases look j p f with⟨c,z⟩|⟨c,h1⟩|⟨c,h1⟩|⟨c,z⟩<;>rcases look (j+1) q g with⟨I,G⟩|⟨I,h2⟩|⟨I,h2⟩|⟨I,G⟩<;>(try rw[h1])<;>(try rw[h2])<;>(try lia)
  .exact o.nb j p q z G
  .have:=pos j p z;lia
  .have:j+1-1=j-1+1:=();rw[this]at G;exact o.nb (j-1) p q z G
def lvF(L:K'):List (Str×V):=[(hL,.ref L)]
def dE:(lvF L).lookup (hL:Str)=some (.ref L):=by
 have hb:((hL:Str)==(hL:Str))=true:=WA.mpr M;unfold lvF;simp only[List.lookup,hb]
def Ml{m:Str}(h:m≠(hL:Str)):(lvF L).lookup m=none:=by
 have hb:(m==(hL:Str))=false:=WC.mpr h;unfold lvF;simp only[List.lookup,hb]
structure Qp(t:PB)(H:Hp)(a L:K')(A:Su)(ls:Th):Prop where
 obj:∃dx,H a=some (.ins t.bJ dx<|lvF L)
 lst:H L=some (.lst<|A.map V.ref)
 len:A.length=ls.length
 leaf:∀(j:Nat)(b:K')(l:R'),A[j]?=some b->ls[j]?=some l->H b=some (.lst<|l.map V.int)
 inj:∀(i j:Nat)(b:K'),A[i]?=some b->A[j]?=some b->i=j
 nL:L∉A
def R8(a L:K')(A:Su):Addr->Prop:=λb=>b=a\/b=L\/b∈A
def Qp.at(h:Qp t H a L A ls)(e:ls[i]?=some x):∃c,A[i]?=some c/\H c=some (.lst<|x.map V.int):=by
 have hi:i<A.length:=by rw[h.len];exact(Q2.mp e).1
 exact{A[i],Q3 hi,h.leaf i _ x (Q3 hi) e}
def Qp.has(h:Qp t H a L A ls)(hb:b∈A):∃(j:Nat)(l:R'),A[j]?=some b/\ls[j]?=some l/\H b=some (.lst<|l.map V.int):=by
 let{j,z,e}:=Zh hb;have hc:j<ls.length:=by rwa[<-h.len]
 have G:A[j]?=some b:=by rw[Q3 z,e]
 exact{j,ls[j],G,Q3 hc,h.leaf j b _ G<|Q3 hc}
def Qp.frame(h:Qp t H a L A ls)(f:∀b,R8 a L A b->H' b=H b):Qp t H' a L A ls:=by
 let{dx,G}:=h.obj;exact{{dx,by rwa[f a (.inl M)]},by rw[f L (.inr<|.inl M)];exact h.lst,h.len,λj b l z e2=>by rw[f b (.inr<|.inr<|Q1 z)];exact h.leaf j b l z e2,h.inj,h.nL}
def Qp.dom(h:Qp t H a L A ls)(hb:R8 a L A b):∃o,H b=some o:=by
 let{dx,z}:=h.obj;rcases hb with rfl|rfl|hb
 .exact{_,z}
 .exact{_,h.lst}
 .let{_,_,_,_,q}:=h.has hb;exact{_,q}
def Qp.same(h:Qp t H a L A ls)(s:GI H H'):Qp t H' a L A ls:=h.frame λb hb=>by
 let{o,e}:=h.dom hb;rw[e,s b o e]
def Qp.out(h:Qp t H a L A ls)(n:H p=none):¬R8 a L A p:=λz=>by
 let{o,e}:=h.dom z;rw[n]at e;cases e
def Qp.write(h:Qp t H a L A ls)(G:A[i]?=some c)(ex:ls[i]?=some x):Qp t (upd H c<|.lst<|y.map V.int) a L A (ls.set i y):=by
 let{dx,O}:=h.obj;have hc:=h.leaf i c x G ex;have U:=Q1 G;refine{{dx,by rwa[af (c7 O hc<|by intro z;cases z)]},by rw[af (λz=>h.nL<|by rwa[z])];exact h.lst,by rw[Zo];exact h.len,λj b l I e2=>?_,h.inj,h.nL};rw[Z9]at e2;by_cases z:i=j
 .subst z;rw[G]at I;cases I;rw[Wn M]at e2;split at e2
  .cases e2;exact ag
  .cases e2
 .rw[Wm z]at e2;rw[af (λy=>z<|h.inj i j c G<|by rw[<-y];exact I)];exact h.leaf j b l I e2
def Qp.swap(h:Qp t H a L A ls){n:K'}(ec:A[i]?=some c)(ex:ls[i]?=some x)(Y:H n=some (.lst<|y.map V.int))(I:¬R8 a L A n):Qp t (upd H L<|.lst<|(A.set i n).map V.ref) a L (A.set i n) (ls.set i y):=by
 let{dx,O}:=h.obj;have nA:n∉A:=λz=>I (.inr<|.inr z);have U:n≠L:=λz=>I (.inr<|.inl z);refine{{dx,by rwa[af (c7 O h.lst<|by intro z;cases z)]},ag,by rw[Zo,Zo];exact h.len,λj b l G e2=>?_,λj k b G e2=>?_,λz=>?_}
 .rw[Z9]at G e2;by_cases z:i=j
  .rw[Wn z]at G e2;split at G
   .cases G;split at e2
    .cases e2;rwa[af U]
    .cases e2
   .cases G
  .rw[Wm z]at G e2;rw[af (λy=>h.nL<|by rw[<-y];exact Q1 G)];exact h.leaf j b l G e2
 .rw[Z9]at G e2;by_cases z:i=j
  .rw[Wn z]at G;split at G
   .cases G;by_cases w:i=k
    .exact z.symm.trans w
    .rw[Wm w]at e2;exact Ws (Q1 e2) nA
   .cases G
  .rw[Wm z]at G;by_cases w:i=k
   .rw[Wn w]at e2;split at e2
    .cases e2;exact Ws (Q1 G) nA
    .cases e2
   .rw[Wm w]at e2;exact h.inj j k b G e2
 .let{j,Z,e}:=Zh z;have G:=Q2.mpr ⟨Z,e⟩;rw[Z9]at G;by_cases w:i=j
  .rw[Wn w]at G;split at G
   .cases G;exact U M
   .cases G
  .rw[Wm w]at G;exact h.nL<|Q1 G
set_option tactic.hygienic true in
def QG{l:List α}{x y:α}(hi:i<=l.length)(e:(l.take i++x::l.drop i)[j]?=some y):(j<i/\l[j]?=some y)\/(j=i/\y=x)\/(i<j/\l[j-1]?=some y):=by
 have lt:(l.take i).length=i:=by rw[Q9];lia
 rw[Vz,lt]at e;split at e
 .rename_i c
  rw[Vb,Wn c]at e;exact .inl ⟨c,e⟩
 .rename_i c
  rcases(show j=i\/i<j by lia)with rfl|h
  .have:j-j=0:=();rw[this]at e;cases e;exact .inr<|.inl ⟨M,M⟩
  .obtain⟨n,rfl⟩:∃n,j=i+1+n:={j-(i+1),()};have:i+1+n-i=n+1:=();rw[this,Vk,Xp]at e;have:i+1+n-1=i+n:=();exact .inr<|.inr {h,by rwa[this]}
def Qp.insert(h:Qp t H a L A ls){n:K'}(hi:i<=A.length)(hn:H n=some (.lst<|y.map V.int))(nF:¬R8 a L A n):
  Qp t (upd H L<|.lst<|(A.take i++n::A.drop i).map V.ref) a L (A.take i++n::A.drop i) (ls.take i++y::ls.drop i):=by
 let{dx,ho}:=h.obj;have nA:n∉A:=λz=>nF (.inr<|.inr z);have nL:n≠L:=λz=>nF (.inr<|.inl z);have Y:i<=ls.length:=by rwa[<-h.len]
 refine{{dx,by rwa[af (c7 ho h.lst<|by intro z;cases z)]},ag,?_,λj b l Z e2=>?_,λj k b Z e2=>?_,λz=>?_}
 .have:=h.len;rw[Q6,Q6,QW,QW,Q9,Q9,Zc,Zc];lia
 .rcases QG hi Z with⟨O,G⟩|⟨O,G⟩|⟨O,G⟩<;>rcases QG Y e2 with⟨U,I⟩|⟨U,I⟩|⟨U,I⟩<;>(try lia)
  .rw[af (λy=>h.nL<|by rw[<-y];exact Q1 G)];exact h.leaf j b l G I
  .rwa[G,I,af nL]
  .rw[af (λy=>h.nL<|by rw[<-y];exact Q1 G)];exact h.leaf (j-1) b l G I
 .rcases QG hi Z with⟨O,G⟩|⟨O,G⟩|⟨O,G⟩<;>rcases QG hi e2 with⟨U,I⟩|⟨U,I⟩|⟨U,I⟩
  .exact h.inj j k b G I
  .rw[I]at G;exact Ws (Q1 G) nA
  .have:=h.inj _ _ b G I;lia
  .rw[G]at I;exact Ws (Q1 I) nA
  .lia
  .rw[G]at I;exact Ws (Q1 I) nA
  .have:=h.inj _ _ b G I;lia
  .rw[I]at G;exact Ws (Q1 G) nA
  .have:=h.inj _ _ b G I;lia
 .rcases Q5.mp z with z|z
  .exact h.nL<|Zs z
  .rcases QS.mp z with z|z
   .exact nL z.symm
   .exact h.nL<|Xx z
set_option tactic.hygienic true in
def pf{l:List α}{y:α}(e:(l.eraseIdx i)[j]?=some y):(j<i/\l[j]?=some y)\/(i<=j/\l[j+1]?=some y):=by
 rw[List.getElem?_eraseIdx]at e;split at e
 .rename_i c;exact .inl ⟨c,e⟩
 .rename_i c;exact .inr {(),e}
def Qp.erase(h:Qp t H a L A ls):Qp t (upd H L<|.lst<|(A.eraseIdx i).map V.ref) a L (A.eraseIdx i) (ls.eraseIdx i):=by
 let{dx,Z}:=h.obj;refine{{dx,by rwa[af (c7 Z h.lst<|by intro z;cases z)]},ag,?_,λj b l O e2=>?_,λj k b O e2=>?_,λz=>h.nL<|ZV z}
 .rw[VA,VA,h.len]
 .have bA:b∈A:=ZV (Q1 O);rw[af (λy=>h.nL<|by rwa[<-y])];rcases pf O with⟨U,G⟩|⟨U,G⟩<;>rcases pf e2 with⟨Y,I⟩|⟨Y,I⟩<;>(try lia)
  .exact h.leaf j b l G I
  .exact h.leaf (j+1) b l G I
 .rcases pf O with⟨U,G⟩|⟨U,G⟩<;>rcases pf e2 with⟨Y,I⟩|⟨Y,I⟩
  .exact h.inj j k b G I
  .have:=h.inj _ _ b G I;lia
  .have:=h.inj _ _ b G I;lia
  .have:=h.inj _ _ b G I;lia
def zh(up:dH ls.flatten)(ex:ls[i]?=some x)(z:ls[j]?=some y)(h:i<j):∀p∈x,∀q∈y,p<q:=λp hp q hq=>by
 rw[iG ex]at up;refine(R9.mp up).2.2.2.2.2 p hp q<|VZ.mpr {y,?_,hq};refine Q1 (i:=j-(i+1)) ?_;rw[Xp];have:i+1+(j-(i+1))=j:=();rwa[this]
def Kz(up:dH ls.flatten)(ex:ls[i]?=some x):dH x:=by
 rw[iG ex]at up;exact(R9.mp up).2.1
def Iy(up:dH x)(ne:x≠[]):∃m,x[x.length-1]?=some m/\m∈x/\∀y∈x,y<=m:=by
 have hl:=ZM.mpr ne;have z:x.length-1<x.length:=();refine{x[x.length-1],Q3 z,Xf z,λy hy=>?_};let{j,G,e}:=Zh hy;rcases(show j=x.length-1\/j<x.length-1 by lia)with h|h
 .subst h;rw[e];exact ZL _
 .have:=ZR.mp up j (x.length-1) G z h;rw[e]at this;lia
structure Sd(ls:Th)(E:Nat->Prop):Prop where
 ne:∀l∈ls,l≠[]
 le:∀l∈ls,l.length<=8
 nb:∀(i:Nat)(x y:R'),ls[i]?=some x->ls[i+1]?=some y->E i\/5<=x.length+y.length
 up:dH ls.flatten
def Sd.ok(h:Sd ls E)(no:∀i,¬E i):Pp ls:={h.ne,h.le,λi x y z e2=>(h.nb i x y z e2).resolve_left<|no i,h.up}
noncomputable def pR(ls:Th)(i:Nat):List (List Int):=match ls[i]?,ls[i+1]? with
 |some x,some y=>if x.length+y.length<5 then(ls.set i<|x++y).eraseIdx (i+1)else ls
 |_,_=>ls
set_option tactic.hygienic true in
def xn(h:ls.length<=i+1):pR ls i=ls:=by
 unfold pR;have:ls[i+1]?=none:=Xi.mpr h;rw[this];split
 .rename_i h2;cases h2
 .rfl
def Ce(ex:ls[i]?=some x)(z:ls[i+1]?=some y):pR ls i=if x.length+y.length<5 then(ls.set i<|x++y).eraseIdx (i+1)else ls:=by
 unfold pR;rw[ex,z]
def Gi:(pR ls i).length<=ls.length/\ls.length<=(pR ls i).length+1:=by
 unfold pR;split
 .split
  .rw[VA,Zo];split<;>lia
  .lia
 .lia
set_option tactic.hygienic true in
def xl{z v:R'}(e:((ls.set i z).eraseIdx<|i+1)[j]?=some v):(j<i/\ls[j]?=some v)\/(j=i/\v=z)\/(i<j/\ls[j+1]?=some v):=by
 rw[List.getElem?_eraseIdx]at e;split at e
 .rename_i c
  rw[Z9]at e;by_cases h:i=j
  .rw[Wn h]at e;split at e
   .cases e;exact .inr<|.inl ⟨h.symm,M⟩
   .cases e
  .rw[Wm h]at e;exact .inl {(),e}
 .rename_i c
  rw[Z9,Wm ()]at e;exact .inr<|.inr {(),e}
def Gh(ex:ls[i]?=some x)(z:ls[i+1]?=some y):((ls.set i<|x++y).eraseIdx<|i+1).flatten=ls.flatten:=by
 have hi:=(Q2.mp ex).1;have lt:(ls.take i).length=i:=by rw[Q9];lia
 have hy:ls.drop (i+1)=y::ls.drop (i+2):=by
  let{h,e}:=Q2.mp z;rw[<-e,<-ZQ h]
 have G:(ls.set i<|x++y).eraseIdx (i+1)=ls.take i++(x++y)::ls.drop (i+2):=by
  rw[Ao ex,hy,VI (),lt];have:i+1-i=1:=();rw[this];rfl
 rw[G,iG ex,hy,X9,X7,X7,QV]
def Sd.join(h:Sd ls E)(I:∀j,E j->j=i\/j+1=i):Sd (pR ls i) (λj=>j+1=i/\E j)/\(pR ls i).flatten=ls.flatten:=by
 cases ex:ls[i]? with
 |none=>
  have hl:ls.length<=i:=Xi.mp ex;rw[xn ()];refine{{h.ne,h.le,λj x y G e2=>?_,h.up},M};rcases h.nb j x y G e2 with z|z
  .rcases I j z with rfl|w
   .rw[ex]at G;cases G
   .exact .inl ⟨w,z⟩
  .exact .inr z
 |some x=>
  cases O:ls[i+1]? with
  |none=>
   have hl:ls.length<=i+1:=Xi.mp O;rw[xn hl];refine{{h.ne,h.le,λj x' y G e2=>?_,h.up},M};rcases h.nb j x' y G e2 with z|z
   .rcases I j z with rfl|w
    .rw[O]at e2;cases e2
    .exact .inl ⟨w,z⟩
   .exact .inr z
  |some y=>
   rw[Ce ex O];by_cases c:x.length+y.length<5
   .rw[Wn c];have fl:=Gh ex O;have mem:∀v∈(ls.set i<|x++y).eraseIdx (i+1),v=x++y\/v∈ls:=λv Z=>by
     let{j,hj,e}:=Zh Z;rcases xl (Q2.mpr ⟨hj,e⟩)with⟨_,q⟩|⟨_,q⟩|⟨_,q⟩
     .exact .inr<|Q1 q
     .exact .inl q
     .exact .inr<|Q1 q
    have px:=ZM.mpr (h.ne x<|Q1 ex);have a0:(x++y).length=x.length+y.length:=Q6;refine{{λv Z=>?_,λv Z=>?_,λj u v G e2=>?_,by rw[fl];exact h.up},fl}
    .rcases mem v Z with rfl|q
     .exact Xj ()
     .exact h.ne v q
    .rcases mem v Z with rfl|q
     .lia
     .exact h.le v q
    .rcases xl G with⟨c1,U⟩|⟨c1,U⟩|⟨c1,U⟩<;>rcases xl e2 with⟨c2,Y⟩|⟨c2,Y⟩|⟨c2,Y⟩<;>(try lia)
     .rcases h.nb j u v U Y with z|z
      .rcases I j z with w|w
       .lia
       .lia
      .exact .inr z
     .rcases h.nb j u x U (by rwa[c2])with z|z
      .exact .inl ⟨c2,z⟩
      .rw[Y];exact .inr ()
     .have e3:ls[i+1+1]?=some v:=by rwa[<-c1]
      rcases h.nb (i+1) y v O e3 with z|z
      .rcases I (i+1) z with w|w<;>lia
      .rw[U];exact .inr ()
     .rcases h.nb (j+1) u v U Y with z|z
      .rcases I (j+1) z with w|w<;>lia
      .exact .inr z
   .rw[Wm c];refine{{h.ne,h.le,λj u v G e2=>?_,h.up},M};rcases h.nb j u v G e2 with z|z
    .rcases I j z with w|w
     .subst w;rw[ex]at G;rw[O]at e2;cases G;cases e2;exact .inr ()
     .exact .inl ⟨w,z⟩
    .exact .inr z
def DL{l:R'}(h:dH l):l.Nodup:=h.imp λh=>Int.ne_of_lt h
def Pp.gone(o:Pp ls)(ex:ls[i]?=some x)(hk:k∈x):dH (ls.set i<|x.erase k).flatten/\∀z,z∈(ls.set i<|x.erase k).flatten↔z≠k/\z∈ls.flatten:=by
 have up:=o.up;rw[iG ex]at up;let{U,G,Y,I,Z,O}:=R9.mp up;have sub:(x.erase k).Sublist x:=List.erase_sublist;have nx:=DL G;rw[rD ex,iG ex];refine{R9.mpr {U,G.sublist sub,Y,λa ha b hb=>I a ha b<|sub.subset hb,Z,λa ha b hb=>O a (sub.subset ha) b hb},λz=>?_};rw[Q5,Q5,Q5,Q5,nx.mem_erase_iff];constructor
 .rintro (h|⟨h1,h2⟩|h)
  .have:=I z h k hk;exact{(),.inl h}
  .exact{h1,.inr<|.inl h2}
  .have:=O k hk z h;exact{(),.inr<|.inr h}
 .rintro ⟨h0,h|h|h⟩
  .exact .inl h
  .exact .inr<|.inl ⟨h0,h⟩
  .exact .inr<|.inr h
def Pp.shrunk(o:Pp ls)(ex:ls[i]?=some x)(G:y≠[])(U:y.length<=x.length)(up:dH (ls.set i y).flatten):Sd (ls.set i y) (λj=>j=i\/j+1=i):=by
 have hx:=o.le x (Q1 ex);refine{λl hl=>?_,λl hl=>?_,λj a b f g=>?_,up}
 .rcases vC ex hl with rfl|hl
  .exact G
  .exact o.ne l hl
 .rcases vC ex hl with rfl|hl
  .lia
  .exact o.le l hl
 .rcases ss ex f with⟨c,_⟩|⟨c,I⟩
  .exact .inl<|.inl c.symm
  .rcases ss ex g with⟨z,_⟩|⟨z,O⟩
   .exact .inl<|.inr z.symm
   .exact .inr<|o.nb j a b I O
def Pp.out(o:Pp ls)(ex:ls[i]?=some x)(Y:x.length=1)(up:dH (ls.set i []).flatten):Pp (ls.eraseIdx i)/\(ls.eraseIdx i).flatten=(ls.set i []).flatten:=by
 have hi:=(Q2.mp ex).1;have lt:(ls.take i).length=i:=by rw[Q9];lia
 have I:ls.eraseIdx i=ls.take i++ls.drop (i+1):=List.eraseIdx_eq_take_drop_succ _ _;have fl:(ls.eraseIdx i).flatten=(ls.set i []).flatten:=by
  rw[I,rD ex,X9];rfl
 refine{{λl hl=>o.ne l<|ZV hl,λl hl=>o.le l<|ZV hl,λj a b f g=>?_,by rwa[fl]},fl};rcases pf f with⟨O,z⟩|⟨O,z⟩<;>rcases pf g with⟨U,G⟩|⟨U,G⟩
 .exact o.nb j a b z G
 .have e2:j+1=i:=();subst e2;have h1:=o.nb j a x z ex;have h2:=o.nb (j+1) x b ex G;lia
 .lia
 .exact o.nb (j+1) a b z G
def Qz(_K:JZ)(t:PB)(H:Hp)(a:K')(F:O')(ks:R'):Prop:=∃L A ls,Qp t H a L A ls/\Pp ls/\ls.flatten=ks/\∀b,F b↔R8 a L A b
def Qz.ins(h:Qz K t H a F ks):∃dx fs,H a=some (.ins t.bJ dx fs)/\∀m,m≠(hL:Str)->fs.lookup m=none:=by
 let{L,A,ls,hb,_}:=h;let{dx,z}:=hb.obj;exact{dx,_,z,λm G=>Ml G}
def Qz.dom(h:Qz K t H a F ks)(hb:F b):∃o,H b=some o:=by
 let{L,A,ls,h1,_,_,h2}:=h;exact h1.dom<|(h2 b).mp hb
def Qz.frame(h:Qz K t H a F ks)(f:∀b,F b->H' b=H b):Qz K t H' a F ks:=by
 let{L,A,ls,h1,z,G,h2}:=h;exact{L,A,ls,h1.frame λb hb=>f b<|(h2 b).mpr hb,z,G,h2}
def Qz.out(h:Qz K t H a F ks)(e:H p=none):¬F p:=λz=>by
 let{o,q}:=h.dom z;rw[q]at e;cases e
def uS(K:JZ)(t:PB):Sp:=λvs H Q _=>∃(a dx:K'),vs=[.ref a]/\H a=some (.ins t.bJ dx [])/\H dx=some (.own a)/\∀H' F,Qz K t H' a F []->Fr (λb=>b=a\/b=dx) F H H'->Q .non H'
def vU(K:JZ)(t:PB):Sp:=λvs H Q _=>∃(a:K')(k:Int)(F:O')(ks:R'),vs=[.ref a,.int k]/\Qz K t H a F ks/\∀H' F',Qz K t H' a F' ks->Fr F F' H H'->Q (.bl<|decide (k∈ks)) H'
def vV(K:JZ)(t:PB):Sp:=λvs H Q E=>∃(a:K')(k:Int)(F:O')(ks:R'),vs=[.ref a,.int k]/\Qz K t H a F ks/\ks.length<4096/\
 (k∉ks->∀H' F' ks',Qz K t H' a F' ks'->(∀z,z∈ks'↔z=k\/z∈ks)->Fr F F' H H'->Q .non H')/\(k∈ks->False)
def qp(K:JZ)(t:PB):Sp:=λvs H Q E=>∃(a:K')(k:Int)(F:O')(ks:R'),vs=[.ref a,.int k]/\Qz K t H a F ks/\ks.length<4096/\
 (k∈ks->∀H' F' ks',Qz K t H' a F' ks'->(∀z,z∈ks'↔z≠k/\z∈ks)->Fr F F' H H'->Q .non H')/\(k∉ks->False)
def Pp.short(o:Pp ls):ls.length<=ls.flatten.length:=by
 have h:=o.ne;clear o
 induction ls with
 |nil=>exact Q4 _
 |cons x r z=>
  have:=ZM.mpr (h x QK);have:=z λl hl=>h l (QM _ hl);rw[X7,Q6,QW];lia
def qo(K:JZ)(t:PB):Sp:=λvs H Q _=>∃(a:K')(k n:Int)(F:O')(ks:R'),vs=[.ref a,.int k,.int n]/\Qz K t H a F ks/\ks.length<4096/\0<=n/\
 ∀(H':Hp)(l:K'),GI H H'->H l=none->H' l=some (.lst<|((ks.filter λz=>decide (k<=z)).take n.toNat).map V.int)->Q (.ref l) H'
def sM(h:0<=n):mV xs none (some n)=xs.take n.toNat:=by
 unfold mV HT.sIx;simp only[Zz,Nat.sub_zero];rw[Wm ()];rcases VU n.toNat xs.length with c|c
 .rw[ZP c]
 .rw[Vl c,Zd,Z1 c]
def Go(o:Pp ls)(h:QF ls k i0):∀z∈(ls.take i0).flatten,¬k<=z:=λz hz=>by
 have:=h.ahead z hz;lia
noncomputable def ft(k:Tl)(z:Int):Bool:=match k with|none=>true|some k=>decide (z<=k)
def vDn:Option Int->V|none=> .non|some k=> .int k
def m5(K:JZ)(t:PB):Sp:=λvs H Q _=>∃(a:K')(k:Tl)(n:Int)(F:O')(ks:R'),vs=[.ref a,vDn k,.int n]/\Qz K t H a F ks/\ks.length<4096/\0<=n/\
 ∀(H':Hp)(l:K'),GI H H'->H l=none->H' l=some (.lst<|((ks.reverse.filter<|ft k).take n.toNat).map V.int)->Q (.ref l) H'
noncomputable def P6.low(s:P6):Int:=match s.nxt with
 |none=>s.size
 |some m=>if m<s.size then m else s.size
def Ip{M':Int}(h:M'∈st.rows)(l:∀x∈st.rows,M'<=x):M'=st.low:=by
 unfold P6.rows at h l;unfold P6.low;cases e:st.nxt with
 |none=>rw[e]at h;simpa using h
 |some m=>
  rw[e]at h l;have h:M'=st.size\/M'=m:=by simpa using h
  have l1:=l st.size (by simp);have z:=l m (by simp);show M'=if m<st.size then m else st.size
  split<;>lia
def j3(z:PU st):st.low∈([4,8,16,32,64,128,256]:R'):=by
 unfold P6.low;cases e:st.nxt with
 |none=>exact z.pw
 |some m=>
  show(if m<st.size then m else st.size)∈_;split
  .exact(z.nx m e).1
  .exact z.pw
def Ax{x:Int}(h:x∈([4,8,16,32,64,128,256]:List Int)):∃a b,Row x a b:=by
 rcases nI h with h|h|h|h|h|h|h<;>subst h
 .exact{_,_,qB (k:=0) (_)}
 .exact{_,_,qB (k:=1) (_)}
 .exact{_,_,qB (k:=2) (_)}
 .exact{_,_,qB (k:=3) (_)}
 .exact{_,_,qB (k:=4) (_)}
 .exact{_,_,qB (k:=5) (_)}
 .exact{_,_,qB (k:=6) (_)}
def Ah{S p:Int}{a b:Nat}(R:Row S a b)(G:0<=p)(h1:p<65536):tz (tz p%S)+65536/S=(p/(65536/S)+1)*(65536/S):=by
 have hs:=R.st_has (m:=tz p) (tH p);rw[En G h1]at hs;have I:=R.slot (s:=tz p%S) (R.mod0 _) (R.mod1 _);have w:=R.width;have z:=R.wpos';rw[I.1,<-w]at hs⊢;have:p/(65536/S)=rz a (tz p%S):=by
  have k0:=QP p (ZC z);have k1:=QL p z;have k2:=Vr p (65536/S);exact R.between z (x:=p/(65536/S)) (y:=rz a<|tz p%S) (p:=p) () () hs.1 hs.2
 rw[this,Int.add_mul,Int.one_mul,VM]
def vN(K:JZ)(t:PB):Sp:=λvs H Q _=>∃(a:K')(p:Int)(F:O')(st:P6),vs=[.ref a,.int p]/\QI K t H a F st/\0<=p/\p<65536/\
 ∀H' F',QI K t H' a F' st->Fr F F' H H'->Q (.int<|(p/(65536/st.low)+1)*(65536/st.low)) H'
structure y7(kd:Str)(fs:Tb)(a e:V):Prop where
 ki:fs.lookup ("kind":Str)=some (.str kd)
 at_:fs.lookup (va:Str)=some a
 end_:fs.lookup (mu:Str)=some e
 wo:fs.lookup ("words":Str)=none
 ho:fs.lookup ("holds":Str)=none
def okS(a e:V):Prop:=∃i j,a= .int i/\e= .int j/\0<=i/\i<=j/\j<=65536
def RN(a e:V):Prop:=∃i,a= .int i/\0<=i/\(e= .non\/∃j,e= .int j/\i<=j)
def RH(a e:V):Prop:=∃j,e= .int j/\0<=j/\(a= .non\/∃i,a= .int i/\j<=i)
def RA(p:K')(H H':Hp):Prop:=∀b o,H b=some o->b≠p->H' b=some o
def BB:Sp:=λvs H Q _=>∃x,vs=[x]/\Sc x/\Q (.bl<|isW x) H
noncomputable def isF(lo:Int):V->Bool
 | .int i=>decide (lo<=i)|_=>false
def Do:Sp:=λvs H Q _=>∃x lo,vs=[x,.int lo]/\Sc x/\Q (.bl<|isF lo x) H
noncomputable def wr:V->Str
 | .int i=>toString i|_=>"-"
def Dj:Sp:=λvs H Q _=>∃x,vs=[x]/\(x= .non\/∃i:Int,x= .int i/\i.natAbs.log2<1920)/\Q (.str<|wr x) H
def iQ(K:JZ):Sp:=λvs H Q _=>∃(p C dx:K')(kd:Str)(a e:V),vs=[.ref p,.str kd,a,e]/\H p=some (.ins C dx [])/\R6 K C/\E8 K C "kind"/\E8 K C va/\E8 K C mu/\∀H' fs,RA p H H'->H' p=some (.ins C dx fs)->y7 kd fs a e->Q .non H'
def Er(C N:K')(kd:Str)(ok:V->V->Prop):Sp:=λvs H Q E=>∃(p dx:K')(a e:V),vs=[.ref p,a,e]/\H p=some (.ins C dx [])/\Sc a/\Sc e/\
 (ok a e->∀H' fs,RA p H H'->H' p=some (.ins C dx fs)->y7 kd fs a e->Q .non H')/\(¬ok a e->False)
def tM(t:PB):Sp:=Er t.aX t.pz G' okS
def BD(t:PB):Sp:=Er t.dZ t.pz "up" RN
def yk(t:PB):Sp:=Er t.cv t.pz "down" RH
def R4(kd:Int)(a e:V):Prop:=(kd=0/\okS a e)\/(kd=1/\RN a e)\/(kd=2/\RH a e)
def hS:V->V->Int->Bool
 | .int i,.int j,k=>decide (i<=tz (k%65536))&&decide (tz (k%65536)<j)
 |_,_,_=>false
noncomputable def hU:V->V->Int->Bool
 | .int i,.int j,k=>decide (i<=k)&&decide (k<j)
 | .int i,.non,k=>decide (i<=k)
 |_,_,_=>false
noncomputable def hD:V->V->Int->Bool
 | .int i,.int j,k=>decide (j<=k)&&decide (k<=i)
 | .non,.int j,k=>decide (j<=k)
 |_,_,_=>false
def hN(kd:Int):V->V->Int->Bool:=if kd=0 then hS else if kd=1 then hU else hD
def Rc:V->Prop
 | .int i=>i<10^80|_=>True
def fw(kd:Str)(a e:V):Str:=Txt.join (" ":Str) [kd,wr a,wr e]
def Dp(C:K')(kd:Str)(ok:V->V->Prop)(h:V->V->Int->Bool):Sp:=λvs H Q _=>∃(p dx:K')(fs:Tb)(a e:V)(k:Int),vs=[.ref p,.int k]/\H p=some (.ins C dx fs)/\y7 kd fs a e/\ok a e/\0<=k/\∀H',GI H H'->Q (.bl<|h a e k) H'
def fE(t:PB):Sp:=Dp t.aX G' okS hS
def dR(t:PB):Sp:=Dp t.dZ "up" RN hU
def cQ(t:PB):Sp:=Dp t.cv "down" RH hD
def SA(t:PB)(kd:Int):Addr:=if kd=0 then t.aX else if kd=1 then t.dZ else t.cv
noncomputable def RQ(kd:Int):Str:=if kd=0 then G' else if kd=1 then "up" else "down"
def c6(t:PB):Sp:=λvs H Q _=>∃(p dx:K')(kd:Int)(fs:Tb)(a e:V),vs=[.ref p]/\H p=some (.ins (SA t kd) dx fs)/\y7 (RQ kd) fs a e/\R4 kd a e/\Rc a/\Rc e/\∀H',GI H H'->Q (.str<|fw (RQ kd) a e) H'
def tQ{x:K'}(h1:H x=none)(h2:H dx=none)(k:RA x (upd (upd H dx<|.own x) x<|.ins C dx []) H'):GI H H':=λb o q=>by
 refine k b o ?_<|ao q h1;rw[af (ao q h1),af (ao q h2)];exact q
def spHN(t:PB)(kd:Int):Sp:=if kd=0 then fE t else if kd=1 then dR t else cQ t
def Pz(t:PB)(H:Hp)(p:K')(kd:Int)(a e:V):Prop:=∃(dx:K')(fs:Tb),H p=some (.ins (SA t kd) dx fs)/\y7 (RQ kd) fs a e
def Pz.same{kd:Int}{a:V}(h:Pz t H p kd a e)(s:GI H H'):Pz t H' p kd a e:=by
 let{dx,fs,h1,h2}:=h;exact{dx,fs,s _ _ h1,h2}
def R4.sc{kd:Int}{a:V}(h:R4 kd a e):Sc a/\Sc e:=by
 rcases h with⟨_,i,j,rfl,rfl,_⟩|⟨_,i,rfl,_,rfl|⟨j,rfl,_⟩⟩|⟨_,j,rfl,_,rfl|⟨i,rfl,_⟩⟩<;>exact⟨WD,WD⟩
def R4.kd{kd:Int}{a:V}(h:R4 kd a e):kd=0\/kd=1\/kd=2:=by
 rcases h with⟨h,_⟩|⟨h,_⟩|⟨h,_⟩
 .exact .inl h
 .exact .inr<|.inl h
 .exact .inr<|.inr h
def R4.s{a:V}(h:R4 0 a e):okS a e:=by
 rcases h with⟨_,h⟩|⟨h,_⟩|⟨h,_⟩
 .exact h
 .cases h
 .cases h
def R4.u{a:V}(h:R4 1 a e):RN a e:=by
 rcases h with⟨h,_⟩|⟨_,h⟩|⟨h,_⟩
 .cases h
 .exact h
 .cases h
def R4.d{a:V}(h:R4 2 a e):RH a e:=by
 rcases h with⟨h,_⟩|⟨h,_⟩|⟨_,h⟩
 .cases h
 .cases h
 .exact h
def dHN{kd:Int}(h:kd=0\/kd=1\/kd=2):Se (D1 t.aX<|fE t) (Se (D1 t.dZ<|dR t)<|D1 t.cv<|cQ t) (SA t kd) (spHN t kd):=by
 rcases h with rfl|rfl|rfl
 .exact .inl ⟨M,M⟩
 .exact .inr<|.inl ⟨M,M⟩
 .exact .inr<|.inr ⟨M,M⟩
def dWN{kd:Int}(h:kd=0\/kd=1\/kd=2):Se (D1 t.aX<|c6 t) (Se (D1 t.dZ<|c6 t)<|D1 t.cv<|c6 t) (SA t kd) (c6 t):=by
 rcases h with rfl|rfl|rfl
 .exact .inl ⟨M,M⟩
 .exact .inr<|.inl ⟨M,M⟩
 .exact .inr<|.inr ⟨M,M⟩
def Am{kd:Int}{a:V}{E:XK}(z:R4 kd a e)(h:H p=some (.ins (SA t kd) dx fs))(f:y7 (RQ kd) fs a e)(G:0<=k)
  (q:∀H',GI H H'->Q (.bl<|hN kd a e k) H'):spHN t kd [.ref p,.int k] H Q E:=by
 rcases z.kd with rfl|rfl|rfl
 .exact⟨p,dx,fs,a,e,k,M,h,f,z.s,G,q⟩
 .exact⟨p,dx,fs,a,e,k,M,h,f,z.u,G,q⟩
 .exact⟨p,dx,fs,a,e,k,M,h,f,z.d,G,q⟩
set_option exponentiation.threshold 2000 in
def OV{i:Int}(G:0<=i)(h1:i<10^80):i.natAbs.log2<1920:=by
 rcases Xo i.natAbs with z|z
 .rw[z];decide
 .refine(Nat.log2_lt<|V4 z).mpr ?_;have:i.natAbs<10^80:=();exact Nat.lt_trans this<|Z5 (show 10^80<2^300 by decide) (Nat.pow_le_pow_right (_) (_))
def few(a:V):Prop:=(a= .non\/∃i:Int,a= .int i/\i.natAbs.log2<1920)/\(wr a).length<=81
def EY:few .non:={.inl M,∅}
def jB{i:Int}(z:0<=i)(h1:Rc (.int i)):few (.int i):=by
 have h1:i<10^80:=h1;refine{.inr {i,M,OV z h1},?_};show(Str.ofString<|toString i).length<=81;have h:(toString i).length<=80+1:=PySem.int_text_length_le10 (_) ();rw[Str.ofString_eq_toList];show((toString i).toList.map Char.toNat).toArray.size<=81;rwa[QQ,Q0]
def R4.few{kd:Int}{a:V}(h:R4 kd a e)(G:Rc a)(I:Rc e):few a/\few e:=by
 rcases h with⟨_,i,j,rfl,rfl,z,h1,_⟩|⟨_,i,rfl,z,rfl|⟨j,rfl,h1⟩⟩|⟨_,j,rfl,z,rfl|⟨i,rfl,h1⟩⟩
 .exact{jB z G,jB () I}
 .exact{jB z G,EY}
 .exact{jB z G,jB () I}
 .exact{EY,jB z I}
 .exact{jB () G,jB z I}
set_option genInjectivity false in
structure Tp where
 p:Addr
 k:Int
 v:V
def Tp.kv(e:Tp):Int×V:=(e.k,e.v)
structure PgA(H H':Hp)(F F':O')(r g:K')(v:V)(ts:List Tp):Prop where
 tu:H' r=some (.tup [.ref g,v])
 li:H' g=some (.lst<|ts.map λe=>V.ref e.p)
 rw:∀e∈ts,H' e.p=some (.tup [.int e.k,e.v])/\¬F' e.p
 nr:(¬F r->H r=none)/\¬F' r
 ng:(¬F g->H g=none)/\¬F' g
section
variable{P:Sr}{w:Ss}{mg:Sz}{base:Heap}
variable{K:JZ}{t:PB}(T:Txt K mg t)
def Fy:Sp:=λvs H Q _=>∃n:Int,vs=[.int n]/\0<=n/\Q (.int<|tz n) H
def Dm:Sp:=λvs H Q _=>∃k:Int,vs=[.int k]/\Q (.int<|k%65536) H
def BA:Sp:=λvs H Q _=>∃k:Int,vs=[.int k]/\Q (.int<|tz<|k%65536) H
def Dk:Sp:=λvs H Q _=>∃k n:Int,vs=[.int k,.int n]/\0<n/\Q (.int<|k%65536%n) H
def Dl:Sp:=λvs H Q _=>∃p n:Int,vs=[.int p,.int n]/\0<=p/\0<n/\Q (.int<|tz p%n) H
def xZ:Sp:=λvs H Q _=>∃s n:Int,vs=[.int s,.int n]/\0<=s/\0<n/\n<1073741824/\∀p,H p=none->Q (.ref p) (upd H p<|.tup [.int (tz s),.int (tz s+65536/n)])
def tZ:Cy P w K mg base PJ 1 t.CD t.xA ["number"] Fy:=by
 let{G,z}:=T.g_BITS;refine T.xR.okl FD λs H vs Q E O h _=>?_;intro X;let{n,rfl,U,k}:=h;refine ak (PF 1 ai)
   (ak (PF 2 Ck)
   (ak (jV WF M (kG {_} T.qV (ae (cK (v:= .int 16) {_} z {_,M}) aj)) (Ri 3)
    (kF (PF 1<|aq bG (aq eY P0 ai)<|aq aV P1 ai)
    (ay<|PF 2<|aq aU P1 ai)))
   (aB (aG P0) ?_)))
 intros
 have I:((n.toNat/2^0:Nat):Int)=n:=by rw[Nat.pow_zero,Nat.div_one];lia
 refine{_,M,16,M,(_),(_),zG (n:=16) (λi B H'=>∃v,H'=H/\B=[some (.int n),some (.int ((rv i n.toNat:Nat):Int)),some (.int ((n.toNat/2^i:Nat):Int)),v]) ?_ ?_ ?_}
 .refine{none,M,?_};rw[I];rfl
 .rintro i B H' hi ⟨v,rfl,rfl⟩;refine{_,M,_,_,M,M,.inr {(_),(_)},_,M,_,_,M,M,(by show(0:Int)<2;decide),_,_,M,M,_,M,_,_,M,M,{(_),(_)},?_};refine{some<|.int<|0+(i:Int),M,?_};rw[<-Ft i n.toNat,<-Fu i n.toNat];rfl
 .rintro B H' ⟨v,rfl,rfl⟩;unfold tz at k;exact{_,M,k}
def wK:Cy P w K mg base PJ 1 t.zZ t.uu [et] Dm:=by
 let{G,z}:=T.g_PLACES;refine T.Ac.okl Du λs H vs Q E I h _=>?_;intro X;let{n,rfl,k}:=h;refine{_,(ay<|aG<|aq aV Ck<|cK (v:= .int 65536) {_} z {_,M})
  ,?_}
 exact{_,M,_,_,M,M,(by show(0:Int)<65536;decide),k}
def uB:Cy P w K mg base PJ 2 t.xL t.qM [et] BA:=by
 refine T.xT.okl BG λs H vs Q E z h _=>?_;intro X;let{n,rfl,k}:=h;refine{_,(ay<|aG<|aP (tZ T) z.mo {_} T.Cb T.xR.kp T.CA .nil aA (ae (aP (wK T) z.mo {_} T.Gc T.Ac.kp T.GC .nil aA (ae Ck aj)) aj))
  ,?_}
 exact{_,M,_,M,_,M,QP _ (_),k}
def wI:Cy P w K mg base PJ 2 t.zX t.ur [et,vm] Dk:=by
 refine T.uA.okl Ds λs H vs Q E z h _=>?_;intro X;let{n,m,rfl,G,k}:=h;refine{_,(ay<|aG<|aq aV (aP (wK T) z.mo {_} T.Gc T.Ac.kp T.GC .nil aA (ae Ck aj)) P0)
  ,?_}
 exact{_,M,_,M,_,M,_,_,M,M,G,k}
def wJ:Cy P w K mg base PJ 2 t.zY t.ut [zk,vm] Dl:=by
 refine T.Ab.okl Dt λs H vs Q E z h _=>?_;intro X;let{n,m,rfl,G,I,k}:=h;refine{_,(ay<|aG<|aq aV (aP (tZ T) z.mo {_} T.Cb T.xR.kp T.CA .nil aA (ae Ck aj)) P0)
  ,?_}
 exact{_,M,_,M,G,_,M,_,_,M,M,I,k}
def yF:Cy P w K mg base PJ 2 t.sS t.l7 ["slot",vm] xZ:=by
 let{G,z}:=T.g_PLACES;refine T.Bh.okl yo λs H vs Q E I h _=>?_;intro X;let{n,m,rfl,O,U,h1,k}:=h;refine ak (PF 2<|aP (tZ T) I.mo {_} T.Cb T.xR.kp T.CA .nil aA (ae Ck aj))
   (aB (aG<|bM<|ae P1<|ae (aq bG P1<|aq aU (cK (v:= .int 65536) {_} z {_,M}) P0) aj) ?_)
 intros
 exact{_,M,_,M,O,_,M,_,M,_,M,_,_,M,M,⟨U,h1⟩,_,_,M,M,(by show 2<=sizeLine;decide),λp hp=>k p hp}
def FB{n:Nat}(h:n<=4096):n<sizeLine:=V7 h (_)
def Aj:Sp:=λvs H Q _=>∃n:Int,vs=[.int n]/\0<=n/\n<=1000/\∀H' r A,GI H H'->H r=none->(∀b∈A,H b=none)->PD H' r A (List.replicate n.toNat []) n->Q (.ref r) H'
set_option tactic.hygienic true in
def rQ:Cy P w K mg base PJ 1 t.uK t.oe [vm] Aj:=by
 refine T.oP.okl Ar λs H vs Q E hr h _=>?_;intro X;let{n,rfl,n0,n1,q}:=h;refine{_,(ay<|aG<|oW M (P9.of (M':=["slot"]) (N:=[vm]) (N':=[vm]) (dsc:=am jx) M M ∅) (kG {_} T.qV (ae Ck aj))<|λ_ _ _ _ _=>i7)
  ,?_}
 refine{_,M,n,M,(),(),λD hD=>?_};refine qP (n:=n.toNat) (lo:=0) (λi ys H3=>GI H H3/\∃as:List Addr,ys=as.map V.ref/\as.length=i/\(∀b∈as,H b=none/\b≠D/\H3 b=some (.dK []))/\∀(x y:Nat)(b:K'),as[x]?=some b->as[y]?=some b->x=y)
  {al hD,[],M,M,(λb hb=>by cases hb),λx y b e=>by simp at e} (λi ys H3 hi Z G=>?_) (λys H3 Z G=>?_)
 .let{s3,as,Y,el,hb,inj}:=Z;intro c O;have cD:c≠D:=(ao G O).symm;have I:c∉as:=λz=>by
   have:=(hb c z).2.2;rw[O]at this;cases this
  have nH:H c=none:=by
   cases e:H c with
   |none=>rfl
   |some o=>rw[s3 c o e]at O;cases O
  refine Pq.mk hi (by rwa[af cD.symm]) (by rw[Y,Q0];exact cR ()) {b6 (s3.trans<|al O) hD,as++ [c],by rw[Y,QO];rfl,by rw[Q6,el];rfl,λb a0=>?_,λx y b e1 e2=>?_}
  .rcases Q5.mp a0 with z|z
   .let{h1,h2,h3}:=hb b z;exact{h1,h2,by rwa[af h2,af (λw=>I<|by rw[<-w];exact z)]}
   .rw[Q7.mp z];exact{nH,cD,by rw[af cD,ag]}
  .have U:∀x:Nat,(as++ [c])[x]?=some b->as[x]?=some b\/(x=as.length/\b=c):=λx e=>by
    rw[Vz]at e;split at e
    .exact .inl e
    .rename_i w
     have:x-as.length=0:=by
      rcases Xo (x-as.length)with z|z
      .exact z
      .rw[Vq (by simp;lia)]at e;cases e
     rw[this]at e;cases e;exact .inr {(),M}
   rcases U x e1 with f1|⟨f1,g1⟩<;>rcases U y e2 with f2|⟨f2,g2⟩
   .exact inj x y b f1 f2
   .subst g2;exact Ws (Q1 f1) I
   .subst g1;exact Ws (Q1 f2) I
   .lia
 .let{s3,as,Y,el,hb,inj}:=Z;refine q H3 D as s3 hD (λb z=>(hb b z).1) {by rw[G,Y],by rw[el];lia,by rw[Xh];lia,λj b kv e1 e2=>?_,λj kv e=>?_,inj,λj kv e p hp=>?_}
  .rw[Xm (Q1 e2)];exact(hb b<|Q1 e1).2.2
  .rw[Xm (Q1 e)];exact ZE
  .rw[Xm (Q1 e)]at hp;cases hp
def rj(t:PB):Sp:=λvs H Q _=>∃(a:K')(k:Int)(st:P6)(d:RT),vs=[.ref a,.int k]/\Pu t H a st d/\PU st/\∀c kv,IsCell d st k c kv->Q (.ref c) H
def pA(t:PB):Sp:=λvs H Q _=>∃(a:K')(st:P6)(d:RT),vs=[.ref a]/\Pu t H a st d/\PU st/\st.kv.length<4096/\∀H' d',Pu t H' a st.one d'->d'.n=d.n->Fr (Qr a st d) (Qr a st.one d') H H'->Q .non H'
def pB(t:PB):Sp:=λvs H Q _=>∃(a:K')(st:P6)(d:RT),vs=[.ref a]/\Pu t H a st d/\PU st/\d.n=(st.kv.length:Int)/\∀H' d',Pu t H' a st.three d'->d'.n=d.n->Fr (Qr a st d) (Qr a st.three d') H H'->Q .non H'
def xi{z:Int}(G:0<=z)(e:A[z.toNat]?=some c):RO (A.map V.ref) z=some (.ref c):=by
 let{j,rfl}:=ZY G;refine vH ?_;rw[Z3];have e:A[j]?=some c:=e;rw[e];rfl
def dC:Cy P w K mg base PJ 3 t.kS t.gF [cC,et] (rj t):=by
 refine T.GK.okl rE λs H vs Q E O h _=>?_;intro X;let{a,k,st,d,rfl,hb,z,q}:=h;refine ak (PF 2<|aR aQ (au Ck M) ai<|λ_ _=>M)
   (ak (PF 3<|aP (wI T) O.mo {_} T.zA T.uA.kp T.zU .nil aA (ae P0<|ae (aD aE {_} T.bS bj (ae P1 aj)) aj))
   (ak (aS (aw wH PM (au Ck M)<|az _)
    (ay<|aG<|aR aQ P1 PM<|λ_ _=>M)
    aJ)
   (ak (PF 4<|aR aQ (au Ck M) ai<|λ_ _=>M)
   (aB (aG<|aR aQ Qa (aP (wI T) O.mo {_} T.zA T.uA.kp T.zU .nil aA (ae P0<|ae (aD aE {_} T.bS bj (ae Qa aj)) aj))<|λ_ _=>M) ?_))))
 intros
 let{dx,I}:=hb.obj;let{s4,s5}:=cn z.pw;let{m0,m1,m2}:=uf (k:=k) s4;have t0:∃xs,H d.tb=some (.lst xs)/\RO xs 0=some (.ref d.r0):=by
  refine{_,hb.tbl,?_};cases st.nxt<;>rfl
 let{xs,hx,x0}:=t0;have a0:∀{Q':VK},Q' (.ref d.tb) H->tFld K (MI 0) v7 [some (.ref a),some (.int k),none,none,none] H Q':=λ{Q'} q=>{_,M,a,_,dx,_,_,M,I,T.aK,T.aZ,jw,q};have U:((d.A0.map V.ref).length:Int)=st.size:=by rw[Q0];exact hb.row0.la
 refine{_,M,a,_,dx,_,_,M,I,T.aK,T.aZ,jw,d.tb,_,_,_,M,M,E7.of hx,x0,?_};refine{_,M,_,M,d.r0,_,M,.inl<|E7.of hb.row0.lst,k,_,M,by rw[U];lia,?_};dsimp only;rw[U];refine{_,M,_,M,a,_,dx,_,_,M,I,T.aK,T.b8,BF,_,_,M,M,_,M,b4 (λc=>?_)<|λc=>?_}
 .have c:=Wt c;let{x,G}:=eB (l:=d.A0) m0 (by rwa[hb.row0.la]);let{y,e2}:=eB (l:=d.C0) m0 (by rwa[hb.row0.lc]);exact{_,M,_,M,d.r0,_,_,_,M,M,E7.of hb.row0.lst,xi m0 G,q x y<|.inl ⟨c,G,e2⟩}
 .have c:¬st.moved<=k%65536%st.size:=λz=>c (Wv z);cases e:st.nxt with
  |none=>rw[P6.moved_none e]at c;exact Ws m0 c
  |some m=>
   have hm:=P6.moved_some e;let{pm,_}:=z.nx m e;let{s6,_}:=cn pm;let{n0,n1,n2}:=uf (k:=k) s6;have r1:=hb.row1;rw[e]at r1;have Y:=hb.tbl;rw[e]at Y;have Z:((d.A1.map V.ref).length:Int)=m:=by rw[Q0];exact r1.la
   let{x,G}:=eB (l:=d.A1) n0 (by rwa[r1.la]);let{y,e2}:=eB (l:=d.C1) n0 (by rwa[r1.lc]);refine{_,M,a,_,dx,_,_,M,I,T.aK,T.aZ,jw,d.tb,_,_,_,M,M,E7.of Y,M,?_};refine{_,M,_,M,_,M,d.r1,_,M,.inl<|E7.of r1.lst,k,_,M,by rw[Z];lia,?_};dsimp only;rw[Z];exact{d.r1,_,_,_,M,M,E7.of r1.lst,xi n0 G,q x y<|.inr {m,e,(),G,e2}}
def bq{n:Nat}(h:n<=100000):n<sizeLine:=V7 h (_)
def NB{n:Nat}{z:Int}(G:0<=z)(h1:z<n):Rp n z=some z.toNat:=by unfold Rp;rw[Wn G,Wn h1]
def zB{kv:Sn}{k:Key}(e:(aI kv)[i]?=some (k,v)):∃n:Int,k=Sum.inl n/\kv[i]?=some (n,v):=by
 unfold aI at e;rw[Z3]at e;cases q:kv[i]? with
 |none=>rw[q]at e;cases e
 |some p=>rw[q]at e;cases e;exact⟨p.1,M,M⟩
def Hd{kv:Sn}{C:List (List<|Int×V)}{p:Int×V}(e:kv[i]?=some p):(kv.take<|i+1).foldl (g9 m) C=g9 m ((kv.take i).foldl (g9 m) C) p:=by
 rw[QY,e,XW];rfl
def io:Cy P w K mg base PJ 3 t.js t.e6 [cC] (pA t):=by
 refine T.Eh.okl pC λs H vs Q E hr h _=>?_;intro X;let{a,st,d,rfl,hb,z,hl,q}:=h;refine ak (aS (aw bH (aD aE {_} T.bS bj (ae (au Ck M) aj)) ai<|az _)
    (ay oS)
    aJ)
   (ak (PF 1<|aR aQ (au Ck M) ai<|λ_ _=>M)
   (ak (PF 2<|aR aQ (au Ck M) ai<|λ_ _=>M)
   (cI (λx=>(Ay (jV WF M (BM<|DF ZB Vj PySem.F.type_dict_items BX<|aR aQ P0 (au Ck M)<|λ_ _=>M) (DB M<|kH (Ri 3)<|kH (Ri 4) AA)
    x))) ?_)))
 refine aB (jy (gh hr) (aR aQ P1 (aP (wI T) hr.mo {_} T.zA T.uA.kp T.zU .nil aA (ae PM<|ae (aD aE {_} T.bS bj (ae P1 aj)) aj))<|λ_ _=>M) PM Qa M) ?_
 intros
 refine ak (Az i7<|DD P0 (au Ck M) wc)
   (ak (iM Ck ai xq)
   (aB (aS (aw bH (au Ck M) (aD aE {_} T.bS bj (ae P0 aj))<|az _)
    (kF (bu Ck (bX<|ae P1 aj) M)
    (ay<|bu Ck ai M))
    aJ) ?_))
 intros
 let{dx,ho}:=hb.obj;have ht:=hb.tbl;cases e:st.nxt with
 |none=>
  rw[e]at ht;refine{_,M,a,_,dx,_,_,M,ho,T.aK,T.aZ,jw,d.tb,_,M,.inl<|E7.of ht,M,_,M,dX M ?_};have e1:st.one=st:=by unfold P6.one;rw[e]
  rw[e1]at q;exact q H d hb M Fr.refl
 |some m=>
  rw[e]at ht;refine{_,M,a,_,dx,_,_,M,ho,T.aK,T.aZ,jw,d.tb,_,M,.inl<|E7.of ht,M,_,M,bg (λz=>by cases z) ?_};refine{_,M,a,_,dx,_,_,M,ho,T.aK,T.aZ,jw,d.tb,_,_,_,M,M,E7.of ht,M,?_};refine{_,M,a,_,dx,_,_,M,ho,T.aK,T.aZ,jw,d.tb,_,_,_,M,M,E7.of ht,M,?_};let{pm,v0,v1,_}:=z.nx m e;let{s4,s5}:=cn z.pw;let{s6,s7}:=cn pm;have hm:=P6.moved_some e;rw[hm]at ho;have r1:=hb.row1;rw[e]at r1;let{c0,ec}:=eB (l:=d.A0) v0 (by rwa[hb.row0.la]);let{kv,ek}:=eB (l:=d.C0) v0 (by rwa[hb.row0.lc]);have I:=hb.row0.cell _ _ _ ec ek;have lb:((d.A1.map V.ref).length:Int)=m:=by rw[Q0];exact r1.la
  have a5:c0∉d.A1:=hb.dis c0 (Q1 ec);have ah:d.r1≠c0:=c7 r1.lst I (by intro z;cases z);have bi:=hb.short0 z ek;have a6:∀b,b=d.r1\/b∈d.A1->∃o,H b=some o:=λb hb1=>by
   rcases hb1 with rfl|hb1
   .exact{_,r1.lst}
   .let{_,_,_,_,w}:=r1.has hb1;exact{_,w}
  refine{c0,aI kv,I,_,M,_,M,a,_,dx,_,_,M,ho,T.aK,T.b8,BF,d.r0,_,_,_,M,M,E7.of hb.row0.lst,xi v0 ec,.inr<|.inr<|.inl {M,.inl {_,I}},c0,aI kv,M,M,I,λvw nv=>?_};have b2:upd H vw (SV vw c0) c0=some (.dK<|aI kv):=by rw[af (ao I nv)];exact I
  refine{vw,c0,aI kv,M,ag,b2,λob=>?_};refine xv (λi B H'=>∃v3 v4,B=[some (.ref a),some (.ref d.r0),some (.ref d.r1),v3,v4]/\PD H' d.r1 d.A1 ((kv.take i).foldl (g9 m) d.C1) m/\H' c0=some (.frz ob<|.dK<|aI kv)/\∀b o,b∉d.A1->b≠c0->H b=some o->H' b=some o)
   {_,_,M,?_,ag,λb o _ n2 e=>?_} (λi B H' _ zz=>by let{_,_,_,_,hf,_}:=zz;exact hf) (λi k v p B H' ei zw np=>?_) (λB H' zw=>?_)
  .refine PD.frame (H:=H) r1 λb hb1=>?_;let{o,w}:=a6 b hb1;have n2:b≠c0:=by
    rcases hb1 with rfl|hb1
    .exact ah
    .exact λz=>a5 (z▸hb1)
   rw[af n2,af (ao w nv)]
  .rwa[af n2,af (ao e nv)]
  .let{v3,v4,aa,hr,hf,hk}:=zw;subst aa;let{n,rfl,en}:=zB ei;have a0:PD (upd H' p<|.tup [kV (Sum.inl n),v]) d.r1 d.A1 ((kv.take i).foldl (g9 m) d.C1) m:=hr.frame λb hb1=>af λw=>by
    have:∃o,H' b=some o:=by
     rcases hb1 with rfl|hb1
     .exact{_,hr.lst}
     .let{_,_,_,_,w}:=hr.has hb1;exact{_,w}
    let{o,q}:=this;rw[w,np]at q;cases q
   let{n0,n1,n2}:=uf (k:=n) s6;let{c,e1}:=eB (l:=d.A1) n0 (by rwa[a0.la]);let{y,e2}:=eB (l:=(kv.take i).foldl (g9 m) d.C1) n0 (by rwa[a0.lc]);let{y0,e3}:=eB (l:=d.C1) n0 (by rwa[r1.lc]);have yl:=BY e3 e2;have bl:=hb.short1 z e e3;have tl:(kv.take i).length<=kv.length:=by rw[Q9];lia
   have hc:=a0.cell _ _ _ e1 e2;have cA:c∈d.A1:=Q1 e1;refine{p,_,M,Px.of ag,M,_,_,M,_,_,M,M,?_};refine{_,M,_,M,_,M,_,M,d.r1,_,M,.inl<|E7.of a0.lst,n,_,M,by rw[lb];lia,?_};dsimp only;rw[lb];refine{d.r1,_,_,_,M,M,E7.of a0.lst,xi n0 e1,_,M,c,_,M,Qw.k (k:=Sum.inl n) hc (by rw[b9];exact bq ()),?_};rw[dW];have pn:∀b o,H' b=some o->b≠p:=λb o q=>ao q np;refine{_,_,M,?_,?_,λb o nA nc q=>?_}
   .rw[Hd en];exact a0.mov s6 e1 e2
   .rwa[af (λw=>a5<|by rw[w];exact cA),af (pn _ _ hf)]
   .have q:=hk b o nA nc q;rw[af (λw=>nA<|by rw[w];exact cA),af (pn _ _ q)];exact q
  .let{v3,v4,aa,hr,hf,hk}:=zw;subst aa;rw[b9,Zd]at hr;refine{ob,hf,λb' O=>?_};have hF:∀b,¬Qr a st d b->b∉d.A1/\b≠c0/\b≠a/\b≠d.r0/\b≠d.tb/\b≠d.r1:=λb n=>
    {λq=>n<|.inr<|.inr<|.inr<|.inr<|.inr q,λq=>n<|.inr<|.inr<|.inr<|.inl<|q▸Q1 ec,λq=>n<|.inl q,λq=>n<|.inr<|.inr<|.inl q,λq=>n<|.inr<|.inl q,λq=>n<|.inr (.inr<|.inr<|.inr<|.inl {by rw[e];rfl,q})}
   have a2:∀b o,H b=some o->(∀kvs,o≠ .dK kvs)->b∉d.A1:=λb o q ne w=>(r1.notr w q ne) M;have K1:∀b o,b∉d.A1->b≠c0->H b=some o->upd H' c0 (.dK<|aI kv) b=some o:=λb o n1 n2 q=>by rw[af n2];exact hk b o n1 n2 q
   have a1:PD (upd H' c0<|.dK<|aI kv) d.r1 d.A1 (kv.foldl (g9 m) d.C1) m:=hr.frame λb hb1=>af (by
    rcases hb1 with rfl|hb1
    .exact ah
    .exact λw=>a5<|w▸hb1)
   have an:upd H' c0 (.dK<|aI kv) c0=some (.dK<|aI kv):=ag;generalize upd H' c0 (.dK<|aI kv)=H3 at O K1 a1 an⊢;have U:=K1 a _ (a2 _ _ ho<|λ_ w=>by cases w) (c7 ho I<|by intro w;cases w) ho;have a3:=hb.row0.lst;have G:=K1 d.r0 _ (a2 _ _ a3<|λ_ w=>by cases w) (c7 a3 I<|by intro w;cases w) a3;have ac:=K1 d.tb _ (a2 _ _ ht<|λ_ w=>by cases w) (c7 ht I<|by intro w;cases w) ht;have b5:¬Qr a st d b':=λw=>by
    rcases w with w|w|w|w|⟨_,w⟩|w
    .rw[w,U]at O;cases O
    .rw[w,ac]at O;cases O
    .rw[w,G]at O;cases O
    .let{j,ba,f1,f2,f3}:=hb.row0.has w;by_cases y:b'=c0
     .rw[y,an]at O;cases O
     .rw[K1 b' _ (hb.dis b' w) y f3]at O;cases O
    .rw[w,a1.lst]at O;cases O
    .let{_,_,_,_,w'}:=a1.has w;rw[w']at O;cases O
   have lA:((d.A0.map V.ref).length:Int)=st.size:=by rw[Q0];exact hb.row0.la
   have bo:∀{x:K'}{o:HO},H3 x=some o->x≠b':=λq=>ao q O;refine{_,M,_,M,a,_,dx,_,_,M,(by rwa[af (bo U)]),T.aK,T.b8,BF,d.r0,_,_,_,M,M,(by rwa[af (bo G)]),NB v0 (by rwa[lA]),?_};have g0:H3 d.r1=some (.lst<|d.A1.map V.ref):=a1.lst;have ra:d.r0≠a:=c7 a3 ho (by intro w;cases w);have bb:d.r0≠d.r1:=(hb.tr1<|by rw[e];rfl).2;have t1:d.tb≠d.r1:=(hb.tr1<|by rw[e];rfl).1;have ta:d.tb≠a:=c7 ht ho (by intro w;cases w);have ax:d.r1≠a:=c7 r1.lst ho (by intro w;cases w);have Z:∀b∈d.A1,b≠b'/\b≠d.r0/\b≠a:=λb w=>by
    let{_,_,_,_,f}:=a1.has w;exact{bo f,c7 f G (by intro w;cases w),c7 f U<|by intro w;cases w}
   have es:(d.A0.map V.ref).set st.mv.toNat (V.ref b')=(d.A0.set st.mv.toNat b').map V.ref:=by rw[List.map_set]
   rw[es];have b1:upd (upd H3 b'<|.dK []) d.r0 (.lst<|(d.A0.set st.mv.toNat b').map V.ref) a=some (.ins t.a8 dx<|Qt d.tb st.mv d.n):=by rwa[af ra.symm,af (bo U)]
   refine{_,M,a,_,dx,_,_,M,b1,T.aK,T.b8,BF,_,_,M,M,dx,_,b1,rB,?_};rw[L9];have a4:∀{o:HO},upd (upd (upd H3 b'<|.dK []) d.r0<|.lst<|(d.A0.set st.mv.toNat b').map V.ref) a o d.r0=some (.lst<|(d.A0.set st.mv.toNat b').map V.ref):=by
    intro o;rw[af ra,ag]
   have lS:(((d.A0.set st.mv.toNat b').map V.ref).length:Int)=st.size:=by rw[Q0,Zo];exact hb.row0.la
   refine{_,M,a,_,dx,_,_,M,ag,T.aK,T.b8,BF,_,M,d.r0,_,M,.inl<|E7.of a4,M,_,M,?_};rw[lS];have Y:∀{o:HO},PD (upd (upd (upd H3 b'<|.dK []) d.r0<|.lst<|(d.A0.set st.mv.toNat b').map V.ref) a o) d.r1 d.A1 (kv.foldl (g9 m) d.C1) m:=λ{o}=>a1.frame λb hb1=>by
    have:b≠b'/\b≠d.r0/\b≠a:=by
     rcases hb1 with rfl|hb1
     .exact{bo g0,bb.symm,ax}
     .exact Z b hb1
    rw[af this.2.2,af this.2.1,af this.1]
   have K6:∀{o':HO}(b:K')(o:HO),¬Qr a st d b->H b=some o->upd (upd (upd H3 b'<|.dK []) d.r0<|.lst<|(d.A0.set st.mv.toNat b').map V.ref) a o' b=some o:=λ{o'} b o n q=>by
    let{f1,f2,f3,f4,_}:=hF b n;have q3:=K1 b o f1 f2 q;rwa[af f3,af f4,af (bo q3)]
   refine b4 (λc=>?_)<|λc=>?_
   .have c:st.mv+1=st.size:=V.int.inj (Wt c);refine{_,M,(by show 1<=sizeLine;decide),λtb' nt=>{_,M,a,_,dx,_,M,(by rw[af (ao ag nt)];exact ag),T.aK,T.aZ,rB,?_}};rw[OL];refine{_,M,a,_,dx,_,M,ag,T.aK,T.b8,rB,?_};rw[L9,du];have be:tb'≠a:=(ao ag nt).symm;have bh:tb'≠d.r1:=(ao (Y (o:= .ins t.a8 dx<|Qt d.tb (st.mv+1) d.n)).lst nt).symm;refine q _ _ (hb.last z e ek (tb':=tb') (dx:=dx) c ag (by rw[af be];exact ag) bh ?_) M<|λb o n w=>?_
    .refine(Y (o:= .ins t.a8 dx<|Qt d.tb (st.mv+1) d.n)).frame λb hb1=>?_;have:b≠a:=by
      rcases hb1 with rfl|hb1
      .exact ax
      .exact(Z b hb1).2.2
     rw[af this,af (λw=>?_)];obtain⟨o,f⟩:∃o,upd (upd (upd H3 b'<|.dK []) d.r0<|.lst<|(d.A0.set st.mv.toNat b').map V.ref) a (.ins t.a8 dx<|Qt d.tb (st.mv+1) d.n) b=some o:=by
      rcases hb1 with rfl|hb1
      .exact{_,Y.lst}
      .let{_,_,_,_,f}:=Y.has hb1;exact{_,f}
     rw[w,nt]at f;cases f
    .let{f1,f2,f3,f4,f5,f6}:=hF b n;have k6:=K6 (o':= .ins t.a8 dx<|Qt d.tb (st.mv+1) d.n) b o n w;have bt:b≠tb':=ao k6 nt;refine{by rwa[af f3,af bt],λy=>?_};rcases y with y|y|y|y|⟨_,y⟩|y
     .exact f3 y
     .exact bt y
     .exact f6 y
     .exact f1 y
     .exact f6 y
     .cases y
   .have c:st.mv+1≠st.size:=λw=>c (Wv<|by rw[w]);refine q _ _ (hb.one z e ek (b':=b') (dx:=dx) c ag (by rw[af ta,af hb.tr,af (bo ac),ac,hb.tbl,e]) a4 ?_ b5 (λj b f1 f2=>?_) Y) M<|λb o n w=>{K6 b o n w,λy=>?_}
    .have n1:b'≠a:=(bo U).symm;have n2:b'≠d.r0:=(bo G).symm;rw[af n1,af n2];exact ag
    .have bA:=Q1 f1;let{_,ba,_,_,f}:=hb.row0.has bA;have nc:b≠c0:=λw=>f2 (hb.row0.inj j _ c0 (w▸f1) ec);have f3:=K1 b _ (hb.dis b bA) nc f;rw[af (c7 f3 U<|by intro w;cases w),af (c7 f3 G<|by intro w;cases w),af (bo f3),f3,f]
    .let{f1,f2,f3,f4,f5,f6}:=hF b n;rcases y with y|y|y|y|⟨_,y⟩|y
     .exact f3 y
     .exact f5 y
     .exact f4 y
     .let{j,hj,ej}:=Zh (show b∈d.A0.set st.mv.toNat b' from y);rcases eL (Q2.mpr ⟨hj,ej⟩)with⟨_,g⟩|⟨_,g⟩
      .have:=K1 b o f1 f2 w;rw[g,O]at this;cases this
      .exact n<|.inr (.inr<|.inr<|.inl<|Q1 g)
     .exact f6 y
     .exact f1 y
def iq:Cy P w K mg base PJ 2 t.jt t.e7 [cC] (pB t):=by
 let{U,G}:=T.g_GREATEST_SIZE;let{Z,I}:=T.g_LEAST_SIZE;refine T.Ei.okl pD λs H vs Q E hr h _=>?_;intro X;let{a,st,d,rfl,hb,z,hn,q}:=h;refine ak (aS (aw bH (aD aE {_} T.bS bj (ae (au Ck M) aj)) ai<|az _)
    (ay oS)
    aJ)
   (ak (PF 1<|aD aE {_} T.bS bj (ae (aR aQ (au Ck M) ai<|λ_ _=>M) aj))
   (Mc (λx y=>aS (PW.pt<|eU (aw BQ (au Ck M) P0<|az _)<|dB<|aw fL P0 (cK (v:= .int 256) {_} G {_,M})<|az _) x y) ?_))
 refine aB (aT<|d6 QZ ZF ZG fh (au Ck M)<|ae (aP (rQ T) hr.mo {_} T.uE T.oP.kp T.uI .nil aA (ae (aq eY P0 ai) aj)) aj) ?_
 intros
 refine rV (λx=>aS (PW.pt<|eU (aw fL (aq eY ai<|au Ck M) P0<|az _)<|dB<|aw BQ P0 (cK (v:= .int 4) {_} I {_,M})<|az _) x aJ) ?_;refine aB (aT<|d6 QZ ZF ZG fh (au Ck M)<|ae (aP (rQ T) hr.mo {_} T.uE T.oP.kp T.uI .nil aA (ae (aq aU P0 ai) aj)) aj) ?_
 intros
 let{dx,O}:=hb.obj;have Y:=hb.tbl;cases e:st.nxt with
 |some m=>
  rw[e]at Y;refine{_,M,a,_,dx,_,_,M,O,T.aK,T.aZ,jw,d.tb,_,M,.inl<|E7.of Y,M,_,M,dX M ?_};have e1:st.three=st:=by unfold P6.three;rw[e]
  rw[e1]at q;exact q H d hb M Fr.refl
 |none=>
  rw[e]at Y;refine{_,M,a,_,dx,_,_,M,O,T.aK,T.aZ,jw,d.tb,_,M,.inl<|E7.of Y,M,_,M,bg (λz=>by cases z) ?_};have la:((d.A0.map V.ref).length:Int)=st.size:=by rw[Q0];exact hb.row0.la
  let{a4,a5}:=cn z.pw;refine{_,M,a,_,dx,_,_,M,O,T.aK,T.aZ,jw,d.tb,_,_,_,M,M,E7.of Y,M,d.r0,_,M,.inl<|E7.of hb.row0.lst,?_};dsimp only;rw[la];have fin:∀{m:Int}{H':Hp}{r:K'}{A:Su},st.three={st with nxt:=some m,mv:=0}->GI H H'->H r=none->(∀b∈A,H b=none)->PD H' r A (List.replicate m.toNat []) m->H' d.tb=some (.lst [.ref d.r0])/\Q .non (upd H' d.tb<|.lst<|[.ref d.r0]++ [.ref r]):=λ{m H' r A} e3 s nr nA hr=>by
   have a1:=s _ _ Y;have a0:∀b,Qr a st d b->∃o,H b=some o:=λb w=>hb.dom w;have a2:¬Qr a st d r:=λw=>by let{o,q}:=a0 r w;rw[nr]at q;cases q
   have a3:∀b∈A,¬Qr a st d b:=λb hA w=>by let{o,q}:=a0 b w;rw[nA b hA]at q;cases q
   refine{a1,?_};have sb:=hb.begin (H':=upd H' d.tb<|.lst [.ref d.r0,.ref r]) e (m:=m) (r:=r) (A:=A) (by rw[af (c7 O Y<|by intro w;cases w),s _ _ O,O]) ag (λb hb1=>?_) (hr.frame λb hb1=>af ?_) a2 a3
   .rw[<-e3]at sb;refine q _ _ sb M λb o n w=>{?_,λy=>?_}
    .rw[af (λv=>n<|.inr<|.inl v)];exact s _ _ w
    .rw[e3]at y;rcases y with y|y|y|y|⟨_,y⟩|y
     .exact n<|.inl y
     .exact n<|.inr (.inl y)
     .exact n<|.inr (.inr<|.inl y)
     .exact n<|.inr (.inr<|.inr<|.inl y)
     .have y:b=r:=y;rw[y,nr]at w;cases w
     .rw[nA b y]at w;cases w
   .let{o,q}:=a0 b (by
     rcases hb1 with w|w
     .exact .inr<|.inr (.inl w)
     .exact .inr<|.inr<|.inr<|.inl w)
    have:b≠d.tb:=by
     rcases hb1 with w|w
     .rw[w];exact hb.tr.symm
     .exact hb.row0.notr w Y<|λ_ z=>by cases z
    rw[af this,s _ _ q,q]
   .rcases hb1 with w|w
    .rw[w];exact λv=>by rw[v,Y]at nr;cases nr
    .exact λv=>by have:=nA b w;rw[v,Y]at this;cases this
  by_cases cA:st.size<d.n/\st.size<256
  .have e3:st.three={st with nxt:=some (2*st.size),mv:=0}:=by
    unfold P6.three;rw[e];exact Wn<|by rwa[<-hn]
   refine{_,M,a,_,dx,_,_,M,O,T.aK,T.bU,rC,_,M,_,_,M,M,_,M,mU cA.1 {_,M,_,_,M,M,_,M,mU cA.2 ?_}};refine{_,M,a,_,dx,_,_,M,O,T.aK,T.aZ,jw,.inl {M,_,E7.of Y},_,M,_,_,M,M,.inr {(_),(_)},_,M,(),(),λH' r A s nr nA hr=>?_};let{f1,f2}:=fin (m:=st.size*2) (by rw[e3,VM]) s nr nA hr;exact{d.tb,_,_,M,M,f1,cR (by show 1<=1000;decide),f2}
  .by_cases cB:4*d.n<st.size/\4<st.size
   .have e3:st.three={st with nxt:=some (st.size/2),mv:=0}:=by
     unfold P6.three;rw[e];exact(Wm<|by rwa[<-hn]).trans<|Wn (by rwa[<-hn])
    have c1:¬st.size<d.n:=();refine{_,M,a,_,dx,_,_,M,O,T.aK,T.bU,rC,_,M,_,_,M,M,_,M,bg c1 ?_};refine{_,M,a,_,dx,_,_,M,O,T.aK,T.bU,rC,_,_,M,M,.inl {(_),(_)},_,M,_,_,M,M,_,M,mU cB.1 {_,M,_,_,M,M,_,M,mU cB.2 ?_}};refine{_,M,a,_,dx,_,_,M,O,T.aK,T.aZ,jw,.inl {M,_,E7.of Y},_,M,_,_,M,M,{(_),(_)},_,M,(),(),λH' r A s nr nA hr=>?_};let{f1,f2}:=fin (m:=st.size/2) e3 s nr nA hr;exact{d.tb,_,_,M,M,f1,cR (by show 1<=1000;decide),f2}
   .have e3:st.three=st:=by
     unfold P6.three;rw[e];exact(Wm<|by rwa[<-hn]).trans<|Wm (by rwa[<-hn])
    rw[e3]at q;have q0:=q H d hb M Fr.refl;by_cases c1:st.size<d.n
    .have c2:¬st.size<256:=λw=>cA ⟨c1,w⟩;have c3:¬4*d.n<st.size:=();refine{_,M,a,_,dx,_,_,M,O,T.aK,T.bU,rC,_,M,_,_,M,M,_,M,mU c1 {_,M,_,_,M,M,_,M,bg c2 ?_}};exact{_,M,a,_,dx,_,_,M,O,T.aK,T.bU,rC,_,_,M,M,.inl {(_),(_)},_,M,_,_,M,M,_,M,bg c3 q0}
    .refine{_,M,a,_,dx,_,_,M,O,T.aK,T.bU,rC,_,M,_,_,M,M,_,M,bg c1 ?_};refine{_,M,a,_,dx,_,_,M,O,T.aK,T.bU,rC,_,_,M,M,.inl {(_),(_)},_,M,_,_,M,M,_,M,?_};by_cases c3:4*d.n<st.size
     .exact mU c3 {_,M,_,_,M,M,_,M,bg (λw=>cB ⟨c3,w⟩) q0}
     .exact bg c3 q0
section
variable{d:RT}
def Pu.put(h:Pu t H a st d)(z:PU st){kv:Sn}(G:IsCell d st k c kv)(v:V):
  ∃d',Pu t (upd H c<|.dK<|aI<|a9 kv k v) a {st with kv:=a9 st.kv k v} d'/\d'.n=d.n/\∀b,Qr a {st with kv:=a9 st.kv k v} d' b↔Qr a st d b:=
 h.setCell z G (wY (h.at G).2.2) (λ_ hp=>xf hp) (by rw[eI,eI,Wn M,Wn M]) λj I=>{by rw[eI,Wm I],by rw[eI,Wm I]}
def Pu.drop(h:Pu t H a st d)(z:PU st){kv:Sn}(G:IsCell d st k c kv):
  ∃d',Pu t (upd H c<|.dK<|aI<|bT kv k) a {st with kv:=bT st.kv k} d'/\d'.n=d.n/\∀b,Qr a {st with kv:=bT st.kv k} d' b↔Qr a st d b:=
 h.setCell z G (rW (h.at G).2.2) (λ_ hp=> .inl<|zK hp) (by rw[fc,fc,Wn M,Wn M]) λj I=>{by rw[fc,Wm I],by rw[fc,Wm I]}
def Pu.insM(h:Pu t H a st d):∃dx fs,H a=some (.ins t.a8 dx fs)/\∀m,NoM m->fs.lookup m=none:=by
 let{dx,z}:=h.obj;exact{dx,_,z,λm G=>LZ G}
def P6.one_kv:st.one.kv=st.kv:=by
 unfold P6.one;cases st.nxt with
 |none=>rfl
 |some m=>show(if _ then _ else _:P6).kv=_;split<;>rfl
def P6.three_kv:st.three.kv=st.kv:=by
 unfold P6.three;cases st.nxt with
 |some m=>rfl
 |none=>show(if _ then _ else _:P6).kv=_;split;rfl;split<;>rfl
set_option tactic.hygienic true in
def EL{kv:Sn}:((a9 kv k v).length:Int)=if(aH kv k).isSome=true then(kv.length:Int)else kv.length+1:=by
 have:=WG List.length (sj (kv:=kv) (k:=k) (v:=v));rw[Q0]at this;split
 .rename_i c;rw[Wn c,Q0]at this;lia
 .rename_i c;rw[Wm c,Q6,Q0]at this;simp at this;lia
end
def pM:Cy P w K mg base PJ 4 t.sZ t.mw [cC,et] (ye K t):=by
 refine T.LH.okl yw λs H vs Q E G h _=>?_;intro X;let{a,k,F,st,rfl,{d,hb,O,U,nd,z},Z,q}:=h;refine{_,(ay<|aG<|Nb<|HL (gh G) P0<|aW Ck T.aK T.gA (dC T) G.mo T.gK .nil aA<|ae P0 aj)
  ,?_}
 let{dx,fs,hi,Y}:=hb.insM;refine{_,M,_,M,a,dx,fs,M,hi,Y _ ∅,_,M,a,k,st,d,M,hb,z,λc kv I=>?_};let{hc,_,_}:=hb.at I;refine{c,_,M,QA.k (k:=Sum.inl k) hc,?_};rw[PK,hb.val k c kv I];exact q H F ⟨d,hb,O,U,nd,z⟩ Fr.refl
def yL:Cy P w K mg base PJ 4 t.tj t.my [cC,et] (yf K t):=by
 refine T.LI.okl yx λs H vs Q E G h _=>?_;intro X;let{a,k,F,st,rfl,{d,hb,U,Y,nd,z},h0,Z,q2}:=h;refine ak (PF 2<|aW Ck T.aK T.gA (dC T) G.mo T.gK .nil aA<|ae P0 aj)
   (ak (aS (Dy<|zn (gh G) P0 P1)
    (ay jz)
    aJ)
   (aB (aG<|oV (gh G) P1 P0<|λ_ _=>M) ?_))
 intros
 have hA:QI K t H a F st:=⟨d,hb,U,Y,nd,z⟩;let{dx,fs,hi,hm}:=hb.insM;refine{_,M,a,dx,fs,M,hi,hm _ ∅,_,M,a,k,st,d,M,hb,z,λc kv I=>?_};let{hc,_,_}:=hb.at I;have O:=hb.val k c kv I;refine{_,M,_,M,c,_,M,QA.k (k:=Sum.inl k) hc,?_};rw[PK,O];cases e:aH st.kv k with
 |none=>
  refine{_,M,cy ?_};exact(q2 e).elim
 |some v=>
  refine{_,M,cu ?_};refine{_,M,_,M,c,v,M,?_,Z v e H F hA Fr.refl};have:=QA.k (k:=Sum.inl k) hc;rw[PK,O,e]at this;exact this
def yK:Cy P w K mg base PJ 4 t.sY t.mq [cC,et,u0] (yd K t):=by
 refine T.LG.okl yv λs H vs Q E hr h _=>?_;intro X;let{a,k,i,F,st,rfl,{d,hb,hF,hn,nd,z},h0,hl,q}:=h;refine ak (aT<|bn Ck T.aK T.qG (io T) hr.mo T.qS .nil aA)
   (ak (PF 3<|aW Ck T.aK T.gA (dC T) hr.mo T.gK .nil aA<|ae P0 aj)
   (ak (aS (Dy<|zn (gh hr) P0 PM)
    (ay<|iM Ck ai xq)
    aJ)
   (ak (jy (gh hr) PM P0 P1 M)
   (aB (aT<|bn Ck T.aK T.qH (iq T) hr.mo T.qT .nil aA) ?_))))
 intros
 let{dx,fs,hi,hm}:=hb.insM;refine{_,M,a,dx,fs,M,hi,hm _ ∅,a,st,d,M,hb,z,hl,λH1 Y hb1 e1 O=>?_};let{ac,ah,an,ax}:=hb1.insM;have z1:=z.one;refine{_,M,a,ac,ah,M,an,ax _ ∅,_,M,a,k,st.one,Y,M,hb1,z1,λc kv ic=>?_};let{hc,cF,_}:=hb1.at ic;have hv:=hb1.val k c kv ic;have sh:=hb1.short z1 ic;rw[P6.one_kv]at hv sh;let{U,Z}:=hb1.obj;have na:a≠c:=c7 Z hc (by intro w;cases w);have key:∀(H2:Hp)(n2:Int),Pu t H2 a st.one {Y with n:=n2}->Fr (Qr a st d) (Qr a st.one Y) H H2->n2=((a9 st.kv k<|.int i).length:Int)->∃I,Pu t (upd H2 c<|.dK<|aI<|a9 kv k<|.int i) a {st.one with kv:=a9 st.one.kv k (.int i)} I/\I.n=((a9 st.one.kv k<|.int i).length:Int)/\
   ∀H4 d4,Pu t H4 a (P6.three {st.one with kv:=a9 st.one.kv k (.int i)}) d4->d4.n=I.n->Fr (Qr a {st.one with kv:=a9 st.one.kv k (.int i)} I) (Qr a (P6.three {st.one with kv:=a9 st.one.kv k (.int i)}) d4) (upd H2 c<|.dK<|aI<|a9 kv k<|.int i) H4->Q .non H4:=λH2 n2 a0 b1 b2=>by
  let{I,G,e3,f3}:=a0.put z1 (kv:=kv) ic (.int i);have a1:I.n=((a9 st.one.kv k<|.int i).length:Int):=by rwa[e3,P6.one_kv]
  refine{I,G,a1,λH4 d4 a6 e4 aa=>?_};rw[P6.one_kv]at a6 aa f3 a1;refine q H4 _ {d4,a6,λb=>Iff.rfl,?_,?_,?_} ?_
  .show d4.n=((P6.three _).kv.length:Int);rw[P6.three_kv,e4,a1]
  .show((P6.three _).kv.map (·.1)).Nodup;rw[P6.three_kv];exact wY nd
  .exact(z1.kv).three
  .have step:Fr (Qr a st.one Y) (Qr a {st.one with kv:=a9 st.kv k (.int i)} I) H2 (upd H2 c<|.dK<|aI<|a9 kv k<|.int i):=λb o n w=>{by rwa[af (λy=>n<|by rw[y];exact cF)],λy=>n<|(f3 b).mp y};exact Fr.trans (λb o n w=>b1 b o (λy=>n<|(hF b).mpr y) w)<|Fr.trans step aa
 refine{_,M,_,M,c,_,M,QA.k (k:=Sum.inl k) hc,?_};rw[PK,hv];have kl:(aI kv).length<sizeLine:=by rw[b9];exact FB ()
 cases e:aH st.kv k with
 |none=>
  refine{_,M,cy ?_};refine{_,M,a,_,U,_,_,M,Z,T.aK,T.bU,rC,_,_,M,M,U,_,Z,rB,?_};rw[Ma];have a0:=hb1.setN (dx:=U) (n:=Y.n+1);have b5:upd H1 a (.ins t.a8 U<|Qt Y.tb st.one.moved<|Y.n+1) c=some (.dK<|aI kv):=by rwa[af na.symm]
  let{I,G,n3,fin}:=key _ _ a0 (λb o n w=>{by rw[af (λy=>(O b o n w).2<|.inl y)];exact(O b o n w).1,(O b o n w).2}) (by rw[EL,e,e1,hn];rfl);refine{_,M,_,M,_,M,c,_,M,Qw.k (k:=Sum.inl k) b5 kl,?_};rw[dW];let{a2,a3,a4,a5}:=G.insM;exact{_,M,a,a2,a3,M,a4,a5 _ ∅,a,_,I,M,G,z1.kv,n3,fin}
 |some v=>
  refine{_,M,cu ?_};let{I,G,n3,fin}:=key H1 Y.n hb1 O (by rw[EL,e,e1,hn];rfl);refine{_,M,_,M,_,M,c,_,M,Qw.k (k:=Sum.inl k) hc kl,?_};rw[dW];let{a2,a3,a4,a5}:=G.insM;exact{_,M,a,a2,a3,M,a4,a5 _ ∅,a,_,I,M,G,z1.kv,n3,fin}
def wO:Cy P w K mg base PJ 5 t.p8 t.kf [cC,et] (vR K t):=by
 refine T.Ka.okl wq λs H vs Q E Y h _=>?_;intro X;let{a,k,F,st,rfl,hA,h0,q1,q2}:=h;refine ak (aS (lQ<|cU<|aW Ck T.aK T.AK (pM T) Y.mo T.Bb .nil aA<|ae P0 aj)
    (ay jz)
    aJ)
   (ak (aT<|bn Ck T.aK T.qG (io T) Y.mo T.qS .nil aA)
   (ak (aT<|d6 ZB Xv Vt EE (aW Ck T.aK T.gA (dC T) Y.mo T.gK .nil aA<|ae P0 aj)<|ae P0 aj)
   (ak (iM Ck ai ND)
   (aB (aT<|bn Ck T.aK T.qH (iq T) Y.mo T.qT .nil aA) ?_))))
 intros
 let{dx,fs,hi,hm}:=hA.ins;refine{_,M,a,dx,fs,M,hi,hm _ ∅,_,M,a,k,F,st,M,hA,h0,λH0 F0 a0 a1=>?_};cases e:aH st.kv k with
 |none=>
  refine{_,M,cy ?_};exact(q2 e).elim
 |some v=>
  refine{_,M,cu ?_};let{d,hb,hF,hn,nd,z}:=a0;let{dx,fs,hi,hm}:=hb.insM;let{hl,q1}:=q1 (by rw[e];rfl);refine{_,M,a,dx,fs,M,hi,hm _ ∅,a,st,d,M,hb,z,hl,λH1 d1 hb1 e1 a2=>?_};let{a3,a4,a5,a6}:=hb1.insM;have Z:=z.one;refine{_,M,a,a3,a4,M,a5,a6 _ ∅,_,M,a,k,st.one,d1,M,hb1,Z,λc kv ic=>?_};let{hc,cF,_}:=hb1.at ic;have hv:=hb1.val k c kv ic;rw[P6.one_kv,e]at hv;let{d3,G,e3,f3}:=hb1.drop Z ic;rw[P6.one_kv]at G f3;refine{.inr<|.inr<|.inl {M,.inl {_,hc}},_,M,c,_,Sum.inl k,v,M,M,hc,PK.trans hv,?_};rw[qI];let{I,O}:=G.obj;refine{_,M,a,_,I,_,_,M,O,T.aK,T.bU,rC,_,_,M,M,I,_,O,rB,?_};rw[Ma];have U:=G.setN (dx:=I) (n:=d3.n-1);let{a8,aa,ac,ah}:=U.insM;have dl:=zL nd (vA e);have n4:d3.n-1=((bT st.kv k).length:Int):=by rw[e3,e1,hn];lia
  refine{_,M,a,a8,aa,M,ac,ah _ ∅,a,_,_,M,U,Z.kv,n4,λH5 d5 an e5 ax=>?_};refine q1 H5 _ {d5,an,λb=>Iff.rfl,?_,?_,Z.kv.three} ?_
  .show d5.n=((P6.three _).kv.length:Int);rwa[P6.three_kv,e5]
  .show((P6.three _).kv.map (·.1)).Nodup;rw[P6.three_kv];exact rW nd
  .refine a1.trans<|Fr.trans (λb o n w=>a2 b o (λy=>n<|(hF b).mpr y) w) (Fr.trans (λb o n w=>?_) ax);exact{by rwa[af (λy=>n<|.inl y),af (λy=>n<|by rw[y];exact cF)],λy=>n<|(f3 b).mp y}
def nQ:Cy P w K mg base PJ 1 t.p6 t.j8 [cC] (vP K t):=by
 refine T.J8.okl wk λs H vs Q E U h _=>?_;intro X;let{a,F,st,rfl,{d,hb,hF,hn,nd,z},q}:=h;refine{_,(ay<|aG<|oW M (P9.of (M':=["row"]) (N:=[cC]) (N':=[cC]) (dsc:=am gM) M M ∅) (eO<|au Ck M)<|λ_ _ _ _ _=>(aD (pV K M) {_} T.bS bj (ae Ck aj)))
  ,?_}
 have hA:QI K t H a F st:=⟨d,hb,hF,hn,nd,z⟩;let{dx,ho}:=hb.obj;have Y:∃xs,H d.tb=some (.lst xs)/\xs.length=st.rows.length/\∀(i:Nat)(x:V),xs[i]?=some x->∃r rs,x= .ref r/\H r=some (.lst rs)/\st.rows[i]?=some (rs.length:Int):=by
  have G:=hb.tbl;have l0:((d.A0.map V.ref).length:Int)=st.size:=by rw[Q0];exact hb.row0.la
  unfold P6.rows;have r1:=hb.row1;cases e:st.nxt with
  |none=>
   rw[e]at G;refine{_,G,M,λi x hx=>?_};cases i with
   |zero=>cases hx;exact{d.r0,_,M,hb.row0.lst,by rw[l0];rfl}
   |succ j=>simp at hx
  |some m=>
   rw[e]at G r1;have l1:((d.A1.map V.ref).length:Int)=m:=by rw[Q0];exact r1.la
   refine{_,G,M,λi x hx=>?_};cases i with
   |zero=>cases hx;exact{d.r0,_,M,hb.row0.lst,by rw[l0];rfl}
   |succ j=>
    cases j with
    |zero=>cases hx;exact{d.r1,_,M,r1.lst,by rw[l1];rfl}
    |succ j=>simp at hx
 let{xs,G,lx,look}:=Y;refine{_,M,a,_,dx,_,_,M,ho,T.aK,T.aZ,jw,d.tb,M,{_,E7.of G},λD hD=>?_};refine uy (K:=K) (a:=d.tb) (xs:=xs) (λi ys H3=>H3=upd H D (.lst ys)/\ys=(st.rows.take i).map V.int) ⟨M,M⟩ (λi ys H3 _ w=>E7.of<|by rwa[w.1,af (ao G hD)]) (λi x ys H3 hx w I=>?_)<|λys H3 w I=>?_
 .let{O,e2}:=w;let{r,rs,rfl,U,hs}:=look i x hx;have hi:i<xs.length:=(Q2.mp hx).1;have Z:H3 r=some (.lst rs):=by rwa[O,af (ao U hD)]
  refine{_,M,r,_,M,.inl<|E7.of Z,Pq.mk hi I ?_ {?_,?_}}
  .rw[e2,Q0,Q9];have:st.rows.length<=2:=by(unfold P6.rows;cases st.nxt<;>simp)
   exact cR ()
  .rw[O,du]
  .rw[e2,QY,hs,QO];rfl
 .let{O,e2}:=w;rw[lx,Zd]at e2;subst e2;subst O;exact q _ F D (hA.new hD) (Fr.of_same<|al hD) hD (hA.out hD) ag
def MT{sh:Int}:bP ("kept":Str) (.int n) (bP ("shifted":Str) (.int sh)<|bP (v7:Str) (.ref tb) [])=Qt tb sh n:=by
 have z:bP (v7:Str) (.ref tb) []=[((v7:Str),V.ref tb)]:=M;rw[z,bP,Wm ∅,bP,bP,Wm ∅,bP,Wm ∅,bP];rfl
def wN:Cy P w K mg base PJ 2 t.p7 t.j9 [cC] (vQ K t):=by
 let{G,z}:=T.g_LEAST_SIZE;refine T.J9.okl wm λs H vs Q E I h _=>?_;intro X;let{a,dx,rfl,ha,hd,q}:=h;refine ak (bu Ck (bX<|ae (aP (rQ T) I.mo {_} T.uE T.oP.kp T.uI .nil aA (ae (cK (v:= .int 4) {_} z {_,M}) aj)) aj) M)
   (ak (bu Ck ai M)
   (aB (bu Ck ai M) ?_))
 intros
 refine{4,M,(_),(_),λH' r A s nr nA I=>{(by show 1<=sizeLine;decide),λtb nt=>?_}};have O:=s _ _ ha;have U:a≠tb:=ao O nt;refine{_,M,a,_,dx,[],M,(by rwa[af U]),T.aK,T.aZ,(by show 0<1000;decide),?_};refine{_,M,a,_,dx,_,M,ag,T.aK,T.b8,?_,?_}
 .show 1<1000;decide
 refine{_,M,a,_,dx,_,M,ag,T.aK,T.bU,?_,?_}
 .have h1:=nJ (f:="shifted") (v:= .int 0) (bP v7 (.ref tb) []);have h2:=nJ (f:=v7) (v:= .ref tb) [];have h3:([]:Tb).length=0:=M;lia
 rw[MT,du,du];have Z:tb≠r:=(ao I.lst nt).symm;have sb:=Pu.fresh (t:=t) (H:=upd (upd H' tb<|.lst [.ref r]) a<|.ins t.a8 dx<|Qt tb 0 0) (a:=a) (tb:=tb) (r:=r) (A:=A) (dx:=dx) ag (by rw[af U.symm];exact ag) (I.frame λb hb1=>?_) Z
 .refine q _ _ {_,sb,λb=>Iff.rfl,M,ZE,PU.new} λb o n w=>?_;have n1:b≠a:=λy=>n (.inl y);have w1:=s _ _ w;have Y:b≠tb:=ao w1 nt;refine{by rwa[af n1,af Y],λy=>?_};rcases y with y|y|y|y|⟨y,_⟩|y
  .exact n1 y
  .exact Y y
  .have y:b=r:=y;rw[y,nr]at w;cases w
  .rw[nA b y]at w;cases w
  .cases y
  .cases y
 .have:∃o,H' b=some o:=by
   rcases hb1 with rfl|hb1
   .exact{_,I.lst}
   .let{_,_,_,_,w}:=I.has hb1;exact{_,w}
  let{o,w}:=this;have Y:b≠tb:=ao w nt;have n1:b≠a:=λy=>by
   rcases hb1 with y2|y2
   .rw[<-y2,y,ha]at nr;cases nr
   .have:=nA b y2;rw[y,ha]at this;cases this
  rw[af n1,af Y]
def nP:Cy P w K mg base PJ 3 t.pY t.j6 [cC,zk] (vN K t):=by
 refine T.J6.okl wg λs H vs Q E G h _=>?_;intro X;let{a,p,F,st,rfl,I,U,Y,q}:=h;refine ak (PF 2<|aD (zP M) {_} T.vJ ox (ae (bn Ck T.aK T.yT (nQ T) G.mo T.yY .nil aA) aj))
   (aB (aG<|aR bY (aP (yF T) G.mo {_} T.K7 T.Bh.kp T.Lr .nil aA (ae (aP (wJ T) G.mo {_} T.Gb T.Ab.kp T.GB .nil aA (ae P0<|ae P1 aj))<|ae P1 aj)) ai<|λ_ _=>M) ?_)
 intros
 have z:PU st:=let⟨_,_,_,_,_,z⟩:=I;z
 let{s4,s5}:=cn (j3 z);let{x,y,R}:=Ax (j3 z);let{dx,fs,hi,Z}:=I.ins;refine{_,M,a,dx,fs,M,hi,Z _ ∅,a,F,st,M,I,λH1 F1 l sA fr nl oF hl=>{l,st.rows,M,E7.of hl,?_,λM' hM O=>?_}}
 .unfold P6.rows;cases st.nxt<;>simp
 .have eM:=Ip hM O;subst eM;refine{_,M,_,M,p,_,M,U,(),_,M,_,_,M,QP _ (),(),(),λtp nt=>?_};rw[Ah R U Y];exact{tp,_,_,_,M,M,Px.of ag,M,q _ F1 (sA.new nt)<|fr.trans (Fr.of_same<|al nt)}
set_option genInjectivity false in
structure Rw where
 r:Addr
 A:List Addr
 C:List (List<|Int×V)
 s:Int
noncomputable def gf(st:P6)(d:RT):List Rw:=match st.nxt with|none=> [⟨d.r0,d.A0,d.C0,st.size⟩]|some m=> [⟨d.r0,d.A0,d.C0,st.size⟩,⟨d.r1,d.A1,d.C1,m⟩]
def Pt(k:Int):Int:=tz (k%65536)
def vD{st:Int}{x:Nat}(h:0<st):x<qQ lo hi st↔lo+(x:Int)*st<hi:=by
 unfold qQ;rw[pK h];by_cases c:lo<hi
 .rw[Wn c];have a:0<=(hi-lo-1)/st:=W8 () ();have e:(x:Int)<=(hi-lo-1)/st↔(x:Int)*st<=hi-lo-1:=Int.le_ediv_iff_mul_le h;lia
 .rw[Wm c];have:0<=(x:Int)*st:=Vc () ();lia
def bW{kv:Sn}(nd:(kv.map (·.1)).Nodup)(h:(k,v)∈kv):aH kv k=some v:=by
 induction kv with
 |nil=>cases h
 |cons p r z=>
  rw[Z0,Zv]at nd;by_cases e:p.1=k
  .rw[bD e];rcases QS.mp h with h|h
   .rw[<-h]
   .exact Ws (XE (f:=(·.1)) h)<|by rw[<-e]at*;exact nd.1
  .rw[bz e];rcases QS.mp h with h|h
   .rw[<-h]at e;exact Ws M e
   .exact z nd.2 h
def bK{kv:Sn}(h:aH kv k=some v):(k,v)∈kv:=by
 induction kv with
 |nil=>rw[kD]at h;cases h
 |cons p r z=>
  by_cases e:p.1=k
  .rw[bD e]at h;cases h;rw[<-e];exact QK
  .rw[bz e]at h;exact QM _<|z h
def vG{d:RT}{ri:Nat}{R:Rw}{kv:Sn}(hb:Pu t H a st d)(U:(gf st d)[ri]?=some R)(hk:R.C[j]?=some kv)(Y:(k,v)∈kv):
  k%65536%R.s=(j:Int)/\(kv.map (·.1)).Nodup/\∃c,IsCell d st k c kv:=by
 have O:∀{A:Su}{C:List (List<|Int×V)}{r:K'}{s:Int}{x:Nat},PD H r A C s->C[x]?=some kv->∃b,A[x]?=some b:=λ{A C r s x} ro h=>by
  have h1:=(Q2.mp h).1;have h2:=ro.la;have h3:=ro.lc;exact{A[x]'(),Q3 _}
 have Z:kv≠[]:=λz=>by rw[z]at Y;cases Y
 have I:=hb.row1;have zero:(j:Int)<st.moved->d.C0[j]?=some kv->False:=λh1 h2=>Z (hb.old _ _ h2 h1);unfold gf at U;cases en:st.nxt with
 |none=>
  rw[en]at U;cases ri with
  |zero=>
   cases U;have G:=hb.row0.home _ _ hk _ Y;let{b,eb}:=O hb.row0 hk;refine{G,hb.row0.ndk _ _ hk,b,.inl {?_,by rwa[G],by rwa[G]}};rw[G,P6.moved_none en];lia
  |succ j=>simp at U
 |some m=>
  rw[en]at U I;cases ri with
  |zero=>
   cases U;have G:=hb.row0.home _ _ hk _ Y;let{b,eb}:=O hb.row0 hk;refine{G,hb.row0.ndk _ _ hk,b,.inl {?_,by rwa[G],by rwa[G]}};rw[G];exact Int.not_lt.mp λy=>zero y hk
  |succ j'=>
   cases j' with
   |zero=>
    cases U;have G:=I.home _ _ hk _ Y;let{b,eb}:=O I hk;exact{G,I.ndk _ _ hk,b,.inr {_,en,hb.new _ _ hk _ Y,by rwa[G],by rwa[G]}}
   |succ j=>simp at U
noncomputable def pH(C:List (List<|Int×V))(s m:Int)(x:Nat):List (Int×V):=C.getD (s+(x:Int)*m).toNat []
def Ky(s m:Int)(R:Rw):List (Int×V):=(List.range<|qQ s R.s m).flatMap (pH R.C s m)
def No(st:P6)(d:RT)(s:Int):List (Int×V):=(gf st d).flatMap (Ky s st.low)
def tY{d:RT}(z:PU st){R:Rw}(h:R∈gf st d):R.s=st.low\/R.s=2*st.low:=by
 unfold gf at h;unfold P6.low;cases e:st.nxt with
 |none=>rw[e]at h;rw[Q7.mp h];exact .inl M
 |some m=>
  rw[e]at h;let{_,_,_,nx}:=z.nx m e;have p:=cn z.pw;show R.s=(if m<st.size then m else st.size)\/R.s=2*(if m<st.size then m else st.size);rcases QS.mp h with h|h
  .rw[h];show st.size=_\/st.size=_;split<;>lia
  .rw[Q7.mp h];show m=_\/m=_;split<;>lia
def EK{x r:Int}(h:r=m\/r=2*m):x%r%m=x%m:=by
 rcases h with rfl|rfl
 .exact Int.emod_emod_of_dvd _<|Int.dvd_refl _
 .exact Int.emod_emod_of_dvd _ {2,()}
def KZ{d:RT}{s:Int}(hb:Pu t H a st d)(z:PU st)(nd:(st.kv.map (·.1)).Nodup)(s0:0<=s)(s1:s<st.low)(k:Int)(v:V):
  (k,v)∈No st d s↔(k,v)∈st.kv/\k%65536%st.low=s:=by
 have lp:=cn (j3 z);constructor
 .intro h;let{R,G,h}:=XB.mp h;let{x,hx,h}:=XB.mp h;have hx:=Wa.mp hx;have O:=tY z G;let{ri,U,Y}:=Zh G;have Y:(gf st d)[ri]?=some R:=by rw[Q3 U,Y]
  unfold pH at h;have xs:=(vD ()).mp hx;have xm:0<=(x:Int)*st.low:=Vc () ();cases Z:R.C[(s+(x:Int)*st.low).toNat]? with
  |none=>rw[QR,Z]at h;cases h
  |some kv=>
   rw[QR,Z]at h;have h:(k,v)∈kv:=h;let{h1,h2,c,I}:=vG hb Y Z h;refine{bK (by rw[<-hb.val k c kv I];exact bW h2 h),?_};rw[<-EK O,h1,VD (),Int.add_mul_emod_self_right];exact Int.emod_eq_of_lt s0 s1
 .rintro ⟨h,hs⟩;let{c,kv,ic}:=hb.cell z k;have hv:=hb.val k c kv ic;rw[bW nd h]at hv;have hm:=bK hv;have fin:∀R:Rw,R∈gf st d->R.C[(k%65536%R.s).toNat]?=some kv->(k,v)∈No st d s:=λR G hk=>by
   have O:=tY z G;have j0:0<=k%65536%R.s:=QP _ ();have j1:k%65536%R.s<R.s:=QL _ ();have jm:=EK (x:=k%65536) O;rw[hs]at jm;have dv:=Vr (k%65536%R.s) st.low;have q0:0<=k%65536%R.s/st.low:=W8 j0 ();have eq:s+((k%65536%R.s/st.low).toNat:Int)*st.low=k%65536%R.s:=by
    rw[VD q0,VM];lia
   refine XB.mpr {R,G,XB.mpr {(k%65536%R.s/st.low).toNat,Wa.mpr<|(vD ()).mpr (by rwa[eq]),?_}};unfold pH;rwa[eq,QR,hk]
  rcases ic with⟨_,_,I⟩|⟨m,en,_,_,I⟩
  .refine fin ⟨d.r0,d.A0,d.C0,st.size⟩ ?_ I;unfold gf;cases st.nxt<;>simp
  .refine fin ⟨d.r1,d.A1,d.C1,m⟩ ?_ I;unfold gf;rw[en];simp
def oY{C:List (List<|Int×V)}{s:Int}{x:Nat}{p:Int×V}(h:p∈pH C s m x):∃kv,C[(s+(x:Int)*m).toNat]?=some kv/\p∈kv:=by
 unfold pH at h;cases z:C[(s+(x:Int)*m).toNat]? with
 |none=>rw[QR,z]at h;cases h
 |some kv=>
  rw[QR,z]at h;exact⟨kv,M,h⟩
def FS{d:RT}{s:Int}(hb:Pu t H a st d)(z:PU st)(s0:0<=s):((No st d s).map (·.1)).Nodup:=by
 have lp:=cn (j3 z);refine Zr.mpr ?_;have row:∀R∈gf st d,(Ky s st.low R).Pairwise (λp q=>p.1≠q.1):=λR I=>by
  let{ri,O,G}:=Zh I;have G:(gf st d)[ri]?=some R:=by rw[Q3 O,G]
  refine List.pairwise_flatMap.mpr {λx _=>?_,?_}
  .unfold pH;cases U:R.C[(s+(x:Int)*st.low).toNat]? with
   |none=>rw[QR,U];exact WK
   |some kv=>
    rw[QR,U];show List.Pairwise _ kv;cases ke:kv with
    |nil=>exact WK
    |cons p r=>
     have:=(vG hb G U (k:=p.1) (v:=p.2)<|by rw[ke];exact QK).2.1;rw[ke]at this;exact Zr.mp this
  .refine(List.pairwise_lt_range (n:=qQ s R.s st.low)).imp λ{x y} a3 p hp q hq e=>?_;let{kv,h1,h2}:=oY hp;let{kv',Y,Z}:=oY hq;have a1:=(vG hb G h1 h2).1;have a2:=(vG hb G Y Z).1;have m1:(x:Int)*st.low<(y:Int)*st.low:=Int.mul_lt_mul_of_pos_right () ();have m0:0<=(x:Int)*st.low:=Vc () ();rw[e,a2]at a1;lia
 refine List.pairwise_flatMap.mpr {row,?_};have a0:=hb.row1;unfold gf;cases en:st.nxt with
 |none=>exact ZZ _ _
 |some m=>
  refine Xq.mpr {λR I p hp q hq e=>?_,ZZ _ _};rw[Q7.mp I]at hq;let{x,_,hp}:=XB.mp hp;let{y,_,hq}:=XB.mp hq;let{kv,h1,h2}:=oY hp;let{kv',Y,Z}:=oY hq;have n1:=hb.new _ _ Y _ Z;have n2:=hb.row0.home _ _ h1 _ h2;have n3:¬((s+(x:Int)*st.low).toNat:Int)<st.moved:=λc=>by
   have:=hb.old _ _ h1 c;rw[this]at h2;cases h2
  rw[<-e,n2]at n1;exact n3 n1
structure Ly(X:Su)(H H':Hp)(l:K')(ts:List Tp)(L:Sn):Prop where
 sm:∀c o,c∉X->H c=some o->H' c=some o
 li:H' l=some (.lst<|ts.map λe=>V.ref e.p)
 tu:∀e∈ts,H' e.p=some (.tup [.int (Pt e.k),.int e.k,e.v])/\H e.p=none
 eq:ts.map Tp.kv=L
section
variable{X:Su}{H'':Hp}{l:K'}{L:Sn}
def Ly.same(h:Ly X H H' l ts L)(s:GI H' H''):Ly X H H'' l ts L:={λc o n e=>s _ _<|h.sm c o n e,s _ _ h.li,λe he=>{s _ _ (h.tu e he).1,(h.tu e he).2},h.eq}
def Ly.add(h:Ly X H H' l ts L)(s:GI H' H'')(np:H' p=none)(I:H l=none)(O:∀c∈X,∃o,H c=some o/\∃o',H' c=some o')(U:H'' p=some (.tup [.int (Pt k),.int k,v])):
  Ly X H (upd H'' l<|.lst<|ts.map (λe=>V.ref e.p)++ [.ref p]) l (ts++ [⟨p,k,v⟩]) (L++ [(k,v)]):=by
 have pl:p≠l:=λz=>by rw[z,h.li]at np;cases np
 have old:H p=none:=by
  cases q:H p with
  |none=>rfl
  |some o=>
   by_cases c:p∈X
   .let{_,_,o',G}:=O p c;rw[np]at G;cases G
   .rw[h.sm _ _ c q]at np;cases np
 have h2:=h.same s;refine{λc o n e=>?_,by rw[ag,QO];rfl,λe he=>?_,by rw[QO,h.eq];rfl}
 .rw[af λz=>by rw[z,I]at e;cases e];exact h2.sm c o n e
 .rcases Q5.mp he with he|he
  .have q:=h2.tu e he;exact{by rw[af λz=>by rw[z,h2.li]at q;cases q.1];exact q.1,q.2}
  .rw[Q7.mp he];exact{by rwa[af pl],old}
def Ly.freeze{o':HO}(h:Ly [] H H' l ts L)(hb:H b=some o)(bl:b≠l):Ly [b] H (upd H' b o') l ts L:=
 {λc o n e=>by rw[af λz=>n (by rw[z];exact QK)];exact h.sm c o (by simp) e,by rw[af bl.symm];exact h.li,
  λe he=>{by rw[af λz=>by have:=(h.tu e he).2;rw[z,hb]at this;cases this];exact(h.tu e he).1,(h.tu e he).2},h.eq}
def Ly.thaw(h:Ly [b] H H' l ts L)(hb:H b=some o)(bl:b≠l):Ly [] H (upd H' b o) l ts L:=by
 refine{λc o' _ e=>?_,by rw[af bl.symm];exact h.li,λe he=>{by rw[af λz=>by have:=(h.tu e he).2;rw[z,hb]at this;cases this];exact(h.tu e he).1,(h.tu e he).2},h.eq};by_cases z:c=b
 .rwa[z,ag,<-hb,<-z]
 .rw[af z];exact h.sm c o' (by simpa using z) e
end
def qk(K:JZ)(t:PB):Sp:=λvs H Q _=>∃(a:K')(p:Int)(F:O')(st:P6),vs=[.ref a,.int p]/\QI K t H a F st/\0<=p/\p<65536/\st.kv.length<4096/\
 ∀(H':Hp)(F':O')(l:K')(ts:List Tp),QI K t H' a F' st->Fr F F' H H'->¬F' l->H' l=some (.lst<|ts.map λe=>V.ref e.p)->(∀e∈ts,H' e.p=some (.tup [.int (Pt e.k),.int e.k,e.v])/\¬F' e.p)->
  (∀k v,(k,v)∈ts.map Tp.kv↔(k,v)∈st.kv/\k%65536%st.low=tz p%st.low)->((ts.map Tp.kv).map (·.1)).Nodup->Q (.ref l) H'
def MH{d:RT}(hb:Pu t H a st d)(sz:PU st):∃xs,H d.tb=some (.lst xs)/\xs.length=(gf st d).length/\(gf st d).length<=2/\
  ∀(i:Nat)(x:V),xs[i]?=some x->∃R:Rw,x= .ref R.r/\(gf st d)[i]?=some R/\PD H R.r R.A R.C R.s/\R.s<=256/\∀(j:Nat)(kv:Sn),R.C[j]?=some kv->kv.length<=st.kv.length:=by
 have pw:=cn sz.pw;have z:=hb.tbl;have r1:=hb.row1;unfold gf;cases e:st.nxt with
 |none=>
  rw[e]at z;refine{_,z,M,by simp,λi x hx=>?_};cases i with
  |zero=>cases hx;exact{_,M,M,hb.row0,pw.2,λj kv h=>hb.short0 sz h}
  |succ j=>simp at hx
 |some m=>
  rw[e]at z r1;refine{_,z,M,by simp,λi x hx=>?_};cases i with
  |zero=>cases hx;exact{_,M,M,hb.row0,pw.2,λj kv h=>hb.short0 sz h}
  |succ j=>
   cases j with
   |zero=>cases hx;exact{_,M,M,r1,(cn (sz.nx m e).1).2,λj kv h=>hb.short1 sz e h}
   |succ j=>simp at hx
def IT{RR:List Rw}{f:Rw->List (Int×V)}{R:Rw}(e:RR[i]?=some R):(RR.take<|i+1).flatMap f=(RR.take i).flatMap f++f R:=by
 rw[QY,e,List.flatMap_append];simp
def D6{f:Nat->List (Int×V)}{x:Nat}:(List.range<|x+1).flatMap f=(List.range x).flatMap f++f x:=by
 rw[List.range_succ,List.flatMap_append];simp
def Fw{kv:Sn}{p:Int×V}(e:kv[i]?=some p):kv.take (i+1)=kv.take i++ [p]:=by
 rw[QY,e];rfl
def qD:Cy P w K mg base PJ 3 t.jC t.fS [cC,zk] (qk K t):=by
 refine T.Fh.okl qt λs H vs Q E hr h _=>?_;intro X;let{a,p,F,st,rfl,hA,p0,p1,b1,q}:=h;refine ak (PF 2<|aD (zP M) {_} T.vJ ox (ae (bn Ck T.aK T.yT (nQ T) hr.mo T.yY .nil aA) aj))
   (ak (PF 3<|bX aj)
   (cI (λx=>(jV WF M (eO<|au Ck M) (Ri 4)
    x)) ?_))
 refine rV (λx=>(jV WF M (FJ {_} T.qV (ae (aP (wJ T) hr.mo {_} T.Gb T.Ab.kp T.GB .nil aA (ae P0<|ae P1 aj))<|ae (aD aE {_} T.bS bj (ae Qa aj))<|ae P1 aj)) (Ri 5)
    x)) ?_
 refine rV (λx=>(Ay (jV WF M (BM<|DF ZB Vj PySem.F.type_dict_items BX<|aR aQ Qa Qy<|λ_ _=>M) (DB M<|kH (Ri 6)<|kH (Ri 7) AA)
    x))) ?_
 refine aB (aT<|d6 QZ ZF ZG fh PM<|ae (bM<|ae (aP (uB T) hr.mo {_} T.DU T.xT.kp T.Ea .nil aA (ae Ro aj))<|ae Ro<|ae Rn aj) aj) ?_
 intros
 refine aB (aG PM) ?_
 intros
 have z:PU st:=let⟨_,_,_,_,_,z⟩:=hA;z
 let{s4,s5}:=cn (j3 z);let{dx,fs,hi,hm}:=hA.ins;refine{_,M,a,dx,fs,M,hi,hm _ ∅,a,F,st,M,hA,λH1 F1 lr sA fr b2 oF a4=>{lr,st.rows,M,E7.of a4,?_,λM' hM a5=>?_}}
 .unfold P6.rows;cases st.nxt<;>simp
 have eM:=Ip hM a5;subst eM;have sB:=sA;let{d,hb,hF,hn,nd,_}:=sB;let{a6,ho}:=hb.obj;let{xs,ht,lx,l2,look}:=MH hb z;have g0:0<=tz p%st.low:=QP _ ();have g1:tz p%st.low<st.low:=QL _ ();have U:st.low>0:=();refine{QT _,λl nl=>?_};have y0:Ly [] H1 (upd H1 l<|.lst []) l [] []:={λc o _ e=>al nl _ _ e,ag,(λe he=>by cases he),M};generalize upd H1 l (.lst [])=H2 at y0⊢;generalize hs:tz p%st.low=I at g0 g1 q;refine{_,M,a,_,a6,_,_,M,y0.sm _ _ (by simp) ho,T.aK,T.aZ,jw,d.tb,M,{_,E7.of<|y0.sm _ _ (by simp) ht},pe (K:=K) (a:=d.tb) (xs:=xs) (λi B H'=>∃(v4 v5 Y Z:Tg)(ts:List Tp),B=[some (.ref a),some (.int p),some (.int st.low),some (.ref l),v4,v5,Y,Z]/\Ly [] H1 H' l ts (((gf st d).take i).flatMap<|Ky I st.low)/\ts.length<=8192*i)
  {_,_,_,_,[],M,y0,by simp} (λi B H' _ w=>by let{_,_,_,_,_,_,c,_}:=w;exact E7.of<|c.sm _ _ (by simp) ht) (λi x B H' hx w=>?_) (λB H' w=>?_)}
 .let{v4,v5,Y,Z,ts,G,c,lt}:=w;subst G;let{R,rfl,hR,ro,ax,a8}:=look i x hx;have hr:=c.sm _ _ (by simp) ro.lst;have iL:=(Q2.mp hx).1;have lA:((R.A.map V.ref).length:Int)=R.s:=by rw[Q0];exact ro.la
  have rl:=tY z (Q1 hR);have a1:∀y:Nat,y<qQ I R.s st.low->y<2:=λy hy=>by
   have:=(vD U).mp hy;refine Nat.lt_of_not_le λy2=>?_;have:(2:Int)*st.low<=(y:Int)*st.low:=W2 () ();lia
  have b5:qQ I R.s st.low<=2:=by
   by_cases c0:qQ I R.s st.low=0
   .lia
   .have:=a1 (qQ I R.s st.low-1) ();lia
  refine{_,M,_,M,p,_,M,p0,U,_,M,R.r,_,M,.inl<|E7.of hr,_,M,_,_,_,M,?_,?_}
  .rw[hs,lA];exact{(),(),(),(),(),()}
  rw[hs,lA];generalize aa:((gf st d).take i).flatMap (Ky I st.low)=L0 at c;refine Ch (n:=qQ I R.s st.low) (λx B H'=>∃(v5 Y Z:Tg)(ts:List Tp),B=[some (.ref a),some (.int p),some (.int st.low),some (.ref l),some (.ref R.r),v5,Y,Z]/\Ly [] H1 H' l ts (L0++(List.range x).flatMap (pH R.C I st.low))/\ts.length<=8192*i+4096*x)
   {_,_,_,ts,M,by simpa using c,()} (λx B H' hx w=>?_) (λB H' w=>?_)
  .let{v5,Y,Z,ts,G,c,lt}:=w;subst G;have b8:=(vD U).mp hx;have x2:=a1 x hx;have xm:0<=(x:Int)*st.low:=Vc () ();have la:=ro.la;have lc:=ro.lc;have eb:R.A[(I+(x:Int)*st.low).toNat]?=some (R.A[(I+(x:Int)*st.low).toNat]'()):=Q3 ();have ek:R.C[(I+(x:Int)*st.low).toNat]?=some (R.C[(I+(x:Int)*st.low).toNat]'()):=Q3 ();generalize R.A[(I+(x:Int)*st.low).toNat]'()=b at eb;generalize R.C[(I+(x:Int)*st.low).toNat]'()=kv at ek;have O:=ro.cell _ _ _ eb ek;have ba:=a8 _ _ ek;have a0:=c.sm _ _ (by simp) O;have ac:=c.sm _ _ (by simp) ro.lst;have bl:b≠l:=λz=>by rw[z,nl]at O;cases O
   refine{b,aI kv,a0,_,M,_,M,R.r,_,_,_,M,M,E7.of ac,xi () eb,.inr<|.inr<|.inl {M,.inl {_,a0}},b,aI kv,M,M,a0,λvw nv=>?_};have ah:upd H' vw (SV vw b) b=some (.dK<|aI kv):=by rwa[af (ao a0 nv)]
   refine{vw,b,aI kv,M,ag,ah,λob=>?_};have cF:=(c.same<|al (o:=SV vw b) nv).freeze (o':= .frz ob<|.dK<|aI kv) O bl;generalize an:L0++(List.range x).flatMap (pH R.C I st.low)=L1 at cF;refine xv (λy B H''=>∃(Y Z:Tg)(ts:List Tp),B=[some (.ref a),some (.int p),some (.int st.low),some (.ref l),some (.ref R.r),some (.int<|I+(x:Int)*st.low),Y,Z]/\Ly [b] H1 H'' l ts (L1++kv.take y)/\H'' b=some (.frz ob<|.dK<|aI kv)/\ts.length<=8192*i+4096*x+y)
    {_,_,ts,M,by simpa using cF,ag,()} (λy B H'' _ w=>by let{_,_,_,_,_,hf,_}:=w;exact hf) (λy k v p' B H'' ei w np=>?_) (λB H'' w=>?_)
   .let{Y,Z,ts,G,c,hf,lt}:=w;subst G;let{n,rfl,en}:=zB ei;have yl:=(Q2.mp en).1;refine{p',_,M,Px.of ag,M,_,_,M,_,_,M,M,?_};have c3:=c.same (al (o:= .tup [kV (Sum.inl n),v]) np);have a2:=al (o:= .tup [kV (Sum.inl n),v]) np _ _ hf;generalize upd H'' p' (.tup [kV (Sum.inl n),v])=H3 at c3 a2⊢;refine{_,M,.inl {M,_,E7.of c3.li},_,M,n,M,_,M,_,M,(by show 3<=sizeLine;decide),λp2 a3=>?_};have s4:GI H3 (upd H3 p2<|.tup [.int (tz<|n%65536),kV (Sum.inl n),v]):=al a3;have e4:upd H3 p2 (.tup [.int (tz<|n%65536),kV (Sum.inl n),v]) p2=some (.tup [.int (Pt n),.int n,v]):=ag;generalize upd H3 p2 (.tup [.int (tz<|n%65536),kV (Sum.inl n),v])=H4 at s4 e4⊢;refine{l,_,_,M,M,s4 _ _ c3.li,bq (by rw[Q0];lia),?_};refine{_,_,ts++ [⟨p2,n,v⟩],M,?_,?_,?_}
    .rw[Fw en,<-QV];exact c3.add s4 a3 nl (λc hc=>by rw[Q7.mp hc];exact{_,O,_,a2}) e4
    .rw[af bl];exact s4 _ _ a2
    .rw[Q6,Zt];lia
   .let{Y,Z,ts,G,c,hf,lt}:=w;subst G;rw[b9,Zd]at c;rw[b9]at lt;refine{ob,hf,_,_,_,ts,M,?_,()};rw[D6,<-QV,show pH R.C I st.low x=kv by unfold pH;rw[QR,ek];rfl];rw[an];exact c.thaw O bl
  .let{v5,Y,Z,ts,G,c,lt}:=w;subst G;exact{_,_,_,_,ts,M,by rw[IT hR,aa];exact c,()}
 .let{v4,v5,Y,Z,ts,G,c,lt}:=w;subst G;rw[lx,Zd]at c;have e:=c.eq;have sm:GI H1 H':=λb o e=>c.sm b o (by simp) e;refine{_,M,q H' F1 l ts (sA.same sm) (fr.trans<|Fr.of_same sm) (sA.out nl) c.li (λe he=>{(c.tu e he).1,sA.out (c.tu e he).2}) (λk v=>?_) ?_}
  .rw[e];exact KZ hb z nd g0 g1 k v
  .rw[e];exact FS hb z g0
def Au{S p:Int}{a b:Nat}(R:Row S a b)(G:0<=p)(h1:p<65536)(hS:S<=65536):k%65536%S=tz p%S↔Pt k/(65536/S)=p/(65536/S):=by
 have I:=R.wpos';have z:=Ah R G h1;have k0:0<=k%65536:=QP _ (_);have k1:k%65536<65536:=QL _ (_);have e2:=Ah R (p:=Pt k) (tH _) (LR _);rw[show tz (Pt k)=k%65536 from En k0 k1]at e2;have O:=R.mod0 (k%65536);have Y:=R.mod1 (k%65536);have U:=R.mod0 (tz p);have Z:=R.mod1 (tz p);constructor
 .intro e;rw[e,z]at e2;have:=Int.eq_of_mul_eq_mul_right (ZC I) e2;lia
 .intro e;rw[e,<-z]at e2;exact MD O () U () ()
def M8(k:Int):0<=Pt k/\Pt k<65536:={tH _,LR _}
def AB{f:α->β}:∀{ts:List α}{l:List β},l.Perm (ts.map f)->∃us:List α,us.Perm ts/\us.map f=l:=by
 intro ts l h;generalize e:ts.map f=m at h
 induction h generalizing ts with
 |nil=>exact{[],by rw[List.map_eq_nil_iff.mp e],M}
 |cons x _ I=>
  cases ts with
  |nil=>cases e
  |cons y ts=>
   rw[Z0]at e;injection e with e1 e2;let{us,h1,h2}:=I e2;exact{y::us,h1.cons y,by rw[Z0,h2,e1]}
 |swap x y l=>
  cases ts with
  |nil=>cases e
  |cons a ts=>
   cases ts with
   |nil=>cases e
   |cons b ts=>
    rw[Z0,Z0]at e;injection e with e1 e2;injection e2 with e2 e3;exact{b::a::ts,List.Perm.swap a b ts,by rw[Z0,Z0,e1,e2,e3]}
 |trans _ _ z G=>
  let{us,h1,h2}:=G e;let{O,U,Y}:=z h2;exact{O,U.trans h1,Y}
def DA(x y:Int×V):Prop:=Pt x.1<Pt y.1\/(Pt x.1=Pt y.1/\x.1<y.1)
def vO(K:JZ)(t:PB):Sp:=λvs H Q _=>∃(a:K')(lo hi:Int)(F:O')(st:P6),vs=[.ref a,.int lo,.int hi]/\QI K t H a F st/\st.kv.length<4096/\(∀p∈st.kv,∃i:Int,p.2= .int i)/\
 ∀(H':Hp)(F':O')(l:K')(ts:List Tp),QI K t H' a F' st->Fr F F' H H'->¬F' l->(¬F l->H l=none)->H' l=some (.lst<|ts.map λe=>V.ref e.p)->(∀e∈ts,H' e.p=some (.tup [.int e.k,e.v])/\¬F' e.p)->
  (ts.map Tp.kv).Pairwise DA->(∀k v,(k,v)∈ts.map Tp.kv↔(k,v)∈st.kv/\lo<=Pt k/\Pt k<hi)->Q (.ref l) H'
def EZ{x q:Int}(h:0<J0):x/J0=q↔q*J0<=x/\x<(q+1)*J0:=by
 constructor
 .rintro rfl;exact{Int.ediv_mul_le x<|ZC h,V1 x h}
 .rintro ⟨h1,h2⟩;have a:=(Int.le_ediv_iff_mul_le h).mpr h1;have b:=(Int.ediv_lt_iff_lt_mul h).mpr h2;lia
def ky3(H:Hp)(b:K'):List Int:=match H b with
 |some (.tup [.int i,.int j,.int m])=> [i,j,m]
 |_=> []
def DV{i j:Int}(h:H b=some (.tup [.int i,.int j,.int m])):ky3 H b=[i,j,m]:=by
 unfold ky3;rw[h]
def none_of{H2:Hp}(s:GI H H2)(n:H2 p=none):H p=none:=by
 cases e:H p with
 |none=>rfl
 |some o=>rw[s _ _ e]at n;cases n
def sw(f:Fr F F' H H')(n:¬F b)(e:H' b=none):H b=none:=by
 cases q:H b with
 |none=>rfl
 |some o=>rw[(f _ _ n q).1]at e;cases e
def Fr.upd_new(f:Fr F F' H H')(n:¬F b->H b=none):Fr F F' H (upd H' b o):=λc u G e=>{by rw[af λz=>by rw[z]at G e;rw[n G]at e;cases e];exact(f c u G e).1,(f c u G e).2}
def Hx{n:Nat}(z:(ts.map λe=>V.ref e.p)[n]?=some v):∃e:Tp,v= .ref e.p/\ts[n]?=some e:=by
 rw[Z3]at z;cases q':ts[n]? with
 |none=>rw[q']at z;cases z
 |some e=>rw[q']at z;cases z;exact⟨e,M,M⟩
structure Rt(K:JZ)(t:PB)(H H':Hp)(a l:K')(F F':O')(st:P6)(ts:List Tp)(b0 c:Int):Prop where
 sl:QI K t H' a F' st
 fr:Fr F F' H H'
 ol:¬F' l
 li:H' l=some (.lst<|ts.map λe=>V.ref e.p)
 tu:∀e∈ts,H' e.p=some (.tup [.int (Pt e.k),.int e.k,e.v])/\¬F' e.p
 me:∀k v,(k,v)∈ts.map Tp.kv↔(k,v)∈st.kv/\b0<=Pt k/\Pt k<c
 nd:((ts.map Tp.kv).map (·.1)).Nodup
section
variable{l l1:K'}{F1:O'}{ts1:List Tp}{b0 c:Int}
def Rt.len(h:Rt K t H H' a l F F' st ts b0 c):ts.length<=st.kv.length:=by
 have:=gR h.nd (S:=st.kv.map (·.1)) λx hx=>by
  let{p,hp,rfl}:=QJ.mp hx;exact XE ((h.me p.1 p.2).mp hp).1
 simpa using this
def Rt.move(h:Rt K t H H' a l F F' st ts b0 c)(s1:QI K t H1 a F1 st)(z:Fr F' F1 H' H1):Rt K t H H1 a l F F1 st ts b0 c:=
 {s1,h.fr.trans z,(z _ _ h.ol h.li).2,(z _ _ h.ol h.li).1,λe he=>z _ _ (h.tu e he).2 (h.tu e he).1,h.me,h.nd}
def Rt.step{r:Int}(h:Rt K t H H' a l F F' st ts b0 (r/J0*J0))(nl:H l=none)(W0:0<J0)(hb:b0<=r/J0*J0)(s1:QI K t H1 a F1 st)(Z:Fr F' F1 H' H1)(u1:∀e∈ts1,H1 e.p=some (.tup [.int (Pt e.k),.int e.k,e.v])/\¬F1 e.p)
  (m1:∀k v,(k,v)∈ts1.map Tp.kv↔(k,v)∈st.kv/\Pt k/J0=r/J0) (n1:((ts1.map Tp.kv).map (·.1)).Nodup):
  Rt K t H (upd H1 l<|.lst<|ts.map (λe=>V.ref e.p)++ts1.map (λe=>V.ref e.p)) a l F F1 st (ts++ts1) b0 ((r/J0+1)*J0):=by
 let{l1,G}:=Z _ _ h.ol h.li;have e1:(r/J0+1)*J0=r/J0*J0+J0:=by rw[Int.add_mul,Int.one_mul]
 have I:∀{p:K'}{xs:Sm},H1 p=some (.tup xs)->p≠l:=λ{p xs} e z=>by rw[z,l1]at e;cases e
 refine{s1.upd G,λb o n e=>?_,G,by rw[ag,QO],λe he=>?_,λk v=>?_,?_}
 .let{O,Y}:=(h.fr.trans Z) b o n e;exact{by rwa[af λz=>by rw[z,nl]at e;cases e],Y}
 .rcases Q5.mp he with he|he
  .let{O,Y}:=h.tu e he;let{U,g4}:=Z _ _ Y O;exact{by rwa[af (I U)],g4}
  .let{U,g4}:=u1 e he;exact{by rwa[af (I U)],g4}
 .rw[QO,Q5,h.me,m1,EZ W0,e1];constructor
  .rintro (⟨x,y,z⟩|⟨x,y,z⟩)
   .exact{x,y,()}
   .exact{x,(),z}
  .rintro ⟨x,y,z⟩;by_cases d:Pt k<r/J0*J0
   .exact .inl ⟨x,y,d⟩
   .exact .inr {x,(),z}
 .rw[QO,QO];refine VV.mpr {h.nd,n1,λx hx y hy e=>?_};let{p,hp,rfl}:=QJ.mp hx;let{q,hq,rfl}:=QJ.mp hy;have O:=(h.me p.1 p.2).mp hp;have Y:=(EZ W0).mp ((m1 q.1 q.2).mp hq).2;rw[e]at O;lia
end
def Oz{fs us:List Tp}(up:us.Perm fs)(z:∀e∈fs,∃i:Int,H e.p=some (.tup [.int (Pt e.k),.int e.k,.int i]))(nd:(fs.map (·.k)).Nodup)(pw:(us.map (·.p)).Pairwise (λa b=>HT.lexLt (ky3 H b) (ky3 H a)=false)):(us.map Tp.kv).Pairwise DA:=by
 have I:us.Pairwise (λe f=>e.k≠f.k):=(up.pairwise_iff<|λh=>h.symm).mpr (Zr.mp nd);refine Zr.mpr<|((Zr.mp pw).and I).imp_of_mem λ{e f} he hf h=>?_;let{i,te}:=z e (up.mem_iff.mp he);let{j,O}:=z f (up.mem_iff.mp hf);let{h1,h2}:=h;rw[DV te,DV O,HT.lexLt_cons,HT.lexLt_cons]at h1;show Pt e.k<Pt f.k\/(Pt e.k=Pt f.k/\e.k<f.k);by_cases G:Pt f.k=Pt e.k
 .rw[Wn G,Wm (Ne.symm h2)]at h1;have:=WM h1;lia
 .rw[Wm G]at h1;have:=WM h1;lia
def wM:Cy P w K mg base PJ 4 t.pZ t.j7 [cC,"low","high"] (vO K t):=by
 let{a4,O}:=T.g_PLACES;refine T.J7.okl wj λs H vs Q E hr h _=>?_;intro X;let{a,lo,hi,F,st,rfl,hA,an,hint,q}:=h;refine ak (PF 3<|bX aj)
   (ak (PF 4<|aD (pq M) {_} T.G0 AZ (ae P0<|ae ai aj))
   (ak (PF 5<|aD (iN M) {_} T.vJ ox (ae P1<|ae (cK (v:= .int 65536) {_} O {_,M}) aj))
   (cI (λx=>(nK WF (aw fL Qa Qy<|az _)
    x)) ?_)))
 refine ak (aT<|d6 QZ XF XG oX PM<|ae (aW Ck T.aK T.EH (qD T) hr.mo T.E9 .nil aA<|ae Qa aj) aj)
   (aB (PF 4<|aW Ck T.aK T.yS (nP T) hr.mo T.yX .nil aA<|ae Qa aj) ?_)
 intros
 refine ak (PF 6<|aD yW {_} T.Bo uz (ae (nN M (P9.of (M':=["one"]) (N:=[cC,"low","high","found","reached",mu,"inside"]) (N':=[cC,"low","high","found","reached",mu,"inside"]) (dsc:=am eJ) M M ∅) (eO PM) (λ_ _ _ _ _=>(HC wG fL P1 (aR (vE K M) Ck ai<|λ_ _=>M) PM))<|λ_ _ _ _ _=>Ck) aj))
   (aB (aG<|oW M (P9.of (M':=["one"]) (N:=[cC,"low","high","found","reached",mu,"inside"]) (N':=[cC,"low","high","found","reached",mu,"inside"]) (dsc:=am eJ) M M ∅) (eO Ro)<|λ_ _ _ _ _=>(bM<|ae (aR (vE K M) Ck ai<|λ_ _=>M)<|ae (aR (vE K M) Ck ai<|λ_ _=>M) aj)) ?_)
 intros
 have z:PU st:=let⟨_,_,_,_,_,z⟩:=hA;z
 let{s4,s5}:=cn (j3 z);let{x,y,R}:=Ax (j3 z);have W0:=R.wpos';have a3:∀{p k:Int},0<=p->p<65536->(k%65536%st.low=tz p%st.low↔Pt k/(65536/st.low)=p/(65536/st.low)):=λh0 h1=>Au R h0 h1 ();refine{QT _,λl nl=>?_};refine{_,M,_,_,M,_,M,_,_,M,?_};have r1:0<=(if(0:Int)>lo then 0 else lo)/\lo<=(if(0:Int)>lo then 0 else lo)/\((if(0:Int)>lo then 0 else lo)=0\/(if(0:Int)>lo then 0 else lo)=lo):=by split<;>lia
 have r2:(if(65536:Int)<hi then 65536 else hi)<=65536/\((if(65536:Int)<hi then 65536 else hi)=65536\/(if(65536:Int)<hi then 65536 else hi)=hi):=by split<;>lia
 dsimp only;generalize (if(0:Int)>lo then 0 else lo)=r0 at r1⊢;generalize (if(65536:Int)<hi then 65536 else hi)=e0 at r2⊢;generalize eW:65536/st.low=J0 at W0 a3;have I0:Rt K t H (upd H l<|.lst []) a l F F st [] (r0/J0*J0) (r0/J0*J0):={hA.new nl,Fr.of_same<|al nl,hA.out nl,ag,(λe he=>by cases he),(λk v=>{λh=>by(cases h),λh=>()}),ZE};generalize upd H l (.lst [])=H1 at I0⊢;refine{λm B H'=>∃(r:Int)(F':O')(ts:List Tp),m=(e0-r).toNat/\B=[some (.ref a),some (.int lo),some (.int hi),some (.ref l),some (.int r),some (.int e0),none]/\Rt K t H H' a l F F' st ts (r0/J0*J0) (r/J0*J0)/\r0<=r/\(r=r0\/r/J0*J0=r),{_,r0,F,[],M,M,I0,ZL _,.inl M},λm B H' w=>?_};let{r,F',ts,rfl,ax,I,rr,rm}:=w;subst ax;refine{_,M,_,M,_,_,M,M,_,M,b4 (λc=>?_)<|λc=>?_}
 .have c:=Wt c;let{dx,fs,aa,hm}:=I.sl.ins;refine{λac H2=>∃(r':Int)(F2:O')(a5:List Tp),r<r'/\ac=[some (.ref a),some (.int lo),some (.int hi),some (.ref l),some (.int r'),some (.int e0),none]/\Rt K t H H2 a l F F2 st a5 (r0/J0*J0) (r'/J0*J0)/\r'/J0*J0=r',λac H2 w=>?_,?_}
  .let{r',F2,a5,lt,e,I2,g}:=w;exact{_,(),r',F2,a5,M,e,I2,(),.inr g}
  refine{_,M,.inl {M,_,E7.of I.li},_,M,a,dx,fs,M,aa,hm _ ∅,_,M,a,r,F',st,M,I.sl,(),(),an,λH2 F2 l1 ts1 s2 f2 o2 e2 u2 m2 n2=>?_};have b2:r0/J0*J0<=r/J0*J0:=W2 (Int.ediv_le_ediv W0 rr) ();have I2:=I.step nl W0 b2 s2 f2 u2 (λk v=>by rw[m2,a3 () ()]) n2;have ln:=I2.len;rw[Q6]at ln;refine{l,l1,_,_,M,M,(f2 _ _ I.ol I.li).1,e2,by rw[Q0,Q0];exact Zq<|bq (),?_};generalize upd H2 l (.lst<|ts.map (λe=>V.ref e.p)++ts1.map (λe=>V.ref e.p))=H3 at I2⊢;let{b5,b8,a6,ba}:=I2.sl.ins;refine{_,M,a,b5,b8,M,a6,ba _ ∅,_,M,a,r,F2,st,M,I2.sl,(),(),λH4 F4 s4 f4=>?_};rw[eW];have ed:(r/J0+1)*J0/J0*J0=(r/J0+1)*J0:=by rw[Int.mul_ediv_cancel _ (ZC W0)]
  exact{(r/J0+1)*J0,F4,ts++ts1,V1 r W0,M,by rw[ed];exact I2.move s4 f4,ed}
 .have c:¬r<e0:=λy=>c (Wv y);have hl:=I.li;have ln:=I.len;refine{_,M,l,M,{_,E7.of hl},λD hD=>?_};refine jr (K:=K) (a:=l) (xs:=ts.map λe=>V.ref e.p) (λn ys H3=>H3=upd H' D (.lst ys)/\ys=((ts.take n).filter λe=>decide (lo<=Pt e.k)&&decide (Pt e.k<hi)).map (λe=>V.ref e.p)) ⟨M,M⟩
   (λn ys H3 _ w=>E7.of<|by rwa[w.1,af (ao hl hD)]) (λn v ys H3 hv w U=>?_) (λys H3 w U=>?_)
  .let{e1,e2}:=w;have hn:=(Q2.mp hv).1;let{e,rfl,Y}:=Hx hv;have te:=(I.tu e<|Q1 Y).1;have bb:H3 e.p=some (.tup [.int (Pt e.k),.int e.k,e.v]):=by rwa[e1,af (ao te hD)]
   have yl:ys.length<=ts.length:=by
    rw[e2,Q0];have h1:=QX (λe:Tp=>decide (lo<=Pt e.k)&&decide (Pt e.k<hi)) (ts.take n);have h2:(ts.take n).length<=ts.length:=by rw[Q9];lia
    lia
   refine{_,M,_,M,e.p,_,_,_,M,M,Px.of bb,M,_,_,M,M,_,M,?_};by_cases c1:lo<=Pt e.k
   .refine mU c1 {_,M,_,_,M,M,_,M,?_};by_cases c2:Pt e.k<hi
    .refine mU c2 {_,M,Pq.mk hn U (bq ()) {by rw[e1,du],?_}};rw[e2,QY,Y,Za,QO];simp[c1,c2]
    .refine bg c2<|Qn.mk hn U {e1,?_};rw[e2,QY,Y,Za];simp[c1,c2]
   .refine bg c1 {_,M,cu<|Qn.mk hn U {e1,?_}};rw[e2,QY,Y,Za];simp[c1]
  .let{e1,e2}:=w;rw[Q0,Zd]at e2;have s3:GI H' H3:=by rw[e1];exact al hD
   have Z:(ts.filter λe=>decide (lo<=Pt e.k)&&decide (Pt e.k<hi)).Sublist ts:=V3;have fm:∀e,e∈(ts.filter λe=>decide (lo<=Pt e.k)&&decide (Pt e.k<hi))↔e∈ts/\lo<=Pt e.k/\Pt e.k<hi:=λe=>by
    rw[Z6,Zf,WB,WB]
   generalize (ts.filter λe=>decide (lo<=Pt e.k)&&decide (Pt e.k<hi))=fs at e2 Z fm;have ah:∀e∈fs,(e.k,e.v)∈st.kv:=λe he=>((I.me e.k e.v).mp<|XE (f:=Tp.kv) ((fm e).mp he).1).1;have t3:∀e∈fs,∃i:Int,e.v= .int i/\H3 e.p=some (.tup [.int (Pt e.k),.int e.k,.int i]):=λe he=>by
    let{i,ei}:=hint _ (ah e he);have te:=s3 _ _ (I.tu e ((fm e).mp he).1).1;have ei:e.v= .int i:=ei;rw[ei]at te;exact⟨i,ei,te⟩
   refine{D,fs.map (·.p),ky3 H3,M,E7.of (by rw[U,e2,Z2];rfl),λb hb=>?_,λl2 bs be pm pw=>?_}
   .let{e,he,rfl}:=QJ.mp hb;let{i,_,te}:=t3 e he;exact{_,_,_,te,DV te}
   let{us,up,ue}:=AB pm;subst ue;have um:∀e,e∈us↔e∈fs:=λe=>up.mem_iff;have nk:(fs.map (·.k)).Nodup:=by
    have h0:=I.nd;rw[Z2]at h0;exact h0.sublist<|Z.map _
   have a1:=Oz up (λe he=>(t3 e he).imp λ_ h=>h.2) nk pw;have a8:∀k v,(k,v)∈us.map Tp.kv↔(k,v)∈st.kv/\lo<=Pt k/\Pt k<hi:=λk v=>by
    constructor
    .intro h;let{e,he,Y}:=QJ.mp h;cases Y;have he:=(um e).mp he;exact{ah e he,((fm e).mp he).2}
    .rintro ⟨h1,h2,h3⟩;have pb:=M8 k;have b1:=Int.ediv_mul_le r0 (ZC W0);have h4:(k,v)∈ts.map Tp.kv:=(I.me k v).mpr {h1,(),()};let{e,he,Y}:=QJ.mp h4;cases Y;exact QJ.mpr {e,(um e).mpr<|(fm e).mpr ⟨he,h2,h3⟩,M}
   have ul:us.length<=ts.length:=by rw[up.length_eq];exact Z.length_le
   have e8:upd H3 l2 (.lst ((us.map (·.p)).map V.ref)) l2=some (.lst<|us.map λe=>V.ref e.p):=by rw[ag,Z2];rfl
   have s8:GI H' (upd H3 l2 (.lst ((us.map (·.p)).map V.ref))):=s3.trans (al be);have t8:∀e∈us,upd H3 l2 (.lst ((us.map (·.p)).map V.ref)) e.p=some (.tup [.int (Pt e.k),.int e.k,e.v]):=λe he=>s8 _ _ (I.tu e ((fm e).mp<|(um e).mp he).1).1;generalize upd H3 l2 (.lst ((us.map (·.p)).map V.ref))=H8 at e8 s8 t8⊢;refine{_,M,l2,M,{_,E7.of e8},λD2 a2=>?_};refine uy (K:=K) (a:=l2) (xs:=us.map λe=>V.ref e.p) (λn ys H9=>GI H8 H9/\∃ws:List Tp,ys=ws.map (λe=>V.ref e.p)/\ws.map Tp.kv=(us.take n).map Tp.kv/\∀e∈ws,e.p≠D2/\H8 e.p=none/\H9 e.p=some (.tup [.int e.k,e.v]))
    {al a2,[],M,M,λe he=>by cases he} (λn ys H9 _ w=>E7.of<|w.1 _ _ e8) (λn v ys H9 hv w G=>?_) (λys H9 w G=>?_)
   .let{s9,ws,ey,ek,ew}:=w;have hn:=(Q2.mp hv).1;let{e,rfl,Y}:=Hx hv;have te:=s9 _ _ (t8 e<|Q1 Y);refine{_,M,e.p,_,_,_,M,M,Px.of te,M,_,M,e.p,_,_,_,M,M,Px.of te,M,(by show 2<=sizeLine;decide),λp2 a0=>?_};have pd:p2≠D2:=λz=>by rw[z,G]at a0;cases a0
    have wl:ws.length<=us.length:=by
     have:=WG List.length ek;rw[Q0,Q0,Q9]at this;lia
    refine Pq.mk hn (by rwa[af pd.symm]) (bq<|by rw[ey,Q0];lia) {b6 (s9.trans<|al a0) a2,ws++ [⟨p2,e.k,e.v⟩],by rw[ey,QO];rfl,?_,λf hf=>?_}
    .rw[QO,ek,QY,Y,QO];rfl
    .rcases Q5.mp hf with hf|hf
     .let{g1,g2,g3}:=ew f hf;exact{g1,g2,by rw[af g1];exact al a0 _ _ g3}
     .rw[Q7.mp hf];exact{pd,none_of s9 a0,by rw[af pd];exact ag}
   .let{s9,ws,ey,ek,ew}:=w;rw[Q0,Zd]at ek;have sm:=s8.trans s9;refine q H9 F' D2 ws (I.sl.same sm) (I.fr.trans<|Fr.of_same sm) (I.sl.out<|none_of s8 a2) (λnF=>sw (I.fr.trans<|Fr.of_same s8) nF a2) (by rw[G,ey]) (λe he=>?_) (by rwa[ek]) (by rwa[ek]);let{_,g2,g3}:=ew e he;exact{g3,I.sl.out<|none_of s8 g2}
def gO(e:A[j]?=some c):RO (A.map V.ref) (j:Int)=some (.ref c):=by
 refine vH ?_;rw[Z3,e];rfl
def Fc(ne:x≠[])(e:x[x.length-1]?=some m):RO (x.map V.int) (-1)=some (.int m):=by
 have hl:=ZM.mpr ne;unfold RO Rp;rw[Q0,Wm (_),Wn ()];show(x.map V.int)[((-1:Int)+(x.length:Int)).toNat]?=_;have:((-1:Int)+(x.length:Int)).toNat=x.length-1:=();rw[this,Z3,e];rfl
def ER(h:i<A.length):Rp (A.map V.ref).length (i:Int)=some i:=by
 unfold Rp;rw[Wn (),Wn (by rw[Q0];lia)];rfl
theorem qL:∀(A:Su)(i:Nat),(A.map V.ref).eraseIdx i=(A.eraseIdx i).map V.ref
 | [],_=>rfl
 |_::_,0=>rfl
 |a::r,i+1=>by
  show V.ref a::(r.map V.ref).eraseIdx i=V.ref a::(r.eraseIdx i).map V.ref;rw[qL r i]
theorem zI:∀(ls:Th)(i:Nat)(y:R'),(ls.set i y).eraseIdx i=ls.eraseIdx i
 | [],_,_=>rfl
 |_::_,0,_=>rfl
 |x::r,i+1,y=>by
  show x::(r.set i y).eraseIdx i=x::r.eraseIdx i;rw[zI r i y]
def Mw(a:K')(k:Int)(ls:Th)(H:Hp):Nat->St->Hp->Prop:=λm B H'=>∃(lo hi:Nat)(v4:Tg),m=hi-lo/\H'=H/\B=[some (.ref a),some (.int k),some (.int (lo:Int)),some (.int (hi:Int)),v4]/\lo<=hi/\hi<=ls.length/\
 (∀(j:Nat)(x:R'),j<lo->ls[j]?=some x->∀y∈x,y<k)/\∀(j:Nat)(x:R'),hi<=j->ls[j]?=some x->∃y∈x,k<=y
def ql(t:PB):Sp:=λvs H Q _=>∃(a:K')(k:Int)(L:K')(A:Su)(ls:Th),vs=[.ref a,.int k]/\Qp t H a L A ls/\(∀l∈ls,l≠[])/\dH ls.flatten/\∀i:Nat,QF ls k i->Q (.int (i:Int)) H
def cq:Cy P w K mg base PJ 1 t.jD t.fV [cC,et] (ql t):=by
 refine T.Fi.okl qu λs H vs Q E hr h _=>?_;intro X;let{a,k,L,A,ls,rfl,hb,ne,up,q}:=h;refine ak (PF 2 ai)
   (ak (PF 3<|aD aE {_} T.bS bj (ae (au Ck M) aj))
   (cI (λx=>(nK WF (aw fL P1 PM<|az _)
    x)) ?_))
 refine ak (PF 4<|aq aU (aq bG P1 PM) ai)
   (aB (aS (aw fL (aR aQ (aR aQ (au Ck M) Qa<|λ_ _=>M) (HH De ai)<|λ_ _=>M) P0<|az _)
    (ay<|PF 2<|aq bG Qa ai)
    (ay<|PF 3 Qa)) ?_)
 intros
 refine aB (aG P1) ?_
 intros
 let{dx,ho}:=hb.obj;have lA:((A.map V.ref).length:Int)=(ls.length:Int):=by rw[Q0,hb.len]
 refine{_,M,a,_,dx,_,_,M,ho,T.aM,T.aF,dE,L,_,M,.inl<|E7.of hb.lst,?_};dsimp only;rw[lA];refine{Mw a k ls H,{_,0,ls.length,none,M,M,M,QT _,Q4 _,λj x h=>Ws h (),λj x h e=>?_},?_}
 .have:=(Q2.mp e).1;lia
 rintro m B H' ⟨lo,hi,v4,rfl,rfl,rfl,h1,h2,h3,h4⟩;refine{_,M,_,M,_,_,M,M,_,M,b4 (λc=>?_)<|λc=>?_}
 .have c:lo<hi:=by have:=Wt c;lia
  refine{λY H''=>∃m',m'<hi-lo/\Mw a k ls H' m' Y H'',λ_ _ h=>h,?_};refine{_,M,_,M,_,_,M,M,_,_,M,M,{(_),(_)},?_};obtain⟨G,em,m1,m2⟩:∃G:Nat,((lo:Int)+(hi:Int))/2=(G:Int)/\lo<=G/\G<hi:={(lo+hi)/2,(),(),()};dsimp only;rw[em];have hm:G<ls.length:=();have ex:ls[G]?=some ls[G]:=Q3 hm;let{b,eb,Z}:=hb.at ex;have I:=ne _ (Xf hm);let{g,eg,gm,O}:=Iy (Kz up ex) I;refine{_,M,a,_,dx,_,_,M,ho,T.aM,T.aF,dE,_,M,L,_,_,_,M,M,E7.of hb.lst,gO eb,_,M,b,_,_,_,M,M,E7.of Z,Fc I eg,_,M,_,_,M,M,_,M,b4 (λU=>?_)<|λU=>?_}
  .have U:=Wt U;refine{_,M,_,_,M,M,hi-(G+1),(),G+1,hi,_,M,M,M,(),h2,λj x hj e y hy=>?_,h4};rcases(show j<G\/j=G by lia)with h|h
   .have:=zh up e ex h y hy g gm;lia
   .subst h;rw[ex]at e;cases e;have:=O y hy;lia
  .have U:¬g<k:=λz=>U (Wv z);refine{_,M,G-lo,(),lo,G,_,M,M,M,(),(),h3,λj x hj e=>?_};rcases(show j=G\/G<j by lia)with h|h
   .subst h;rw[ex]at e;cases e;exact{g,gm,()}
   .let{y,hy}:=List.exists_mem_of_ne_nil x (ne x<|Q1 e);have:=zh up ex e h g gm y hy;exact{y,hy,()}
 .have c:¬lo<hi:=λz=>c (Wv ());have:lo=hi:=();subst this;exact{_,M,q lo {h2,h3,λx e=>h4 lo x (Q4 _) e}}
theorem Cf{k:Int}:∀{x:R'},inV (.int k) (x.map V.int)=decide (k∈x)
 | []=>rfl
 |a::r=>by
  have G:=Cf (k:=k) (x:=r);unfold inV at G⊢;rw[Z0,Xl,G];have:RW (.int a) (.int k)=decide (k=a):=by
   show(a==k)=_;by_cases c:a=k
   .subst c;simp
   .have I:¬k=a:=λz=>c z.symm;simp[c,I]
  rw[this];by_cases c:k=a
  .simp[c]
  .simp[c]
def Gp:(x.map V.int).all ir=true:=by
 rw[List.all_map];exact Zp.mpr λ_ _=>rfl
def nS:Cy P w K mg base PJ 2 t.qc t.kj [cC,et] (vU K t):=by
 refine T.Kd.okl wv λs H vs Q E hr h _=>?_;intro X;let{a,k,F,ks,rfl,I,q}:=h;refine ak (PF 2<|aW Ck T.aM T.dD (cq T) hr.mo T.dG .nil aA<|ae P0 aj)
   (aB (aG<|gw (b7 fL P1 (aD aE {_} T.bS bj (ae (au Ck M) aj))<|az _)<|gv<|b7 FO P0 (aR aQ (au Ck M) P1<|λ_ _=>M) M) ?_)
 intros
 let{dx,fs,hi,hm}:=I.ins;have q:=q H F I Fr.refl;let{L,A,ls,hb,ok,U,hF}:=I;let{G,Y}:=hb.obj;have lA:((A.map V.ref).length:Int)=(ls.length:Int):=by rw[Q0,hb.len]
 refine{_,M,a,dx,fs,M,hi,hm _ ∅,_,M,a,k,L,A,ls,M,hb,ok.ne,ok.up,λi Z=>?_};refine{_,M,_,M,a,_,G,_,_,M,Y,T.aM,T.aF,dE,L,_,M,.inl<|E7.of hb.lst,_,_,M,M,_,M,b4 (λc=>?_)<|λc=>?_}
 .have c:=Wt c;have hi:i<ls.length:=();have ex:ls[i]?=some ls[i]:=Q3 hi;let{b,eb,O}:=hb.at ex;refine{_,M,_,M,a,_,G,_,_,M,Y,T.aM,T.aF,dE,_,M,L,_,_,_,M,M,E7.of hb.lst,gO eb,b,_,M,.inl<|E7.of O,M,Gp,?_};show Q (.bl<|inV (.int k)<|ls[i].map V.int) H;rw[Cf];have:k∈ls[i]↔k∈ks:=by
   rw[<-U,Z.mem ok];constructor
   .exact λz=>{_,ex,z}
   .rintro ⟨x,e,z⟩;rw[ex]at e;cases e;exact z
  rw[decide_eq_decide.mpr this];exact q
 .have c:¬(i:Int)<((A.map V.ref).length:Int):=λz=>c (Wv z);have:k∉ks:=λz=>by
   rw[<-U,Z.mem ok]at z;let{x,e,_}:=z;have:=(Q2.mp e).1;lia
  rw[Wz this]at q;exact q
def vj:Cy P w K mg base PJ 1 t.oI t.jo [cC] (uS K t):=by
 refine T.JD.okl u9 λs H vs Q E U h _=>?_;intro X;let{a,dx,rfl,ha,hd,q}:=h;refine{_,(ay<|bu Ck (bX aj) M)
  ,?_}
 refine{QT _,λL G=>{_,M,a,_,dx,[],M,(by rwa[af (ao ha G)]),T.aM,T.aF,(by show 0<1000;decide),?_}};have O:=ao ha G;refine q _ (R8 a L []) {L,[],[],{⟨dx,ag⟩,by rw[af O.symm];exact ag,M,(λj b l e=>by simp at e),(λi j b e=>by simp at e),(λz=>by cases z)},Pp.nil,M,λb=>Iff.rfl} λb o n w=>?_;have n1:b≠a:=λy=>n (.inl y);have I:b≠L:=ao w G;refine{by rwa[af n1,af I],λy=>?_};rcases y with y|y|y
 .exact n1 y
 .exact I y
 .cases y
def m4(t:PB):Sp:=λvs H Q _=>∃(a L:K')(A:Su)(ls:Th)(i:Nat)(x:R'),vs=[.ref a,.int (i:Int)]/\Qp t H a L A ls/\ls[i]?=some x/\x.length=9/\ls.length<5000/\
 ∀H' A',Qp t H' a L A' ((ls.set i<|x.take 4).take (i+1)++x.drop 4::(ls.set i<|x.take 4).drop (i+1))->Fr (R8 a L A) (R8 a L A') H H'->Q .non H'
def nR:Cy P w K mg base PJ 1 t.iy t.eD [cC,va] (m4 t):=by
 refine T.CZ.okl m9 λs H vs Q E hr h _=>?_;intro X;let{a,L,A,ls,i,x,rfl,hb,ex,lx,ll,q}:=h;refine ak (PF 2<|aR aQ (au Ck M) P0<|λ_ _=>M)
   (ak (PF 3<|aq aU (aD aE {_} T.bS bj (ae P1 aj)) ai)
   (ak (Az (eK gL P1 lR<|dS PM)<|DD (au Ck M) P0 wc)
   (aB (aT<|d6 QZ PySem.F.slot_list_insert PySem.F.type_list_insert zt (au Ck M)<|ae (aq bG P0 ai)<|ae (eK gL P1 (dS PM) lR) aj) ?_)))
 intros
 let{dx,ho}:=hb.obj;let{c,ec,hc}:=hb.at ex;have an:i<A.length:=(Q2.mp ec).1;have Z:((x.map V.int).length:Int)=9:=by rw[Q0,lx];rfl
 refine{_,M,a,_,dx,_,_,M,ho,T.aM,T.aF,dE,_,M,L,_,_,_,M,M,E7.of hb.lst,gO ec,?_};refine{_,M,c,_,M,.inl<|E7.of hc,_,_,M,M,{(_),(_)},?_};dsimp only;rw[Z];have a0:mV (x.map V.int) none (some<|9/2)=(x.take 4).map V.int:=by
  unfold mV;rw[Q0,lx];show((x.map V.int).drop 0).take (4-0)=_;rw[Zz,Xe]
 have a1:mV (x.map V.int) (some<|9/2) none=(x.drop 4).map V.int:=by
  unfold mV;rw[Q0,lx];show((x.map V.int).drop 4).take (9-4)=_;rw[XH,Z1 (by rw[Zc,Q0,lx];exact Q4 _)]
 refine{_,M,_,M,_,M,c,_,M,E7.of hc,λn1 I=>?_};rw[a0];have s1:GI H (upd H n1<|.lst<|(x.take 4).map V.int):=al I;have hb1:=hb.same s1;have a2:upd H n1 (.lst<|(x.take 4).map V.int) n1=some (.lst<|(x.take 4).map V.int):=ag;have ax:=hb.out I;have a3:=s1 _ _ ho;have a4:=s1 _ _ hc;have a5:=s1 _ _ hb.lst;generalize upd H n1 (.lst<|(x.take 4).map V.int)=H1 at s1 hb1 a2 a3 a4 a5⊢;refine{_,M,a,_,dx,_,_,M,a3,T.aM,T.aF,dE,_,M,L,_,_,_,M,M,a5,ER an,?_};have es:(A.map V.ref).set i (V.ref n1)=(A.set i n1).map V.ref:=by rw[List.map_set]
 rw[es];have G:=hb1.swap ec ex a2 ax;have cL:c≠L:=λz=>hb.nL (z▸Q1 ec);have a6:upd H1 L (.lst<|(A.set i n1).map V.ref) c=some (.lst<|x.map V.int):=by rwa[af cL]
 let{b1,a8}:=G.obj;have O:=G.lst;have f2:Fr (R8 a L A) (R8 a L<|A.set i n1) H (upd H1 L<|.lst<|(A.set i n1).map V.ref):=λb o n w=>by
  have w1:=s1 _ _ w;refine{by rwa[af (λy=>n<|.inr<|.inl y)],λy=>?_};rcases y with y|y|y
  .exact n<|.inl y
  .exact n<|.inr (.inl y)
  .rcases List.mem_or_eq_of_mem_set y with y|y
   .exact n<|.inr (.inr y)
   .rw[y,I]at w;cases w
 generalize upd H1 L (.lst<|(A.set i n1).map V.ref)=H2 at G a6 a8 O f2⊢;refine{_,M,a,_,b1,_,_,M,a8,T.aM,T.aF,dE,.inl {M,_,E7.of O},_,M,_,_,M,M,_,M,_,M,_,M,c,_,M,E7.of a6,λY U=>?_};rw[a1];have s3:GI H2 (upd H2 Y<|.lst<|(x.drop 4).map V.int):=al U;have aa:=G.same s3;have ac:upd H2 Y (.lst<|(x.drop 4).map V.int) Y=some (.lst<|(x.drop 4).map V.int):=ag;have b2:=G.out U;have ah:=s3 _ _ O;generalize upd H2 Y (.lst<|(x.drop 4).map V.int)=H3 at s3 aa ac ah⊢;have lS:(A.set i n1).length=A.length:=Zo;refine{L,_,_,_,M,M,ah,(),(by rw[Q0,lS];lia),(by rw[Q0,lS,hb.len];exact bq ()),?_};have ei:((i:Int)+1).toNat=i+1:=();have b5:=aa.insert (i:=i+1) (by rw[lS];lia) ac b2;rw[ei];have em:((A.set i n1).map V.ref).take (i+1)++V.ref Y::((A.set i n1).map V.ref).drop (i+1)=((A.set i n1).take (i+1)++Y::(A.set i n1).drop (i+1)).map V.ref:=by
  rw[QO,Z0,Xe,XH]
 rw[em];refine q _ _ b5<|f2.trans (λb o n w=>?_);have w3:=s3 _ _ w;refine{by rwa[af (λy=>n<|.inr<|.inl y)],λy=>?_};rcases y with y|y|y
 .exact n<|.inl y
 .exact n<|.inr (.inl y)
 .rcases Q5.mp y with y|y
  .exact n<|.inr (.inr<|Zs y)
  .rcases QS.mp y with y|y
   .rw[y,U]at w;cases w
   .exact n<|.inr (.inr<|Xx y)
def Qp.insM(h:Qp t H a L A ls):∃dx fs,H a=some (.ins t.bJ dx fs)/\∀m,m≠(hL:Str)->fs.lookup m=none:=by
 let{dx,z}:=h.obj;exact{dx,_,z,λm G=>Ml G}
def wR:Cy P w K mg base PJ 3 t.qd t.ko [cC,et] (vV K t):=by
 let{I,G}:=T.g_MOST_IN_LEAF;refine T.Ke.okl ww λs H vs Q E hr h _=>?_;intro X;let{a,k,F,ks,rfl,hA,hl,q1,q2}:=h;refine ak (aS (cU<|aW Ck T.aM T.yU (nS T) hr.mo T.yZ .nil aA<|ae P0 aj)
    (ay jz)
    aJ)
   (cI (λx=>aS (aw bH (aD aE {_} T.bS bj (ae (au Ck M) aj)) ai<|az _) x aJ) ?_)
 refine ak (aT<|d6 QZ ZF ZG fh (au Ck M)<|ae (bX<|ae P0 aj) aj)
   (aB oS ?_)
 intros
 refine ak (PF 2<|aD (iN M) {_} T.vJ ox (ae (aW Ck T.aM T.dD (cq T) hr.mo T.dG .nil aA<|ae P0 aj)<|ae (aq eV (aD aE {_} T.bS bj (ae (au Ck M) aj)) ai) aj))
   (ak (PF 3<|aR aQ (au Ck M) P1<|λ_ _=>M)
   (ak (aT<|d6 QZ PySem.F.slot_list_insert PySem.F.type_list_insert zt PM<|ae (aD aE {_} T.bS bj (ae (nN M (P9.of (M':=["one"]) (N:=[cC,et,va,"leaf"]) (N':=[cC,et,va,"leaf"]) (dsc:=am gN) M M ∅) (eO PM) (λ_ _ _ _ _=>(aw fL Ck P1<|az _))<|λ_ _ _ _ _=>Ck) aj))<|ae P0 aj)
   (aB (aS (aw BQ (aD aE {_} T.bS bj (ae PM aj)) (cK (v:= .int 8) {_} G {_,M})<|az _)
    (ay<|aT<|aW Ck T.aM T.CN (nR T) hr.mo T.CU .nil aA<|ae P1 aj)
    aJ) ?_)))
 intros
 let{dx,fs,hi,hm}:=hA.ins;refine{_,M,a,dx,fs,M,hi,hm _ ∅,_,M,a,k,F,ks,M,hA,λH0 F0 a5 a0=>?_};by_cases ck:k∈ks
 .rw[Wv ck];refine{_,M,cy ?_};exact(q2 ck).elim
 rw[Wz ck];refine{_,M,cu ?_};have q:=q1 ck;let{L,A,ls,hb,ok,ef,hF}:=a5;let{O,ho}:=hb.obj;have lA:((A.map V.ref).length:Int)=(ls.length:Int):=by rw[Q0,hb.len]
 have sh:=ok.short;rw[ef]at sh;have fr:Fr F (R8 a L A) H H0:=λb o n e=>{(a0 b o n e).1,λy=>(a0 b o n e).2<|(hF b).mpr y};have nk:k∉ls.flatten:=by rwa[ef]
 by_cases ce:ls=[]
 .subst ce;have eA:A=[]:=List.length_eq_zero_iff.mp hb.len;subst eA;refine{_,M,a,_,O,_,_,M,ho,T.aM,T.aF,dE,L,_,M,.inl<|E7.of hb.lst,M,_,M,dX M ?_};refine{_,M,a,_,O,_,_,M,ho,T.aM,T.aF,dE,.inl {M,_,E7.of hb.lst},_,M,(by show 1<=sizeLine;decide),λn nn=>?_};have s1:GI H0 (upd H0 n<|.lst [.int k]):=al nn;have hb1:=hb.same s1;have a6:upd H0 n (.lst [.int k]) n=some (.lst<|([k]:R').map V.int):=ag;have nF:=hb.out nn;have a8:=s1 _ _ hb.lst;refine{L,_,_,M,M,a8,cR (by show 0<=1000;decide),?_};have aa:=hb1.insert (i:=0) (QT _) a6 nF;have ac:Pp [[k]]:={(λl hl=>by rw[Q7.mp hl];simp),(λl hl=>by rw[Q7.mp hl];simp),(λi x y e1 e2=>by simp at e2),by show dH [k];exact ZZ _ _};refine q _ (R8 a L [n]) [k] {L,[n],[[k]],aa,ac,M,λb=>Iff.rfl} (λz=>?_)<|fr.trans λb o n' w=>?_
  .rw[<-ef];simp
  .have w1:=s1 _ _ w;refine{by rwa[af (λy=>n'<|.inr<|.inl y)],λy=>?_};rcases y with y|y|y
   .exact n'<|.inl y
   .exact n'<|.inr (.inl y)
   .rw[Q7.mp y,nn]at w;cases w
 .have bo:=ZM.mpr ce;refine{_,M,a,_,O,_,_,M,ho,T.aM,T.aF,dE,L,_,M,.inl<|E7.of hb.lst,M,_,M,bg (λw=>?_) ?_}
  .have:=V.int.inj w;lia
  let{ah,an,ax,b1}:=hb.insM;refine{_,M,a,ah,an,M,ax,b1 _ ∅,_,M,a,k,L,A,ls,M,hb,ok.ne,ok.up,λi li=>?_};refine{_,M,a,_,O,_,_,M,ho,T.aM,T.aF,dE,L,_,M,.inl<|E7.of hb.lst,_,_,M,M,_,_,M,?_};let{x,ad}:=li.add ok ce;have em:(if((A.map V.ref).length:Int)-1<(i:Int)then((A.map V.ref).length:Int)-1 else(i:Int))=((min i (ls.length-1):Nat):Int):=by
   rw[lA];split<;>lia
  dsimp only;rw[em];generalize min i (ls.length-1)=j at ad⊢;let{c,ec,hc}:=hb.at ad.at_;have jl:j<ls.length:=(Q2.mp ad.at_).1;have x8:=ok.le x (Q1 ad.at_);refine{_,M,a,_,O,_,_,M,ho,T.aM,T.aF,dE,_,M,L,_,_,_,M,M,E7.of hb.lst,gO ec,?_};refine{_,M,.inl {M,_,E7.of hc},_,M,c,M,{_,E7.of hc},λD hD=>?_};refine jr (K:=K) (a:=c) (xs:=x.map V.int) (λn ys H3=>H3=upd H0 D (.lst ys)/\ys=((x.take n).filter<|λz=>decide (z<k)).map V.int) ⟨M,M⟩ (λn ys H3 _ w=>E7.of<|by rwa[w.1,af (ao hc hD)]) (λn v ys H3 hv w U=>?_)<|λys H3 w U=>?_
  .let{e1,e2}:=w;obtain⟨g,rfl,eg⟩:∃g:Int,v= .int g/\x[n]?=some g:=by
    rw[Z3]at hv;cases e:x[n]? with
    |none=>rw[e]at hv;cases hv
    |some g=>rw[e]at hv;cases hv;exact⟨g,M,M⟩
   have hn:n<(x.map V.int).length:=(Q2.mp hv).1;refine{_,M,_,M,_,_,M,M,_,M,?_};have fl:ys.length<=8:=by
    rw[e2,Q0];have h1:=QX (λz=>decide (z<k)) (x.take n);have h2:(x.take n).length<=x.length:=by rw[Q9];lia
    lia
   by_cases cg:g<k
   .refine mU cg {_,M,Pq.mk hn U (cR ()) {by rw[e1,du],?_}};rw[e2,QY,eg,Za,QO];simp[cg]
   .refine bg cg<|Qn.mk hn U {e1,?_};rw[e2,QY,eg,Za];simp[cg]
  .let{e1,e2}:=w;rw[Q0,Zd]at e2;have s3:GI H0 H3:=by rw[e1];exact al hD
   have b2:=hb.same s3;have b5:=s3 _ _ hc;have yl:(ys.length:Int)=((x.filter<|λz=>decide (z<k)).length:Int):=by rw[e2,Q0]
   have bp:=QX (λz=>decide (z<k)) x;refine{D,_,M,.inl<|E7.of U,_,M,c,_,_,_,M,M,b5,(),(by rw[Q0];lia),(by rw[Q0];exact cR ()),?_};have ei:(x.map V.int).take (ys.length:Int).toNat++V.int k::(x.map V.int).drop (ys.length:Int).toNat=(gS x k).map V.int:=by
    rw[yl,Zk];unfold gS;rw[QO,Z0,Xe,XH]
   dsimp only;rw[ei];have Y:=b2.write (y:=gS x k) ec ad.at_;have il:=IE (l:=x) (k:=k);let{a1,Z}:=ad.set ok nk;have cF:R8 a L A c:= .inr (.inr<|Q1 ec);have f4:Fr (R8 a L A) (R8 a L A) H0 (upd H3 c<|.lst<|(gS x k).map V.int):=λb o n w=>{by rw[af (λy=>n<|by rwa[y])];exact s3 _ _ w,n};have a2:upd H3 c (.lst<|(gS x k).map V.int) c=some (.lst<|(gS x k).map V.int):=ag;generalize upd H3 c (.lst<|(gS x k).map V.int)=H4 at Y f4 a2⊢;refine{_,M,c,_,M,.inl<|E7.of a2,_,_,M,M,_,M,?_};have ll:((gS x k).map V.int).length=x.length+1:=by rw[Q0,il]
   by_cases c9:x.length=8
   .refine mU (by rw[ll];lia) ?_;let{b8,ba,bb,be}:=Y.insM;have e5:(ls.set j<|gS x k)[j]?=some (gS x k):=by rw[Z9,Wn M,Wn jl]
    refine{_,M,a,b8,ba,M,bb,be _ ∅,_,M,a,L,A,_,j,_,M,Y,e5,(),by rw[Zo];lia,λH6 A6 a3 f6=>?_};have er:(ls.set j<|gS x k).set j ((gS x k).take 4)=ls.set j ((gS x k).take 4):=List.set_set _;rw[er]at a3;have bh:dH (ls.set j<|(gS x k).take 4++(gS x k).drop 4).flatten:=by rwa[Zm]
    let{bi,a4}:=ok.parted ad.at_ (a:=(gS x k).take 4) (b:=(gS x k).drop 4) (by rw[Q9];lia) (by rw[Zc];lia) bh;rw[Zm]at a4;refine q H6 _ _ {L,A6,_,a3,bi,M,λb=>Iff.rfl} (λz=>?_)<|fr.trans (f4.trans f6);rw[a4,Z,ef]
   .refine bg (by rw[ll];lia) ?_;have bl:=ok.grown ad.at_ (y:=gS x k) () () a1;exact q H4 _ _ {L,A,_,Y,bl,M,λb=>Iff.rfl} (λz=>by rw[Z,ef])<|fr.trans f4
def mP(t:PB):Sp:=λvs H Q _=>∃(a L:K')(A:Su)(ls:Th)(i:Int),vs=[.ref a,.int i]/\Qp t H a L A ls/\-1<=i/\i<(ls.length:Int)/\(∀l∈ls,l.length<=8)/\ls.length<5000/\
 ∀H' A' ls',Qp t H' a L A' ls'->ls'=(if 0<=i then pR ls i.toNat else ls)->Fr (R8 a L A) (R8 a L A') H H'->Q .non H'
def Ig{n:K'}(h:b∈A.set i n):b∈A\/b=n:=List.mem_or_eq_of_mem_set h
def mS:Cy P w K mg base PJ 1 t.gT t.dN [cC,va] (mP t):=by
 let{I,z}:=T.g_LEAST_IN_TWO;refine T.CL.okl mR λs H vs Q E hr h _=>?_;intro X;let{a,L,A,ls,i,rfl,hb,i0,i1,l8,ll,q}:=h;refine ak (aS (PW.pt<|mJ (aw fL P0 ai<|az _)<|i5<|aw bH (aq bG P0 ai) (aD aE {_} T.bS bj (ae (au Ck M) aj))<|az _)
    (ay oS)
    aJ)
   (ak (PF 2<|aq HN (aR aQ (au Ck M) P0<|λ_ _=>M)<|aR aQ (au Ck M) (aq bG P0 ai)<|λ_ _=>M)
   (rV (λx=>aS (aw fL (aD aE {_} T.bS bj (ae P1 aj)) (cK (v:= .int 5) {_} z {_,M})<|az _) x aJ) ?_))
 refine ak (Az P1<|DD (au Ck M) P0 wc)
   (aB (aT<|d6 QZ PySem.F.slot_list_pop PySem.F.type_list_pop BW (au Ck M)<|ae (aq bG P0 ai) aj) ?_)
 intros
 let{dx,ho}:=hb.obj;have lA:((A.map V.ref).length:Int)=(ls.length:Int):=by rw[Q0,hb.len]
 by_cases c0:i<0
 .refine{_,M,_,_,M,M,_,M,mU c0 ?_};exact cy<|q H A ls hb (by rw[Wm ()]) Fr.refl
 refine{_,M,_,_,M,M,_,M,bg c0 ?_};let{n,rfl}:=ZY (show 0<=i by lia);have en:((n:Int)).toNat=n:=Zk n;rw[Wn (),en]at q;refine{_,M,_,_,M,M,_,M,a,_,dx,_,_,M,ho,T.aM,T.aF,dE,L,_,M,.inl<|E7.of hb.lst,M,_,M,?_};by_cases c1:n+1=ls.length
 .refine dX (WG V.int<|by rw[lA];lia) ?_;exact q H A ls hb (xn ()).symm Fr.refl
 refine bg (λw=>c1<|by have:=V.int.inj w;rw[lA]at this;lia) ?_;have hn:n<ls.length:=();have U:n+1<ls.length:=();have ex:ls[n]?=some ls[n]:=Q3 hn;have ey:ls[n+1]?=some ls[n+1]:=Q3 U;have x8:=l8 _ (Xf hn);have y8:=l8 _ (Xf U);generalize ls[n]=x at ex x8;generalize ls[n+1]=y at ey y8;let{c,ec,hc}:=hb.at ex;let{d,ed,hd}:=hb.at ey;have aa:(n:Int)+1=((n+1:Nat):Int):=M;refine{_,M,a,_,dx,_,_,M,ho,T.aM,T.aF,dE,_,M,L,_,_,_,M,M,E7.of hb.lst,gO ec,_,M,a,_,dx,_,_,M,ho,T.aM,T.aF,dE,_,M,_,_,M,M,L,_,_,_,M,M,E7.of hb.lst,gO ed,c,d,_,_,M,M,hc,hd,Zq<|cR (by rw[Q0,Q0];lia),λG Y=>?_};rw[<-QO];have s1:GI H (upd H G<|.lst<|(x++y).map V.int):=al Y;have hb1:=hb.same s1;have Z:upd H G (.lst<|(x++y).map V.int) G=some (.lst<|(x++y).map V.int):=ag;have nF:=hb.out Y;have a1:=s1 _ _ ho;have a2:=s1 _ _ hb.lst;generalize upd H G (.lst<|(x++y).map V.int)=H1 at s1 hb1 Z a1 a2⊢;refine{_,M,G,_,M,.inl<|E7.of Z,_,_,M,M,_,M,?_};have a3:(((x++y).map V.int).length:Int)=(x.length:Int)+(y.length:Int):=by rw[Q0,Q6];rfl
 rw[Ce ex ey]at q;by_cases c5:x.length+y.length<5
 .refine mU (by rw[a3];lia) ?_;rw[Wn c5]at q;have nA:n<A.length:=by rwa[hb.len]
  refine{_,M,_,M,a,_,dx,_,_,M,a1,T.aM,T.aF,dE,_,M,L,_,_,_,M,M,a2,ER nA,?_};have es:(A.map V.ref).set n (V.ref G)=(A.set n G).map V.ref:=by rw[List.map_set]
  rw[es];have O:=hb1.swap ec ex Z nF;let{a5,a4}:=O.obj;have a0:=O.lst;have f2:Fr (R8 a L A) (R8 a L<|A.set n G) H (upd H1 L<|.lst<|(A.set n G).map V.ref):=λb o n' w=>by
   have w1:=s1 _ _ w;refine{by rwa[af (λy=>n'<|.inr<|.inl y)],λy=>?_};rcases y with y|y|y
   .exact n'<|.inl y
   .exact n'<|.inr (.inl y)
   .rcases Ig y with y|y
    .exact n'<|.inr (.inr y)
    .rw[y,Y]at w;cases w
  generalize upd H1 L (.lst<|(A.set n G).map V.ref)=H2 at O a4 a0 f2⊢;have lS:((A.set n G).map V.ref).length=ls.length:=by rw[Q0,Zo,hb.len]
  have a6:n+1<(A.set n G).length:=by rwa[Zo,hb.len]
  have sx:seqIndex? ((n:Int)+1) ((A.set n G).map V.ref).length=some (n+1):=by
   have:=seqIndex_of (k:=(n:Int)+1) (n:=((A.set n G).map V.ref).length) () (by rw[lS];lia);rw[this];congr 1
  refine{_,M,a,_,a5,_,_,M,a4,T.aM,T.aF,dE,.inl {M,_,E7.of a0},_,M,_,_,M,M,L,_,_,n+1,_,M,M,a0,(),(),sx,(by rw[Z3,Q3 a6];rfl),?_};have a8:=O.erase (i:=n+1);have em:((A.set n G).map V.ref).eraseIdx (n+1)=((A.set n G).eraseIdx<|n+1).map V.ref:=qL _ _;rw[em];refine q _ _ _ a8 M<|f2.trans λb o n' w=>?_;refine{by rwa[af (λy=>n'<|.inr<|.inl y)],λy=>?_};rcases y with y|y|y
  .exact n'<|.inl y
  .exact n'<|.inr (.inl y)
  .exact n'<|.inr (.inr<|ZV y)
 .refine bg (by rw[a3];lia) ?_;rw[Wm c5]at q;exact q H1 A ls hb1 M<|Fr.of_same s1
def qF:Cy P w K mg base PJ 3 t.jF t.fX [cC,et] (qp K t):=by
 refine T.Fk.okl qv λs H vs Q E hr h _=>?_;intro X;let{a,k,F,ks,rfl,hA,hl,q1,q2}:=h;refine ak (aS (lQ<|cU<|aW Ck T.aM T.yU (nS T) hr.mo T.yZ .nil aA<|ae P0 aj)
    (ay jz)
    aJ)
   (ak (PF 2<|aW Ck T.aM T.dD (cq T) hr.mo T.dG .nil aA<|ae P0 aj)
   (ak (aT<|d6 QZ PySem.F.slot_list_remove PySem.F.type_list_remove FX (aR aQ (au Ck M) P1<|λ_ _=>M)<|ae P0 aj)
   (cI (λx=>aS (aw bH (aD aE {_} T.bS bj (ae (aR aQ (au Ck M) P1<|λ_ _=>M) aj)) ai<|az _) x aJ) ?_)))
 refine ak (aT<|d6 QZ PySem.F.slot_list_pop PySem.F.type_list_pop BW (au Ck M)<|ae P1 aj)
   (aB oS ?_)
 intros
 refine ak (aT<|aW Ck T.aM T.n6 (mS T) hr.mo T.oA .nil aA<|ae P1 aj)
   (aB (aT<|aW Ck T.aM T.n6 (mS T) hr.mo T.oA .nil aA<|ae (aq eV P1 ai) aj) ?_)
 intros
 let{dx,fs,hi,hm}:=hA.ins;refine{_,M,a,dx,fs,M,hi,hm _ ∅,_,M,a,k,F,ks,M,hA,λH0 F0 a6 a1=>?_};by_cases ck:k∈ks
 case neg=>
  rw[Wz ck];refine{_,M,cy ?_};exact(q2 ck).elim
 rw[Wv ck];refine{_,M,cu ?_};have q:=q1 ck;let{L,A,ls,hb,ok,ef,hF}:=a6;let{a8,ho}:=hb.obj;have sh:=ok.short;rw[ef]at sh;have fr:Fr F (R8 a L A) H H0:=λb o n e=>{(a1 b o n e).1,λy=>(a1 b o n e).2<|(hF b).mpr y};let{aa,ac,ah,an}:=hb.insM;refine{_,M,a,aa,ac,M,ah,an _ ∅,_,M,a,k,L,A,ls,M,hb,ok.ne,ok.up,λi li=>?_};let{x,ex,hx}:=(li.mem ok).mp (by rwa[ef]);let{c,ec,hc}:=hb.at ex;have il:i<ls.length:=(Q2.mp ex).1;have br:i<A.length:=by rwa[hb.len]
 refine{_,M,a,_,a8,_,_,M,ho,T.aM,T.aF,dE,_,M,L,_,_,_,M,M,E7.of hb.lst,gO ec,.inl {M,_,E7.of hc},_,M,c,x,k,M,M,hc,hx,?_};have hb1:=hb.write (y:=x.erase k) ec ex;let{up1,G}:=ok.gone ex hx;have cF:R8 a L A c:= .inr (.inr<|Q1 ec);have f1:Fr (R8 a L A) (R8 a L A) H0 (upd H0 c<|.lst<|(x.erase k).map V.int):=λb o n w=>{by rwa[af (λy=>n<|by rw[y];exact cF)],n};have a2:upd H0 c (.lst<|(x.erase k).map V.int) c=some (.lst<|(x.erase k).map V.int):=ag;let{a3,Y}:=hb1.obj;have O:=hb1.lst;generalize upd H0 c (.lst<|(x.erase k).map V.int)=H1 at hb1 f1 a2 Y O⊢;have le:=List.length_erase_of_mem hx;refine{_,M,a,_,a3,_,_,M,Y,T.aM,T.aF,dE,_,M,L,_,_,_,M,M,E7.of O,gO ec,c,_,M,.inl<|E7.of a2,M,_,M,?_};have px:=List.length_pos_of_mem hx;by_cases c0:x.length=1
 .refine dX (WG V.int<|by rw[Q0,le,c0];rfl) ?_;have en:x.erase k=[]:=List.length_eq_zero_iff.mp ();rw[en]at up1 G hb1;have sx:seqIndex? (i:Int) (A.map V.ref).length=some i:=by
   have:=seqIndex_of (k:=(i:Int)) (n:=(A.map V.ref).length) () (by rw[Q0];lia);rw[this,Zk]
  refine{_,M,a,_,a3,_,_,M,Y,T.aM,T.aF,dE,.inl {M,_,E7.of O},_,M,L,_,_,i,_,M,M,O,(),(),sx,(by rw[Z3,ec];rfl),?_};have I:=hb1.erase (i:=i);have e2:(ls.set i ([]:R')).eraseIdx i=ls.eraseIdx i:=zI _ _ _;rw[e2]at I;rw[qL];let{ax,b1}:=ok.out ex c0 up1;refine q _ _ _ {L,_,_,I,ax,M,λb=>Iff.rfl} (λz=>by rw[b1,G,ef])<|(fr.trans f1).trans λb o n w=>?_;refine{by rwa[af (λy=>n<|.inr<|.inl y)],λy=>?_};rcases y with y|y|y
  .exact n<|.inl y
  .exact n<|.inr (.inl y)
  .exact n<|.inr (.inr<|ZV y)
 .refine bg (λw=>c0<|by have:=V.int.inj w;rw[Q0,le]at this;lia) ?_;have ny:x.erase k≠[]:=Xj ();have w1:=ok.shrunk ex ny () up1;let{b2,b5,b8,ba}:=hb1.insM;have Z:(ls.set i<|x.erase k).length=ls.length:=Zo;refine{_,M,a,b2,b5,M,b8,ba _ ∅,_,M,a,L,A,_,(i:Int),M,hb1,(),by rw[Z];lia,w1.le,by rw[Z];lia,λH2 A2 U I e2 f2=>?_};rw[Wn (),Zk]at e2;let{w2,a4}:=w1.join (i:=i) (λj h=>h);rw[<-e2]at w2 a4;have l2:i<=U.length/\U.length<=ls.length:=by
   have:=Gi (ls:=ls.set i<|x.erase k) (i:=i);rw[<-e2,Z]at this;lia
  let{bb,be,bh,bi}:=I.insM;refine{_,M,a,bb,be,M,bh,bi _ ∅,_,M,_,_,M,M,a,L,A2,U,(i:Int)-1,M,I,(),(),w2.le,(),λH3 A3 a0 bl e3 f3=>?_};have fin:Pp a0/\a0.flatten=U.flatten:=by
   by_cases ci:i=0
   .subst ci;rw[Wm ()]at e3;subst e3;exact{w2.ok λj h=>(),M}
   .have ei:((i:Int)-1).toNat=i-1:=();rw[Wn (),ei]at e3;let{w3,a5}:=w2.join (i:=i-1) (λj h=>());rw[<-e3]at w3 a5;exact{w3.ok λj h=>(),a5}
  let{bo,bp}:=fin;refine q H3 _ _ {L,A3,a0,bl,bo,M,λb=>Iff.rfl} (λz=>by rw[bp,a4,G,ef])<|((fr.trans f1).trans f2).trans f3
def Mx(a l:K')(k n:Int)(ls:Th)(H:Hp):Nat->St->Hp->Prop:=λm B H'=>∃(i:Nat),m=ls.length-i/\GI H H'/\H l=none/\B=[some (.ref a),some (.int k),some (.int n),some (.ref l),some (.int (i:Int))]/\i<=ls.length/\H' l=some (.lst<|(((ls.take i).flatten).filter λz=>decide (k<=z)).map V.int)
def uk(e:ls[i]?=some x):(ls.take<|i+1).flatten=(ls.take i).flatten++x:=by
 rw[QY,e,X9];simp
def sI(ls:Th)(i:Nat):ls.flatten=(ls.take i).flatten++(ls.drop i).flatten:=by rw[<-X9,Zm]
def qE:Cy P w K mg base PJ 2 t.jE t.fW [cC,et,xG] (qo K t):=by
 refine T.Fj.okl Qb λs H vs Q E hr h _=>?_;intro X;let{a,k,n,F,ks,rfl,hA,hl,n0,q}:=h;refine ak (PF 3<|bX aj)
   (ak (PF 4<|aW Ck T.aM T.dD (cq T) hr.mo T.dG .nil aA<|ae P0 aj)
   (cI (λx=>(nK WF (PW.pt<|eU (aw fL Qa (aD aE {_} T.bS bj (ae (au Ck M) aj))<|az _)<|dB<|aw fL (aD aE {_} T.bS bj (ae PM aj)) P1<|az _)
    x)) ?_))
 refine ak (aT<|d6 QZ XF XG oX PM<|ae (nN M (P9.of (M':=["one"]) (N:=[cC,et,xG,"told",va]) (N':=[cC,et,xG,"told",va]) (dsc:=am dA) M M ∅) (eO<|aR aQ (au Ck M) Qa<|λ_ _=>M) (λ_ _ _ _ _=>(aw wH Ck P1<|az _))<|λ_ _ _ _ _=>Ck) aj)
   (aB (Dz (i:=4) Qb.nd M (Or.inl M) ai ID) ?_)
 intros
 refine aB (aG<|eK gL PM lR<|dS P1) ?_
 intros
 let{L,A,ls,hb,ok,ef,hF}:=hA;refine{QT _,λl Z=>?_};have s0:GI H (upd H l<|.lst []):=al Z;have e0:upd H l (.lst []) l=some (.lst<|([]:R').map V.int):=ag;have O:=hb.same s0;generalize upd H l (.lst [])=H0 at s0 e0 O⊢;let{a3,a4,a5,a6}:=O.insM;refine{_,M,a,a3,a4,M,a5,a6 _ ∅,_,M,a,k,L,A,ls,M,O,ok.ne,ok.up,λi0 li=>?_};have f0:((ls.take i0).flatten).filter (λz=>decide (k<=z))=[]:=Xr.mpr λz hz=>by
  have:=Go ok li z hz;simpa using this
 have lA:((A.map V.ref).length:Int)=(ls.length:Int):=by rw[Q0,hb.len]
 refine{Mx a l k n ls H,{_,i0,M,s0,Z,M,li.le,by rwa[f0]},?_};rintro m B H' ⟨i,rfl,s1,_,rfl,il,e1⟩;have hb1:=hb.same s1;let{a0,a1}:=hb1.obj;have fin:∀(done:((((ls.take i).flatten).filter λz=>decide (k<=z)).take n.toNat)=(ks.filter λz=>decide (k<=z)).take n.toNat),∀p,H' p=none->Q (.ref p) (upd H' p<|.lst<|mV ((((ls.take i).flatten).filter λz=>decide (k<=z)).map V.int) none<|some n):=λdone p np=>by
  refine q _ p (s1.trans<|al np) ?_ ?_
  .cases e:H p with
   |none=>rfl
   |some o=>rw[s1 _ _ e]at np;cases np
  .rw[ag,sM n0,<-Xe,done]
 refine{_,M,_,M,a,_,a0,_,_,M,a1,T.aM,T.aF,dE,L,_,M,.inl<|E7.of hb1.lst,_,_,M,M,_,M,?_};by_cases c:i<ls.length
 .refine mU (by rw[lA];lia) ?_;refine{_,M,l,_,M,.inl<|E7.of e1,_,M,_,_,M,M,_,M,?_};by_cases c2:((((((ls.take i).flatten).filter λz=>decide (k<=z)).map V.int).length:Nat):Int)<n
  .refine mU c2 ?_;refine{λa8 H''=>∃m',m'<ls.length-i/\Mx a l k n ls H m' a8 H'',λ_ _ h=>h,?_};have ex:ls[i]?=some ls[i]:=Q3 c;let{b,eb,G}:=hb1.at ex;have lb:l≠b:=λz=>by
    let{b',a2,h'}:=hb.at ex;rw[eb]at a2;cases a2;rw[<-z,Z]at h';cases h'
   have ac:=QX (λz=>decide (k<=z)) (ls.take i).flatten;have aa:(ls.take i).flatten.length+ls[i].length<=ks.length:=by
    rw[<-ef,sI ls (i+1),uk ex,Q6,Q6];lia
   refine{_,M,.inl {M,_,E7.of e1},_,M,a,_,a0,_,_,M,a1,T.aM,T.aF,dE,_,M,L,_,_,_,M,M,E7.of hb1.lst,gO eb,b,M,{_,E7.of G},λD hD=>?_};generalize ls[i]=x at ex G aa⊢;refine jr (K:=K) (a:=b) (xs:=x.map V.int) (λm ys H3=>H3=upd H' D (.lst ys)/\ys=((x.take m).filter<|λz=>decide (k<=z)).map V.int) ⟨M,M⟩ (λm ys H3 _ w=>E7.of<|by rwa[w.1,af (ao G hD)]) (λm v ys H3 Y w I=>?_)<|λys H3 w I=>?_
   .let{w1,U}:=w;obtain⟨g,rfl,eg⟩:∃g:Int,v= .int g/\x[m]?=some g:=by
     rw[Z3]at Y;cases e:x[m]? with
     |none=>rw[e]at Y;cases Y
     |some g=>rw[e]at Y;cases Y;exact⟨g,M,M⟩
    have hn:m<(x.map V.int).length:=(Q2.mp Y).1;refine{_,M,_,M,_,_,M,M,_,M,?_};have fl:ys.length<=100000:=by
     rw[U,Q0];have h1:=QX (λz=>decide (k<=z)) (x.take m);have h2:(x.take m).length<=x.length:=by rw[Q9];lia
     lia
    by_cases cg:k<=g
    .refine mU cg {_,M,Pq.mk hn I (bq fl) {by rw[w1,du],?_}};rw[U,QY,eg,Za,QO];simp[cg]
    .refine bg cg<|Qn.mk hn I {w1,?_};rw[U,QY,eg,Za];simp[cg]
   .let{w1,U}:=w;rw[Q0,Zd]at U;have s3:GI H' H3:=by rw[w1];exact al hD
    have e3:=s3 _ _ e1;have ah:=QX (λz=>decide (k<=z)) x;have hsz:((((ls.take i).flatten).filter λz=>decide (k<=z)).map V.int).length+ys.length<=sizeLine:=by
     rw[U,Q0,Q0];exact Zq<|bq ()
    refine{l,D,_,_,M,M,e3,I,hsz,?_};have hE:(((ls.take i).flatten).filter λz=>decide (k<=z)).map V.int++ys=(((ls.take<|i+1).flatten).filter λz=>decide (k<=z)).map V.int:=by
     rw[U,uk ex,Za,QO]
    rw[hE];refine{_,M,_,_,M,M,_,?_,i+1,M,?_,Z,M,c,ag}
    .lia
    .exact b6 (s1.trans s3) Z
  .refine bg c2 ?_;refine{_,M,_,M,_,M,l,_,M,E7.of e1,fin ?_};have:ks.filter (λz=>decide (k<=z))=((ls.take i).flatten).filter (λz=>decide (k<=z))++((ls.drop i).flatten).filter (λz=>decide (k<=z)):=by rw[<-ef,sI ls i,Za]
   rw[this,Ze];rw[Q0]at c2;lia
 .refine bg (by rw[lA];lia) ?_;have ei:i=ls.length:=();subst ei;refine{_,M,_,M,_,M,l,_,M,E7.of e1,fin ?_};rw[Zd,ef]
def WDn(a l:K')(k:Tl)(n:Int)(ls:Th)(H:Hp):Nat->St->Hp->Prop:=λm B H'=>GI H H'/\H l=none/\m<=ls.length/\B=[some (.ref a),some (vDn k),some (.int n),some (.ref l),some (.int<|(m:Int)-1)]/\H' l=some (.lst<|(((ls.drop m).flatten).reverse.filter<|ft k).map V.int)
def Le{c:Prop}[Decidable c]{A:Prop}(Pv:To)(main:∀z H',Pv z H'->D.nx z H')(G:c->(∀z H',Pv z H'->D.nx z H')->A)(I:Pv B H):if c then A else mY D B H:=b4 (λh=>G h main) (λ_=>main _ _ I)
def Gq(e:ls[i]?=some x):((ls.drop i).flatten).reverse=((ls.drop<|i+1).flatten).reverse++x.reverse:=by
 let{h,e}:=Q2.mp e;rw[ZQ h,e,X7,List.reverse_append]
def Gu(ok:Pp ls)(G:QF ls k i0):((ls.drop<|i0+1).flatten).reverse.filter (ft<|some k)=[]:=Xr.mpr λz hz=>by
 have:=G.behind ok z (XC.mp hz);simp only[ft,WB];lia
def Ji{len:Nat}:(if((len:Int)-1<(i0:Int))then((len:Int)-1)else(i0:Int))=((min (i0+1) len:Nat):Int)-1:=by
 split<;>lia
def Gv(ok:Pp ls)(z:QF ls k i0):((ls.drop<|min (i0+1) ls.length).flatten).reverse.filter (ft<|some k)=[]:=by
 rcases VU (i0+1) ls.length with c|c
 .rw[ZP c];exact Gu ok z
 .rw[Vl c,List.drop_length];rfl
def nU:Cy P w K mg base PJ 2 t.iz t.eE [cC,et,xG] (m5 K t):=by
 refine T.C5.okl QD λs H vs Q E hr h _=>?_;intro X;let{a,k,n,F,ks,rfl,hA,hl,n0,q}:=h;refine ak (PF 3<|bX aj)
   (ak (PF 4<|aq eV (aD aE {_} T.bS bj (ae (au Ck M) aj)) ai)
   (cI (λx=>aS (aw lT P0 bx<|az _) x aJ) ?_))
 refine aB (PF 4<|aD (iN M) {_} T.vJ ox (ae (aW Ck T.aM T.dD (cq T) hr.mo T.dG .nil aA<|ae P0 aj)<|ae Qa aj)) ?_
 intros
 refine cI (λx=>(nK WF (PW.pt<|eU (aw wH Qa ai<|az _)<|dB<|aw fL (aD aE {_} T.bS bj (ae PM aj)) P1<|az _)
    x)) ?_
 refine ak (aT<|d6 QZ XF XG oX PM<|ae (nN M (P9.of (M':=["one"]) (N:=[cC,et,xG,"told",va]) (N':=[cC,et,xG,"told",va]) (dsc:=am cJ) M M ∅) (M9 {_} T.MA (ae (aR aQ (au Ck M) Qa<|λ_ _=>M) aj)) (λ_ _ _ _ _=>(PW.pt<|mJ (aw fN P1 bx<|az _)<|i5<|aw wG Ck P1<|az _))<|λ_ _ _ _ _=>Ck) aj)
   (aB (Dz (i:=4) QD.nd M (Or.inl M) ai NC) ?_)
 intros
 refine aB (aG<|eK gL PM lR<|dS P1) ?_
 intros
 let{L,A,ls,hb,ok,ef,hF}:=hA;refine{QT _,λl nl=>?_};have s0:GI H (upd H l<|.lst []):=al nl;have e0:upd H l (.lst []) l=some (.lst<|([]:R').map V.int):=ag;have z:=hb.same s0;generalize upd H l (.lst [])=H0 at s0 e0 z⊢;let{a1,a2}:=z.obj;have lA:((A.map V.ref).length:Int)=(ls.length:Int):=by rw[Q0,hb.len]
 refine{_,M,a,_,a1,_,_,M,a2,T.aM,T.aF,dE,L,_,M,.inl<|E7.of z.lst,_,_,M,M,?_};rw[lA];refine{_,M,M,_,M,Le (λG H'=>∃m,WDn a l k n ls H m G H') (λG H' wW=>?main) (λc key=>?A) {ls.length,s0,nl,Q4 _,M,by rwa[List.drop_length]}}
 case A=>
  cases k with
  |none=>exact Ws c (_)
  |some k=>
   let{a3,a4,a5,a6}:=z.insM;refine{_,M,a,a3,a4,M,a5,a6 _ ∅,_,M,a,k,L,A,ls,M,z,ok.ne,ok.up,λi0 li=>?_};refine{_,M,_,_,M,?_};dsimp only;rw[Ji];exact key _ _ {min (i0+1) ls.length,s0,nl,Nat.min_le_right _ _,M,by rwa[Gv ok li]}
 case main=>
  let{m0,w0}:=wW;refine{WDn a l k n ls H,⟨m0,w0⟩,?_};rintro m B H' ⟨s1,_,ml,rfl,e1⟩;have hb1:=hb.same s1;let{a8,aa}:=hb1.obj;have fin:∀(done:((((ls.drop m).flatten).reverse.filter<|ft k).take n.toNat)=(ks.reverse.filter<|ft k).take n.toNat),∀p,H' p=none->Q (.ref p) (upd H' p<|.lst<|mV ((((ls.drop m).flatten).reverse.filter<|ft k).map V.int) none<|some n):=λdone p np=>by
   refine q _ p (s1.trans<|al np) ?_ ?_
   .cases e:H p with
    |none=>rfl
    |some o=>rw[s1 _ _ e]at np;cases np
   .rw[ag,sM n0,<-Xe,done]
  refine{_,M,_,_,M,M,_,M,?_};cases m with
  |zero=>
   refine bg (_) ?_;refine{_,M,_,M,_,M,l,_,M,E7.of e1,fin ?_};rw[Zz,ef]
  |succ i=>
   have im:((i+1:Nat):Int)-1=(i:Int):=();rw[im];refine mU () ?_;refine{_,M,l,_,M,.inl<|E7.of e1,_,M,_,_,M,M,_,M,?_};by_cases c2:((((((ls.drop<|i+1).flatten).reverse.filter<|ft k).map V.int).length:Nat):Int)<n
   .refine mU c2 ?_;refine{λG H''=>∃m',m'<i+1/\WDn a l k n ls H m' G H'',λ_ _ h=>h,?_};have ex:ls[i]?=some ls[i]:=Q3 ml;let{b,eb,I}:=hb1.at ex;have an:=QX (ft k) ((ls.drop<|i+1).flatten).reverse;have ac:((ls.drop<|i+1).flatten).reverse.length+ls[i].length<=ks.length:=by
     rw[<-ef,sI ls (i+1),uk ex,Q6,Q6,ZN];lia
    refine{_,M,.inl {M,_,E7.of e1},_,M,a,_,a8,_,_,M,aa,T.aM,T.aF,dE,_,M,L,_,_,_,M,M,E7.of hb1.lst,gO eb,b,_,M,E7.of I,λD hD=>?_};generalize ls[i]=x at ex I ac⊢;refine Gy (K:=K) (a:=b) (xs:=x.map V.int) (λm ys H3=>H3=upd H' D (.lst ys)/\ys=((x.reverse.take m).filter<|ft k).map V.int) ⟨M,M⟩ (λm ys H3 _ w=>E7.of<|by rw[w.1,af (ao I hD)];exact I) (λm v ys H3 Z w O=>?_)<|λys H3 w O=>?_
    .let{w1,Y}:=w;obtain⟨g,rfl,eg⟩:∃g:Int,v= .int g/\x.reverse[m]?=some g:=by
      rw[<-List.map_reverse,Z3]at Z;cases e:x.reverse[m]? with
      |none=>rw[e]at Z;cases Z
      |some g=>rw[e]at Z;cases Z;exact⟨g,M,M⟩
     have hn:m<(x.map V.int).length:=by
      have:=(Q2.mp Z).1;rwa [ZN]at this
     have fl:ys.length<=100000:=by
      rw[Y,Q0];have h1:=QX (ft k) (x.reverse.take m);have h2:(x.reverse.take m).length<=x.reverse.length:=by rw[Q9];lia
      rw[ZN]at h2;lia
     have a0:ft k g=true->Pq (x.map V.int).length m ys D (λm ys H3=>H3=upd H' D (.lst ys)/\ys=((x.reverse.take m).filter<|ft k).map V.int) (.int g) H3:=λU=>by
      refine Pq.mk hn O (bq fl) {by rw[w1,du],?_};rw[Y,QY,eg,Za,QO];simp[U]
     have no:ft k g=false->Qn (x.map V.int).length m ys D (λm ys H3=>H3=upd H' D (.lst ys)/\ys=((x.reverse.take m).filter<|ft k).map V.int) H3:=λU=>by
      refine Qn.mk hn O {w1,?_};rw[Y,QY,eg,Za];simp[U]
     refine{_,M,M,_,M,?_};cases k with
     |none=>exact cy<|cy {_,M,a0 M}
     |some k=>
      refine cu {_,M,_,M,_,_,M,M,_,M,?_};by_cases U:g<=k
      .exact mU U {_,M,a0<|Wv U}
      .exact bg U<|no (Wz U)
    .let{w1,Y}:=w;rw[Q0,show x.length=x.reverse.length from ZN.symm,Zd]at Y;have s3:GI H' H3:=by rw[w1];exact al hD
     have e3:=s3 _ _ e1;have ah:=QX (ft k) x.reverse;have hsz:((((ls.drop<|i+1).flatten).reverse.filter<|ft k).map V.int).length+ys.length<=sizeLine:=by
      rw[Y,Q0,Q0];rw[ZN]at ah;exact Zq<|bq ()
     refine{l,D,_,_,M,M,e3,O,hsz,?_};have hE:(((ls.drop<|i+1).flatten).reverse.filter<|ft k).map V.int++ys=(((ls.drop i).flatten).reverse.filter<|ft k).map V.int:=by
      rw[Y,Gq ex,Za,QO]
     rw[hE];refine{_,M,_,_,M,M,i,Xy _,b6 (s1.trans s3) nl,nl,Zq ml,M,ag}
   .refine bg c2 ?_;refine{_,M,_,M,_,M,l,_,M,E7.of e1,fin ?_};have:ks.reverse.filter (ft k)=((ls.drop<|i+1).flatten).reverse.filter (ft k)++((ls.take<|i+1).flatten).reverse.filter (ft k):=by rw[<-ef,sI ls (i+1),List.reverse_append,Za]
    rw[this,Ze];rw[Q0]at c2;lia
def vM:(0:Int)<10^(39:Int).toNat:=by decide
theorem BJ:∀{a b:R'},dH a->dH b->(∀z,z∈a↔z∈b)->a=b
 | [],[],_,_,_=>rfl
 | [],y::r,_,_,h=>by have:=(h y).mpr QK;cases this
 |x::r,[],_,_,h=>by have:=(h x).mp QK;cases this
 |x::r,y::r',ha,hb,h=>by
  let{I,U}:=Xq.mp ha;let{O,Y}:=Xq.mp hb;have G:x=y:=by
   rcases QS.mp ((h x).mp QK)with e|e
   .exact e
   .rcases QS.mp ((h y).mpr QK)with e2|e2
    .exact e2.symm
    .have h1:=O x e;have h2:=I y e2;lia
  subst G;rw[BJ U Y λz=>?_];constructor
  .intro hz;rcases QS.mp ((h z).mp<|QM _ hz)with e|e
   .have:=I z hz;lia
   .exact e
  .intro hz;rcases QS.mp ((h z).mpr<|QM _ hz)with e|e
   .have:=O z hz;lia
   .exact e
def Qz.rise(h:Qz K t H a F ks):dH ks:=by
 let{_,_,ls,_,ok,z,_}:=h;rw[<-z];exact ok.up
def Ct(ms:R')(lo hi:Tl):∃z:List Int,mV (ms.map V.int) lo hi=z.map V.int/\z.Sublist ms:=by
 refine{(ms.drop<|HT.sIx (ms.map V.int).length 0 lo).take<|HT.sIx (ms.map V.int).length (ms.map V.int).length hi-HT.sIx (ms.map V.int).length 0 lo,?_,?_}
 .unfold mV;rw[Xe,XH]
 .exact(Vd _ _).trans<|List.drop_sublist _ _
def BS:Cy P w K mg base PJ 1 t.xM t.qN ["thing"] BB:=by
 refine T.Ef.okl BH λs H vs Q E z h _=>?_;intro X;let{x,rfl,hx,k}:=h;refine{_,(ay<|aG<|gw (aD uH {_} T.dQ cH (ae Ck<|ae (Ez (v:= .ty "int") {_} T.Pm NU M) aj))<|gv<|DE<|aD uH {_} T.dQ cH (ae Ck<|ae (Ez (v:= .ty "bool") {_} T.Pj Lq M) aj))
  ,?_}
 cases x with
 |int i=>
  refine{_,M,_,_,_,_,M,Py.int _,Nr,true,M,cy ?_};exact{_,M,_,_,_,_,M,Py.int _,Nt,_,M,k}
 |bl c=>
  refine{_,M,_,_,_,_,M,Py.bl _,Nu,true,M,cy ?_};exact{_,M,_,_,_,_,M,Py.bl _,Nv,_,M,k}
 |str c=>exact{_,M,_,_,_,_,M,Py.str _,Np,false,M,cu k}
 |non=>exact{_,M,_,_,_,_,M,Py.non,Nq,false,M,cu k}
 |_=>exact hx.elim
def qC:Cy P w K mg base PJ 2 t.z8 t.uw ["thing","low"] Do:=by
 refine T.iO.okl Dx λs H vs Q E z h _=>?_;intro X;let{x,lo,rfl,hx,k}:=h;refine{_,(ay<|aG<|gw (aP (BS T) z.mo {_} T.Nm T.Ef.kp T.NW .nil aA (ae Ck aj))<|gv<|b7 wH Ck P0<|az _)
  ,?_}
 cases x with
 |int i=>exact{_,M,_,M,hx,true,M,cy {_,M,_,M,_,_,M,M,k}}
 |bl c=>exact{_,M,_,M,hx,false,M,cu k}
 |str c=>exact{_,M,_,M,hx,false,M,cu k}
 |non=>exact{_,M,_,M,hx,false,M,cu k}
 |_=>exact hx.elim
def DI:Cy P w K mg base PJ 1 t.zW t.uq ["bound"] Dj:=by
 refine T.Aa.okl Dr λs H vs Q E z h _=>?_;intro X;let{x,rfl,hx,k}:=h;refine{_,(ay<|aG<|HJ (aw fN Ck bx<|az _) bQ<|kI AW {_} T.Pl NT (ae Ck aj))
  ,?_}
 rcases hx with rfl|⟨i,rfl,hi⟩
 .exact{_,M,M,_,M,cy k}
 .exact{_,M,M,_,M,cu {_,M,i,M,hi,k}}
def i8:Cy P w K mg base PJ 1 t.kB t.j5 [cC,"kind",va,mu] (iQ K):=by
 refine T.kC.okl wf λs H vs Q E I h _=>?_;intro X;let{p,C,dx,kd,a,e,rfl,hp,cl,n0,n1,G,k}:=h;refine ak (bu Ck P0 M)
   (ak (bu Ck P1 M)
   (aB (bu Ck PM M) ?_))
 intros
 refine{_,M,_,M,p,C,dx,[],M,hp,cl,n0,(by show 0<1000;decide),_,M,_,M,p,C,dx,_,M,ag,cl,n1,(by show 1<1000;decide),_,M,_,M,p,C,dx,_,M,ag,cl,G,?_,?_}
 .have h1:=nJ (f:=va) (v:=a) (bP "kind" (.str kd) []);have h2:=nJ (f:="kind") (v:= .str kd) [];have O:([]:Tb).length=0:=M;lia
 rw[du,du];refine k _ _ (λb o q z=>by rw[af z];exact q) ag {?_,?_,?_,?_,?_}
 .rw[bC,Wm ∅,bC,Wm ∅,bC,Wn M]
 .rw[bC,Wm ∅,bC,Wn M]
 .rw[bC,Wn M]
 .rw[bC,Wm ∅,bC,Wm ∅,bC,Wm ∅];rfl
 .rw[bC,Wm ∅,bC,Wm ∅,bC,Wm ∅];rfl
def tkN(T:Txt K mg t){kd:Int}(h:kd=0\/kd=1\/kd=2):R6 K (SA t kd)/\E8 K (SA t kd) "kind"/\E8 K (SA t kd) va/\E8 K (SA t kd) mu:=by
 rcases h with rfl|rfl|rfl
 .exact⟨T.bR,T.vq,T.jZ,T.cW⟩
 .exact⟨T.iu,T.DM,T.rX,T.kL⟩
 .exact⟨T.cP,T.AI,T.jd,T.jA⟩
def Lc{kd:Int}(h:kd=0\/kd=1\/kd=2):(RQ kd).length<=5:=by
 rcases h with rfl|rfl|rfl<;>decide+kernel
def vi:Cy P w K mg base PJ 2 t.dP t.jn [cC] (c6 t):=by
 refine T.JC.okl u8 λs H vs Q E I h _=>?_;intro X;let{p,dx,kd,fs,a,e,rfl,hp,z,G,Y,Z,q}:=h;refine{_,(ay<|aG<|d6 PySem.F.plainAttrs_str PySem.F.slot_str_join PySem.F.type_str_join KR bQ<|ae (bX<|ae (au Ck M)<|ae (aP (DI T) I.mo {_} T.Ga T.Aa.kp T.GA .nil aA (ae (au Ck M) aj))<|ae (aP (DI T) I.mo {_} T.Ga T.Aa.kp T.GA .nil aA (ae (au Ck M) aj)) aj) aj)
  ,?_}
 let{cl,n0,n1,n2}:=tkN T G.kd;let{O,U}:=R4.few G Y Z;have kl:=Lc G.kd;refine{M,_,M,p,_,dx,fs,_,M,hp,cl,n0,z.ki,_,M,p,_,dx,fs,_,M,hp,cl,n1,z.at_,a,M,O.1,_,M,p,_,dx,fs,_,M,hp,cl,n2,z.end_,e,M,U.1,(by show 3<=sizeLine;decide),λl nl=>?_};refine{" ",l,[RQ kd,wr a,wr e],M,M,E7.of ag,∅,?_,q _<|al nl};have:=O.2;have:=U.2;simp only[Z0,VJ,List.sum_cons,List.sum_nil,QW,XJ];lia
def pc{x:V}(h:isF lo x=true):∃i,x= .int i/\lo<=i:=by
 cases x with
 |int i=>exact{i,M,Wt h}
 |_=>cases h
def kK:Cy P w K mg base PJ 3 t.mO t.dh [cC,va,mu] (tM t):=by
 let{G,z}:=T.g_PLACES;have a0:=Qg.nd;refine T.GZ.ok Qg (λvs H Q E h=>?_)<|λa1 A outer s H vs Q E U h=>?_
 .let{p,dx,a,e,rfl,_}:=h;rfl
 .let{p,dx,a,e,rfl,hp,sa,se,k1,k2}:=h;refine ak (aS (lQ<|PW.pt<|eU (cU<|aP (qC T) U.mo {_} T.kN T.iO.kp T.kQ .nil aA (ae P0<|ae ai aj))<|eU (cU<|aP (qC T) U.mo {_} T.kN T.iO.kp T.kQ .nil aA (ae P1<|ae P0 aj))<|dB<|aw wG P1 (cK (v:= .int 65536) {_} z {_,M})<|az _)
   (ay jz)
   aJ)
     (aB (aT<|AC {_} T.B8 T.pO T.kC.kp (i8 T) U.mo T.pX .nil aA (ae Ck<|ae bQ<|ae P0<|ae P1 aj)) ?_)
  intros
  refine{_,M,a,0,M,sa,_,M,b4 (λc=>?_)<|λc=>?_}
  .let{i,rfl,i0}:=pc c;refine{_,M,_,M,e,i,M,se,_,M,b4 (λc=>?_)<|λc=>?_}
   .let{j,rfl,ij}:=pc c;refine{_,M,_,_,M,M,_,M,?_};by_cases I:j<=65536
    .rw[Wv I];exact cu {_,M,_,M,_,M,p,_,dx,_,.int i,.int j,M,hp,T.bR,T.vq,T.jZ,T.cW,λH' fs k h f=>k1 ⟨i,j,M,M,i0,ij,I⟩ H' fs k h f}
    .rw[Wz I];exact cy<|(k2 λzz=>by let{Z,j',O,e2,_,_,h}:=zz;cases e2;exact I h)
   .exact cy<|(k2 λY=>by let{Z,j',O,e2,_,h,_}:=Y;exact c<|by cases O;rw[e2];exact Wv h)
  .exact cy<|(k2 λY=>by let{Z,j',O,_,h,_}:=Y;exact c<|by rw[O];exact Wv h)
def uC:Cy P w K mg base PJ 3 t.xO t.jk [cC,va,mu] (BD t):=by
 have Y:=R5.nd;refine T.Oc.ok R5 (λvs H Q E h=>?_)<|λZ A outer s H vs Q E G h=>?_
 .let{p,dx,a,e,rfl,_}:=h;rfl
 .let{p,dx,a,e,rfl,hp,sa,se,k1,k2}:=h;refine ak (aS (lQ<|PW.pt<|eU (cU<|aP (qC T) G.mo {_} T.kN T.iO.kp T.kQ .nil aA (ae P0<|ae ai aj))<|dB<|PW.pt<|mJ (aw fN P1 bx<|az _)<|i5<|cU<|aP (qC T) G.mo {_} T.kN T.iO.kp T.kQ .nil aA (ae P1<|ae P0 aj))
   (ay jz)
   aJ)
     (aB (aT<|AC {_} T.B8 T.pO T.kC.kp (i8 T) G.mo T.pX .nil aA (ae Ck<|ae bQ<|ae P0<|ae P1 aj)) ?_)
  intros
  refine{_,M,a,0,M,sa,_,M,b4 (λc=>?_)<|λc=>?_}
  .let{i,rfl,i0}:=pc c;have fin:RN (.int i) e->iQ K [.ref p,.str "up",.int i,e] H (λ_ H'=>Q .non H') E0:=λok=>{p,_,dx,"up",.int i,e,M,hp,T.iu,T.DM,T.rX,T.kL,λH' fs k h f=>k1 ok H' fs k h f};by_cases z:e= .non
   .exact{_,M,M,_,M,dX z<|cu {_,M,_,M,_,M,fin {i,M,i0,.inl z}}}
   .refine{_,M,M,_,M,bg z {_,M,_,M,e,i,M,se,_,M,?_}};cases I:isF i e with
    |true=>
     let{j,rfl,ij}:=pc I;exact cu {_,M,_,M,_,M,fin {i,M,i0,.inr ⟨j,M,ij⟩}}
    |false=>
     refine cy<|(k2 λO=>?_);let{i',U,_,e2}:=O;cases U;rcases e2 with e2|⟨j',e2,h⟩
     .exact z e2
     .rw[e2]at I;exact WM I h
  .exact cy<|(k2 λO=>by let{i',U,h,_}:=O;exact c<|by rw[U];exact Wv h)
def pN:Cy P w K mg base PJ 3 t.tD t.f9 [cC,va,mu] (yk t):=by
 have Z:=Qq.nd;refine T.LN.ok Qq (λvs H Q E h=>?_)<|λa0 A outer s H vs Q E G h=>?_
 .let{p,dx,a,e,rfl,_}:=h;rfl
 .let{p,dx,a,e,rfl,hp,sa,se,k1,k2}:=h;refine ak (aS (lQ<|PW.pt<|eU (cU<|aP (qC T) G.mo {_} T.kN T.iO.kp T.kQ .nil aA (ae P1<|ae ai aj))<|dB<|PW.pt<|mJ (aw fN P0 bx<|az _)<|i5<|cU<|aP (qC T) G.mo {_} T.kN T.iO.kp T.kQ .nil aA (ae P0<|ae P1 aj))
   (ay jz)
   aJ)
     (aB (aT<|AC {_} T.B8 T.pO T.kC.kp (i8 T) G.mo T.pX .nil aA (ae Ck<|ae bQ<|ae P0<|ae P1 aj)) ?_)
  intros
  refine{_,M,e,0,M,se,_,M,b4 (λc=>?_)<|λc=>?_}
  .let{j,rfl,Y}:=pc c;have fin:RH a (.int j)->iQ K [.ref p,.str "down",a,.int j] H (λ_ H'=>Q .non H') E0:=λok=>{p,_,dx,"down",a,.int j,M,hp,T.cP,T.AI,T.jd,T.jA,λH' fs k h f=>k1 ok H' fs k h f};by_cases z:a= .non
   .exact{_,M,M,_,M,dX z<|cu {_,M,_,M,_,M,fin {j,M,Y,.inl z}}}
   .refine{_,M,M,_,M,bg z {_,M,_,M,a,j,M,sa,_,M,?_}};cases I:isF j a with
    |true=>
     let{i,rfl,ij}:=pc I;exact cu {_,M,_,M,_,M,fin {j,M,Y,.inr ⟨i,M,ij⟩}}
    |false=>
     refine cy<|(k2 λO=>?_);let{j',U,_,e2}:=O;cases U;rcases e2 with e2|⟨i',e2,h⟩
     .exact z e2
     .rw[e2]at I;exact WM I h
  .exact cy<|(k2 λO=>by let{j',U,h,_}:=O;exact c<|by rw[U];exact Wv h)
def fP:Cy P w K mg base PJ 3 t.kX t.gJ [cC,et] (fE t):=by
 refine T.GO.okl rJ λs H vs Q E G h _=>?_;intro X;let{p,dx,fs,a,e,k,rfl,hp,z,{i,j,rfl,rfl,i0,I,O},U,q}:=h;refine{_,(ay<|aG<|HK wG fL (au Ck M) (aP (uB T) G.mo {_} T.DU T.xT.kp T.Ea .nil aA (ae P0 aj))<|au Ck M)
  ,?_}
 have q:Q (.bl<|decide (i<=tz (k%65536))&&decide (tz (k%65536)<j)) H:=q H (GI.refl H);refine{_,M,p,_,dx,fs,_,M,hp,T.bR,T.jZ,z.at_,_,M,k,M,_,_,M,M,_,M,b4 (λc=>?_)<|λc=>?_}
 .refine{_,M,p,_,dx,fs,_,M,hp,T.bR,T.cW,z.end_,_,_,M,M,?_};rw[c,VF]at q;exact q
 .rw[Xk.mpr c,Vx]at q;exact q
def iE:Cy P w K mg base PJ 1 t.uN t.oj [cC,et] (dR t):=by
 refine T.Mz.okl At λs H vs Q E I h _=>?_;intro X;let{p,dx,fs,a,e,k,rfl,hp,G,{i,rfl,i0,he},O,q}:=h;refine{_,(ay<|aG<|gw (b7 wG (au Ck M) P0<|az _)<|gv<|Mb (b7 fN (au Ck M) bx<|az _)<|gv<|b7 fL P0 (au Ck M)<|az _)
  ,?_}
 have q:=q H (GI.refl H);rcases he with rfl|⟨j,rfl,U⟩
 .have q:Q (.bl<|decide (i<=k)) H:=q;refine{_,M,p,_,dx,fs,_,M,hp,T.iu,T.rX,G.at_,_,M,_,_,M,M,_,M,b4 (λc=>{_,M,p,_,dx,fs,_,M,hp,T.iu,T.kL,G.end_,M,_,M,dX M ?_})<|λc=>?_}
  .rw[c]at q;exact q
  .rw[Xk.mpr c]at q;exact q
 .have q:Q (.bl<|decide (i<=k)&&decide (k<j)) H:=q;refine{_,M,p,_,dx,fs,_,M,hp,T.iu,T.rX,G.at_,_,M,_,_,M,M,_,M,b4 (λc=>{_,M,p,_,dx,fs,_,M,hp,T.iu,T.kL,G.end_,M,_,M,bg (λz=>by cases z) {_,M,_,M,p,_,dx,fs,_,M,hp,T.iu,T.kL,G.end_,_,_,M,M,?_}})<|λc=>?_}
  .rw[c,VF]at q;exact q
  .rw[Xk.mpr c,Vx]at q;exact q
def fO:Cy P w K mg base PJ 1 t.qi t.kx [cC,et] (cQ t):=by
 refine T.Kj.okl wB λs H vs Q E I h _=>?_;intro X;let{p,dx,fs,a,e,k,rfl,hp,G,{j,rfl,O,ha},U,q}:=h;refine{_,(ay<|aG<|gw (b7 wG (au Ck M) P0<|az _)<|gv<|Mb (b7 fN (au Ck M) bx<|az _)<|gv<|b7 wG P0 (au Ck M)<|az _)
  ,?_}
 have q:=q H (GI.refl H);rcases ha with rfl|⟨i,rfl,Y⟩
 .have q:Q (.bl<|decide (j<=k)) H:=q;refine{_,M,p,_,dx,fs,_,M,hp,T.cP,T.jA,G.end_,_,M,_,_,M,M,_,M,b4 (λc=>{_,M,p,_,dx,fs,_,M,hp,T.cP,T.jd,G.at_,M,_,M,dX M ?_})<|λc=>?_}
  .rw[c]at q;exact q
  .rw[Xk.mpr c]at q;exact q
 .have q:Q (.bl<|decide (j<=k)&&decide (k<=i)) H:=q;refine{_,M,p,_,dx,fs,_,M,hp,T.cP,T.jA,G.end_,_,M,_,_,M,M,_,M,b4 (λc=>{_,M,p,_,dx,fs,_,M,hp,T.cP,T.jd,G.at_,M,_,M,bg (λz=>by cases z) {_,M,_,M,p,_,dx,fs,_,M,hp,T.cP,T.jd,G.at_,_,_,M,M,?_}})<|λc=>?_}
  .rw[c,VF]at q;exact q
  .rw[Xk.mpr c,Vx]at q;exact q
set_option genInjectivity false in
structure Ru where
 p:Addr
 mo:Int
 v:V
structure Rv(t:PB)(H:Hp)(m l:K')(es:List Ru):Prop where
 ob:∃dx,H m=some (.ins t.gQ dx [("made",.ref l)])
 li:H l=some (.lst<|es.map λe=>V.ref e.p)
 tu:∀e∈es,H e.p=some (.tup [.int e.mo,e.v])
def Rv.keep{m l:K'}{es:List Ru}(h:Rv t H m l es)(z:H' m=H m)(e2:H' l=H l)(tp:∀b xs,H b=some (.tup xs)->H' b=some (.tup xs)):Rv t H' m l es:={h.ob.imp λ_ e=>z.trans e,e2.trans h.li,λe he=>tp _ _<|h.tu e he}
def vT(t:PB):Sp:=λvs H Q _=>∃(a dx:K'),vs=[.ref a]/\H a=some (.ins t.gQ dx [])/\∀(H':Hp)(l:K'),Rv t H' a l []->H l=none->(∀b o,b≠a->H b=some o->H' b=some o)->Q .non H'
def wQ:Cy P w K mg base PJ 1 t.qb t.kh [cC] (vT t):=by
 refine T.Kc.okl wu λs H vs Q E I h _=>?_;intro X;let{a,dx,rfl,ha,q}:=h;refine{_,(ay<|bu Ck (bX aj) M)
  ,?_}
 refine{QT _,λl z=>{_,M,a,_,dx,[],M,(by rwa[af (ao ha z)]),T.Cv,T.yQ,(by show 0<1000;decide),?_}};have G:a≠l:=ao ha z;exact q _ l {⟨dx,ag⟩,by rw[af G.symm];exact ag,λe he=>by cases he} z λb o n e=>by rwa[af n,af (ao e z)]
def vS(t:PB):Sp:=λvs H Q _=>∃(m l:K')(es:List Ru)(mo:Int)(v:V),vs=[.ref m,.int mo,v]/\Rv t H m l es/\es.length<100000/\
 ∀(H':Hp)(p:K'),Rv t H' m l (es++ [⟨p,mo,v⟩])->H p=none->(∀b o,b≠l->H b=some o->H' b=some o)->Q .non H'
def wP:Cy P w K mg base PJ 1 t.qa t.kg [cC,"moment",u0] (vS t):=by
 refine T.Kb.okl wt λs H vs Q E O h _=>?_;intro X;let{m,l,es,mo,v,rfl,M',le,q}:=h;refine{_,(ay<|aT<|d6 QZ ZF ZG fh (au Ck M)<|ae (bM<|ae P0<|ae P1 aj) aj)
  ,?_}
 let{dx,G}:=M'.ob;refine{_,M,m,_,dx,_,_,M,G,T.Cv,T.yQ,M,.inl {M,_,E7.of M'.li},_,M,_,M,(by show 2<=sizeLine;decide),λp np=>?_};have s1:=al (o:= .tup [.int mo,v]) np;have pl:p≠l:=λz=>by rw[z,M'.li]at np;cases np
 have I:m≠l:=λz=>by have:=M'.li;rw[<-z,G]at this;cases this
 refine{l,_,_,M,M,s1 _ _ M'.li,bq (by rw[Q0];lia),?_};refine q _ p {{dx,by rw[af I];exact s1 _ _ G},by rw[ag,QO];rfl,λe he=>?_} np λb o n e=>by rw[af n];exact s1 _ _ e
 rcases Q5.mp he with he|he
 .have te:=s1 _ _ (M'.tu e he);rwa[af (λz=>by rw[z,s1 _ _ M'.li]at te;cases te)]
 .rw[Q7.mp he];rw[af pl];exact ag
def QI.notup(h:QI K t H a F st)(e:H b=some (.tup xs)):¬F b:=λhb=>by
 let{d,h1,h2,_}:=h;let{dx,I}:=h1.obj;have no:∀o,H b=some o->(∀ys,o≠ .tup ys)->False:=λo q n=>by rw[e]at q;exact n _ (Wq q).symm
 rcases(h2 b).mp hb with rfl|rfl|rfl|hb|⟨hs,rfl⟩|hb
 .exact no _ I<|λ_ z=>by cases z
 .exact no _ h1.tbl<|λ_ z=>by cases z
 .exact no _ h1.row0.lst<|λ_ z=>by cases z
 .let{_,_,_,_,q}:=h1.row0.has hb;exact no _ q<|λ_ z=>by cases z
 .have r1:=h1.row1;cases G:st.nxt with
  |none=>rw[G]at hs;cases hs
  |some m=>rw[G]at r1;exact no _ r1.lst<|λ_ z=>by cases z
 .have r1:=h1.row1;cases G:st.nxt with
  |none=>rw[G]at r1;rw[r1.1]at hb;cases hb
  |some m=>
   rw[G]at r1;let{_,_,_,_,q}:=r1.has hb;exact no _ q<|λ_ z=>by cases z
def Qz.notup(h:Qz K t H a F ks)(e:H b=some (.tup xs)):¬F b:=λhb=>by
 let{L,A,ls,h1,_,_,h2}:=h;let{dx,G}:=h1.obj;have no:∀o,H b=some o->(∀ys,o≠ .tup ys)->False:=λo q n=>by rw[e]at q;exact n _ (Wq q).symm
 rcases(h2 b).mp hb with rfl|rfl|hb
 .exact no _ G<|λ_ z=>by cases z
 .exact no _ h1.lst<|λ_ z=>by cases z
 .let{_,_,_,_,q}:=h1.has hb;exact no _ q<|λ_ z=>by cases z
set_option genInjectivity false in
structure Pk where
 k:Int
 m:Addr
 l:Addr
 es:List Ru
set_option genInjectivity false in
structure PX where
 now:Int
 fl:Int
 ma:Int
 st:P6
 ks:List Int
 di:List (Addr×List V)
 pa:List Pk
 ho:List (Int×V)
noncomputable def fQ:List Pk->Int->List Ru
 | [],_=> []
 |e::r,k=>if e.k=k then e.es else fQ r k
noncomputable def RI(pa:List Pk):List (Int×V):=pa.map λe=>(e.k,V.ref e.m)
def Qu(now fl:Int)(s l w:K')(mk:Int)(p h:K'):List (Str×V):=[("now",.int now),("floor",.int fl),(G',.ref s),(hL,.ref l),("written",.ref w),("marks",.int mk),("past",.ref p),("holders",.ref h)]
def NoH(m:Str):Prop:=m≠("now":Str)/\m≠("floor":Str)/\m≠(G':Str)/\m≠(hL:Str)/\m≠("written":Str)/\m≠("marks":Str)/\m≠("past":Str)/\m≠("holders":Str)
instance {m:Str}:Decidable (NoH m):=by unfold NoH;infer_instance
section
variable{now now' fl mk mk':Int}{s l w h:K'}{m:Str}
def vF:(Qu now fl s l w mk p h).lookup ("now":Str)=some (.int now):=fR
def NK:(Qu now fl s l w mk p h).lookup ("floor":Str)=some (.int fl):=by unfold Qu;rw[bE ∅,fR]
def xt:(Qu now fl s l w mk p h).lookup (G':Str)=some (.ref s):=by unfold Qu;rw[bE ∅,bE ∅,fR]
def D0:(Qu now fl s l w mk p h).lookup (hL:Str)=some (.ref l):=by unfold Qu;rw[bE ∅,bE ∅,bE ∅,fR]
def DY:(Qu now fl s l w mk p h).lookup ("written":Str)=some (.ref w):=by unfold Qu;rw[bE ∅,bE ∅,bE ∅,bE ∅,fR]
def DZ:(Qu now fl s l w mk p h).lookup ("marks":Str)=some (.int mk):=by unfold Qu;rw[bE ∅,bE ∅,bE ∅,bE ∅,bE ∅,fR]
def NI:(Qu now fl s l w mk p h).lookup ("past":Str)=some (.ref p):=by unfold Qu;rw[bE ∅,bE ∅,bE ∅,bE ∅,bE ∅,bE ∅,fR]
def NJ:(Qu now fl s l w mk p h).lookup ("holders":Str)=some (.ref h):=by unfold Qu;rw[bE ∅,bE ∅,bE ∅,bE ∅,bE ∅,bE ∅,bE ∅,fR]
def IF(n:NoH m):(Qu now fl s l w mk p h).lookup m=none:=by
 let{h1,h2,z,G,I,O,U,Y}:=n;unfold Qu;rw[bE h1,bE h2,bE z,bE G,bE I,bE O,bE U,bE Y];rfl
def KG:bP ("now":Str) (.int now') (Qu now fl s l w mk p h)=Qu now' fl s l w mk p h:=by unfold Qu;rw[bP,Wn M]
def M3:bP ("marks":Str) (.int mk') (Qu now fl s l w mk p h)=Qu now fl s l w mk' p h:=by
 unfold Qu;rw[bP,Wm ∅,bP,Wm ∅,bP,Wm ∅,bP,Wm ∅,bP,Wm ∅,bP,Wn M]
def EV:(Qu now fl s l w mk p h).length<1000:=by show 8<1000;decide
end
def Ow(a w p h:K')(pa:List Pk):Addr->Prop:=λb=>b=a\/b=w\/b=p\/b=h\/∃e∈pa,b=e.m\/b=e.l
structure Qx(t:PB)(H:Hp)(a s l w p h:K')(x:PX):Prop where
 ob:∃dx,H a=some (.ins t.bi dx<|Qu x.now x.fl s l w x.ma p h)
 wr:H w=some (.lst<|x.di.map λe=>V.ref e.1)
 dr:∀e∈x.di,H e.1=some (.tup e.2)
 pa:H p=some (.dK<|aI<|RI x.pa)
 ho:H h=some (.dK<|aI x.ho)
 mx:∀e∈x.pa,Rv t H e.m e.l e.es
 ph:p≠h
 wl:∀e∈x.pa,e.l≠w
 kd:(x.pa.map (·.k)).Nodup
 md:(x.pa.map (·.m)).Nodup
 ld:(x.pa.map (·.l)).Nodup
def dw{t u:TS}(M':To)(h1:∀nx,(∀z H',M' z H'->nx z H')->t {D with nx:=nx} B H)(h2:∀z H',M' z H'->u D z H'):Ag t u D B H:=h1 (u D) h2
def zC{kvs:Sn}:uG (aI kvs)=(kvs.map (·.1)).map V.int:=by
 unfold uG aI;rw[Z2,Z2];rfl
def bO{g:Str}{x:V}{r:Tb}(n:g≠f):bP f v ((g,x)::r)=(g,x)::bP f v r:=by rw[bP,Wm n]
def cN{H2:Hp}(s:GI H H2)(n:H2 p=none):H p=none:=by
 cases e:H p with
 |none=>rfl
 |some o=>rw[s _ _ e]at n;cases n
def HU{f:α->β}{l:List α}(n:(l.map f).Nodup){x y:α}(hx:x∈l)(hy:y∈l)(e:f x=f y):x=y:=by
 induction l with
 |nil=>cases hx
 |cons z r G=>
  let{n1,I}:=Zv.mp n;rcases QS.mp hx with rfl|hx'<;>rcases QS.mp hy with rfl|hy'
  .rfl
  .exact Ws (QJ.mpr ⟨y,hy',e.symm⟩) n1
  .exact Ws (QJ.mpr ⟨x,hx',e⟩) n1
  .exact G I hx' hy'
section
variable{s l w h:K'}{x:PX}{pa:List Pk}{y:Ru}
def Qx.dom(A:Qx t H a s l w p h x)(hb:Ow a w p h x.pa b):∃o,H b=some o/\∀ys,o≠ .tup ys:=by
 let{dx,G}:=A.ob;rcases hb with rfl|rfl|rfl|rfl|⟨e,he,rfl|rfl⟩
 .exact{_,G,λ_ z=>by cases z}
 .exact{_,A.wr,λ_ z=>by cases z}
 .exact{_,A.pa,λ_ z=>by cases z}
 .exact{_,A.ho,λ_ z=>by cases z}
 .let{O,I}:=(A.mx e he).ob;exact{_,I,λ_ z=>by cases z}
 .exact{_,(A.mx e he).li,λ_ z=>by cases z}
def Qx.keep(A:Qx t H a s l w p h x)(g:∀b,Ow a w p h x.pa b->H' b=H b)(tp:∀b xs,H b=some (.tup xs)->H' b=some (.tup xs)):Qx t H' a s l w p h x:=
 {A.ob.imp λ_ e=>(g a<|.inl M).trans e,(g w<|.inr<|.inl M).trans A.wr,λe he=>tp _ _<|A.dr e he,(g p<|.inr<|.inr<|.inl M).trans A.pa,(g h<|.inr<|.inr<|.inr<|.inl M).trans A.ho,
  λe he=>(A.mx e he).keep (g _<|.inr<|.inr<|.inr<|.inr {e,he,.inl M}) (g _<|.inr<|.inr<|.inr<|.inr {e,he,.inr M}) tp,A.ph,A.wl,A.kd,A.md,A.ld}
def Qx.same(A:Qx t H a s l w p h x)(m:GI H H'):Qx t H' a s l w p h x:=A.keep (λb hb=>by
 let{o,e,_}:=A.dom hb;rw[e];exact m _ _ e) λb xs e=>m _ _ e
def Qx.set(A:Qx t H a s l w p h x){now mk:Int}{fl:Int}:Qx t (upd H a<|.ins t.bi dx<|Qu now fl s l w mk p h) a s l w p h {x with now:=now,fl:=fl,ma:=mk}:=by
 let{O,G}:=A.ob;have n:∀{b:K'}{o:HO},H b=some o->(∀c d fs,o= .ins c d fs->fs.length=1)->b≠a:=λe i z=>by
  rw[z,G]at e;have:=i _ _ _ (Wq e).symm;cases this
 have nt:∀{b:K'}{o:HO},H b=some o->(∀c d fs,o≠ .ins c d fs)->b≠a:=λe i=>n e λc d fs z=>Ws z (i c d fs);refine{⟨dx,ag⟩,by rw[af (nt A.wr λ_ _ _ z=>by cases z)];exact A.wr,λe he=>by rw[af (nt (A.dr e he) λ_ _ _ z=>by cases z)];exact A.dr e he,by rw[af (nt A.pa λ_ _ _ z=>by cases z)];exact A.pa,
  by rw[af (nt A.ho λ_ _ _ z=>by cases z)];exact A.ho,λe he=>?_,A.ph,A.wl,A.kd,A.md,A.ld}
 have M':=A.mx e he;let{U,I}:=M'.ob;exact M'.keep (af<|n I λ_ _ _ z=>by cases z;rfl) (af<|nt M'.li λ_ _ _ z=>by cases z) λb xs e=>by rwa[af (nt e λ_ _ _ z=>by cases z)]
def Qx.row(A:Qx t H a s l w p h x)(G:H r=some (.tup xs)):Qx t (upd H w<|.lst<|x.di.map (λe=>V.ref e.1)++ [.ref r]) a s l w p h {x with di:=x.di++ [(r,xs)]}:=by
 let{O,I}:=A.ob;have nt:∀{b:K'}{o:HO},H b=some o->(∀ys,o≠ .lst ys)->b≠w:=λe i z=>by
  rw[z,A.wr]at e;exact i _ (Wq e).symm
 refine{{O,by rw[af (nt I λ_ z=>by cases z)];exact I},by rw[ag,QO];rfl,λe he=>?_,by rw[af (nt A.pa λ_ z=>by cases z)];exact A.pa,by rw[af (nt A.ho λ_ z=>by cases z)];exact A.ho,λe he=>?_,A.ph,A.wl,A.kd,A.md,A.ld}
 .rcases Q5.mp he with he|he
  .rw[af (nt (A.dr e he) λ_ z=>by cases z)];exact A.dr e he
  .rwa[Q7.mp he,af (nt G λ_ z=>by cases z)]
 .have M':=A.mx e he;let{Y,U}:=M'.ob;exact M'.keep (af<|nt U λ_ z=>by cases z) (af<|A.wl e he) λb xs e=>by rwa[af (nt e λ_ z=>by cases z)]
noncomputable def RX(pa:List Pk)(k:Int)(y:Ru):List Pk:=pa.map λe=>if e.k=k then{e with es:=e.es++ [y]}else e
def zo{f:Pk->β}(hf:∀e es,f {e with es:=es}=f e):(RX pa k y).map f=pa.map f:=by
 unfold RX;rw[Z2];refine X8 λe _=>?_;show f (if e.k=k then _ else e)=_;split
 .exact hf _ _
 .rfl
set_option tactic.hygienic true in
def AD{e:Pk}(h:e∈RX pa k y):∃g∈pa,e.k=g.k/\e.m=g.m/\e.l=g.l/\((g.k=k/\e.es=g.es++ [y])\/(g.k≠k/\e.es=g.es)):=by
 let{g,z,rfl}:=QJ.mp h;refine{g,z,?_};split
 .rename_i c;exact{M,M,M,.inl ⟨c,M⟩}
 .rename_i c;exact{M,M,M,.inr ⟨c,M⟩}
def Nc(hb:Ow a w p h (RX pa k y) b):Ow a w p h pa b:=by
 rcases hb with z|z|z|z|⟨e,he,z⟩
 .exact .inl z
 .exact .inr<|.inl z
 .exact .inr<|.inr (.inl z)
 .exact .inr<|.inr (.inr<|.inl z)
 .let{g,G,_,e2,I,_}:=AD he;rw[e2,I]at z;exact .inr<|.inr (.inr<|.inr ⟨g,G,z⟩)
def Qx.noted(A:Qx t H a s l w p h x){e:Pk}(he:e∈x.pa)(Z:e.k=k)(M':Rv t H' e.m e.l (e.es++ [y]))(U:∀b o,b≠e.l->H b=some o->H' b=some o):Qx t H' a s l w p h {x with pa:=RX x.pa k y}:=by
 let{dy,ho}:=A.ob;have hl:=(A.mx e he).li;have nt:∀{b:K'}{o:HO},H b=some o->(∀ys,o≠ .lst ys)->H' b=some o:=λe i=>U _ _ (λz=>by
  rw[z,hl]at e;exact i _ (Wq e).symm) e
 refine{{dy,nt ho<|λ_ z=>by cases z},U _ _ (A.wl e he).symm A.wr,λe he=>nt (A.dr e he) (λ_ z=>by cases z),?_,nt A.ho (λ_ z=>by cases z),λf hf=>?_,A.ph,λf hf=>?_,?_,?_,?_}
 .show H' p=some (.dK<|aI<|RI<|RX x.pa k y);unfold RI;rw[zo λ_ _=>rfl];exact nt A.pa λ_ z=>by cases z
 .obtain⟨g,G,e1,e2,I,⟨c,Y⟩|⟨c,Y⟩⟩:=AD hf
  .have:g=e:=HU A.kd G he (c.trans Z.symm);subst this;rw[e2,I,Y];exact M'
  .have O:=A.mx g G;let{dm,hm}:=O.ob;rw[e2,I,Y];exact O.keep ((nt hm λ_ z=>by cases z).trans hm.symm) ((U _ _ (λz=>c<|by rwa[HU A.ld G he z]) O.li).trans O.li.symm) λb xs e=>nt e λ_ z=>by cases z
 .let{g,G,_,_,I,_}:=AD hf;rw[I];exact A.wl g G
 .show((RX x.pa k y).map (·.k)).Nodup;rw[zo λ_ _=>rfl];exact A.kd
 .show((RX x.pa k y).map (·.m)).Nodup;rw[zo λ_ _=>rfl];exact A.md
 .show((RX x.pa k y).map (·.l)).Nodup;rw[zo λ_ _=>rfl];exact A.ld
def EA(pa:List Pk)(k:Int):(aH (RI pa) k=none/\k∉pa.map (·.k))\/∃e∈pa,e.k=k/\aH (RI pa) k=some (.ref e.m)/\fQ pa k=e.es:=by
 induction pa with
 |nil=>exact .inl {kD,λz=>by cases z}
 |cons e r O=>
  show(aH ((e.k,V.ref e.m)::RI r) k=none/\_)\/∃g∈e::r,g.k=k/\aH ((e.k,V.ref e.m)::RI r) k=_/\(if e.k=k then e.es else fQ r k)=_;by_cases c:e.k=k
  .exact .inr {e,QK,c,bD c,Wn c}
  .rw[bz c,Wm c];rcases O with⟨G,I⟩|⟨g,U,G,I,Y⟩
   .refine .inl {G,λz=>?_};rw[Z0]at z;rcases QS.mp z with z|z
    .exact c z.symm
    .exact I z
   .exact .inr {g,QM _ U,G,I,Y}
theorem zx:∀{pa:List Pk},k∉pa.map (·.k)->fQ pa k=[]
 | [],_=>rfl
 |e::r,n=>by
  rw[Z0]at n;show(if e.k=k then e.es else fQ r k)=[];rw[Wm λz=>n (by rw[z];exact QK)];exact zx λz=>n (QM _ z)
theorem rZ{j:Int}:∀{pa:List Pk},k∈pa.map (·.k)->fQ (RX pa k y) j=if j=k then fQ pa k++ [y]else fQ pa j
 |e::r,n=>by
  show(if(if e.k=k then{e with es:=e.es++ [y]}else e:Pk).k=j then(if e.k=k then{e with es:=e.es++ [y]}else e:Pk).es else fQ (RX r k y) j)=if j=k then(if e.k=k then e.es else fQ r k)++ [y]else(if e.k=j then e.es else fQ r j)
  by_cases c:e.k=k
  .rw[Wn c,Wn c];show(if e.k=j then e.es++ [y]else fQ (RX r k y) j)=_;by_cases d:j=k
   .rw[Wn d,Wn (c.trans d.symm)]
   .rw[Wm d,Wm λz=>d (z.symm.trans c),Wm λz=>d (z.symm.trans c)];by_cases m:k∈r.map (·.k)
    .rw[rZ m,Wm d]
    .have:RX r k y=r:=by
      unfold RX
      conv=>rhs;rw[<-List.map_id r]
      refine X8 λg G=>Wm λz=>m ?_;rw[<-z];exact QJ.mpr ⟨g,G,M⟩
     rw[this]
  .rw[Wm c,Wm c];have m:k∈r.map (·.k):=by
    rw[Z0]at n;rcases QS.mp n with z|z
    .exact Ws z.symm c
    .exact z
   rw[rZ m];by_cases d:j=k
   .rw[Wn d,Wn d,Wm λz=>c (z.trans d)]
   .rw[Wm d,Wm d]
theorem xa{e:Pk}{j:Int}:∀{pa:List Pk},e.k∉pa.map (·.k)->fQ (pa++ [e]) j=if j=e.k then e.es else fQ pa j
 | [],_=>by
  show(if e.k=j then e.es else[])=if j=e.k then e.es else[]
  by_cases c:e.k=j
  .rw[Wn c,Wn c.symm]
  .rw[Wm c,Wm (Ne.symm c)]
 |g::r,n=>by
  rw[Z0]at n;show(if g.k=j then g.es else fQ (r++ [e]) j)=if j=e.k then e.es else(if g.k=j then g.es else fQ r j)
  rw[xa λz=>n (QM _ z)];by_cases c:g.k=j
  .rw[Wn c,Wn c,Wm λz=>n (by rw[<-z,<-c];exact QK)]
  .rw[Wm c,Wm c]
def Qx.newk(A:Qx t H a s l w p h x){m g:K'}(nk:k∉x.pa.map (·.k))(M':Rv t H m g [])(n1:¬Ow a w p h x.pa m)(O:¬Ow a w p h x.pa g):Qx t (upd H p<|.dK<|aI<|RI x.pa++ [(k,.ref m)]) a s l w p h {x with pa:=x.pa++ [⟨k,m,g,[]⟩]}:=by
 let{dy,U}:=A.ob;have nt:∀{b:K'}{o:HO},H b=some o->(∀ys,o≠ .dK ys)->b≠p:=λe i z=>by
  rw[z,A.pa]at e;exact i _ (Wq e).symm
 have Y:∀{m' Z:K'}{es:List Ru}{o:HO},Rv t H m' Z es->Rv t (upd H p o) m' Z es:=λM'=>by
  let{dm,hm}:=M'.ob;exact M'.keep (af<|nt hm λ_ z=>by cases z) (af<|nt M'.li λ_ z=>by cases z) λb xs e=>by rwa[af (nt e λ_ z=>by cases z)]
 refine{{dy,by rwa[af (nt U λ_ z=>by cases z)]},by rw[af (nt A.wr λ_ z=>by cases z)];exact A.wr,λe he=>by rw[af (nt (A.dr e he) λ_ z=>by cases z)];exact A.dr e he,?_,by rw[af A.ph.symm];exact A.ho,λe he=>?_,A.ph,λe he=>?_,?_,?_,?_}
 .rw[ag];show _=some (HO.dK<|aI<|RI<|x.pa++ [{k,m,g,[]}]);unfold RI;rw[QO];rfl
 .rcases Q5.mp he with he|he
  .exact Y<|A.mx e he
  .rw[Q7.mp he];exact Y M'
 .rcases Q5.mp he with he|he
  .exact A.wl e he
  .rw[Q7.mp he];exact λz=>O (.inr<|.inl z)
 all_goals
  rw[QO];refine VV.mpr {?_,by simp,λu hu v G z=>?_}
 .exact A.kd
 .cases Q7.mp G;rw[z]at hu;exact nk hu
 .exact A.md
 .cases Q7.mp G;let{e,he,I}:=QJ.mp hu;exact n1<|.inr (.inr<|.inr<|.inr {e,he,.inl<|z.symm.trans I.symm})
 .exact A.ld
 .cases Q7.mp G;let{e,he,I}:=QJ.mp hu;exact O<|.inr (.inr<|.inr<|.inr {e,he,.inr<|z.symm.trans I.symm})
end
structure QC(pa pa':List Pk)(k:Int)(y:Ru):Prop where
 of:∀j,fQ pa' j=if j=k then fQ pa k++ [y]else fQ pa j
 ky:pa'.map (·.k)=if k∈pa.map (·.k)then pa.map (·.k)else pa.map (·.k)++ [k]
structure RM(K:JZ)(t:PB)(H:Hp)(a s l w p h:K')(Fs Fl:O')(x:PX):Prop where
 o:Qx t H a s l w p h x
 sl:QI K t H s Fs x.st
 lv:Qz K t H l Fl x.ks
 a1:∀b,Fs b->¬Fl b
 a2:∀b,Ow a w p h x.pa b->¬Fs b
 a3:∀b,Ow a w p h x.pa b->¬Fl b
def RS(a w p h:K')(Fs Fl:O')(pa:List Pk):Addr->Prop:=λb=>Fs b\/Fl b\/Ow a w p h pa b
section
variable{s l w h:K'}{Fs Fs' Fl Fl':O'}{x:PX}
def RM.slots(Jz:RM K t H a s l w p h Fs Fl x)(S:QI K t H' s Fs' st)(f:Fr Fs Fs' H H'):RM K t H' a s l w p h Fs' Fl {x with st:=st}/\Fr (RS a w p h Fs Fl x.pa) (RS a w p h Fs' Fl x.pa) H H':=by
 have k1:∀b,Fl b->H' b=H b/\¬Fs' b:=λb hb=>by
  let{o,e}:=Jz.lv.dom hb;have:=f b o (λz=>Jz.a1 b z hb) e;exact{this.1.trans e.symm,this.2}
 have k2:∀b,Ow a w p h x.pa b->H' b=H b/\¬Fs' b:=λb hb=>by
  let{o,e,_}:=Jz.o.dom hb;have:=f b o (Jz.a2 b hb) e;exact{this.1.trans e.symm,this.2}
 have O:=Jz.o.keep (H':=H') (λb hb=>(k2 b hb).1) λb xs e=>(f b _ (Jz.sl.notup e) e).1;exact{{⟨O.ob,O.wr,O.dr,O.pa,O.ho,O.mx,O.ph,O.wl,O.kd,O.md,O.ld⟩,S,Jz.lv.frame λb hb=>(k1 b hb).1,λb h1 h2=>(k1 b h2).2 h1,λb hb=>(k2 b hb).2,Jz.a3},λb o n e=>{(f b o (λz=>n<|.inl z) e).1,λz=>z.elim (f b o (λz=>n<|.inl z) e).2 λz=>n<|.inr z}}
def RM.leaves(Jz:RM K t H a s l w p h Fs Fl x)(S:Qz K t H' l Fl' ks)(f:Fr Fl Fl' H H'):RM K t H' a s l w p h Fs Fl' {x with ks:=ks}/\Fr (RS a w p h Fs Fl x.pa) (RS a w p h Fs Fl' x.pa) H H':=by
 have k1:∀b,Fs b->H' b=H b/\¬Fl' b:=λb hb=>by
  let{o,e}:=Jz.sl.dom hb;have:=f b o (Jz.a1 b hb) e;exact{this.1.trans e.symm,this.2}
 have k2:∀b,Ow a w p h x.pa b->H' b=H b/\¬Fl' b:=λb hb=>by
  let{o,e,_}:=Jz.o.dom hb;have:=f b o (Jz.a3 b hb) e;exact{this.1.trans e.symm,this.2}
 have O:=Jz.o.keep (H':=H') (λb hb=>(k2 b hb).1) λb xs e=>(f b _ (Jz.lv.notup e) e).1;exact{{⟨O.ob,O.wr,O.dr,O.pa,O.ho,O.mx,O.ph,O.wl,O.kd,O.md,O.ld⟩,Jz.sl.frame λb hb=>(k1 b hb).1,S,λb h1=>(k1 b h1).2,Jz.a2,λb hb=>(k2 b hb).2},λb o n e=>{(f b o (λz=>n<|.inr<|.inl z) e).1,λz=>z.elim (λz=>n<|.inl z) λz=>z.elim (f b o (λz=>n<|.inr<|.inl z) e).2 λz=>n<|.inr (.inr z)}}
def RM.own(Jz:RM K t H a s l w p h Fs Fl x)(O:Qx t H' a s l w p h x')(G:x'.st=x.st)(e2:x'.ks=x.ks)(f:Fr (Ow a w p h x.pa) (Ow a w p h x'.pa) H H'):RM K t H' a s l w p h Fs Fl x'/\Fr (RS a w p h Fs Fl x.pa) (RS a w p h Fs Fl x'.pa) H H':=by
 have k1:∀b,Fs b->H' b=H b/\¬Ow a w p h x'.pa b:=λb hb=>by
  let{o,e}:=Jz.sl.dom hb;have:=f b o (λz=>Jz.a2 b z hb) e;exact{this.1.trans e.symm,this.2}
 have k2:∀b,Fl b->H' b=H b/\¬Ow a w p h x'.pa b:=λb hb=>by
  let{o,e}:=Jz.lv.dom hb;have:=f b o (λz=>Jz.a3 b z hb) e;exact{this.1.trans e.symm,this.2}
 exact{{O,by rw[G];exact Jz.sl.frame λb hb=>(k1 b hb).1,by rw[e2];exact Jz.lv.frame λb hb=>(k2 b hb).1,Jz.a1,λb h1 h2=>(k1 b h2).2 h1,λb h1 h2=>(k2 b h2).2 h1},λb o n e=>{(f b o (λz=>n<|.inr<|.inr z) e).1,λz=>z.elim (λz=>n<|.inl z) λz=>z.elim (λz=>n<|.inr<|.inl z) (f b o (λz=>n<|.inr<|.inr z) e).2}}
def RM.dom(Jz:RM K t H a s l w p h Fs Fl x)(hb:RS a w p h Fs Fl x.pa b):∃o,H b=some o/\∀ys,o≠ .tup ys:=by
 have no:∀F:Addr->Prop,F b->(∀xs,H b=some (.tup xs)->¬F b)->∀o,H b=some o->∃o,H b=some o/\∀ys,o≠ .tup ys:=λF G n o e=>{o,e,λys z=>n ys (by rw[e,z]) G};rcases hb with hb|hb|hb
 .let{o,e}:=Jz.sl.dom hb;exact no Fs hb (λxs e=>Jz.sl.notup e) o e
 .let{o,e}:=Jz.lv.dom hb;exact no Fl hb (λxs e=>Jz.lv.notup e) o e
 .exact Jz.o.dom hb
def RM.keep(Jz:RM K t H a s l w p h Fs Fl x)(g:∀b,RS a w p h Fs Fl x.pa b->H' b=H b)(tp:∀b xs,H b=some (.tup xs)->H' b=some (.tup xs)):RM K t H' a s l w p h Fs Fl x:=
 {Jz.o.keep (λb hb=>g b<|.inr<|.inr hb) tp,Jz.sl.frame λb hb=>g b<|.inl hb,Jz.lv.frame λb hb=>g b<|.inr<|.inl hb,Jz.a1,Jz.a2,Jz.a3}
end
structure QH(x:PX):Prop where
 ks:∀z,z∈x.ks↔(aH x.st.kv z).isSome=true
 n0:0<=x.now
 m0:0<=x.ma
 dl:(x.di.length:Int)=x.now+x.ma
 pl:(x.pa.length:Int)<=x.now
 el:∀j,((fQ x.pa j).length:Int)<=x.now
 sl:(x.st.kv.length:Int)<=x.now
 hn:(x.ho.map (·.1)).Nodup
 hv:∀p∈x.ho,x.fl<=p.1/\p.1<=x.now/\∃n:Int,p.2= .int n/\0<n
 fb:0<=x.fl/\x.fl<=x.now
 up:∀j,(fQ x.pa j).Pairwise (λa b=>a.mo<b.mo)/\∀y∈fQ x.pa j,y.mo<=x.now
def PY(K:JZ)(t:PB)(H:Hp)(a:K')(F:O')(x:PX):Prop:=∃s l w p h Fs Fl,RM K t H a s l w p h Fs Fl x/\QH x/\∀b,F b↔RS a w p h Fs Fl x.pa b
section
variable{x:PX}
def PY.ins(A:PY K t H a F x):∃dx fs,H a=some (.ins t.bi dx fs)/\(∀m,NoH m->fs.lookup m=none)/\fs.lookup ("now":Str)=some (.int x.now)/\fs.lookup ("floor":Str)=some (.int x.fl):=by
 let{s,l,w,p,h,Fs,Fl,Jz,_}:=A;let{dx,e}:=Jz.o.ob;exact{dx,_,e,λm z=>IF z,vF,NK}
def PY.ok(A:PY K t H a F x):QH x:=by
 let{s,l,w,p,h,Fs,Fl,Jz,O,_}:=A;exact O
def PY.dom(A:PY K t H a F x)(hb:F b):∃o,H b=some o/\∀ys,o≠ .tup ys:=by
 let{s,l,w,p,h,Fs,Fl,Jz,_,g}:=A;exact Jz.dom<|(g b).mp hb
def PY.out(A:PY K t H a F x)(e:H b=none):¬F b:=λz=>by
 let{o,q,_}:=A.dom z;rw[q]at e;cases e
def PY.keep(A:PY K t H a F x)(g:∀b,F b->H' b=H b)(tp:∀b xs,H b=some (.tup xs)->H' b=some (.tup xs)):PY K t H' a F x:=by
 let{s,l,w,p,h,Fs,Fl,Jz,O,f}:=A;exact{s,l,w,p,h,Fs,Fl,Jz.keep (λb hb=>g b<|(f b).mpr hb) tp,O,f}
def PY.same(A:PY K t H a F x)(m:GI H H'):PY K t H' a F x:=A.keep (λb hb=>by
 let{o,e,_}:=A.dom hb;rw[e];exact m _ _ e) λb xs e=>m _ _ e
def PY.upd(A:PY K t H a F x)(n:¬F q)(nt:∀xs,H q≠some (.tup xs)):PY K t (L2.upd H q o) a F x:=A.keep (λb hb=>af λz=>n<|z▸hb) λb xs e=>by rwa[af λz=>nt xs (by rw[<-z];exact e)]
end
def vZ(t:PB):Sp:=λvs H Q _=>∃(a s l w p h r:K')(k:Int)(x:PX)(v:V)(xs:Sm),vs=[.ref a,.ref r,v]/\Qx t H a s l w p h x/\H r=some (.tup xs)/\RO xs 1=some (.int k)/\x.di.length<50000/\x.pa.length<50000/\(fQ x.pa k).length<50000/\
 ∀(H':Hp)(pa':List Pk)(q:K'),Qx t H' a s l w p h {x with now:=x.now+1,di:=x.di++ [(r,xs)],pa:=pa'}->QC x.pa pa' k {q,x.now+1,v}->Fr (Ow a w p h x.pa) (Ow a w p h pa') H H'->Q (.int<|x.now+1) H'
def nV:Cy P w K mg base PJ 3 t.qh t.ku [cC,"row",u0] (vZ t):=by
 refine T.Ki.okl wA λs H vs Q E hr h _=>?_;intro X;let{a,s,l,wr,p,h,r,k,x,v,xs,rfl,A,ht,hk,l1,l2,l3,q}:=h;refine ak (PF 3<|aR bY P0 ai<|λ_ _=>M)
   (ak (iM Ck ai xq)
   (ak (aT<|d6 QZ ZF ZG fh (au Ck M)<|ae P0 aj)
   (ak (aT<|aW (d6 ZB W7 PySem.F.type_dict_setdefault FW (au Ck M)<|ae PM<|ae (rP T.OQ (wQ T) hr.mo {_} T.OT T.JU .nil aA) aj) T.Cv T.JK (wP T) hr.mo T.JT .nil aA<|ae (au Ck M)<|ae P1 aj)
   (aB (aG<|au Ck M) ?_))))
 intros
 let{dx,ho}:=A.ob;refine{_,M,r,_,_,_,M,M,Px.of ht,hk,?_};refine{_,M,a,_,dx,_,_,M,ho,T.aO,T.lV,vF,_,_,M,M,dx,_,ho,EV,?_};rw[KG];have A1:=A.set (now:=x.now+1) (mk:=x.ma) (fl:=x.fl) (dx:=dx);have o1:∀b o,b≠a->H b=some o->upd H a (.ins t.bi dx<|Qu (x.now+1) x.fl s l wr x.ma p h) b=some o:=λb o n e=>by rwa[af n]
 have ra:r≠a:=λz=>by rw[z,ho]at ht;cases ht
 have O:=o1 _ _ ra ht;generalize upd H a (.ins t.bi dx<|Qu (x.now+1) x.fl s l wr x.ma p h)=H1 at A1 o1 O⊢;let{a3,a0}:=A1.ob;refine{_,M,a,_,a3,_,_,M,a0,T.aO,T.gx,DY,.inl {M,_,E7.of A1.wr},_,M,wr,_,_,M,M,A1.wr,bq (by rw[Q0];show x.di.length<=_;lia),?_};have U:=A1.row O;have o2:∀b o,¬Ow a wr p h x.pa b->H b=some o->upd H1 wr (.lst<|x.di.map (λe=>V.ref e.1)++ [.ref r]) b=some o:=λb o n e=>by rw[af λz=>n (.inr<|.inl z)];exact o1 _ _ (λz=>n<|.inl z) e
 generalize upd H1 wr (.lst<|x.di.map (λe=>V.ref e.1)++ [.ref r])=H2 at U o2⊢;let{a4,a1}:=U.ob;refine{_,M,a,_,a4,_,_,M,a1,T.aO,T.yR,NI,.inr<|.inr<|.inl {M,.inl {_,U.pa}},_,M,λm dm nm nd a5=>{m,dm,M,ag,λH4 g M4 ng o4=>{M,?_}}};have s3:GI H2 (upd (upd H2 dm<|.own m) m<|.ins t.gQ dm []):=b6 (al nd) nm;have s4:GI H2 H4:=λb o e=>o4 b o (λz=>by rw[z,nm]at e;cases e) (s3 b o e);have Y:=cN s3 ng;have A4:=U.same s4;have om:¬Ow a wr p h x.pa m:=λz=>by let{o,e,_}:=U.dom z;rw[nm]at e;cases e
 have og:¬Ow a wr p h x.pa g:=λz=>by let{o,e,_}:=U.dom z;rw[Y]at e;cases e
 have o5:∀b o,¬Ow a wr p h x.pa b->H b=some o->H4 b=some o/\b≠m/\b≠g:=λb o n e=>{s4 _ _<|o2 b o n e,λz=>(by have:=o2 b o n e;rw[z,nm]at this;cases this),λz=>(by have:=o2 b o n e;rw[z,Y]at this;cases this)};clear s3 s4 o4 o2 o1 A1 U a1 a0 ho A ng nm nd a5 Y O ht;refine{p,_,Sum.inl k,.ref m,M,M,A4.pa,(by rw[b9];exact bq<|by show(RI x.pa).length<=_;unfold RI;rw[Q0];lia),λu hu=>?A,λZ=>?Jz}
 case' A=>
  have hu:aH (aI<|RI x.pa) (Sum.inl k:Key)=some u:=hu;rw[PK]at hu;obtain⟨e,he,I,ev,em⟩:∃e∈x.pa,e.k=k/\aH (RI x.pa) k=some (.ref e.m)/\fQ x.pa k=e.es:=by
   rcases EA x.pa k with⟨z,_⟩|z
   .rw[z]at hu;cases hu
   .exact z
  rw[ev]at hu;cases hu;obtain⟨G,A5,he,N,f5⟩:∃G,Qx t H4 a s l wr p h {x with now:=x.now+1,di:=x.di++ [(r,xs)],pa:=G}/\e∈G/\(∀y,QC x.pa (RX G k y) k y)/\Fr (Ow a wr p h x.pa) (Ow a wr p h G) H H4:=
   {x.pa,A4,he,λy=>{λj=>rZ<|QJ.mpr ⟨e,he,I⟩,by rw[zo λ_ _=>M,Wn (QJ.mpr ⟨e,he,I⟩)]},λb o n e=>{(o5 b o n e).1,n}}
  have le:e.es.length<50000:=by rwa[<-em]
  clear A4 em ev o5
 case' Jz=>
  have Z:aH (aI<|RI x.pa) (Sum.inl k:Key)=none:=Z;rw[PK]at Z;have nk:k∉x.pa.map (·.k):=by
   rcases EA x.pa k with⟨_,z⟩|⟨e,_,_,z,_⟩
   .exact z
   .rw[z]at Z;cases Z
  have ep:a9 (aI<|RI x.pa) (Sum.inl k:Key) (.ref m)=aI (RI x.pa++ [(k,.ref m)]):=by
   rw[dW];unfold a9;rw[dI,Z];rfl
  rw[ep];obtain⟨e,ee,I,le⟩:∃e:Pk,e={k,m,g,[]}/\e.k=k/\e.es.length<50000:={_,M,M,by show 0<50000;decide};obtain⟨G,A5,he,N,f5⟩:∃G,Qx t (upd H4 p<|.dK<|aI<|RI x.pa++ [(k,.ref m)]) a s l wr p h {x with now:=x.now+1,di:=x.di++ [(r,xs)],pa:=G}/\e∈G/\(∀y,QC x.pa (RX G k y) k y)/\Fr (Ow a wr p h x.pa) (Ow a wr p h G) H (upd H4 p<|.dK<|aI<|RI x.pa++ [(k,.ref m)]):=by
   refine{x.pa++ [e],ee▸A4.newk nk M4 om og,Z8 _ QK,λy=>{λj=>?_,?_},λb o n eb=>{?_,λz=>?_}}
   .have a2:e.k∉x.pa.map (·.k):=by rwa[I]
    rw[rZ (by rw[QO];exact Z8 _<|Q7.mpr I.symm),xa a2,xa a2,Wn I.symm,zx nk,ee];by_cases c:j=k
    .rw[Wn c,Wn c]
    .rw[Wm c,Wm c,Wm c]
   .rw[zo λ_ _=>M,Wm nk,QO,<-I];rfl
   .rw[af λz=>n (.inr<|.inr<|.inl z)];exact(o5 b o n eb).1
   .rcases z with z|z|z|z|⟨e',a6,z⟩
    .exact n<|.inl z
    .exact n<|.inr (.inl z)
    .exact n<|.inr (.inr<|.inl z)
    .exact n<|.inr (.inr<|.inr<|.inl z)
    .rcases Q5.mp a6 with y|y
     .exact n<|.inr (.inr<|.inr<|.inr ⟨e',y,z⟩)
     .rw[Q7.mp y,ee]at z;exact z.elim (o5 b o n eb).2.1 (o5 b o n eb).2.2
  have em:V.ref m=V.ref e.m:=by rw[ee]
  clear A4 M4 o5 om og Z nk ep;generalize upd H4 p (.dK<|aI<|RI x.pa++ [(k,.ref m)])=H5 at A5 f5⊢;rw[em]
 all_goals
  have M5:=A5.mx e he;let{dy,hm}:=M5.ob;let{a8,aa}:=A5.ob;refine{e.m,dy,_,M,hm,bE ∅,_,M,a,_,a8,_,_,M,aa,T.aO,T.lV,vF,_,M,e.m,e.l,e.es,_,v,M,M5,(),λH6 y M6 ny o6=>?_};have A6:=A5.noted he I M6 o6;let{ac,ah}:=A6.ob;refine{_,M,a,_,ac,_,_,M,ah,T.aO,T.lV,vF,q _ _ y A6 (N _)<|f5.trans λb o n eb=>{o6 b o (λz=>n<|.inr<|.inr<|.inr<|.inr {e,he,.inr z}) eb,λz=>n<|Nc z}}
def PX.new:PX:={0,0,0,P6.new,[],[],[],[]}
def PX.new_ok:QH PX.new:={λz=>{(λy=>by cases y),(λy=>by cases y)},(_),(_),M,(_),λ_=>by show((0:Nat):Int)<=0;decide,(_),ZE,(λ_ z=>by cases z),(_),λ_=>{WK,(λy z=>by cases z)}}
def c4{nx:Hp->Prop}(k:∀H',H' a=some (.ins C dx<|bP f v fs)->(∀b,b≠a->H' b=H b)->nx H'):nx (upd H a<|.ins C dx<|bP f v fs):=k _ ag λ_ n=>af n
def lY{n m:Nat}(h:Nat.ble (n+1) m=true):n<m:=Nat.le_of_ble_eq_true h
def vW(K:JZ)(t:PB):Sp:=λvs H Q _=>∃(a dx:K'),vs=[.ref a]/\H a=some (.ins t.bi dx [])/\∀H' F,PY K t H' a F PX.new->Fr (λb=>b=a) F H H'->Q .non H'
def wS:Cy P w K mg base PJ 4 t.qe t.kq [cC] (vW K t):=by
 refine T.Kf.okl wx λs H vs Q E hr h _=>?_;intro X;let{a,dx,rfl,ha,q}:=h;refine ak (bu Ck ai M)
   (ak (bu Ck ai M)
   (ak (bu Ck (rP T.OP (wN T) hr.mo {_} T.OS T.JR .nil aA) M)
   (ak (bu Ck (rP T.Oe (vj T) hr.mo {_} T.Og T.Jv .nil aA) M)
   (ak (bu Ck (bX aj) M)
   (ak (bu Ck ai M)
   (ak (bu Ck i7 M)
   (aB (bu Ck i7 M) ?_)))))))
 intros
 refine{_,M,a,_,dx,[],M,ha,T.aO,T.lV,lY (by kernel_rfl),c4 λH1 h1 o1=>?_};refine{_,M,a,_,dx,_,M,h1,T.aO,T.wZ,lY (by kernel_rfl),c4 λH2 h2 o2=>?_};refine λs ds ns G a0=>{s,ds,M,ag,by rw[af a0];exact ag,λH3 Fs S3 f3=>{M,?_}};have k3:∀b o,H2 b=some o->H3 b=some o/\¬Fs b:=λb o e=>f3 b o (λz=>z.elim (λz=>by rw[z,ns]at e;cases e) λz=>by rw[z,G]at e;cases e) (b6 (al G) ns _ _ e);let{h3,na}:=k3 _ _ h2;refine{_,M,a,_,dx,_,M,h3,T.aO,T.dM,lY (by kernel_rfl),c4 λH4 h4 o4=>?_};have S4:=S3.frame (H':=H4) λb hb=>o4 b λz=>na (z▸hb);refine λl dl nl I a1=>{l,dl,M,ag,by rw[af a1];exact ag,λH5 Fl L5 f5=>{M,?_}};have k5:∀b o,H4 b=some o->H5 b=some o/\¬Fl b:=λb o e=>f5 b o (λz=>z.elim (λz=>by rw[z,nl]at e;cases e) λz=>by rw[z,I]at e;cases e) (b6 (al I) nl _ _ e);let{h5,nb}:=k5 _ _ h4;refine{_,M,a,_,dx,_,M,h5,T.aO,T.g8,lY (by kernel_rfl),c4 λH6 h6 o6=>?_};have L6:=L5.frame (H':=H6) λb hb=>o6 b λz=>nb (z▸hb);have S6:=(S4.same λb o e=>(k5 b o e).1).frame (H':=H6) λb hb=>o6 b λz=>na (z▸hb);have ap:∀b,Fs b->¬Fl b:=λb hb=>by
  let{o,e}:=S4.dom hb;exact(k5 b o e).2
 have k6:∀b o,b≠a->H b=some o->H6 b=some o/\¬Fs b/\¬Fl b:=λb o n e=>by
  let{e3,n3}:=k3 b o (by rwa[o2 b n,o1 b n]);let{e5,n5}:=k5 b o (by rwa[o4 b n]);exact{by rwa[o6 b n],n3,n5}
 clear f3 k3 f5 k5 S4 L5 S3 ns G a0 nl I a1 h1 h2 h3 h4 h5 o1 o2 o4 o6;refine{QT _,λwr nw=>{_,M,a,_,dx,_,M,al nw _ _ h6,T.aO,T.gx,lY (by kernel_rfl),c4 λH7 h7 o7=>?_}};refine{_,M,a,_,dx,_,M,h7,T.aO,T.jc,lY (by kernel_rfl),c4 λH8 h8 o8=>?_};refine λp np=>{_,M,a,_,dx,_,M,al np _ _ h8,T.aO,T.yR,lY (by kernel_rfl),c4 λH9 h9 o9=>?_};refine λh nh=>{_,M,a,_,dx,_,M,al nh _ _ h9,T.aO,T.uc,lY (by kernel_rfl),c4 λa2 a4 a3=>?_};have kk:∀{A Jz:Hp}{q:K'}{u:HO},A q=none->(∀b,b≠a->Jz b=upd A q u b)->∀b o,b≠a->A b=some o->Jz b=some o:=λnq e b o n h=>by rwa[e b n,af (ao h nq)]
 have wa:=(ao h6 nw).symm;have pa':=(ao h8 np).symm;have U:=(ao h9 nh).symm;have e8:∀b o,b≠a->H6 b=some o->H8 b=some o:=λb o n e=>by rw[o8 b n];exact kk nw o7 b o n e
 have e9:=kk np o9;have Y:=kk nh a3;have w8:H8 wr=some (.lst []):=by rw[o8 _ wa,o7 _ wa];exact ag
 have p9:H9 p=some (.dK []):=by rw[o9 _ pa'];exact ag
 have Z:∀b o,b≠a->H6 b=some o->a2 b=some o:=λb o n e=>Y b o n (e9 b o n<|e8 b o n e);have O:Qx t a2 a s l wr p h PX.new:={{dx,a4.trans<|by kernel_rfl},Y _ _ wa<|e9 _ _ wa w8,(λe he=>by cases he),Y _ _ pa' p9,by rw[a3 _ U];exact ag,(λe he=>by cases he),ao p9 nh,(λe he=>by cases he),ZE,ZE,ZE};have fresh:∀b,(b=wr\/b=p\/b=h)->H6 b=none:=λb hb=>by
  cases e:H6 b with
  |none=>rfl
  |some o=>
   rcases hb with rfl|rfl|rfl
   .rw[nw]at e;cases e
   .rw[e8 _ _ pa' e]at np;cases np
   .rw[e9 _ _ U (e8 _ _ U e)]at nh;cases nh
 have ow:∀b,Ow a wr p h [] b->b=a\/H6 b=none:=λb hb=>by
  rcases hb with z|z|z|z|⟨e,he,_⟩
  .exact .inl z
  .exact .inr<|fresh b (.inl z)
  .exact .inr<|fresh b (.inr<|.inl z)
  .exact .inr<|fresh b (.inr<|.inr z)
  .cases he
 refine q _ (RS a wr p h Fs Fl []) {s,l,wr,p,h,Fs,Fl,{O,S6.frame λb hb=>?_,L6.frame λb hb=>?_,ap,λb hb z=>?_,λb hb z=>?_},PX.new_ok,λ_=>Iff.rfl} λb o n e=>?_
 .let{o,e}:=S6.dom hb;rw[e];exact Z b o (λz=>na<|z▸hb) e
 .let{o,e}:=L6.dom hb;rw[e];exact Z b o (λz=>nb<|z▸hb) e
 .rcases ow b hb with y|y
  .exact na<|y▸z
  .exact S6.out y z
 .rcases ow b hb with y|y
  .exact nb<|y▸z
  .exact L6.out y z
 .let{c1,c2,c3}:=k6 b o n e;refine{Z b o n c1,λz=>?_};rcases z with z|z|z
  .exact c2 z
  .exact c3 z
  .rcases ow b z with y|y
   .exact n y
   .rw[c1]at y;cases y
def qq(K:JZ)(t:PB):Sp:=λvs H Q _=>∃(a:K')(F:O')(x:PX),vs=[.ref a]/\PY K t H a F x/\x.now+x.ma<40000/\
 ∀(H':Hp)(F':O')(r:K'),PY K t H' a F' {x with ma:=x.ma+1,di:=x.di++ [(r,[.str ge,.int (x.ma+1)])]}->Fr F F' H H'->Q (.int<|x.ma+1) H'
def i9:Cy P w K mg base PJ 1 t.jG t.fY [cC] (qq K t):=by
 refine T.Fm.okl qw λs H vs Q E hr h _=>?_;intro X;let{a,F,x,rfl,A,l1,q}:=h;refine ak (iM Ck ai xq)
   (ak (aT<|d6 QZ ZF ZG fh (au Ck M)<|ae (bM<|ae bQ<|ae (au Ck M) aj) aj)
   (aB (aG<|au Ck M) ?_))
 intros
 let{s,l,wr,p,h,Fs,Fl,Jz,O,g}:=A;let{dx,ho}:=Jz.o.ob;refine{_,M,a,_,dx,_,_,M,ho,T.aO,T.jc,DZ,_,_,M,M,dx,_,ho,EV,?_};rw[M3];have A1:=Jz.o.set (now:=x.now) (mk:=x.ma+1) (fl:=x.fl) (dx:=dx);have f1:Fr (Ow a wr p h x.pa) (Ow a wr p h x.pa) H (upd H a<|.ins t.bi dx<|Qu x.now x.fl s l wr (x.ma+1) p h):=λb o n e=>{by rwa[af λz=>n (.inl z)],n};generalize upd H a (.ins t.bi dx<|Qu x.now x.fl s l wr (x.ma+1) p h)=H1 at A1 f1⊢;let{G,I}:=A1.ob;have dl:=O.dl;refine{_,M,a,_,G,_,_,M,I,T.aO,T.gx,DY,.inl {M,_,E7.of A1.wr},?_};refine{_,M,a,_,G,_,_,M,I,T.aO,T.jc,DZ,(by show 2<=sizeLine;decide),λr nr=>?_};have s2:=al (o:= .tup [.str ge,.int (x.ma+1)]) nr;have U:=A1.same s2;have f2:=f1.trans (Fr.of_same s2);have ht:upd H1 r (.tup [.str ge,.int (x.ma+1)]) r=some (.tup [.str ge,.int (x.ma+1)]):=ag;generalize upd H1 r (.tup [.str ge,.int (x.ma+1)])=H2 at U f2 ht⊢;refine{wr,_,_,M,M,U.wr,bq (by rw[Q0];show x.di.length<=_;lia),?_};have Y:=U.row ht;have f3:Fr (Ow a wr p h x.pa) (Ow a wr p h x.pa) H (upd H2 wr<|.lst<|x.di.map (λe=>V.ref e.1)++ [.ref r]):=λb o n e=>{by rw[af λz=>n (.inr<|.inl z)];exact(f2 b o n e).1,n};generalize upd H2 wr (.lst<|x.di.map (λe=>V.ref e.1)++ [.ref r])=H3 at Y f3⊢;let{Z,a0}:=Y.ob;let{B3,f4}:=Jz.own Y M M f3;refine{_,M,a,_,Z,_,_,M,a0,T.aO,T.jc,DZ,q H3 F r {s,l,wr,p,h,Fs,Fl,B3,{O.ks,O.n0,?_,?_,O.pl,O.el,O.sl,O.hn,O.hv,O.fb,O.up},g} ?_}
 .have:=O.m0;show 0<=x.ma+1;lia
 .show((x.di++ [(r,_)]).length:Int)=x.now+(x.ma+1);rw[Q6,Zt];lia
 .exact λb o n e=>{(f4 b o (λz=>n<|(g b).mpr z) e).1,n}
def PY.klen{x:PX}(A:PY K t H a F x):(x.ks.length:Int)<=x.now:=by
 let{s,l,w,p,h,Fs,Fl,Jz,O,_}:=A;let{L,A,ls,_,ok,e,_}:=Jz.lv;have nd:x.ks.Nodup:=by
  rw[<-e];exact List.Pairwise.imp (λh z=>()) ok.up
 have:=gR (S:=x.st.kv.map (·.1)) nd λz hz=>mem_keys.mpr ((O.ks z).mp hz);rw[Q0]at this;have:=O.sl;lia
def QH.noted{x:PX}{y:Ru}(O:QH x)(N:QC x.pa pa' k y):(pa'.length:Int)<=x.now+1/\∀j,((fQ pa' j).length:Int)<=x.now+1:=by
 constructor
 .have h1:=O.pl;have h2:=WG List.length N.ky;rw[Q0]at h2;split at h2
  .rw[Q0]at h2;lia
  .rw[Q6,Q0,Zt]at h2;lia
 .intro j;rw[N.of];split
  .have:=O.el k;rw[Q6,Zt];lia
  .have:=O.el j;lia
def QH.hv1{x:PX}(O:QH x):∀p∈x.ho,x.fl<=p.1/\p.1<=x.now+1/\∃n:Int,p.2= .int n/\0<n:=λp hp=>{(O.hv p hp).1,by have:=(O.hv p hp).2.1;lia,(O.hv p hp).2.2}
def QH.fb1{x:PX}(O:QH x):0<=x.fl/\x.fl<=x.now+1:={O.fb.1,by have:=O.fb.2;lia}
def QH.up1{x:PX}{y:Ru}(O:QH x)(N:QC x.pa pa' k y)(e:y.mo=x.now+1):∀j,(fQ pa' j).Pairwise (λa b=>a.mo<b.mo)/\∀z∈fQ pa' j,z.mo<=x.now+1:=λj=>by
 rw[N.of];let{I,G}:=O.up k;split
 .refine{QU.mpr {I,ZZ _ _,λa ha b hb=>?_},λz hz=>?_}
  .rw[Q7.mp hb,e];have:=G a ha;lia
  .rcases Q5.mp hz with hz|hz
   .have:=G z hz;lia
   .rw[Q7.mp hz,e];exact ZL _
 .let{U,Y}:=O.up j;exact{U,λz hz=>by have:=Y z hz;lia}
def yi(K:JZ)(t:PB):Sp:=λvs H Q _=>∃(a:K')(k i:Int)(F:O')(x:PX),vs=[.ref a,.int k,.int i]/\PY K t H a F x/\0<=k/\x.now+x.ma<4000/\
 ∀(H':Hp)(F':O')(ks':R')(r q:K')(pa':List Pk),PY K t H' a F' {x with now:=x.now+1,st:=x.st.put k (.int i),ks:=ks',di:=x.di++ [(r,[.str "put",.int k,.int i])],pa:=pa'}->QC x.pa pa' k {q,x.now+1,.int i}->Fr F F' H H'->Q (.int<|x.now+1) H'
set_option tactic.hygienic true in
def yO:Cy P w K mg base PJ 5 t.tw t.mD [cC,et,u0] (yi K t):=by
 refine T.LL.okl yB λs H vs Q E hr h _=>?_;intro X;let{a,k,i,F,x,rfl,A,k0,l1,q}:=h;refine ak (aS (lQ<|cU<|aW (au Ck M) T.aK T.AK (pM T) hr.mo T.Bb .nil aA<|ae P0 aj)
    (ay<|aT<|aW (au Ck M) T.aM T.JL (wR T) hr.mo T.JV .nil aA<|ae P0 aj)
    aJ)
   (ak (aT<|aW (au Ck M) T.aK T.K0 (yK T) hr.mo T.Lw .nil aA<|ae P0<|ae P1 aj)
   (aB (aG<|aW Ck T.aO T.yV (nV T) hr.mo T.y6 .nil aA<|ae (bM<|ae bQ<|ae P0<|ae P1 aj)<|ae P1 aj) ?_))
 intros
 have kl:=A.klen;let{s,l,wr,p,h,Fs,Fl,Jz,O,g}:=A;have n0:=O.n0;have m0:=O.m0;have sl:=O.sl;let{dx,ho}:=Jz.o.ob;let{ds,fs,hs,hm}:=Jz.sl.ins
 (try dsimp only)
 refine dw (λB H2=>∃(U G:O')(I:R'),B=[some (.ref a),some (.int k),some (.int i)]/\RM K t H2 a s l wr p h U G {x with ks:=I}/\(∀z,z∈I↔z=k\/z∈x.ks)/\Fr (RS a wr p h Fs Fl x.pa) (RS a wr p h U G x.pa) H H2) (λnx go=>?_)<|λB H2 w=>?_
 .refine{_,M,a,_,dx,_,_,M,ho,T.aO,T.dM,xt,s,ds,fs,M,hs,hm _ ∅,_,M,s,k,Fs,x.st,M,Jz.sl,k0,λH1 a0 S1 f1=>?_};let{B1,g1}:=Jz.slots S1 f1;let{a1,a2}:=B1.o.ob;let{dl,fl,hl,a3}:=B1.lv.ins;cases ev:(aH x.st.kv k).isSome with
  |true=>
   refine{_,M,b4 (λc=>?_)<|λ_=>?_}
   .cases c
   .exact go _ _ {a0,Fl,x.ks,M,B1,λz=>{.inr,λy=>y.elim (λy=>by rw[y];exact(O.ks k).mpr ev) id},g1}
  |false=>
   have nk:k∉x.ks:=λz=>by have:=(O.ks k).mp z;rw[ev]at this;cases this
   refine{_,M,b4 (λ_=>?_)<|λc=>?_}
   .refine{_,M,a,_,a1,_,_,M,a2,T.aO,T.g8,D0,l,dl,fl,M,hl,a3 _ ∅,_,M,l,k,Fl,x.ks,M,B1.lv,(),λ_ H2 G I L2 mem f2=>?_,λz=>Ws z nk};let{Z,g2}:=B1.leaves L2 f2;exact go _ _ {a0,G,I,M,Z,mem,g1.trans g2}
   .exact Ws M c
 .let{U,G,I,rfl,Z,mem,g2}:=w;let{a4,a5}:=Z.o.ob;let{a6,a8,aa,ac}:=Z.sl.ins;refine{_,M,a,_,a4,_,_,M,a5,T.aO,T.dM,xt,s,a6,a8,M,aa,ac _ ∅,_,M,_,M,s,k,i,U,x.st,M,Z.sl,k0,(),λH3 Y S3 f3=>?_};let{B3,g3}:=Z.slots S3 f3;let{ah,an}:=B3.o.ob;refine{_,M,a,ah,_,M,an,IF ∅,_,M,_,M,(by show 3<=sizeLine;decide),λr nr=>?_};have s4:=al (o:= .tup [.str "put",.int k,.int i]) nr;have ht:upd H3 r (.tup [.str "put",.int k,.int i]) r=some (.tup [.str "put",.int k,.int i]):=ag;have B4:RM K t (upd H3 r<|.tup [.str "put",.int k,.int i]) a s l wr p h Y G _:=B3.keep (λb hb=>by
   let{o,e,_}:=B3.dom hb;rw[e];exact s4 _ _ e) λb xs e=>s4 _ _ e
  have g4:=(g2.trans g3).trans (Fr.of_same s4);generalize upd H3 r (.tup [.str "put",.int k,.int i])=H4 at B4 ht g4⊢;have dl:=O.dl;have pl:=O.pl;have el:=O.el k;refine{_,M,a,s,l,wr,p,h,r,k,_,.int i,_,M,B4.o,ht,M,by show x.di.length<50000;lia,by show x.pa.length<50000;lia,by show(fQ x.pa k).length<50000;lia,λH5 pa' y O5 N f5=>?_};let{B5,g5}:=B4.own O5 M M f5;let{N1,N2}:=O.noted N;have ek:(x.st.put k<|.int i).kv=a9 x.st.kv k (.int i):=P6.three_kv;refine q H5 (RS a wr p h Y G pa') I r y pa' {s,l,wr,p,h,Y,G,B5,{λz=>?_,by show 0<=x.now+1;lia,m0,?_,N1,N2,?_,O.hn,O.hv1,O.fb1,O.up1 N M},λ_=>Iff.rfl} N ?_
  .show z∈I↔(aH (x.st.put k<|.int i).kv z).isSome=true;rw[mem,ek,<-mem_keys,sj,O.ks];split
   .rename_i c
    rw[mem_keys];exact{λy=>y.elim (λy=>y▸c) id,.inr}
   .rw[Q5,Q7,mem_keys];exact{λy=>y.elim .inr .inl,λy=>y.elim .inr .inl}
  .show((x.di++ [(r,_)]).length:Int)=x.now+1+x.ma;rw[Q6,Zt];lia
  .show((x.st.put k<|.int i).kv.length:Int)<=x.now+1;rw[ek];have:=cw x.st.kv k (.int i);lia
  .exact λb o n e=>(g4.trans g5) b o (λz=>n<|(g b).mpr z) e
def vY(K:JZ)(t:PB):Sp:=λvs H Q E=>∃(a:K')(k:Int)(F:O')(x:PX),vs=[.ref a,.int k]/\PY K t H a F x/\0<=k/\x.now+x.ma<4000/\
 ((aH x.st.kv k).isSome=true->∀(H':Hp)(F':O')(ks':R')(r q:K')(pa':List Pk),PY K t H' a F' {x with now:=x.now+1,st:=x.st.drop k,ks:=ks',di:=x.di++ [(r,[.str J',.int k])],pa:=pa'}->QC x.pa pa' k {q,x.now+1,.non}->Fr F F' H H'->Q (.int<|x.now+1) H')/\
 (aH x.st.kv k=none->False)
def wU:Cy P w K mg base PJ 6 t.qg t.kt [cC,et] (vY K t):=by
 refine T.Kh.okl wz λs H vs Q E Z h _=>?_;intro X;let{a,k,F,x,rfl,A,k0,l1,q,qx}:=h;refine ak (aT<|aW (au Ck M) T.aK T.JJ (wO T) Z.mo T.JS .nil aA<|ae P0 aj)
   (ak (aT<|aW (au Ck M) T.aM T.EJ (qF T) Z.mo T.Fb .nil aA<|ae P0 aj)
   (aB (aG<|aW Ck T.aO T.yV (nV T) Z.mo T.y6 .nil aA<|ae (bM<|ae bQ<|ae P0 aj)<|ae bx aj) ?_))
 intros
 have kl:=A.klen;let{s,l,wr,p,h,Fs,Fl,Jz,O,g}:=A;have n0:=O.n0;have m0:=O.m0;have sl:=O.sl;let{dx,ho}:=Jz.o.ob;let{ds,fs,hs,hm}:=Jz.sl.ins
 (try dsimp only)
 refine{_,M,a,_,dx,_,_,M,ho,T.aO,T.dM,xt,s,ds,fs,M,hs,hm _ ∅,_,M,s,k,Fs,x.st,M,Jz.sl,k0,λev=>{(),λH1 G S1 f1=>?_},λhn=>(qx hn).elim}
 .let{Y,g1}:=Jz.slots S1 f1;let{a0,a1}:=Y.o.ob;let{dl,fl,hl,a2}:=Y.lv.ins;refine{_,M,a,_,a0,_,_,M,a1,T.aO,T.g8,D0,l,dl,fl,M,hl,a2 _ ∅,_,M,l,k,Fl,x.ks,M,Y.lv,(),λ_ H2 I U L2 mem f2=>?_,λz=>Ws ((O.ks k).mpr ev) z};let{B3,g3}:=Y.leaves L2 f2;let{a3,a4}:=B3.o.ob;refine{_,M,a,a3,_,M,a4,IF ∅,_,M,(by show 2<=sizeLine;decide),λr nr=>?_};have s4:=al (o:= .tup [.str J',.int k]) nr;have ht:upd H2 r (.tup [.str J',.int k]) r=some (.tup [.str J',.int k]):=ag;have B4:RM K t (upd H2 r<|.tup [.str J',.int k]) a s l wr p h G I _:=B3.keep (λb hb=>by
   let{o,e,_}:=B3.dom hb;rw[e];exact s4 _ _ e) λb xs e=>s4 _ _ e
  have g4:=(g1.trans g3).trans (Fr.of_same s4);generalize upd H2 r (.tup [.str J',.int k])=H4 at B4 ht g4⊢;have dl:=O.dl;have pl:=O.pl;have el:=O.el k;refine{a,s,l,wr,p,h,r,k,_,.non,_,M,B4.o,ht,M,by show x.di.length<50000;lia,by show x.pa.length<50000;lia,by show(fQ x.pa k).length<50000;lia,λH5 pa' y O5 N f5=>?_};let{B5,g5}:=B4.own O5 M M f5;let{N1,N2}:=O.noted N;have ek:(x.st.drop k).kv=bT x.st.kv k:=P6.three_kv;refine q ev H5 (RS a wr p h G I pa') U r y pa' {s,l,wr,p,h,G,I,B5,{λz=>?_,by show 0<=x.now+1;lia,m0,?_,N1,N2,?_,O.hn,O.hv1,O.fb1,O.up1 N M},λ_=>Iff.rfl} N ?_
  .show z∈U↔(aH (x.st.drop k).kv z).isSome=true;rw[mem,ek,fc,O.ks];by_cases c:z=k
   .rw[Wn c];exact{λy=>Ws c y.1,λy=>by cases y}
   .rw[Wm c];exact{λy=>y.2,λy=>⟨c,y⟩}
  .show((x.di++ [(r,_)]).length:Int)=x.now+1+x.ma;rw[Q6,Zt];lia
  .show((x.st.drop k).kv.length:Int)<=x.now+1;rw[ek];have:(bT x.st.kv k).length<=x.st.kv.length:=QX _ _;lia
  .exact λb o n e=>(g4.trans g5) b o (λz=>n<|(g b).mpr z) e
def Jk{f:α->V}{ms:List α}{g:Int}(h:0<=g):mV (ms.map f) (some g) none=(ms.drop g.toNat).map f:=by
 unfold mV HT.sIx;dsimp only;rw[Wm (),XH];rcases VU g.toNat (ms.map f).length with c|c
 .rw[ZP c];exact Z1<|by rw[Zc];lia
 .rw[Vl c,Vo c,Vo (Q4 _),Vh]
def uT(K:JZ)(t:PB):Sp:=λvs H Q _=>∃(a:K')(lo:Int)(F:O')(x:PX),vs=[.ref a,.int lo]/\PY K t H a F x/\0<=lo/\
 ∀(H':Hp)(r:K'),GI H H'->H r=none->H' r=some (.lst<|(x.di.drop lo.toNat).map λe=>V.ref e.1)->Q (.ref r) H'
def eP:Cy P w K mg base PJ 1 t.oJ t.fZ [cC,"low"] (uT K t):=by
 have z:=Qk.nd;refine T.JE.ok Qk (λvs H Q E h=>?_)<|λG A outer s H vs Q E Y h=>?_
 .let{a,lo,F,x,rfl,_}:=h;rfl
 .let{a,lo,F,x,rfl,A,I,q}:=h;refine{_,(ay<|aG<|eK gL (au Ck M) (dS<|aD (pq M) {_} T.G0 AZ (ae P0<|ae ai aj)) lR)
   ,?_}
  let{s,l,wr,p,h,Fs,Fl,Jz,O,g}:=A;let{dx,U}:=Jz.o.ob;refine{_,M,a,_,dx,_,_,M,U,T.aO,T.gx,DY,?_};have e0:(if(0:Int)>lo then(0:Int)else lo)=lo:=Wm ();refine{_,M,_,_,M,lo,by rw[e0],wr,_,M,E7.of Jz.o.wr,λr nr=>q _ r (al nr) nr ?_};rw[ag,Jk I]
def PY.di{x:PX}(A:PY K t H a F x):∀e∈x.di,H e.1=some (.tup e.2):=by
 let{s,l,wr,p,h,Fs,Fl,Jz,O,g}:=A;exact Jz.o.dr
def vX(K:JZ)(t:PB):Sp:=λvs H Q _=>∃(a:K')(F:O')(x:PX),vs=[.ref a]/\PY K t H a F x/\x.ho.length<4000/\
 ∀(H':Hp)(l:K')(ms:R'),GI H H'->H l=none->H' l=some (.lst<|ms.map V.int)->ms.Perm (x.ho.map (·.1))->ms.Pairwise (· <= ·)->Q (.ref l) H'
def wT:Cy P w K mg base PJ 1 t.qf t.kr [cC] (vX K t):=by
 refine T.Kg.okl wy λs H vs Q E G h _=>?_;intro X;let{a,F,x,rfl,A,l1,q}:=h;refine{_,(ay<|aG<|aD (sQ G.hd) {_} T.Bo uz (ae (au Ck M) aj))
  ,?_}
 let{s,l,wr,p,h,Fs,Fl,Jz,O,g}:=A;let{dx,I}:=Jz.o.ob;exact{_,M,a,_,dx,_,_,M,I,T.aO,T.uc,NJ,h,_,x.ho.map (·.1),M,.inl Jz.o.ho,zC,λl ms z U pw=>q _ l ms (al z) z ag U pw}
def Rm(t:PB)(H:Hp)(p:K')(up:Bool)(a e:V):Prop:=∃dx fs,H p=some (.ins (if up=true then t.dZ else t.cv) dx fs)/\y7 (if up=true then "up" else "down") fs a e/\if up=true then RN a e else RH a e
def uD(up:Bool)(a:V)(ks:R'):List Int:=match up,a with
 |true,.int i=>ks.filter λz=>decide (i<=z)
 |false,.int i=>ks.reverse.filter (ft<|some i)
 |_,_=>ks.reverse.filter (ft none)
def Ai(K:JZ)(t:PB):Sp:=λvs H Q _=>∃(l p:K')(n:Int)(up:Bool)(a e:V)(F:O')(ks:R'),vs=[.ref l,.ref p,.int n]/\Qz K t H l F ks/\Rm t H p up a e/\ks.length<4096/\0<=n/\
 ∀(H':Hp)(r:K'),GI H H'->H r=none->H' r=some (.lst<|((uD up a ks).take n.toNat).map V.int)->Q (.ref r) H'
def AF:Cy P w K mg base PJ 3 t.uJ t.n9 [hL,fe,xG] (Ai K t):=by
 refine T.CG.okl Aq λs H vs Q E z h _=>?_;intro X;let{l,p,n,up,a,e,F,ks,rfl,L,O,l1,n0,q}:=h;refine cI (λx=>aS (cU<|aD (mF K M) {_} T.dQ cH (ae P0<|ae (cK (v:= .ref t.dZ) {_} T.Ia M) aj)) x aJ) ?_;refine aB (aG<|aW Ck T.aM T.EI (qE T) z.mo T.Fa .nil aA<|ae (au P0 M)<|ae P1 aj) ?_
 intros
 refine aB (aG<|aW Ck T.aM T.CO (nU T) z.mo T.CV .nil aA<|ae (au P0 M)<|ae P1 aj) ?_
 intros
 let{dx,fs,hp,G,ok}:=O;let{dl,fl,hl,I}:=L.ins;cases up with
 |true=>
  have hp:H p=some (.ins t.dZ dx fs):=hp;let{i,rfl,i0,_}:=(show RN a e from ok);exact{_,M,_,_,_,_,M,Py.ins hp T.iu T.mW.1 T.mW.2 T.mW.3 T.mW.4,T.IB,_,M,cy {_,M,l,dl,fl,M,hl,I _ ∅,_,M,p,_,dx,fs,_,M,hp,T.iu,T.rX,G.at_,_,M,l,i,n,F,ks,M,L,l1,n0,q}}
 |false=>
  have hp:H p=some (.ins t.cv dx fs):=hp;let{j,rfl,U,ha}:=(show RH a e from ok);refine{_,M,_,_,_,_,M,Py.ins hp T.cP T.fv.1 T.fv.2 T.fv.3 T.fv.4,T.DW,_,M,cu {_,M,l,dl,fl,M,hl,I _ ∅,_,M,p,_,dx,fs,_,M,hp,T.cP,T.jd,G.at_,_,M,?_}};rcases ha with rfl|⟨i,rfl,_⟩
  .exact⟨l,none,n,F,ks,M,L,l1,n0,q⟩
  .exact{l,some i,n,F,ks,M,L,l1,n0,q}
def uO(t:PB):Sp:=λvs H Q _=>∃(p:K')(up:Bool)(a e:V)(k:Int),vs=[.ref p,.int k]/\Rm t H p up a e/\(if up=true then RN (.int<|k+1) e else RH (.int<|k-1) e)/\
 ∀(H':Hp)(r:K'),GI H H'->H r=none->Rm t H' r up (.int<|if up=true then k+1 else k-1) e->Q (.ref r) H'
def vd:Cy P w K mg base PJ 5 t.oB t.jf [fe,et] (uO t):=by
 refine T.xS.okl uX λs H vs Q E hr h _=>?_;intro X;let{p,up,a,e,k,rfl,TK,G,q}:=h;refine cI (λx=>aS (cU<|aD (mF K M) {_} T.dQ cH (ae Ck<|ae (cK (v:= .ref t.dZ) {_} T.Ia M) aj)) x aJ) ?_;refine aB (aG<|iD T.OO (uC T) hr.mo {_} T.Ia T.Eb .nil aA (ae (aq bG P0 ai)<|ae (au Ck M) aj)) ?_
 intros
 refine aB (aG<|iD T.KS (pN T) hr.mo {_} T.KW T.Bc .nil aA (ae (aq eV P0 ai)<|ae (au Ck M) aj)) ?_
 intros
 let{dx,fs,hp,tf,ok}:=TK;have kp:∀{H1 H':Hp}{r:K'},GI H H1->H r=none->RA r H1 H'->GI H H':=λs n k b o e=>k b o (s b o e) λz=>by rw[z,n]at e;cases e
 cases up with
 |true=>
  have hp:H p=some (.ins t.dZ dx fs):=hp;have G:RN (.int<|k+1) e:=G;have Y:Sc e:=by
   obtain⟨_,_,_,he|⟨j,he,_⟩⟩:=G
   .rw[he];exact WD
   .rw[he];exact T0 _
  refine{_,M,_,_,_,_,M,Py.ins hp T.iu T.mW.1 T.mW.2 T.mW.3 T.mW.4,T.IB,_,M,cy {_,M,_,_,M,M,_,M,p,_,dx,fs,_,M,hp,T.iu,T.kL,tf.end_,λr U nr nd Z=>{r,U,_,_,M,ag,T0 _,Y,λ_ H' fs' I h' O=>{M,?_},λz=>Ws G z}}};exact q H' r (kp (b6 (al nd) nr) nr I) nr ⟨U,fs',h',O,G⟩
 |false=>
  have hp:H p=some (.ins t.cv dx fs):=hp;have G:RH (.int<|k-1) e:=G;have Y:Sc e:=by
   let{_,he,_}:=G;rw[he];exact T0 _
  refine{_,M,_,_,_,_,M,Py.ins hp T.cP T.fv.1 T.fv.2 T.fv.3 T.fv.4,T.DW,_,M,cu {_,M,_,_,M,M,_,M,p,_,dx,fs,_,M,hp,T.cP,T.jA,tf.end_,λr U nr nd Z=>{r,U,_,_,M,ag,T0 _,Y,λ_ H' fs' I h' O=>{M,?_},λz=>Ws G z}}};exact q H' r (kp (b6 (al nd) nr) nr I) nr ⟨U,fs',h',O,G⟩
def hK(up:Bool):V->V->Int->Bool:=if up=true then hU else hD
def cE(up:Bool)(a e:V)(ks:R'):List Int:=(if up=true then ks else ks.reverse).filter (hK up a e)
theorem jv{α:Type}{h:α->Bool}:∀{xs:List α}{n:Nat},xs.Pairwise (λx y=>h y=true->h x=true)->(xs.take n).filter h=(xs.filter h).take n
 | [],n,_=>by rw[Vh,List.filter_nil,Vh]
 |x::r,0,_=>rfl
 |x::r,n+1,w=>by
  let{I,G}:=Xq.mp w;rw[VE];by_cases c:h x=true
  .rw[List.filter_cons_of_pos c,List.filter_cons_of_pos c,VE,jv G]
  .have z:r.filter h=[]:=Xr.mpr λy hy O=>c (I y hy O);rw[List.filter_cons_of_neg c,List.filter_cons_of_neg c,jv G,z,Vh,Vh]
def FT{up:Bool}{a:V}{n:Nat}(ok:if up=true then RN a e else RH a e)(r:dH ks):((uD up a ks).take n).filter (hK up a e)=(cE up a e ks).take n:=by
 cases up with
 |true=>
  let{i,rfl,i0,he}:=(show RN a e from ok);have q:∀z,hU (.int i) e z=true->decide (i<=z)=true:=λz hz=>by
   rcases he with rfl|⟨j,rfl,_⟩
   .exact hz
   .exact(Zj.mp hz).1
  show((ks.filter λz=>decide (i<=z)).take n).filter (hU (.int i) e)=(ks.filter<|hU (.int i) e).take n;rw[jv,List.filter_filter]
  .congr 1;refine VT λz _=>?_;cases c:hU (.int i) e z with
   |true=>rw[q z c];rfl
   |false=>rfl
  .have I:(ks.filter λz=>decide (i<=z)).Pairwise (· < ·):=List.Pairwise.filter _ r;refine List.Pairwise.imp_of_mem (λ{x y} hx hy lt G=>?_) I;have hx:=(Z6.mp hx).2;rcases he with rfl|⟨j,rfl,_⟩
   .exact hx
   .refine Zj.mpr {hx,Wv ?_};have:=Wt (Zj.mp G).2;lia
 |false=>
  let{j,rfl,Y,ha}:=(show RH a e from ok);have O:ks.reverse.Pairwise (λx y=>y<x):=Vu.mpr r;obtain⟨k,U,ea⟩:∃k,uD false a ks=ks.reverse.filter (ft k)/\∀z,hD a (.int j) z=(decide (j<=z)&&ft k z):=by
   rcases ha with rfl|⟨i,rfl,_⟩
   .exact{none,M,λz=>(Bool.and_true _).symm}
   .exact{some i,M,λz=>M}
  rw[U];show((ks.reverse.filter<|ft k).take n).filter (hD a<|.int j)=(ks.reverse.filter<|hD a<|.int j).take n;rw[jv,List.filter_filter]
  .congr 1;refine VT λz _=>?_;rw[ea];cases ft k z<;>cases decide (j<=z)<;>rfl
  .have I:(ks.reverse.filter<|ft k).Pairwise (λx y=>y<x):=List.Pairwise.filter _ O;refine List.Pairwise.imp_of_mem (λ{x y} hx hy lt G=>?_) I;have hx:=(Z6.mp hx).2;rw[ea]at G⊢;refine Zj.mpr {Wv ?_,hx};have:=Wt (Zj.mp G).1;lia
def FP{up:Bool}{a:V}{k':Int}(ok:if up=true then RN a e else RH a e)(r:dH ks)(h:(cE up a e ks)[i]?=some k)(h':(cE up a e ks)[i+1]?=some k'):if up=true then RN (.int<|k+1) e else RH (.int<|k-1) e:=by
 let{hi,G}:=Q2.mp h;let{hi',z}:=Q2.mp h';have m:=(Z6.mp (G▸Xf hi:k∈cE up a e ks)).2;have m':=(Z6.mp (z▸Xf hi':k'∈cE up a e ks)).2;cases up with
 |true=>
  let{i,rfl,i0,he}:=(show RN a e from ok);have lt:k<k':=by
   have:=(ZR.mp<|List.Pairwise.filter (hU (.int i) e) r) _ _ hi hi' (Xy _);rwa[<-G,<-z]
  have m:hU (.int i) e k=true:=m;have m':hU (.int i) e k'=true:=m';rcases he with rfl|⟨j,rfl,_⟩
  .have:=Wt m;exact{k+1,M,(),.inl M}
  .have:=Wt (Zj.mp m).1;have:=Wt (Zj.mp m').2;exact{k+1,M,(),.inr {j,M,()}}
 |false=>
  let{j,rfl,I,ha}:=(show RH a e from ok);have O:ks.reverse.Pairwise (λx y=>y<x):=Vu.mpr r;have lt:k'<k:=by
   have:=(ZR.mp<|List.Pairwise.filter (hD a<|.int j) O) _ _ hi hi' (Xy _);rwa[<-G,<-z]
  have m':hD a (.int j) k'=true:=m';have:j<=k':=by
   rcases ha with rfl|⟨i,rfl,_⟩
   .exact Wt m'
   .exact Wt (Zj.mp m').1
  exact{j,M,I,.inr {k-1,M,()}}
def NxK(t:PB)(H H':Hp)(p:K')(up:Bool)(e:V)(hs:R')(m:Nat)(v:V):Prop:=if hs.length<=m then v= .non else if m=0 then v= .ref p else ∃(q:K')(k:Int),hs[m-1]?=some k/\v= .ref q/\H q=none/\Rm t H' q up (.int<|if up=true then k+1 else k-1) e
def EU{xs:R'}{x:V}(h:(xs.map V.int)[i]?=some x):∃k:Int,x= .int k/\xs[i]?=some k:=by
 rw[Z3]at h;cases e:xs[i]? with
 |none=>rw[e]at h;cases h
 |some k=>rw[e]at h;cases h;exact⟨k,M,M⟩
def zH{P:Int->Bool}{xs:R'}(e:xs[i]?=some k):(xs.take<|i+1).filter P=(xs.take i).filter P++(if P k=true then[k]else[]):=by
 rw[QY,e,Za];by_cases c:P k=true
 .rw[Wn c];simp[c]
 .rw[Wm c];simp[c]
def IU(P:Int->Bool)(xs:R')(i:Nat):((xs.take i).filter P).length<=xs.length:=by
 have h1:=QX P (xs.take i);have h2:(xs.take i).length<=xs.length:=by rw[Q9];lia
 lia
def Rm.same{up:Bool}{a:V}(h:Rm t H p up a e)(s:GI H H'):Rm t H' p up a e:=by
 let{dx,fs,hp,r}:=h;exact{dx,fs,s _ _ hp,r}
def Rm.ok{up:Bool}{a:V}(h:Rm t H p up a e):if up=true then RN a e else RH a e:=by
 let{dx,fs,hp,z,ok}:=h;exact ok
def HR{up:Bool}{a:V}{z:Int}(h:z∈uD up a ks):z∈ks:=by
 unfold uD at h;split at h
 .exact(Z6.mp h).1
 .exact XC.mp (Z6.mp h).1
 .exact XC.mp (Z6.mp h).1
def HS{up:Bool}{a:V}:(uD up a ks).length<=ks.length:=by
 unfold uD;split
 .exact QX _ _
 .exact Z4 (QX _ _)<|ZA ZN
 .exact Z4 (QX _ _)<|ZA ZN
def dHK{up:Bool}:Se (D1 t.dZ<|dR t) (D1 t.cv<|cQ t) (if up=true then t.dZ else t.cv) (if up=true then dR t else cQ t):=by
 cases up
 .exact .inr ⟨M,M⟩
 .exact .inl ⟨M,M⟩
def Lf{up:Bool}{a:V}{E:XK}(h:H p=some (.ins (if up=true then t.dZ else t.cv) dx fs))(f:y7 (if up=true then "up" else "down") fs a e)(ok:if up=true then RN a e else RH a e)(z:0<=k)
  (q:∀H',GI H H'->Q (.bl<|hK up a e k) H'):(if up=true then dR t else cQ t) [.ref p,.int k] H Q E:=by
 cases up
 .exact⟨p,dx,fs,a,e,k,M,h,f,ok,z,q⟩
 .exact⟨p,dx,fs,a,e,k,M,h,f,ok,z,q⟩
def uP(K:JZ)(t:PB):Sp:=λvs H Q _=>∃(l p:K')(n:Int)(up:Bool)(a e:V)(F:O')(ks:R'),vs=[.ref l,.ref p,.int n]/\Qz K t H l F ks/\Rm t H p up a e/\ks.length<4096/\(∀k∈ks,0<=k)/\
 ∀(H':Hp)(r g:K')(v:V),GI H H'->H r=none->H g=none->H' r=some (.tup [.ref g,v])->H' g=some (.lst<|((cE up a e ks).take n.toNat).map V.int)->NxK t H H' p up e (cE up a e ks) n.toNat v->Q (.ref r) H'
def vf:Cy P w K mg base PJ 6 t.oE t.jh [hL,fe,nj] (uP K t):=by
 refine T.xV.okl Ql λs H vs Q E hr h _=>?_;intro X;let{l,p,n,up,a,e,F,ks,rfl,L,TK,l1,k0,q}:=h;refine ak (PF 3<|aD (pq M) {_} T.G0 AZ (ae P1<|ae ai aj))
   (ak (HF (i:=4) M (P9.of (M':=[et]) (N:=[hL,fe,nj,xG,"held","page"]) (N':=[hL,fe,nj,xG,"held","page"]) (dsc:=am fG) M M ∅) (eO<|aP (AF T) hr.mo {_} T.Mh T.CG.kp T.Mq .nil aA (ae Ck<|ae P0<|ae (aq bG PM ai) aj)) (λ_ _ _ _ _=>(cU<|rO (kk:=1) (iH (cG T.iu T.nZ (iE T) T.oy (_))<|cG T.cP T.j2 (fO T) T.kA (_)) hr.mo P1<|ae Ck aj)) (λ_ _ _ _ _=>Ck) Ql.nd M M)
   (ak (PF 5<|eK gL Qa lR<|dS PM)
   (ak (aS (aw bH (aD aE {_} T.bS bj (ae Qa aj)) (aD aE {_} T.bS bj (ae Qy aj))<|az _)
    (ay<|aG<|bM<|ae Qy<|ae bx aj)
    aJ)
   (ak (aS (aw bH (aD aE {_} T.bS bj (ae Qy aj)) ai<|az _)
    (ay<|aG<|bM<|ae Qy<|ae P0 aj)
    aJ)
   (aB (aG<|bM<|ae Qy<|ae (aP (vd T) hr.mo {_} T.Ii T.xS.kp T.Jp .nil aA (ae P0<|ae (aR aQ Qy (HH De ai)<|λ_ _=>M) aj)) aj) ?_)))))
 intros
 have RK:=L.rise;refine{_,M,n,0,M,?_};obtain⟨m,em⟩:∃m:Nat,n.toNat=m:={_,M};have e0:(if(0:Int)>n then(0:Int)else n)=(m:Int):=by
  rw[<-em];split<;>lia
 rw[e0];rw[em]at q;have ok:=TK.ok;refine{_,M,_,M,_,M,_,_,M,M,l,p,(m:Int)+1,up,a,e,F,ks,M,L,TK,l1,(),λH1 g1 s1 a3 h1=>?_};rw[show((m:Int)+1).toNat=m+1 by lia]at h1;obtain⟨ns,O⟩:∃ns,(uD up a ks).take (m+1)=ns:={_,M};have fl:=FT (n:=m+1) ok RK;rw[O]at h1 fl;have nl:ns.length<=4096:=by
  rw[<-O];have h1:=HS (up:=up) (a:=a) (ks:=ks);rw[Q9];lia
 have n0:∀z∈ns,0<=z:=λz hz=>k0 z (HR<|Zs<|O▸hz);refine{g1,M,{_,E7.of h1},λD hD=>?_};refine jr (K:=K) (a:=g1) (xs:=ns.map V.int) (λi ys H2=>GI H1 H2/\ys=((ns.take i).filter<|hK up a e).map V.int) {al hD,M} (λi ys H2 _ w=>E7.of<|w.1 _ _ h1) (λi x ys H2 hx w G=>?_)<|λys H2 w G=>?_
 .let{s2,ey}:=w;have hi:i<(ns.map V.int).length:=(Q2.mp hx).1;let{g,rfl,eg}:=EU hx;let{dx,fs,hp,tf,_}:=TK.same (s1.trans s2);have a4:=IU (hK up a e) ns i;refine{_,M,p,_,dx,fs,_,M,hp,tf.ho,dHK,_,M,Lf hp tf ok (n0 g<|Q1 eg) λH3 s3=>{_,M,?_}};by_cases c:hK up a e g=true
  .rw[c];refine cy {_,M,Pq.mk hi (s3 _ _ G) (bq<|by rw[ey,Q0];lia) {b6 (s2.trans s3) hD,?_}};rw[ey,zH eg,Wn c,QO];rfl
  .rw[Xk.mpr c];refine cu<|Qn.mk hi (s3 _ _ G) {s2.trans s3,?_};rw[ey,zH eg,Wm c,Zu]
 let{s2,ey}:=w;rw[ey,Q0,Zd,fl]at G;clear ey h1 O fl nl n0;have U:=s1.trans s2;obtain⟨hs,Y⟩:∃hs,cE up a e ks=hs:={_,M};rw[Y]at G q;refine{_,M,_,M,(m:Int),M,D,_,M,E7.of G,λg ng=>?_};rw[sM (VG m),<-Xe,show((m:Int)).toNat=m by lia,Wk,ZP (ZO m)];have Z:H g=none:=cN U ng;have I:upd H2 g (.lst<|(hs.take m).map V.int) g=some (.lst<|(hs.take m).map V.int):=ag;have a0:upd H2 g (.lst<|(hs.take m).map V.int) D=some (.lst<|(hs.take<|m+1).map V.int):=by rwa[af (ao G ng)]
 have s3:=U.trans (al (o:= .lst<|(hs.take m).map V.int) ng);generalize upd H2 g (.lst<|(hs.take m).map V.int)=H3 at I a0 s3⊢;clear G ng s2 U s1 hD;refine{_,M,D,_,M,.inl<|E7.of a0,_,M,g,_,M,.inl<|E7.of I,M,_,M,?_};by_cases c:hs.length<=m
 .refine dX ?_ {_,M,(by show 2<=sizeLine;decide),λr nr=>?_}
  .rw[Z1 (),Z1 c]
  .refine q _ r g .non (s3.trans<|al nr) (cN s3 nr) Z ag (by rw[af (ao I nr)];exact I) ?_;unfold NxK;rw[Wn c]
 refine bg ?_ ?_
 .intro z;have z:=V.int.inj z;rw[Q0,Q0,Q9,Q9]at z;lia
 refine{_,M,g,_,M,.inl<|E7.of I,M,_,M,?_};by_cases d:m=0
 .refine dX ?_ {_,M,_,M,(by show 2<=sizeLine;decide),λr nr=>?_}
  .rw[d];rfl
  .refine q _ r g (.ref p) (s3.trans<|al nr) (cN s3 nr) Z ag (by rw[af (ao I nr)];exact I) ?_;unfold NxK;rw[Wm c,Wn d]
 refine bg ?_ ?_
 .intro z;have z:=V.int.inj z;rw[Q0,Q9]at z;lia
 obtain⟨k,ek⟩:∃k,hs[m-1]?=some k:={_,Q3 ()};obtain⟨k',a1⟩:∃k',hs[m-1+1]?=some k':={_,Q3 ()};have ob:=FP ok RK (Y▸ek) (Y▸a1);refine{_,M,_,M,_,M,_,M,g,_,_,.int k,M,M,E7.of I,?_,p,up,a,e,k,M,TK.same s3,ob,λH4 b s4 nb a2=>{(by show 2<=sizeLine;decide),λr nr=>?_}}
 .refine Fc (λz=>?_) ?_
  .have:=WG List.length z;rw[Q9]at this;have:([]:R').length=0:=M;lia
  .rwa[Q9,ZP (),Vg ()]
 refine q _ r g (.ref b) ((s3.trans s4).trans<|al nr) (cN (s3.trans s4) nr) Z ag (by rw[af (ao (s4 _ _ I) nr)];exact s4 _ _ I) ?_;unfold NxK;rw[Wm c,Wm d];exact{b,k,ek,M,cN s3 nb,a2.same<|al nr}
def yj(K:JZ)(t:PB):Sp:=λvs H Q _=>∃(a:K')(k:Int)(v:V)(F:O')(x:PX),vs=[.ref a,.int k]/\PY K t H a F x/\0<=k/\aH x.st.kv k=some v/\∀H' F',PY K t H' a F' x->Fr F F' H H'->Q v H'
def yP:Cy P w K mg base PJ 5 t.tx t.mE [cC,et] (yj K t):=by
 refine T.LM.okl yC λs H vs Q E Y h _=>?_;intro X;let{a,k,v,F,x,rfl,A,k0,U,q}:=h;refine{_,(ay<|aG<|aW (au Ck M) T.aK T.K2 (yL T) Y.mo T.Lx .nil aA<|ae P0 aj)
  ,?_}
 let{s,l,wr,p,h,Fs,Fl,Jz,O,g}:=A;let{dx,Z}:=Jz.o.ob;let{ds,fs,hs,hm}:=Jz.sl.ins;refine{_,M,a,_,dx,_,_,M,Z,T.aO,T.dM,xt,s,ds,fs,M,hs,hm _ ∅,_,M,s,k,Fs,x.st,M,Jz.sl,k0,λv' G H1 I S1 f1=>?_,λz=>by rw[U]at z;cases z};rw[U]at G;cases G;let{B1,g1}:=Jz.slots S1 f1;exact q H1 (RS a wr p h I Fl x.pa) {s,l,wr,p,h,I,Fl,B1,O,λ_=>Iff.rfl} λb o n e=>g1 b o (λz=>n<|(g b).mpr z) e
def NxH(t:PB)(H H':Hp)(F':O')(p:K')(up:Bool)(e:V)(hs:R')(m:Nat)(v:V):Prop:=if hs.length<=m then v= .non else if m=0 then v= .ref p else ∃(q:K')(k:Int),hs[m-1]?=some k/\v= .ref q/\H q=none/\¬F' q/\Rm t H' q up (.int<|if up=true then k+1 else k-1) e
def MS(K:JZ)(t:PB)(more:Sm):Sp:=λvs H Q _=>∃(a p:K')(n:Int)(up:Bool)(av e:V)(F:O')(x:PX),vs=[.ref a,.ref p,.int n]++more/\PY K t H a F x/\Rm t H p up av e/\¬F p/\x.ks.length<4096/\(∀k∈x.ks,0<=k)/\
 ∀(H':Hp)(F':O')(r g:K')(v:V)(ts:List Tp),PY K t H' a F' x->Fr F F' H H'->PgA H H' F F' r g v ts->ts.map (·.k)=(cE up av e x.ks).take n.toNat->(∀e∈ts,aH x.st.kv e.k=some e.v)->NxH t H H' F' p up e (cE up av e x.ks) n.toNat v->Q (.ref r) H'
def mH(K:JZ)(t:PB):Sp:=MS K t []
def PY.lvs{x:PX}(A:PY K t H a F x):∃(dx:K')(fs:Tb)(l:K')(Fl:O'),H a=some (.ins t.bi dx fs)/\fs.lookup (hL:Str)=some (.ref l)/\Qz K t H l Fl x.ks:=by
 let{s,l,wr,p,h,Fs,Fl,Jz,O,g}:=A;let{dx,z}:=Jz.o.ob;exact{dx,_,l,Fl,z,D0,Jz.lv}
def IJ{up:Bool}{a:V}{z:Int}(h:z∈cE up a e ks):z∈ks:=by
 have h:=(Z6.mp h).1;cases up
 .exact XC.mp h
 .exact h
def IK{up:Bool}{a:V}:(cE up a e ks).length<=ks.length:=by
 refine Z4 (QX _ _) ?_;cases up
 .exact ZA ZN
 .exact Q4 _
def ve:Cy P w K mg base PJ 7 t.oC t.jg [oq,fe,nj] (mH K t):=by
 refine T.xU.okl uY λs H vs Q E hr h _=>?_;intro X;let{a,p,n,up,av,e,F,x,rfl,A,TK,np,l1,k0,q}:=h;refine ak (PF 3<|aP (vf T) hr.mo {_} T.Ik T.xV.kp T.Jr .nil aA (ae (au Ck M)<|ae P0<|ae P1 aj))
   (aB (aG<|bM<|ae (oW M (P9.of (M':=[et]) (N:=[oq,fe,nj,"page"]) (N':=[oq,fe,nj,"page"]) (dsc:=am fF) M M ∅) (eO<|aR bY PM ai<|λ_ _=>M)<|λ_ _ _ _ _=>(bM<|ae Ck<|ae (aW P0 T.aO T.K5 (yP T) hr.mo T.LC .nil aA<|ae Ck aj) aj))<|ae (aR bY PM ai<|λ_ _=>M) aj) ?_)
 intros
 let{dx,fs,l,Fl,ho,hl,L}:=A.lvs;refine{_,M,a,_,dx,fs,_,M,ho,T.aO,T.g8,hl,_,M,_,M,l,p,n,up,av,e,Fl,x.ks,M,L,TK,l1,k0,λH1 r1 g1 v s1 a4 a5 a1 U nx=>?_};have A1:=A.same s1;have f1:Fr F F H H1:=Fr.of_same s1;clear TK;obtain⟨pk,Y⟩:∃pk,(cE up av e x.ks).take n.toNat=pk:={_,M};have pm:∀z∈pk,z∈x.ks:=λz hz=>IJ (Zs<|Y▸hz);have pl:pk.length<=4096:=by
  have:=IK (up:=up) (a:=av) (e:=e) (ks:=x.ks);rw[<-Y,Q9];lia
 rw[Y]at U q;refine{_,M,r1,_,_,_,M,M,Px.of a1,M,g1,M,{_,E7.of U},λD hD=>?_};refine uy (K:=K) (a:=g1) (xs:=pk.map V.int) (λi ys H2=>∃(G:O')(ts:List Tp),PY K t H2 a G x/\Fr F G H1 H2/\¬G D/\ys=ts.map (λe=>V.ref e.p)/\ts.map (·.k)=pk.take i/\∀e∈ts,H2 e.p=some (.tup [.int e.k,e.v])/\¬G e.p/\aH x.st.kv e.k=some e.v) {F,[],A1.same<|al hD,Fr.of_same<|al hD,A1.out hD,M,M,λe he=>Ws he ZU} (λi ys H2 _ w=>?_) (λi y ys H2 hy w I=>?_)<|λys H2 w I=>?_
 .let{G,ts,A2,O,_}:=w;exact E7.of (O _ _ (A.out a5) U).1
 .let{G,ts,A2,O,nD,ey,Z,tu}:=w;have hi:i<(pk.map V.int).length:=(Q2.mp hy).1;let{k,rfl,hk}:=EU hy;have km:=pm k (Q1 hk);let{v2,a2}:=Vf.mp ((A1.ok.ks k).mp km);let{d2,a6,a8,aa,_}:=A2.ins;refine{_,M,_,M,a,d2,a6,M,a8,aa _ ∅,_,M,a,k,v2,G,x,M,A2,k0 k km,a2,λH3 F3 A3 f3=>{(by show 2<=sizeLine;decide),λb nb=>?_}};let{ac,a3}:=f3 _ _ nD I;have sb:GI H3 (upd H3 b<|.tup [.int k,v2]):=al nb;have hb:upd H3 b (.tup [.int k,v2]) b=some (.tup [.int k,v2]):=ag;generalize upd H3 b (.tup [.int k,v2])=H4 at sb hb⊢;have A4:=A3.same sb;have ah:=A3.out nb;have f4:Fr F F3 H1 H4:=O.trans (f3.trans<|Fr.of_same sb);have a0:=sb _ _ ac;have tl:ts.length<=4096:=by
   have:=WG List.length Z;rw[Q0,Q9]at this;lia
  refine Pq.mk hi a0 (bq<|by rw[ey,Q0];lia) {F3,ts++ [⟨b,k,v2⟩],A4.upd a3 (λxs z=>by rw[a0]at z;cases z),λc o n e=>{by rw[af (ao e hD)];exact(f4 c o n e).1,(f4 c o n e).2},a3,by rw[ey,QO];rfl,by rw[QO,Z,QY,hk];rfl,λe he=>?_};have key:H4 e.p=some (.tup [.int e.k,e.v])/\¬F3 e.p/\aH x.st.kv e.k=some e.v:=by
   rcases Q5.mp he with he|he
   .let{t1,t2,t3}:=tu e he;let{t4,t5}:=f3 _ _ t2 t1;exact{sb _ _ t4,t5,t3}
   .rw[Q7.mp he];exact⟨hb,ah,a2⟩
  refine{?_,key.2};rw[af (λz=>by rw[z,a0]at key;cases key.1)];exact key.1
 let{G,ts,A2,O,nD,ey,Z,tu}:=w;rw[ey]at I;rw[Q0,Zd]at Z;have an:=O _ _ (A.out a4) a1;refine{_,M,r1,_,_,_,M,M,Px.of an.1,M,(by show 2<=sizeLine;decide),λr nr=>?_};have s3:GI H2 (upd H2 r<|.tup [.ref D,v]):=al nr;have hr:upd H2 r (.tup [.ref D,v]) r=some (.tup [.ref D,v]):=ag;have nF:=A2.out nr;generalize upd H2 r (.tup [.ref D,v])=H3 at s3 hr⊢;have f3:Fr F G H H3:=f1.trans (O.trans<|Fr.of_same s3);refine q H3 G r D v ts (A2.same s3) f3 {hr,s3 _ _ I,λe he=>{s3 _ _ (tu e he).1,(tu e he).2.1},{λz=>?_,nF},{λ_=>cN s1 hD,nD}} Z (λe he=>(tu e he).2.2) ?_
 .cases eo:H r with
  |none=>rfl
  |some o=>rw[((f1.trans O) _ _ z eo).1]at nr;cases nr
 .unfold NxK at nx;unfold NxH;by_cases c:(cE up av e x.ks).length<=n.toNat
  .rw[Wn c]at nx⊢;exact nx
  .rw[Wm c]at nx⊢;by_cases d:n.toNat=0
   .rw[Wn d]at nx⊢;exact nx
   .rw[Wm d]at nx⊢;let{b,k,Z,ev,nb,dy,fy,hy,ry}:=nx;let{h2,n2}:=O _ _ (A.out nb) hy;exact{b,k,Z,ev,nb,n2,dy,fy,s3 _ _ h2,ry}
noncomputable def xY(J0 j r:Int):Int:=if j<(r/J0+1)*J0 then j else(r/J0+1)*J0
def bc(J0 j i:Int):Nat->Int
 |0=>i
 |n+1=>xY J0 j (bc J0 j i n)
def Hm{j r:Int}(z:0<J0)(h:r<j):r<xY J0 j r/\xY J0 j r<=j:=by
 have:=V1 r z;unfold xY;split<;>lia
theorem rM{J0 j i:Int}(G:0<J0)(h:i<=j):∀n:Nat,(∀x<n,bc J0 j i x<j)->i<=bc J0 j i n/\bc J0 j i n<=j/\(0<n->xY J0 j i<=bc J0 j i n)
 |0,_=>{ZL _,h,λz=>Ws z (_)}
 |n+1,w=>by
  let{a,b,c}:=rM G h n λx hx=>w x ();let{d,e}:=Hm G (w n ());refine{show i<=xY J0 j (bc J0 j i n) by lia,e,λ_=>?_};cases n with
  |zero=>exact ZL _
  |succ m=>exact Int.le_trans (c ()) (VN d)
structure Rf(st:P6)(lo hi:Int)(ps:Sn):Prop where
 so:ps.Pairwise DA
 me:∀k v,(k,v)∈ps↔(k,v)∈st.kv/\lo<=Pt k/\Pt k<hi
def Rf.app(h:Rf st lo m ps)(g:Rf st m hi qs)(l1:lo<=m)(G:m<=hi):Rf st lo hi (ps++qs):=by
 refine{QU.mpr {h.so,g.so,λx hx y hy=> .inl ?_},λk v=>?_}
 .have a:=((h.me x.1 x.2).mp hx).2;have b:=((g.me y.1 y.2).mp hy).2;lia
 .rw[Q5,h.me,g.me];constructor
  .rintro (⟨x,y,z⟩|⟨x,y,z⟩)
   .exact{x,y,()}
   .exact{x,(),z}
  .rintro ⟨x,y,z⟩;by_cases d:Pt k<m
   .exact .inl ⟨x,y,d⟩
   .exact .inr {x,(),z}
def Rf.uniq(h:Rf st lo hi ps)(g:Rf st lo hi qs):ps=qs:=by
 have nd:∀{l:Sn},l.Pairwise DA->l.Nodup:=λw=>w.imp λ{a b} z e=>by
  rw[e]at z;unfold DA at z;lia
 refine List.Perm.eq_of_pairwise (λx y _ _ h1 h2=>?_) h.so g.so<|(Wl (nd h.so)<|nd g.so).mpr λx=>(h.me x.1 x.2).trans (g.me x.1 x.2).symm;unfold DA at h1 h2;lia
def Rf.len(h:Rf st lo hi ps):ps.length<=st.kv.length:=by
 refine gR (h.so.imp λ{a b} z e=>?_) λx hx=>((h.me x.1 x.2).mp hx).1;rw[e]at z;unfold DA at z;lia
structure PgS(st:P6)(i j n:Int)(m:Nat)(ps:Sn):Prop where
 rw:Rf st i (bc (65536/st.low) j i m) ps
 go:∀x<m,bc (65536/st.low) j i x<j
 le:∀x,0<x->x<m->∀qs,Rf st i (bc (65536/st.low) j i x) qs->(qs.length:Int)<n/\(x:Int)<4*n
 st:bc (65536/st.low) j i m=j\/(0<m/\(n<=ps.length\/4*n<=m))
def Sb(t:PB)(H:Hp)(p:K')(i j:Int):Prop:=∃(dx:K')(fs:Tb),H p=some (.ins t.aX dx fs)/\y7 G' fs (.int i) (.int j)/\0<=i/\i<=j/\j<=65536
def Sb.fr{i j:Int}(h:Sb t H p i j)(n:¬F p)(f:Fr F F' H H'):Sb t H' p i j/\¬F' p:=by
 let{dx,fs,hp,r}:=h;exact{{dx,fs,(f _ _ n hp).1,r},(f _ _ n hp).2}
def SX(t:PB)(H H':Hp)(F F':O')(r j:Int)(v:V):Prop:=if r=j then v= .non else ∃q:Addr,v= .ref q/\(¬F q->H q=none)/\¬F' q/\Sb t H' q r j
def tI(K:JZ)(t:PB):Sp:=λvs H Q _=>∃(a p:K')(n i j:Int)(F:O')(st:P6),vs=[.ref a,.ref p,.int n]/\QI K t H a F st/\Sb t H p i j/\¬F p/\1<=n/\n<=1000/\st.kv.length<4096/\(∀p∈st.kv,∃i:Int,p.2= .int i)/\
 ∀(H':Hp)(F':O')(r g:K')(v:V)(ts:List Tp)(m:Nat),QI K t H' a F' st->Fr F F' H H'->PgA H H' F F' r g v ts->PgS st i j n m (ts.map Tp.kv)->SX t H H' F F' (bc (65536/st.low) j i m) j v->Q (.ref r) H'
structure SK(K:JZ)(t:PB)(H H':Hp)(a p l:K')(F F':O')(st:P6)(i j:Int)(m:Nat)(ts:List Tp):Prop where
 sl:QI K t H' a F' st
 fr:Fr F F' H H'
 tk:Sb t H' p i j
 np:¬F' p
 ol:¬F' l
 li:H' l=some (.lst<|ts.map λe=>V.ref e.p)
 tu:∀e∈ts,H' e.p=some (.tup [.int e.k,e.v])/\¬F' e.p
 rw:Rf st i (bc (65536/st.low) j i m) (ts.map Tp.kv)
 go:∀x<m,bc (65536/st.low) j i x<j
def SK.move{l:K'}{F1:O'}{i j:Int}{m:Nat}(h:SK K t H H' a p l F F' st i j m ts)(s1:QI K t H1 a F1 st)(z:Fr F' F1 H' H1):SK K t H H1 a p l F F1 st i j m ts:=
 {s1,h.fr.trans z,(h.tk.fr h.np z).1,(h.tk.fr h.np z).2,(z _ _ h.ol h.li).2,(z _ _ h.ol h.li).1,λe he=>z _ _ (h.tu e he).2 (h.tu e he).1,h.rw,h.go}
def t7:Cy P w K mg base PJ 5 t.mK t.hJ [G',fe,nj] (tI K t):=by
 let{I,G}:=T.g_STRETCHES_A_KEY;refine T.vx.okl Qd λs H vs Q E hr h _=>?_;intro X;let{a,p,n,i,j,F,st,rfl,hA,TK,np,n1,n2,l4,iv,q}:=h;refine ak (PF 3<|bX aj)
   (ak (PF 4<|au P0 M)
   (ak (PF 5 ai)
   (cI (λx=>(nK WF (aw fL Qa (au P0 M)<|az _)
    x)) ?_)))
 refine ak (PF 6<|aD (iN M) {_} T.vJ ox (ae (aW Ck T.aK T.yS (nP T) hr.mo T.yX .nil aA<|ae Qa aj)<|ae (au P0 M) aj))
   (ak (aT<|d6 QZ XF XG oX PM<|ae (aW Ck T.aK T.JI (wM T) hr.mo T.JQ .nil aA<|ae Qa<|ae Ro aj) aj)
   (ak (PF 4 Ro)
   (ak (Dz (i:=5) Qd.nd M (Or.inl M) ai ID)
   (aB (aS (PW.pt<|mJ (aw wH (aD aE {_} T.bS bj (ae PM aj)) P1<|az _)<|i5<|aw wH Qy (aq eY (cK (v:= .int 4) {_} G {_,M}) P1)<|az _)
    (ay HG)
    aJ) ?_))))
 intros
 refine ak (aS (aw bH Qa (au P0 M)<|az _)
    (ay<|aG<|bM<|ae PM<|ae bx aj)
    aJ)
   (aB (aG<|bM<|ae PM<|ae (iD T.DO (kK T) hr.mo {_} T.xb T.vv .nil aA (ae Qa<|ae (au P0 M) aj)) aj) ?_)
 intros
 have z:PU st:=let⟨_,_,_,_,_,z⟩:=hA;z
 let{s4,Y}:=cn (j3 z);let{_,_,R}:=Ax (j3 z);have W0:=R.wpos';let{dx,fs,hp,tf,i0,ij,j1}:=id TK;refine{QT _,λl nl=>?_};have W1:SK K t H (upd H l<|.lst []) a p l F F st i j 0 []:={hA.new nl,Fr.of_same<|al nl,{dx,fs,by rwa[af (ao hp nl)],tf,i0,ij,j1},np,hA.out nl,ag,(λe he=>by cases he),{WK,λk v=>{λh=>by(cases h),λh=>by have:=h.2;simp only[bc]at this;lia}},λx hx=>Ws hx<|W5 x};refine{_,M,p,_,dx,fs,_,M,by rwa[af (ao hp nl)],T.bR,T.jZ,tf.at_,?_}
 (try dsimp only)
 generalize upd H l (.lst [])=H1 at W1⊢;clear hp tf dx fs;show Ag (Hf _ _) _ _ _ H1;refine dw (λB H'=>∃(F':O')(m:Nat)(ts:List Tp)(U:Tg),B=[some (.ref a),some (.ref p),some (.int n),some (.ref l),some (.int<|bc (65536/st.low) j i m),some (.int m),U]/\SK K t H H' a p l F F' st i j m ts/\PgS st i j n m (ts.map Tp.kv)) (λnx go=>?_)<|λB H2 w=>?_
 .refine{λmm B H'=>∃(F':O')(m:Nat)(ts:List Tp)(U:Tg),mm=(j-bc (65536/st.low) j i m).toNat/\B=[some (.ref a),some (.ref p),some (.int n),some (.ref l),some (.int<|bc (65536/st.low) j i m),some (.int m),U]/\SK K t H H' a p l F F' st i j m ts/\(∀x,0<x->x<=m->∀qs,Rf st i (bc (65536/st.low) j i x) qs->(qs.length:Int)<n/\(x:Int)<4*n),{_,F,0,[],none,M,M,W1,λx x0 xm=>Ws x0 ()},λmm B H' w=>?_};let{F',m,ts,U,rfl,a5,w,lt}:=w;subst a5;let{dx,fs,hp,tf,_}:=id w.tk;let{r0,r1,_}:=rM W0 ij m w.go;refine{_,M,_,M,p,_,dx,fs,_,M,hp,T.bR,T.cW,tf.end_,_,_,M,M,_,M,b4 (λc=>?_)<|λc=>?_}
  .have c:=Wt c;let{r2,r3}:=Hm W0 c;refine{λa1 H2=>∃(F2:O')(Z:List Tp)(U:Tg),a1=[some (.ref a),some (.ref p),some (.int n),some (.ref l),some (.int<|bc (65536/st.low) j i<|m+1),some (.int (m+1:Nat)),U]/\SK K t H H2 a p l F F2 st i j (m+1) Z/\(Z.length:Int)<n/\((m+1:Nat):Int)<4*n,λa1 H2 g=>?_,?_}
   .let{F2,Z,U,e,w2,b1,b2}:=g;refine{_,?_,F2,m+1,Z,U,M,e,w2,λx x0 xm qs hq=>?_}
    .show(j-xY (65536/st.low) j (bc (65536/st.low) j i m)).toNat<_;lia
    .rcases VH xm with xm|rfl
     .exact lt x x0 () qs hq
     .rw[hq.uniq w2.rw,Q0];exact⟨b1,b2⟩
   let{a6,a8,aa,ac}:=w.sl.ins;refine{_,M,a,a6,a8,M,aa,ac _ ∅,_,M,a,_,F',st,M,w.sl,(),(),λH2 F2 s2 f2=>?_};have w2:=w.move s2 f2;let{ah,an,ax,b5,_}:=id w2.tk;refine{_,M,p,_,ah,an,_,M,ax,T.bR,T.cW,b5.end_,_,_,M,?_}
   (try dsimp only)
   change gi 6 (V.int<|bc (65536/st.low) j i<|m+1) _ _ _;let{b8,ba,bb,be}:=w2.sl.ins;refine{_,M,.inl {M,_,E7.of w2.li},_,M,a,b8,ba,M,bb,be _ ∅,_,M,_,M,a,_,_,F2,st,M,w2.sl,l4,iv,λH3 F3 l1 ts1 s3 f3 o3 n3 e3 u3 bh bi=>?_};have O:=w2.move s3 f3;have a0:Rf st i (bc (65536/st.low) j i<|m+1) ((ts++ts1).map Tp.kv):=by
    rw[QO];exact O.rw.app ⟨bh,bi⟩ r0<|VN r2
   have ln:=a0.len;rw[Q0,Q6]at ln;have a2:∀{p:K'}{xs:Sm},H3 p=some (.tup xs)->p≠l:=λ{p xs} e z=>by rw[z,O.li]at e;cases e
   have w4:SK K t H (upd H3 l<|.lst<|ts.map (λe=>V.ref e.p)++ts1.map (λe=>V.ref e.p)) a p l F F3 st i j (m+1) (ts++ts1):=by
    refine{O.sl.upd O.ol,O.fr.upd_new λ_=>nl,?_,O.np,O.ol,by rw[ag,QO],λe he=>?_,a0,λx hx=>?_}
    .let{dx,fs,hp,r}:=O.tk;exact{dx,fs,by rwa[af λz=>by rw[z,O.li]at hp;cases hp],r}
    .rcases Q5.mp he with he|he
     .exact{by rw[af (a2 (O.tu e he).1)];exact(O.tu e he).1,(O.tu e he).2}
     .exact{by rw[af (a2 (u3 e he).1)];exact(u3 e he).1,(u3 e he).2}
    .rcases VH (Nat.le_of_lt_succ hx)with hx|rfl
     .exact w.go x hx
     .exact c
   refine{l,l1,_,_,M,M,O.li,e3,by rw[Q0,Q0];exact Zq<|bq (),?_}
   (try dsimp only)
   generalize upd H3 l (.lst<|ts.map (λe=>V.ref e.p)++ts1.map (λe=>V.ref e.p))=H4 at w4⊢;have pg:(n<=((ts++ts1).length:Int)\/4*n<=((m+1:Nat):Int))->PgS st i j n (m+1) ((ts++ts1).map Tp.kv):=λo=>{a0,w4.go,λx x0 xm=>lt x x0 (),.inr {Nat.succ_pos m,by rw[Q0];exact o}};refine{_,M,_,M,_,_,M,M,?_}
   (try dsimp only)
   have em:((m:Int)+1)=((m+1:Nat):Int):=();rw[em];refine{_,M,l,_,M,.inl<|E7.of w4.li,_,M,_,_,M,M,_,M,b4 (λc1=>?_)<|λc1=>?_}
   .have c1:=Wt c1;rw[Q0]at c1;exact cy<|go _ _ {F3,m+1,ts++ts1,_,M,w4,pg<|.inl c1}
   refine{_,M,_,M,_,_,M,M,.inl {(_),(_)},_,_,M,M,_,M,b4 (λc2=>?_)<|λc2=>?_}
   .exact go _ _ {F3,m+1,ts++ts1,_,M,w4,pg<|.inr (Wt c2)}
   .have c1:¬n<=(((ts++ts1).map λe=>V.ref e.p).length:Int):=λy=>c1 (Wv y);have c2:¬4*n<=((m+1:Nat):Int):=λy=>c2 (Wv y);rw[Q0]at c1;exact{F3,ts++ts1,_,M,w4,(),()}
  .have c:¬bc (65536/st.low) j i m<j:=λy=>c (Wv y);exact go _ _ {F',m,ts,U,M,w,w.rw,w.go,λx x0 xm=>lt x x0 (),.inl ()}
 let{F2,m,ts,U,rfl,w,pg}:=w;let{r0,r1,_}:=rM W0 ij m w.go;let{dx,fs,hp,tf,_}:=id w.tk;refine{_,M,_,M,p,_,dx,fs,_,M,hp,T.bR,T.cW,tf.end_,M,_,M,b4 (λc=>?_)<|λc=>?_}
 .have c:bc (65536/st.low) j i m=j:=V.int.inj (Wt c);refine{_,M,(by show 2<=sizeLine;decide),λr nr=>?_};have Y:=al (o:= .tup [.ref l,.non]) nr;refine q _ F2 r l .non ts m (w.sl.new nr) (w.fr.trans<|Fr.of_same Y) {ag,Y _ _ w.li,λe he=>{Y _ _ (w.tu e he).1,(w.tu e he).2},{λnF=>sw w.fr nF nr,w.sl.out nr},{λ_=>nl,w.ol}} pg ?_;unfold SX;rw[Wn c]
 .have c:¬bc (65536/st.low) j i m=j:=λz=>c (Wv<|by rw[z]);have ok:okS (.int<|bc (65536/st.low) j i m) (.int j):={_,_,M,M,(),(),j1};refine{_,M,_,M,_,M,p,_,dx,fs,_,M,hp,T.bR,T.cW,tf.end_,λx dr nx nd bo=>?_};refine{x,dr,_,_,M,ag,T0 _,T0 _,λ_ H' fs' a3 h' bl=>{M,(by show 2<=sizeLine;decide),λr nr=>?_},λz=>Ws ok z};have Y:GI H2 (upd H' r<|.tup [.ref l,.ref x]):=(tQ nx nd a3).trans (al nr);have a4:H2 r=none:=cN (tQ nx nd a3) nr;have xr:x≠r:=λz=>by rw[z,nr]at h';cases h'
  refine q _ F2 r l (.ref x) ts m (w.sl.same Y) (w.fr.trans<|Fr.of_same Y) {ag,Y _ _ w.li,λe he=>{Y _ _ (w.tu e he).1,(w.tu e he).2},{λnF=>sw w.fr nF a4,w.sl.out a4},{λ_=>nl,w.ol}} pg ?_;unfold SX;rw[Wm c];exact{x,M,λnF=>sw w.fr nF nx,w.sl.out nx,dr,fs',by rwa[af xr],bl,(),(),j1}
def RM.newb{s l w h:K'}{Fs Fs' Fl:O'}{x:PX}(Jz:RM K t H a s l w p h Fs Fl x)(n:¬Fs b->H b=none)(n':¬Fs' b):¬RS a w p h Fs' Fl x.pa b:=λz=>by
 rcases z with z|z|z
 .exact n' z
 .let{o,e}:=Jz.lv.dom z;rw[n λy=>Jz.a1 b y z]at e;cases e
 .let{o,e,_}:=Jz.o.dom z;rw[n (Jz.a2 b z)]at e;cases e
noncomputable def Rr:V->Int
 | .int i=>i|_=>0
def SG(st:P6)(ks:R')(kd n:Int)(av e:V)(ps:Sn)(r:Tg):Prop:=
 (kd=0/\∃m,PgS st (Rr av) (Rr e) n m ps/\r=if bc (65536/st.low) (Rr e) (Rr av) m=Rr e then none else some (.int<|bc (65536/st.low) (Rr e) (Rr av) m))\/
 ∃up:Bool,kd=(if up=true then 1 else 2)/\ps.map (·.1)=(cE up av e ks).take n.toNat/\(∀p∈ps,aH st.kv p.1=some p.2)/\r=if(cE up av e ks).length<=n.toNat then none else((cE up av e ks)[n.toNat-1]?).map λk=> .int (if up=true then k+1 else k-1)
structure Ej(t:PB)(H':Hp)(F':O')(st:P6)(kd n:Int)(av e v:V)(ts:List Tp)(a':V)(R:Int->Bool):Prop where
 rest:(v= .non/\R=λ_=>false)\/∃q:Addr,v= .ref q/\Pz t H' q kd a' e/\R4 kd a' e/\¬F' q/\R=hN kd a' e/\(kd=0->Rr av<=Rr a')
 less:∀k,0<=k->R k=true->hN kd av e k=true
 nd:(ts.map (·.k)).Nodup
 me:∀k v,(k,v)∈ts.map Tp.kv↔(k,v)∈st.kv/\hN kd av e k=true/\R k=false
 tell:∀ks,dH ks->(∀z,z∈ks↔(aH st.kv z).isSome=true)->SG st ks kd n av e (ts.map Tp.kv) (if v= .non then none else some a')
 far:v= .non\/n<=ts.length\/(kd=0/\Rr av/(65536/st.low)+4*n<=Rr a'/(65536/st.low))
theorem zi{J0 j i:Int}(z:0<J0):∀m:Nat,(∀x≤m,bc J0 j i x≠j)->bc J0 j i m/J0=i/J0+m
 |0,_=>(Int.add_zero _).symm
 |m+1,h=>by
  have G:=zi z m λx hx=>h x ();have e:bc J0 j i (m+1)=(bc J0 j i m/J0+1)*J0:=by
   have:=h (m+1) (Q4 _);show xY J0 j (bc J0 j i m)=_;change xY J0 j (bc J0 j i m)≠j at this;unfold xY at this⊢;split
   .rw[Wn (by assumption)]at this;exact Ws M this
   .rfl
  rw[e,Int.mul_ediv_cancel _ (ZC z),G];lia
def AR{i j:Int}:hN 0 (.int i) (.int j) k=true↔i<=Pt k/\Pt k<j:=by
 show(decide (i<=tz (k%65536))&&decide (tz (k%65536)<j))=true↔_;rw[Zf,WB,WB];exact Iff.rfl
def Ec{i j:Int}{m:Nat}(G:0<65536/st.low)(i0:0<=i)(O:i<=j)(g:PgS st i j n m (ts.map Tp.kv))(x:SX t H H' F F' (bc (65536/st.low) j i m) j v):∃a' R,Ej t H' F' st 0 n (.int i) (.int j) v ts a' R:=by
 let{r1,r2,_}:=rM G O m g.go;have nd:(ts.map (·.k)).Nodup:=by
  refine Zr.mpr<|(Zr.mp g.rw.so).imp λ{a b} h e=>?_;have h:Pt a.k<Pt b.k\/(Pt a.k=Pt b.k/\a.k<b.k):=h;rw[e]at h;lia
 unfold SX at x;by_cases ej:bc (65536/st.low) j i m=j
 .rw[Wn ej]at x;refine{.non,λ_=>false,.inl ⟨x,M⟩,λk _ h=>Ws h Q8,nd,λk v=>?_,(λks _ _=> .inl {M,m,g,by rw[Wn x];exact(Wn ej).symm}),.inl x};rw[g.rw.me,ej,AR];exact{λh=>⟨h.1,h.2,M⟩,λh=>⟨h.1,h.2.1⟩}
 .rw[Wm ej]at x;let{q,I,_,U,dx,fs,hq,Y,Z,q1,q2}:=x;refine{_,hN 0 (.int<|bc (65536/st.low) j i m)<|.int j,.inr {q,I,⟨dx,fs,hq,Y⟩,.inl {M,_,_,M,M,Z,q1,q2},U,M,λ_=>r1},λk _ h=>?_,nd,λk v=>?_,(λks _ _=> .inl {M,m,g,by rw[Wm λz=>by rw[I]at z;cases z];exact(Wm ej).symm}),?_}
  .rw[AR]at h⊢;lia
  .rw[g.rw.me,AR,<-Bool.not_eq_true,AR];constructor
   .rintro ⟨h1,h2,h3⟩;exact{h1,{h2,()},()}
   .rintro ⟨h1,⟨h2,h3⟩,h4⟩;exact{h1,h2,()}
  .rcases g.st with z|⟨_,z|z⟩
   .exact Ws z ej
   .rw[Q0]at z;exact .inr<|.inl z
   .refine .inr<|.inr {M,?_};have ne:∀x≤m,bc (65536/st.low) j i x≠j:=λx hx=>by
     rcases VH hx with h|rfl
     .have:=g.go x h;lia
     .exact ej
    show i/(65536/st.low)+4*n<=bc (65536/st.low) j i m/(65536/st.low);rw[zi G m ne];lia
def yE(up:Bool)(x y:Int):Prop:=if up=true then x<y else y<x
def IH{up:Bool}{a:V}(r:dH ks):(cE up a e ks).Pairwise (yE up):=by
 unfold cE yE;cases up
 .exact List.Pairwise.filter _<|Vu.mpr r
 .exact List.Pairwise.filter _ r
def RC{up:Bool}{a:V}{z:Int}:z∈cE up a e ks↔z∈ks/\hK up a e z=true:=by
 unfold cE;rw[Z6];cases up
 .rw[Wm Q8,XC]
 .rw[Wn M]
def Hc{up:Bool}{l:R'}{m:Nat}{z:Int}(r:l.Pairwise (yE up))(h:l[m-1]?=some k)(m1:1<=m):z∈l.take m↔z∈l/\(z=k\/yE up z k):=by
 have w:=ZR.mp r;let{hk,G}:=Q2.mp h;have as:∀{x y:Int},yE up x y->¬(y=x\/yE up y x):=λ{x y} h1 h2=>by
  unfold yE at h1 h2;cases up
  .rw[Wm Q8]at h1 h2;lia
  .rw[Wn M]at h1 h2;lia
 constructor
 .intro hz;let{i,hi,e}:=Zh hz;rw[Q9]at hi;rw[XU]at e;refine{Zs hz,?_};rcases VQ i (m-1)with c|c
  .have:=w i (m-1) () hk c;rw[e,G]at this;exact .inr this
  .have:i=m-1:=();subst this;exact .inl<|e.symm.trans G
 .rintro ⟨hz,o⟩;let{i,hi,rfl}:=Zh hz;rcases VQ i m with c|c
  .exact List.mem_take_iff_getElem.mpr {i,(),M}
  .have:=w (m-1) i hk hi ();rw[G]at this;exact Ws o<|as this
def MG{up:Bool}{a:V}(h:Rm t H p up a e):Pz t H p (if up=true then 1 else 2) a e/\R4 (if up=true then 1 else 2) a e:=by
 let{dx,fs,hp,z,ok}:=h;cases up
 .exact{⟨dx,fs,hp,z⟩,.inr<|.inr ⟨M,ok⟩}
 .exact{⟨dx,fs,hp,z⟩,.inr<|.inl ⟨M,ok⟩}
def NL{up:Bool}:hN (if up=true then 1 else 2)=hK up:=by cases up<;>rfl
def xH{up:Bool}{a:V}{z:Int}(ok:if up=true then RN a e else RH a e)(hk:hK up a e k=true):hK up (.int<|if up=true then k+1 else k-1) e z=true↔hK up a e z=true/\¬(z=k\/yE up z k):=by
 unfold yE;cases up with
 |true=>
  rw[Wn M,Wn M];let{i,rfl,i0,he}:=(show RN a e from ok);rcases he with rfl|⟨j,rfl,_⟩
  .have h1:=Wt (show decide (i<=k)=true from hk);show decide (k+1<=z)=true↔decide (i<=z)=true/\_;rw[WB,WB];lia
  .have h1:=Wt (Zj.mp<|show(decide (i<=k)&&decide (k<j))=true from hk).1;show(decide (k+1<=z)&&decide (z<j))=true↔(decide (i<=z)&&decide (z<j))=true/\_;rw[Zf,Zf,WB,WB,WB];lia
 |false=>
  rw[Wm Q8,Wm Q8];let{j,rfl,G,ha}:=(show RH a e from ok);rcases ha with rfl|⟨i,rfl,_⟩
  .show(decide (j<=z)&&decide (z<=k-1))=true↔decide (j<=z)=true/\_;rw[Zf,WB,WB];lia
  .have h1:=Wt (Zj.mp<|show(decide (j<=k)&&decide (k<=i))=true from hk).2;show(decide (j<=z)&&decide (z<=k-1))=true↔(decide (j<=z)&&decide (z<=i))=true/\_;rw[Zf,Zf,WB,WB,WB];lia
def GH{up:Bool}(nd:(st.kv.map (·.1)).Nodup)(r:dH ks)(mk:∀z,z∈ks↔(aH st.kv z).isSome=true)(n1:1<=n)(ok:if up=true then RN av e else RH av e)
  (Y:ts.map (·.k)=(cE up av e ks).take n.toNat) (Z:∀e∈ts,aH st.kv e.k=some e.v) (x:NxH t H H' F' p up e (cE up av e ks) n.toNat v):∃a' R,Ej t H' F' st (if up=true then 1 else 2) n av e v ts a' R:=by
 have ho:=IH (up:=up) (a:=av) (e:=e) r;have I:(ts.map (·.k)).Nodup:=by
  rw[Y];refine(ho.sublist<|Vd _ _).imp λ{a b} h e=>?_;unfold yE at h;rw[e]at h;split at h<;>lia
 have me:∀(k:Int)(v:V),(k,v)∈ts.map Tp.kv↔(k,v)∈st.kv/\k∈(cE up av e ks).take n.toNat:=λk v=>by
  rw[<-Y,QJ,QJ];constructor
  .rintro ⟨d,hd,h1⟩;have h2:d.k=k:=WG Prod.fst h1;have O:d.v=v:=WG Prod.snd h1;have:=bK (Z d hd);rw[h2,O]at this;exact⟨this,d,hd,h2⟩
  .rintro ⟨h1,d,hd,rfl⟩;have:=Z d hd;rw[bW nd h1]at this;exact{d,hd,by unfold Tp.kv;rw[Wq this]}
 have ik:∀{k:Int}{v:V},(k,v)∈st.kv->k∈ks:=λh=>(mk _).mpr (by rw[bW nd h];rfl);have tl:∀{r:Tg},(r=if(cE up av e ks).length<=n.toNat then none else((cE up av e ks)[n.toNat-1]?).map λk=> .int<|if up=true then k+1 else k-1)->∀G,dH G->(∀z,z∈G↔(aH st.kv z).isSome=true)->SG st G (if up=true then 1 else 2) n av e (ts.map Tp.kv) r:=λ{q} hq G r' mk'=>by
  have e1:G=ks:=BJ r' r λz=>(mk' z).trans (mk z).symm;subst e1;refine .inr {up,M,by rwa[Z2],λp hp=>?_,hq};let{d,hd,rfl}:=QJ.mp hp;exact Z d hd
 unfold NxH at x;split at x
 .refine{.non,λ_=>false,.inl ⟨x,M⟩,λk _ h=>Ws h Q8,I,λk v=>?_,tl (by rw[Wn x,Wn (by assumption)]),.inl x};rw[me,Z1 (by assumption),RC,NL];exact{λh=>⟨h.1,h.2.2,M⟩,λh=>{h.1,ik h.1,h.2.1}}
 .rw[Wm ()]at x;let{q,k0,h0,U,_,nq,TQ}:=x;have hk:=(RC.mp<|Q1 h0).2;let{t1,t2}:=MG TQ;refine{_,hN (if up=true then 1 else 2) (.int<|if up=true then k0+1 else k0-1) e,.inr {q,U,t1,t2,nq,M,λz=>by cases up<;>cases z},λk _ h=>?_,I,λk v=>?_,tl (by rw[Wm (show ¬v= .non from λz=>by rw[U]at z;cases z),Wm (show ¬(cE up av e ks).length<=n.toNat by assumption),h0];rfl),.inr<|.inl ?_}
  .rw[NL]at h⊢;exact((xH ok hk).mp h).1
  .rw[me,Hc ho h0 (),RC,NL,<-Bool.not_eq_true,xH ok hk];constructor
   .rintro ⟨h1,⟨_,h2⟩,O⟩;exact{h1,h2,λz=>z.2 O}
   .rintro ⟨h1,h2,O⟩;exact{h1,{ik h1,h2},Classical.byContradiction λz=>O ⟨h2,z⟩}
  .have:=WG List.length Y;rw[Q0,Q9]at this;lia
def MR(K:JZ)(t:PB):Sp:=λvs H Q _=>∃(a p:K')(n kd:Int)(av e:V)(F:O')(x:PX),vs=[.ref a,.ref p,.int n,.non]/\PY K t H a F x/\Pz t H p kd av e/\R4 kd av e/\¬F p/\1<=n/\n<=1000/\x.st.kv.length<4096/\x.ks.length<4096/\(∀k∈x.ks,0<=k)/\(∀p∈x.st.kv,∃i:Int,p.2= .int i)/\
 ∀(H':Hp)(F':O')(r g:K')(v:V)(ts:List Tp)(a':V)(R:Int->Bool),PY K t H' a F' x->Fr F F' H H'->PgA H H' F F' r g v ts->Ej t H' F' x.st kd n av e v ts a' R->Q (.ref r) H'
def Nk:Cy P w K mg base PJ 8 t.Mv t.Cr [oq,fe,nj,"sieve"] (MR K t):=by
 have a2:=S0.nd;refine T.Pd.ok S0 (λvs H Q E h=>?_)<|λa3 A outer s H vs Q E hr h=>?_
 .let{a,p,n,kd,av,e,F,x,rfl,_}:=h;rfl
 .let{a,p,n,kd,av,e,F,x,rfl,A,TK,I,np,n1,n2,l4,lk,k0,iv,q}:=h;refine Md (λx y=>aS (cU<|aD (mF K M) {_} T.dQ cH (ae P0<|ae (cK (v:= .ref t.aX) {_} T.xb M) aj)) x y) ?_;refine aB (PF 4<|aP (t7 T) hr.mo {_} T.GR T.vx.kp T.GU .nil aA (ae (au Ck M)<|ae P0<|ae P1 aj)) ?_
  intros
  refine aB (PF 4<|aP (ve T) hr.mo {_} T.Ij T.xU.kp T.Jq .nil aA (ae Ck<|ae P0<|ae P1 aj)) ?_
  intros
  refine ak (aS (aw fN PM bx<|az _)
   (ay<|aG Qa)
   aJ)
     (aB jz ?_)
  intros
  let{dx,fs,hp,tf}:=id TK;have nd:(x.st.kv.map (·.1)).Nodup:=by
   let{s,l,wr,p,h,Fs,Fl,Jz,O,g}:=A;let{_,_,_,_,nd,_}:=Jz.sl;exact nd
  have ri:dH x.ks:=by
   let{_,_,_,_,_,_,L}:=A.lvs;exact L.rise
  have G:∀(up:Bool){Q':VK}{E':XK},kd=(if up=true then 1 else 2)->(∀v H',Q v H'->Q' v H')->mH K t [.ref a,.ref p,.int n] H Q' E':=λup Q' E' Y hQ=>by
   have ok:if up=true then RN av e else RH av e:=by
    subst Y;cases up
    .exact I.d
    .exact I.u
   refine{a,p,n,up,av,e,F,x,M,A,{dx,fs,?_,?_,ok},np,lk,k0,λH' F' r g v ts Z f' pg ek ev nx=>?_}
   .subst Y;cases up<;>exact hp
   .subst Y;cases up<;>exact tf
   .let{a',R,U}:=GH nd ri A.ok.ks n1 ok ek ev nx;rw[<-Y]at U;exact hQ _ _<|q H' F' r g v ts a' R Z f' pg U
  rcases I.kd with rfl|rfl|rfl
  .have hp:H p=some (.ins t.aX dx fs):=hp;let{i,j,rfl,rfl,i0,ij,j1}:=I.s;let{s,l,wr,pp,h,Fs,Fl,Jz,O,g}:=A;let{a0,ho}:=Jz.o.ob;have W0:0<65536/x.st.low:=by
    have z:PU x.st:=let⟨_,_,_,_,_,z⟩:=Jz.sl;z
    let{_,_,R}:=Ax (j3 z);exact R.wpos'
   refine{_,M,_,_,_,_,M,Py.ins hp T.bR T.qj.1 T.qj.2 T.qj.3 T.qj.4,T.DX,_,M,cy {_,M,a,_,a0,_,_,M,ho,T.aO,T.dM,xt,_,M,_,M,s,p,n,i,j,Fs,x.st,M,Jz.sl,⟨dx,fs,hp,tf,i0,ij,j1⟩,λz=>np<|(g p).mpr<|.inl z,n1,n2,l4,iv,λH' Fs' r gg v ts m S' f' pg ps nx=>{_,M,M,_,M,dX M {_,M,?_}}}};let{B1,g1}:=Jz.slots S' f';have up:∀{b:K'},¬F b->¬Fs b:=λn z=>n ((g _).mpr<|.inl z);have Z:PY K t H' a (RS a wr pp h Fs' Fl x.pa) x:={s,l,wr,pp,h,Fs',Fl,B1,O,λ_=>Iff.rfl};have a1:SX t H H' F (RS a wr pp h Fs' Fl x.pa) (bc (65536/x.st.low) j i m) j v:=by
    unfold SX at nx⊢;split
    .rw[Wn (by assumption)]at nx;exact nx
    .rw[Wm (by assumption)]at nx;let{y,e1,e2,e3,e4}:=nx;exact{y,e1,λn=>e2<|up n,Jz.newb e2 e3,e4}
   let{a',R,U}:=Ec W0 i0 ij ps a1;refine q H' _ r gg v ts a' R Z (λb o n e=>g1 b o (λz=>n<|(g b).mpr z) e) {pg.tu,pg.li,λe he=>{(pg.rw e he).1,λz=>?_},{λn=>pg.nr.1<|up n,Jz.newb pg.nr.1 pg.nr.2},λn=>pg.ng.1<|up n,Jz.newb pg.ng.1 pg.ng.2} U;let{o,e',n}:=Z.dom z;rw[(pg.rw e he).1]at e';exact n _ (Wq e').symm
  .have hp:H p=some (.ins t.dZ dx fs):=hp;refine{_,M,_,_,_,_,M,Py.ins hp T.iu T.mW.1 T.mW.2 T.mW.3 T.mW.4,T.JP,_,M,cu {_,M,_,M,_,M,G true M λv H' h=>{_,M,M,_,M,dX M {_,M,h}}}}
  .have hp:H p=some (.ins t.cv dx fs):=hp;refine{_,M,_,_,_,_,M,Py.ins hp T.cP T.fv.1 T.fv.2 T.fv.3 T.fv.4,T.GT,_,M,cu {_,M,_,M,_,M,G false M λv H' h=>{_,M,M,_,M,dX M {_,M,h}}}}
def uR(K:JZ):Sp:=λvs H Q _=>∃(a:K')(ns:R')(k:Int),vs=[.ref a,.int k]/\E7 K H a (ns.map V.int)/\0<=k/\Q (.int<|ns.getD k.toNat 0) H
def vh:Cy P w K mg base PJ 1 t.oH t.jj [u5,z9] (uR K):=by
 refine T.xX.okl u7 λs H vs Q E I h _=>?_;intro X;let{a,ns,i,rfl,hS,G,k}:=h;refine ak (aS (aw fL P0 (aD aE {_} T.bS bj (ae Ck aj))<|az _)
    (ay<|aG<|aR aQ Ck P0<|λ_ _=>M)
    aJ)
   (aB (aG ai) ?_)
 intros
 refine{_,M,_,M,a,_,M,.inl hS,_,_,M,M,_,M,?_};refine b4 (λc=>?_)<|λc=>?_
 .have c:=Wt c;rw[Q0]at c;exact{_,M,_,M,a,_,_,_,M,M,hS,xD G c,k}
 .have c:¬i<((ns.map V.int).length:Int):=λz=>c (Wv z);rw[Q0]at c;rw[Jo c]at k;exact k
def yb:Sp:=λvs H Q _=>∃c k:Int,vs=[.int c,.int k]/\∀z:Int,0<=z->z<2147483647->Q (.int z) H
def pL:Cy P w K mg base PJ 1 t.sW t.mj [eH,z9] yb:=by
 refine T.tF.okl yt λs H vs Q E z h _=>?_;intro X;let{c,k,rfl,q}:=h;refine ak (PF 2<|aq aV (aq eY (aq bG (aq bG Ck<|aq eY ai P0) ai) ai) ai)
   (aB (aG<|aq aV (aq eY P1<|aq bG (aq aU P1 ai) ai) ai) ?_)
 intros
 refine{_,M,_,M,_,_,M,M,.inl {(_),(_)},_,_,M,M,_,_,M,M,_,_,M,M,.inr {(_),(_)},_,_,M,M,(by show(0:Int)<2147483647;decide),?_};have a:=QP ((c+7919*k+1)*48271) (show(2147483647:Int)≠0 by decide);have b:=QL ((c+7919*k+1)*48271) (show(0:Int)<2147483647 by decide)
 (try dsimp only)
 generalize (c+7919*k+1)*48271%2147483647=n at a b⊢;refine{_,M,_,M,_,_,M,M,{(_),(_)},_,_,M,M,_,_,M,M,.inl {(),()},_,_,M,M,(by show(0:Int)<2147483647;decide),?_};exact q _ (QP _ (_))<|QL _ (_)
def LY(kd:Int)(H:Hp)(Q:VK):Prop:=∀(H':Hp)(p:K')(a e:V),GI H H'->H' p=some (.tup [.int kd,a,e])->R4 kd a e->Rc a->Rc e->Q (.ref p) H'
def eG{i:Int}(h:i<10^80):Rc (.int i):=h
def A8:Rc .non:=WD
def mZ:Sp:=λvs H Q _=>∃kd c:Int,vs=[.int kd,.int c]/\0<=kd/\kd<3/\LY kd H Q
def nO:Cy P w K mg base PJ 1 t.iw t.eC ["_law_kind",eH] mZ:=by
 refine T.pF.okl m8 λs H vs Q E hr h _=>?_;intro X;let{kd,c,rfl,d0,d3,q}:=h;refine cI (λx=>aS (aw bH Ck ai<|az _) x aJ) ?_;refine ak (PF 2<|aq aV P0 ai)
   (aB (aG<|bM<|ae Ck<|ae P1<|ae (aq bG P1<|aq aV (aq aU P0 ai)<|aq eV ai P1) aj) ?_)
 intros
 refine ak (PF 2<|aq aV (aq aU P0 ai)<|aq jW ai ai)
   (ak (PF 3<|aq bG P1<|aq aV (aq BR P0<|aq eY ai<|aq jW ai ai)<|aq jW ai ai)
   (ak (aS (PW.pt<|eU (aw bH (aq aV P0 ai) ai<|az _)<|dB<|aw bH Ck ai<|az _)
    (ay<|aG<|bM<|ae Ck<|ae P1<|ae bx aj)
    aJ)
   (ak (aS (aw bH (aq aV P0 ai) ai<|az _)
    (ay<|aG<|bM<|ae Ck<|ae bx<|ae P1 aj)
    aJ)
   (aB (aG<|bM<|ae Ck<|ae (aR aQ (bX<|ae P1<|ae PM aj) (aq eV Ck ai)<|λ_ _=>M)<|ae (aR aQ (bX<|ae PM<|ae P1 aj) (aq eV Ck ai)<|λ_ _=>M) aj) ?_))))
 intros
 refine{_,M,M,_,M,b4 (λz=>?_)<|λz=>?_}
 .obtain rfl:kd=0:=V.int.inj (Wt z);have G:=QP c (show(65537:Int)≠0 by decide);have I:=QL c (show(0:Int)<65537 by decide);refine{_,M,_,_,M,M,(by show(0:Int)<65537;decide),?_}
  (try dsimp only)
  generalize c%65537=lo at G I⊢;refine{_,M,_,M,_,M,_,M,_,_,M,M,{(_),(_)},_,M,_,_,M,M,_,_,M,M,(by show(0:Int)<65537-lo;lia),_,_,M,M,(by show 3<=sizeLine;decide),λp hp=>?_};have b0:=QP (c/65537) (show(65537-lo:Int)≠0 by lia);have Y:=QL (c/65537) (show(0:Int)<65537-lo by lia);exact q _ p (.int lo) (.int<|lo+c/65537%(65537-lo)) (al hp) ag (.inl {M,lo,_,M,M,G,(),()}) (eG ())<|eG ()
 .have dz:kd≠0:=λe=>z (Wv<|by rw[e]);have G:=QP (c/2) (ZC vM);have I:=QL (c/2) vM;have b0:=QP (c/(2*10^(39:Int).toNat)) (ZC vM);have Y:=QL (c/(2*10^(39:Int).toNat)) vM;refine{_,M,_,_,M,M,{(_),(_)},_,_,M,M,{(_),(_),(_)},_,_,M,M,vM,?_}
  (try dsimp only)
  generalize c/2%10^(39:Int).toNat=lo at G I⊢;refine{_,M,_,M,_,_,M,M,{(_),(_),(_)},_,_,M,M,.inl {(_),(_)},_,_,M,M,{(_),(_)},_,_,M,M,{(_),(_),(_)},_,_,M,M,vM,_,_,M,M,?_}
  (try dsimp only)
  generalize c/(2*10^(39:Int).toNat)%10^(39:Int).toNat=hi at b0 Y⊢;have Z:(10:Int)^(39:Int).toNat=10^39:=M;rw[Z]at I Y;have two:(0:Int)<2:=by decide
  have O:3<=sizeLine:=by decide
  have U:2<=sizeLine:=by decide
  rcases(show kd=1\/kd=2 by lia)with rfl|rfl
  .refine{_,M,_,_,M,M,two,M,_,M,b4 (λy=>?_)<|λy=>?_}
   .refine{_,M,M,_,M,dX M {_,M,_,M,O,λp hp=>?_}};exact q _ p (.int lo) .non (al hp) ag (.inr<|.inl {M,lo,M,G,.inl M}) (eG ()) A8
   .refine{_,M,_,_,M,M,two,M,_,M,b4 (λy2=>Ws y2 y)<|λ_=>?_};refine{_,M,_,M,_,M,U,λp1 n1=>{_,M,_,_,M,M,p1,_,_,_,M,M,E7.of ag,M,_,M,_,M,U,λp2 n2=>{_,M,_,_,M,M,p2,_,_,_,M,M,E7.of ag,M,O,λp3 n3=>?_}}};exact q _ p3 (.int lo) (.int<|lo+hi) (((al n1).trans<|al n2).trans<|al n3) ag (.inr<|.inl {M,lo,M,G,.inr {_,M,()}}) (eG ())<|eG ()
  .refine{_,M,_,_,M,M,two,M,_,M,b4 (λy=>?_)<|λy=>?_}
   .refine{_,M,M,_,M,bg (λe=>by cases e) {_,M,_,_,M,M,two,M,_,M,b4 (λ_=>{_,M,_,M,O,λp hp=>?_})<|λy2=>Ws y y2}};exact q _ p .non (.int lo) (al hp) ag (.inr<|.inr {M,lo,M,G,.inl M}) A8<|eG ()
   .refine{_,M,_,_,M,M,two,M,_,M,b4 (λy2=>Ws y2 y)<|λ_=>?_};refine{_,M,_,M,_,M,U,λp1 n1=>{_,M,_,_,M,M,p1,_,_,_,M,M,E7.of ag,M,_,M,_,M,U,λp2 n2=>{_,M,_,_,M,M,p2,_,_,_,M,M,E7.of ag,M,O,λp3 n3=>?_}}};exact q _ p3 (.int<|lo+hi) (.int lo) (((al n1).trans<|al n2).trans<|al n3) ag (.inr<|.inr {M,lo,M,G,.inr {_,M,()}}) (eG ())<|eG ()
def IM(h:i<ks.length):ks.getD i 0∈ks:=by
 rw[QR,Q3 h];exact Xf h
def uQ(K:JZ):Sp:=λvs H Q _=>∃(c:Int)(l:K')(ks:R'),vs=[.int c,.ref l]/\H l=some (.lst<|ks.map V.int)/\(∀k∈ks,0<=k/\k<10^40)/\LY (c%3) H Q
def vg:Cy P w K mg base PJ 2 t.oG t.ji [eH,"_law_keys"] (uQ K):=by
 refine T.xW.okl uZ λs H vs Q E hr h _=>?_;intro X;let{c,l,ks,rfl,hS,kb,q}:=h;refine ak (PF 2<|aq aV Ck ai)
   (cI (λx=>aS (aw bH (aq aV (aq aU Ck ai) ai) ai<|az _) x aJ) ?_)
 refine aB (aG<|aP (nO T) hr.mo {_} T.CS T.pF.kp T.CT .nil aA (ae P1<|ae (aq aU Ck ai) aj)) ?_
 intros
 refine ak (PF 3<|aP (pL T) hr.mo {_} T.AM T.tF.kp T.Ba .nil aA (ae (aq aU Ck ai)<|ae ai aj))
   (cI (λx=>aS (aw bH P1 ai<|az _) x aJ) ?_)
 refine ak (PF 4<|aq aV PM ai)
   (ak (PF 5<|aq bG Qa<|aq aV (aq aU PM ai)<|aq eV ai Qa)
   (aB (aG<|bM<|ae P1<|ae (aR aQ (bX<|ae Qa<|ae ai aj) (aq aV PM ai)<|λ_ _=>M)<|ae (aR aQ (bX<|ae Qy<|ae ai aj) (aq aV (aq aU PM ai) ai)<|λ_ _=>M) aj) ?_))
 intros
 refine ak (PF 4<|aq aV PM ai)
   (cI (λx=>aS (PW.pt<|eU (aw BQ (aD aE {_} T.bS bj (ae P0 aj)) ai<|az _)<|dB<|aw BQ (aq aV (aq aU PM ai) ai) ai<|az _) x aJ) ?_)
 refine aB (PF 4<|aq bG (aR aQ P0 (aq aV (aq aU PM ai)<|aD aE {_} T.bS bj (ae P0 aj))<|λ_ _=>M)<|aq aV (aq aU PM ai) ai) ?_
 intros
 refine ak (PF 5<|aq bG Qa<|aR aQ (bX<|ae (aq aV (aq aU PM ai) ai)<|ae (aq aV (aq aU Ck ai)<|aq jW ai ai)<|ae (aq aV (aq aU PM ai) ai) aj) (aq aV (aq aU PM ai) ai)<|λ_ _=>M)
   (ak (aS (PW.pt<|eU (aw bH (aq aV (aq aU PM ai) ai) ai<|az _)<|dB<|aw bH P1 ai<|az _)
    (ay<|aG<|bM<|ae P1<|ae Qa<|ae bx aj)
    aJ)
   (ak (aS (aw bH (aq aV (aq aU PM ai) ai) ai<|az _)
    (ay<|aG<|bM<|ae P1<|ae bx<|ae Qa aj)
    aJ)
   (aB (aG<|bM<|ae P1<|ae (aR aQ (bX<|ae Qa<|ae Qy aj) (aq eV P1 ai)<|λ_ _=>M)<|ae (aR aQ (bX<|ae Qy<|ae Qa aj) (aq eV P1 ai)<|λ_ _=>M) aj) ?_)))
 intros
 have d0:=QP c (show(3:Int)≠0 by decide);have d3:=QL c (show(0:Int)<3 by decide);have two:(0:Int)<2:=by decide
 have I:3<=sizeLine:=by decide
 have O:2<=sizeLine:=by decide
 refine{_,M,_,_,M,M,(by show(0:Int)<3;decide),?_}
 (try dsimp only)
 generalize c%3=kd at d0 d3 q⊢;refine{_,M,_,_,M,M,{(_),(_)},_,_,M,M,two,M,_,M,b4 (λ_=>?_)<|λ_=>?_}
 .exact{_,M,_,M,_,_,M,M,{(_),(_)},kd,_,M,d0,d3,q}
 refine{_,M,_,_,M,M,{(_),(_)},_,_,M,λn n0 n1=>?_};refine{_,M,M,_,M,b4 (λz=>?_)<|λz=>?_}
 .obtain rfl:kd=0:=V.int.inj (Wt z);have G:=QP n (show(65537:Int)≠0 by decide);have U:=QL n (show(0:Int)<65537 by decide);refine{_,M,_,_,M,M,(by show(0:Int)<65537;decide),?_}
  (try dsimp only)
  generalize n%65537=lo at G U⊢;have b0:=QP (n/65537) (show(65537-lo:Int)≠0 by lia);have b1:=QL (n/65537) (show(0:Int)<65537-lo by lia);refine{_,M,_,M,_,_,M,M,{(_),(_)},_,M,_,_,M,M,_,_,M,M,(by show(0:Int)<65537-lo;lia),_,_,M,M,?_}
  (try dsimp only)
  generalize n/65537%(65537-lo)=g at b0 b1⊢;let{x,hx,x0}:=zj (c:=n) (n:=2) (L:=[.int lo,.int 0]) (P:=λm=>0<=m/\m<=lo) {{G,ZL _},{ZL _,G},trivial} M two;let{y,hy,y0}:=zj (c:=n/2) (n:=2) (L:=[.int (lo+g),.int 65536]) (P:=λm=>lo<=m/\m<=65536) {{(),()},{(),()},trivial} M two;refine{_,M,_,M,O,λY a2=>{_,M,_,_,M,M,two,Y,_,_,_,M,M,E7.of ag,hx,_,M,O,λp2 Z=>{_,M,_,_,M,M,{(_),(_)},_,_,M,M,two,p2,_,_,_,M,M,E7.of ag,hy,I,λp3 n3=>?_}}};exact q _ p3 (.int x) (.int y) (((al a2).trans<|al Z).trans<|al n3) ag (.inl {M,x,y,M,M,x0.1,(),y0.2}) (eG ())<|eG ()
 .have dz:kd≠0:=λe=>z (Wv<|by rw[e]);have G:=QP n (show(60:Int)≠0 by decide);have U:=QL n (show(0:Int)<60 by decide);refine{_,M,_,_,M,M,(by show(0:Int)<60;decide),?_}
  (try dsimp only)
  generalize n%60=lo at G U⊢;refine dw (λB H'=>H=H'/\∃lo:Int,B=[some (.int c),some (.ref l),some (.int kd),some (.int n),some (.int lo),none]/\0<=lo/\lo<10^41) (λnx go=>?_)<|λB H' w=>?_
  .refine{_,M,l,_,M,.inl<|E7.of hS,_,_,M,M,_,M,b4 (λz=>?_)<|λz=>?_}
   .have kl:0<ks.length:=by
     have:=Wt z;rw[Q0]at this;lia
    have kl:(0:Int)<(ks.length:Int):=();have z0:=QP (n/180) (ZC kl);have z1:=QL (n/180) kl;have y0:=QP (n/72000) (show(2:Int)≠0 by decide);have y1:=QL (n/72000) (show(0:Int)<2 by decide);refine{_,M,_,_,M,M,{(_),(_)},_,_,M,M,(by show(0:Int)<3;decide),_,_,M,M,_,M,b4 (λ_=>?_)<|λ_=>go _ _ {M,lo,M,G,()}};refine{_,M,_,M,_,_,M,M,{(_),(_)},_,M,l,_,M,.inl<|E7.of hS,_,_,M,M,(by rwa[Q0]),l,_,_,_,M,M,E7.of hS,(by rw[Q0];exact xD z0 z1),_,M,_,_,M,M,{(_),(_)},_,_,M,M,two,_,_,M,M,go _ _ {M,_,M,?_}};let{b0,b1}:=kb (ks.getD (n/180%ks.length).toNat 0) (IM ());constructor<;>lia
   .exact go _ _ {M,lo,M,G,()}
  clear G U lo;let{rfl,lo,rfl,G,U}:=w;have a3:(0:Int)<10^(38:Int).toNat:=by decide
  have a4:∀z:Int,0<=z%90/\z%90<10^38:=λz=>{QP _ (_),Int.lt_trans (QL _ (_)) (_)};have a5:∀z:Int,0<=z%10^(38:Int).toNat/\z%10^(38:Int).toNat<10^38:=λz=>{QP _ (_),QL _ (_)};have a6:∀z:Int,0<=z%70000/\z%70000<10^38:=λz=>{QP _ (_),Int.lt_trans (QL _ (_)) (_)};let{hi,hh,b0,b1}:=zj (c:=n/216000) (n:=3) (L:=[.int (n/7%90),.int (c/11%10^(38:Int).toNat),.int (n/7%70000)]) (P:=λm=>0<=m/\m<10^38) {a4 _,a5 _,a6 _,trivial} M (_);refine{_,M,_,M,_,_,M,M,{(_),(_)},_,_,M,M,(by show(0:Int)<90;decide),_,M,_,_,M,M,{(_),(_)},_,_,M,M,{(_),(_),(_)},_,_,M,M,a3,_,M,_,_,M,M,{(_),(_)},_,_,M,M,(by show(0:Int)<70000;decide),I,λp hp=>?_};refine{_,M,_,_,M,M,{(_),(_)},_,_,M,M,(by show(0:Int)<3;decide),p,_,_,_,M,M,E7.of ag,hh,_,_,M,M,?_};have s0:GI H (upd H p<|.lst [.int (n/7%90),.int (c/11%10^(38:Int).toNat),.int (n/7%70000)]):=al hp
  (try dsimp only)
  generalize upd H p (.lst [.int (n/7%90),.int (c/11%10^(38:Int).toNat),.int (n/7%70000)])=H1 at s0⊢;have q:=λH' p' a e(s:GI H1 H')=>q H' p' a e (s0.trans s);have th:(0:Int)<3:=by decide
  have dv:CDiv n 648000:={(_),(_)};rcases(show kd=1\/kd=2 by lia)with rfl|rfl
  .refine{_,M,_,_,M,M,dv,_,_,M,M,th,M,_,M,b4 (λy=>?_)<|λy=>?_}
   .refine{_,M,M,_,M,dX M {_,M,_,M,I,λp hp=>?_}};exact q _ p (.int lo) .non (al hp) ag (.inr<|.inl {M,lo,M,G,.inl M}) (eG ()) A8
   .refine{_,M,_,_,M,M,dv,_,_,M,M,th,M,_,M,b4 (λy2=>Ws y2 y)<|λ_=>?_};refine{_,M,_,M,_,M,O,λY n1=>{_,M,_,_,M,M,Y,_,_,_,M,M,E7.of ag,M,_,M,_,M,O,λp2 Z=>{_,M,_,_,M,M,p2,_,_,_,M,M,E7.of ag,M,I,λp3 n3=>?_}}};exact q _ p3 (.int lo) (.int<|lo+hi) (((al n1).trans<|al Z).trans<|al n3) ag (.inr<|.inl {M,lo,M,G,.inr {_,M,()}}) (eG ())<|eG ()
  .refine{_,M,_,_,M,M,dv,_,_,M,M,th,M,_,M,b4 (λy=>?_)<|λy=>?_}
   .refine{_,M,M,_,M,bg (λe=>by cases e) {_,M,_,_,M,M,dv,_,_,M,M,th,M,_,M,b4 (λ_=>{_,M,_,M,I,λp hp=>?_})<|λy2=>Ws y y2}};exact q _ p .non (.int lo) (al hp) ag (.inr<|.inr {M,lo,M,G,.inl M}) A8<|eG ()
   .refine{_,M,_,_,M,M,dv,_,_,M,M,th,M,_,M,b4 (λy2=>Ws y2 y)<|λ_=>?_};refine{_,M,_,M,_,M,O,λY n1=>{_,M,_,_,M,M,Y,_,_,_,M,M,E7.of ag,M,_,M,_,M,O,λp2 Z=>{_,M,_,_,M,M,p2,_,_,_,M,M,E7.of ag,M,I,λp3 n3=>?_}}};exact q _ p3 (.int<|lo+hi) (.int lo) (((al n1).trans<|al Z).trans<|al n3) ag (.inr<|.inr {M,lo,M,G,.inr {_,M,()}}) (eG ())<|eG ()
def DN{N:K'}{kd:Str}{ok:V->V->Prop}{a:V}{E:XK}(G:ok a e)(I:Sc a)(O:Sc e)(x dx:K')(nx:H x=none)(nd:H dx=none)
  (q:∀H' fs,GI H H'->H' x=some (.ins C dx fs)->y7 kd fs a e->Q .non H'):Er C N kd ok [.ref x,a,e] (upd (upd H dx<|.own x) x<|.ins C dx []) Q E:=
 {x,dx,a,e,M,ag,I,O,λ_ H' fs k h f=>q H' fs (tQ nx nd k) h f,λz=>Ws G z}
def x9(K:JZ)(t:PB):Sp:=λvs H Q _=>∃(n:K')(kd:Int)(a e:V),vs=[.ref n]/\Px K H n [.int kd,a,e]/\R4 kd a e/\∀H' p,GI H H'->H p=none->Pz t H' p kd a e->Q (.ref p) H'
def yH:Cy P w K mg base PJ 5 t.sU t.mh ["_law_numbers_here"] (x9 K t):=by
 refine T.Bi.okl yq λs H vs Q E O h _=>?_;intro X;let{n,kd,a,e,rfl,G,I,q}:=h;refine cI (λx=>aS (aw bH (aR bY Ck ai<|λ_ _=>M) ai<|az _) x aJ) ?_;refine aB (aG<|iD T.DO (kK T) O.mo {_} T.xb T.vv .nil aA (ae (aR bY Ck ai<|λ_ _=>M)<|ae (aR bY Ck ai<|λ_ _=>M) aj)) ?_
 intros
 refine cI (λx=>aS (aw bH (aR bY Ck ai<|λ_ _=>M) ai<|az _) x aJ) ?_;refine aB (aG<|iD T.OO (uC T) O.mo {_} T.Ia T.Eb .nil aA (ae (aR bY Ck ai<|λ_ _=>M)<|ae (aR bY Ck ai<|λ_ _=>M) aj)) ?_
 intros
 refine aB (aG<|iD T.KS (pN T) O.mo {_} T.KW T.Bc .nil aA (ae (aR bY Ck ai<|λ_ _=>M)<|ae (aR bY Ck ai<|λ_ _=>M) aj)) ?_
 intros
 let{U,Y}:=I.sc;rcases I.kd with rfl|rfl|rfl
 .refine{_,M,n,_,_,_,M,M,G,M,M,_,M,dX M {_,M,n,_,_,_,M,M,G,M,_,M,n,_,_,_,M,M,G,M,λx dx nx nd ne=>?_}};exact DN I.s U Y x dx nx nd λH' fs s h f=>{M,q H' x s nx ⟨dx,fs,h,f⟩}
 .refine{_,M,n,_,_,_,M,M,G,M,M,_,M,bg (λz=>by cases z) {_,M,n,_,_,_,M,M,G,M,M,_,M,dX M {_,M,n,_,_,_,M,M,G,M,_,M,n,_,_,_,M,M,G,M,λx dx nx nd ne=>?_}}};exact DN I.u U Y x dx nx nd λH' fs s h f=>{M,q H' x s nx ⟨dx,fs,h,f⟩}
 .refine{_,M,n,_,_,_,M,M,G,M,M,_,M,bg (λz=>by cases z) {_,M,n,_,_,_,M,M,G,M,M,_,M,bg (λz=>by cases z) {_,M,n,_,_,_,M,M,G,M,_,M,n,_,_,_,M,M,G,M,λx dx nx nd ne=>?_}}};exact DN I.d U Y x dx nx nd λH' fs s h f=>{M,q H' x s nx ⟨dx,fs,h,f⟩}
inductive Dw where
 |put(k v:Int)
 |drop(k:Int)
 |mark(i:Int)
noncomputable def Dw.vs:Dw->List V
 | .put k v=> [.str "put",.int k,.int v]
 | .drop k=> [.str J',.int k]
 | .mark i=> [.str ge,.int i]
noncomputable def Dw.key:Dw->Option Int
 | .put k _=>some k
 | .drop k=>some k
 | .mark _=>none
noncomputable def Dw.eff:Dw->Option V
 | .put _ v=>some (.int v)
 |_=>none
set_option genInjectivity false in
structure DR where
 p:Addr
 r:Dw
def ap(R1:Sn)(e:DR):List (Int×V):=match e.r with
 | .put k v=>a9 R1 k (.int v)
 | .drop k=>bT R1 k
 | .mark _=>R1
def tbl(l:List DR):List (Int×V):=l.foldl ap []
noncomputable def de(k:Int):List DR->Option DR
 | []=>none
 |e::r=>match de k r with
  |some x=>some x
  |none=>if e.r.key=some k then some e else none
def Be{e:DR}:aH (ap R1 e) k=if e.r.key=some k then e.r.eff else aH R1 k:=by
 unfold ap;cases e.r with
 |put j v=>
  show aH (a9 R1 j<|.int v) k=if some j=some k then some (V.int v)else _
  rw[eI];by_cases h:k=j
  .rw[Wn h,Wn (by rw[h])]
  .rw[Wm h,Wm λz=>h (Wq z).symm]
 |drop j=>
  show aH (bT R1 j) k=if some j=some k then none else _
  rw[fc];by_cases h:k=j
  .rw[Wn h,Wn (by rw[h])]
  .rw[Wm h,Wm λz=>h (Wq z).symm]
 |mark i=>exact(Wm λz=>by cases z).symm
def Mt{e:DR}(h:(R1.map (·.1)).Nodup):((ap R1 e).map (·.1)).Nodup:=by
 unfold ap;cases e.r with
 |put j v=>exact wY h
 |drop j=>exact h.sublist<|V3.map _
 |mark i=>exact h
def NZ{e:DR}:(ap R1 e).length<=R1.length+1:=by
 unfold ap;cases e.r with
 |put j v=>exact cw _ _ _
 |drop j=>exact X6<|Co _ _
 |mark i=>exact ZO _
theorem sG{k:Int}:∀{l:List DR}{R1:Sn},aH (l.foldl ap R1) k=match de k l with|some x=>x.r.eff|none=>aH R1 k
 | [],_=>rfl
 |e::r,R1=>by
  show aH (r.foldl ap<|ap R1 e) k=match (match de k r with|some x=>some x|none=>if e.r.key=some k then some e else none)with|some x=>x.r.eff|none=>aH R1 k
  rw[sG];cases c:de k r with
  |some x=>rfl
  |none=>
   show aH (ap R1 e) k=_;rw[Be];by_cases h:e.r.key=some k
   .rw[Wn h,Wn h]
   .rw[Wm h,Wm h]
theorem AT:∀{l:List DR}{R1:Sn},(R1.map (·.1)).Nodup->((l.foldl ap R1).map (·.1)).Nodup
 | [],_,h=>h
 |e::r,R1,h=>AT (l:=r) (R1:=ap R1 e) (Mt h)
theorem sH:∀{l:List DR}{R1:Sn},(l.foldl ap R1).length<=R1.length+l.length
 | [],_=>Q4 _
 |e::r,R1=>by
  have h1:=sH (l:=r) (R1:=ap R1 e);have h2:=NZ (R1:=R1) (e:=e);show(r.foldl ap<|ap R1 e).length<=R1.length+(r.length+1);lia
def Ha:((tbl l).map (·.1)).Nodup:=AT ZE
def Eo:(tbl l).length<=l.length:=by
 have:=sH (l:=l) (R1:=[]);rwa [XJ,V6]at this
def rc{e:DR}:tbl (l++ [e])=ap (tbl l) e:=by
 unfold tbl;rw[XW];rfl
def Kn{m:List DR}:tbl (l++m)=m.foldl ap (tbl l):=XW
theorem l6{k:Int}{e:DR}:∀{l:List DR},de k (l++ [e])=if e.r.key=some k then some e else de k l
 | []=>rfl
 |x::r=>by
  show(match de k (r++ [e])with|some x=>some x|none=>_)=_;rw[l6];by_cases h:e.r.key=some k
  .rw[Wn h,Wn h]
  .rw[Wm h,Wm h];rfl
theorem gB{k:Int}{x:DR}:∀{l:List DR},de k l=some x->x∈l/\x.r.key=some k
 | [],h=>by cases h
 |e::r,h=>by
  change (match de k r with|some x=>some x|none=>if e.r.key=some k then some e else none)=some x at h;cases c:de k r with
  |some y=>
   rw[c]at h;cases h;exact{QM _ (gB c).1,(gB c).2}
  |none=>
   rw[c]at h;by_cases g:e.r.key=some k
   .change (if e.r.key=some k then some e else none)=some x at h;rw[Wn g]at h;cases h;exact⟨QK,g⟩
   .change (if e.r.key=some k then some e else none)=some x at h;rw[Wm g]at h;cases h
theorem qJ{k:Int}:∀{l:List DR},de k l=none->∀x∈l,x.r.key≠some k
 | [],_,x,hx=>Ws hx ZU
 |e::r,h,x,hx=>by
  change (match de k r with|some x=>some x|none=>if e.r.key=some k then some e else none)=none at h;cases c:de k r with
  |some y=>rw[c]at h;cases h
  |none=>
   rw[c]at h;change (if e.r.key=some k then some e else none)=none at h;rcases QS.mp hx with rfl|hx
   .intro g;rw[Wn g]at h;cases h
   .exact qJ c x hx
def Bv(h:k∈(tbl l).map (·.1)):∃x∈l,x.r.key=some k:=by
 have h:=mem_keys.mp h;unfold tbl at h;rw[sG]at h;cases c:de k l with
 |none=>rw[c]at h;cases h
 |some x=>exact{x,gB c}
set_option genInjectivity false in
structure Qf where
 g:Addr
 nd:Addr
 tk:Addr
 ta:V
 fd:Option (Addr×List Tp)
 ah:V
 aa:V
 no:List (Int×DR)
 cl:Option Int
set_option genInjectivity false in
structure PQ where
 rv:V
 ra:V
 n:Nat
 cp:List (Int×V)
 pg:Option Qf
def hO(v:V)(kd:Int)(a e:V)(k:Int):Bool:=if v= .non then false else hN kd a e k
def Qf.inp(P:Qf)(kd:Int)(e:V)(k:Int):Bool:=P.fd.isSome&&(hN kd P.ta e k&&!hO P.ah kd P.aa e k)
def PQ.cov(X:PQ)(kd:Int)(av e:V)(k:Int):Bool:=hN kd av e k&&!hO X.rv kd X.ra e k
noncomputable def Qf.rows(P:Qf):List (Int×V):=match P.fd with
 |some y=>y.2.map Tp.kv
 |none=> []
def Qf.out(P:Qf):List (Int×V):=(P.no.map (·.2)).foldl ap P.rows
def w6(a b:Sn):List (Int×V):=b.foldl (λR1 p=>a9 R1 p.1 p.2) a
noncomputable def yD(l:List (Int×DR))(k:Int)(e:DR):List (Int×DR):=if(l.any λz=>decide (z.1=k))=true then l.map λz=>if z.1=k then(z.1,e)else z else l++ [(k,e)]
def RD{l:List (Int×DR)}{j:Int}{e x:DR}:(j,x)∈yD l k e↔(j=k/\x=e)\/(j≠k/\(j,x)∈l):=by
 unfold yD;by_cases c:(l.any λz=>decide (z.1=k))=true
 .rw[Wn c,QJ];constructor
  .rintro ⟨z,hz,G⟩;by_cases h:z.1=k
   .rw[Wn h]at G;cases G;exact .inl ⟨h,M⟩
   .rw[Wm h]at G;subst G;exact .inr ⟨h,hz⟩
  .rintro (⟨rfl,rfl⟩|⟨h,hz⟩)
   .let{z,hz,G}:=Vi.mp c;have G:=Wt G;exact{z,hz,by rw[Wn G,G]}
   .exact{(j,x),hz,by rw[Wm h]}
 .rw[Wm c,Q5];constructor
  .rintro (h|h)
   .refine .inr {λz=>c<|Vi.mpr {(j,x),h,Wv z},h}
   .cases Q7.mp h;exact .inl ⟨M,M⟩
  .rintro (⟨rfl,rfl⟩|⟨_,h⟩)
   .exact .inr<|Q7.mpr M
   .exact .inl h
def HB{l:List (Int×DR)}{e:DR}:(yD l k e).length<=l.length+1:=by
 unfold yD;split
 .rw[Q0];exact ZO _
 .rw[Q6];exact Q4 _
def HA{l:List (Int×DR)}{e:DR}:(yD l k e).map (λz=>(z.1,V.ref z.2.p))=a9 (l.map λz=>(z.1,V.ref z.2.p)) k (.ref e.p):=by
 unfold yD a9;rw[List.any_map];have:(l.any λz=>decide (z.1=k))=l.any ((λkv:Int×V=>decide (kv.1=k))∘λz=>(z.1,V.ref z.2.p)):=M;rw[<-this];split
 .rw[Z2,Z2];refine X8 λz _=>?_;show((if z.1=k then(z.1,e)else z).1,V.ref (if z.1=k then(z.1,e)else z).2.p)=if z.1=k then(z.1,V.ref e.p)else(z.1,V.ref z.2.p)
  split<;>rfl
 .rw[QO];rfl
def PQ.chg(X:PQ)(kd:Int)(av e:V)(k:Int)(x:DR):PQ:=
 if X.cov kd av e k=true then{X with n:=X.n+1,cp:=ap X.cp x}else match X.pg with
  |none=>{X with n:=X.n+1}
  |some P=>if P.inp kd e k=true then{X with n:=X.n+1,pg:=some {P with no:=yD P.no k x}}else{X with n:=X.n+1}
def PQ.mrk(X:PQ)(i:Int):PQ:=match X.pg with
 |none=>{X with n:=X.n+1}
 |some P=>if P.cl=some i then{P.ah,P.aa,X.n+1,w6 X.cp P.out,none}else{X with n:=X.n+1}
def bB(kd:Int)(av e:V)(X:PQ)(x:DR):PQ:=match x.r with
 | .put k _=>X.chg kd av e k x
 | .drop k=>X.chg kd av e k x
 | .mark i=>X.mrk i
theorem w5{k:Int}:∀{b a:Sn},(b.map (·.1)).Nodup->aH (w6 a b) k=match aH b k with|some v=>some v|none=>aH a k
 | [],_,_=>rfl
 |p::r,a,h=>by
  let{h1,h2}:=Zv.mp h;show aH (w6 (a9 a p.1 p.2) r) k=_;rw[w5 h2];by_cases e:p.1=k
  .have:aH r k=none:=by
    cases c:aH r k with
    |none=>rfl
    |some v=>exact Ws (mem_keys.mpr<|by rw[c];rfl)<|by rwa[<-e]
   rw[this,bD e,eI,Wn e.symm]
  .rw[bz e];cases aH r k with
   |some v=>rfl
   |none=>
    show aH (a9 a p.1 p.2) k=aH a k;rw[eI,Wm λz=>e z.symm]
theorem EF:∀{b a:Sn},(a.map (·.1)).Nodup->((w6 a b).map (·.1)).Nodup
 | [],_,h=>h
 |p::r,a,h=>EF (b:=r) (a:=a9 a p.1 p.2) (wY h)
theorem zu:∀{b a:Sn},ud (aI a) (aI b)=aI (w6 a b)
 | [],_=>rfl
 |p::r,a=>by
  show ud (a9 (aI a) (Sum.inl p.1) p.2) (aI r)=aI (w6 (a9 a p.1 p.2) r);rw[dW,zu]
structure SR(kd:Int)(av e:V)(ds:List DR)(X:PQ)(P:Qf):Prop where
 rn:X.rv= .ref P.tk
 ra:P.ta=X.ra
 nl:P.no.length<=X.n
 nk:∀z∈P.no,z.2.r.key=some z.1
 un:P.fd=none->P.no=[]/\P.cl=none
 fd:∀y,P.fd=some y->∃nr mr,nr<=X.n/\nr<=mr/\mr<=ds.length/\(y.2.map (·.k)).Nodup/\(∀k v,(k,v)∈y.2.map Tp.kv↔(k,v)∈tbl (ds.take mr)/\hN kd P.ta e k=true/\hO P.ah kd P.aa e k=false)/\(∀k,0<=k->hO P.ah kd P.aa e k=true->hN kd P.ta e k=true)/\(∀k x,(k,x)∈P.no↔P.inp kd e k=true/\de k ((ds.take X.n).drop nr)=some x)/\∀m,P.cl=some m->∃c x,ds[c]?=some x/\x.r= .mark m/\mr<=c/\X.n<=c
structure Inv(kd:Int)(av e:V)(ds:List DR)(X:PQ):Prop where
 le:X.n<=ds.length
 nd:(X.cp.map (·.1)).Nodup
 cp:∀k,0<=k->aH X.cp k=if X.cov kd av e k=true then aH (tbl<|ds.take X.n) k else none
 kp:∀k∈X.cp.map (·.1),0<=k
 su:∀k,0<=k->hO X.rv kd X.ra e k=true->hN kd av e k=true
 pg:∀P,X.pg=some P->SR kd av e ds X P
structure Rj(ds:List DR):Prop where
 kb:∀x∈ds,∀k,x.r.key=some k->0<=k
 un:∀(i j:Nat)(x y:DR)(m:Int),ds[i]?=some x->ds[j]?=some y->x.r= .mark m->y.r= .mark m->i=j
 dr:∀(i:Nat)(x:DR)(k:Int),ds[i]?=some x->x.r= .drop k->(aH (tbl<|ds.take i) k).isSome=true
def Bu{x:DR}(h:ds[i]?=some x):tbl (ds.take<|i+1)=ap (tbl<|ds.take i) x:=by
 rw[QY,h];exact rc
def we{nr:Nat}{x:DR}(h:ds[i]?=some x)(l:nr<=i):(ds.take<|i+1).drop nr=(ds.take i).drop nr++ [x]:=by
 have hi:=(Q2.mp h).1;rw[QY,h,List.drop_append_of_le_length (by rw[Q9];lia)];rfl
def Ap{nr m:Nat}(l:nr<=m):aH (tbl<|ds.take m) k=match de k ((ds.take m).drop nr)with|some x=>x.r.eff|none=>aH (tbl<|ds.take nr) k:=by
 have e:ds.take m=ds.take nr++(ds.take m).drop nr:=by
  conv=>lhs;rw[<-Zm nr (ds.take m),Wk,ZP l]
 conv=>lhs;rw[e,Kn,sG]
def Nd{P:Qf}(h:∀y,P.fd=some y->(y.2.map (·.k)).Nodup):(P.out.map (·.1)).Nodup:=by
 refine AT ?_;unfold Qf.rows;cases c:P.fd with
 |none=>exact ZE
 |some y=>
  show((y.2.map Tp.kv).map (·.1)).Nodup;rw[Z2];exact h y c
def KL{kd:Int}{P:Qf}(I:SR kd av e ds X P)(Y:P.cl=some m){x:DR}(D:Rj ds)(hx:ds[X.n]?=some x)(xm:x.r= .mark m)(k:Int):aH P.out k=if P.inp kd e k=true then aH (tbl<|ds.take X.n) k else none:=by
 cases U:P.fd with
 |none=>rw[(I.un U).2]at Y;cases Y
 |some y=>
  let{nr,G,l1,l2,l3,ny,Z,le,no,cl}:=I.fd y U;let{c,x',hc,xc,l4,l5}:=cl m Y;have ec:c=X.n:=D.un c X.n x' x m hc hx xc xm;subst ec;have a0:((y.2.map Tp.kv).map (·.1)).Nodup:=by
   rwa[Z2]
  have er:P.rows=y.2.map Tp.kv:=by
   unfold Qf.rows;rw[U]
  have ei:P.inp kd e k=(hN kd P.ta e k&&!hO P.ah kd P.aa e k):=by
   unfold Qf.inp;rw[U];rfl
  unfold Qf.out;rw[sG,er];cases O:de k (P.no.map (·.2))with
  |some z=>
   let{hz,kz}:=gB O;let{w,hw,ew}:=QJ.mp hz;have kw:=I.nk w hw;rw[ew,kz]at kw;have a1:(k,z)∈P.no:=by
    rwa[Wq kw,<-ew]
   let{i1,i2}:=(no k z).mp a1;rw[Wn i1,Ap l1,i2]
  |none=>
   show aH (y.2.map Tp.kv) k=_;by_cases hi:P.inp kd e k=true
   .rw[Wn hi];have hn:de k ((ds.take X.n).drop nr)=none:=by
     cases c:de k ((ds.take X.n).drop nr)with
     |none=>rfl
     |some z=>exact Ws (gB c).2<|qJ O z (QJ.mpr {(k,z),(no k z).mpr ⟨hi,c⟩,M})
    have a2:de k ((ds.take G).drop nr)=none:=by
     cases c:de k ((ds.take G).drop nr)with
     |none=>rfl
     |some z=>
      let{z1,z2}:=gB c;refine Ws z2<|qJ hn z ?_;have:(ds.take G).drop nr=((ds.take X.n).drop nr).take (G-nr):=by
       rw[<-List.drop_take,Wk,ZP ()]
      rw[this]at z1;exact Zs z1
    rw[Ap (ds:=ds) l1,hn];show _=aH (tbl<|ds.take nr) k;have h1:=Ap (ds:=ds) (k:=k) l2;rw[a2]at h1;change aH (tbl<|ds.take G) k=aH (tbl<|ds.take nr) k at h1;rw[<-h1];rw[ei,Zf,VW]at hi;cases c:aH (tbl<|ds.take G) k with
    |some v=>exact bW a0<|(Z k v).mpr {bK c,hi}
    |none=>
     cases c2:aH (y.2.map Tp.kv) k with
     |none=>rfl
     |some v=>
      have h3:=((Z k v).mp<|bK c2).1;rw[bW Ha h3]at c;cases c
   .rw[Wm hi];cases c2:aH (y.2.map Tp.kv) k with
    |none=>rfl
    |some v=>
     have h3:=((Z k v).mp<|bK c2).2;rw[ei,Zf,VW]at hi;exact Ws h3 hi
def SR.more{kd:Int}{more:List DR}{P:Qf}(I:SR kd av e ds X P)(le:X.n<=ds.length):SR kd av e (ds++more) X P:=
 {I.rn,I.ra,I.nl,I.nk,I.un,λy hy=>by
  let{nr,z,l1,G,O,h1,h2,U,Y,Z}:=I.fd y hy;refine{nr,z,l1,G,by rw[Q6];lia,h1,by rwa[Ze O],U,by rwa[Ze le],λm hm=>?_};let{c,x,hc,hr}:=Z m hm;exact{c,x,by rwa[Zy (Q2.mp hc).1],hr}}
def Inv.more{kd:Int}{more:List DR}(I:Inv kd av e ds X):Inv kd av e (ds++more) X:=
 {by rw[Q6];exact Z4 I.le<|Nat.le_add_right _ _,I.nd,by rw[Ze I.le];exact I.cp,I.kp,I.su,λP z=>(I.pg P z).more I.le}
def Inv.chg{kd:Int}{x:DR}(I:Inv kd av e ds X)(k0:0<=k)(hx:ds[X.n]?=some x)(hk:x.r.key=some k):Inv kd av e ds (X.chg kd av e k x):=by
 have hn:=(Q2.mp hx).1;have tv:∀j,aH (tbl<|ds.take<|X.n+1) j=if j=k then x.r.eff else aH (tbl<|ds.take X.n) j:=λj=>by
  rw[Bu hx,Be,hk];by_cases h:j=k
  .rw[Wn h,Wn (by rw[h])]
  .rw[Wm h,Wm λz=>h (Wq z).symm]
 have Z:∀P,SR kd av e ds X P->P.inp kd e k=false->∀cp,SR kd av e ds {X with n:=X.n+1,cp:=cp} P:=λP q hi cp=>by
  refine{q.rn,q.ra,X6 q.nl,q.nk,q.un,λy hy=>?_};let{nr,mr,l1,l2,l3,h1,h2,h3,h4,h5}:=q.fd y hy;refine{nr,mr,X6 l1,l2,l3,h1,h2,h3,λj z=>?_,λm hm=>?_}
  .show _↔_/\de j ((ds.take<|X.n+1).drop nr)=some z;rw[h4,we hx l1,l6,hk];by_cases h:some k=some j
   .rw[<-Wq h,hi];constructor<;>(rintro ⟨z,_⟩;cases z)
   .rw[Wm h]
  .let{c,z,hc,zc,l4,l5}:=h5 m hm;have l5:X.n<=c:=l5;refine{c,z,hc,zc,l4,Zl l5 λh=>?_};rw[<-h,hx]at hc;cases hc;rw[zc]at hk;cases hk
 have a0:∀P,X.pg=some P->X.cov kd av e k=true->P.inp kd e k=false:=λP U hc=>by
  have q:=I.pg P U;unfold PQ.cov at hc;rw[Zf,VW]at hc;have h:=hc.2;unfold hO at h;rw[q.rn,Wm (λz=>by cases z),<-q.ra]at h;unfold Qf.inp;rw[h];cases P.fd.isSome<;>rfl
 unfold PQ.chg;by_cases hc:X.cov kd av e k=true
 .rw[Wn hc];refine{hn,Mt I.nd,λj j0=>?_,λj Y=>?_,I.su,λP U=>Z P (I.pg P U) (a0 P U hc) _}
  .show aH (ap X.cp x) j=if X.cov kd av e j=true then aH (tbl<|ds.take<|X.n+1) j else none
   rw[Be,tv,hk,I.cp j j0];by_cases h:j=k
   .rw[Wn (by rw[h]),Wn h,h,Wn hc]
   .rw[Wm (λz=>h (Wq z).symm),Wm h]
  .have Y:=mem_keys.mp Y;change (aH (ap X.cp x) j).isSome=true at Y;rw[Be,hk]at Y;by_cases h:some k=some j
   .rwa[<-Wq h]
   .rw[Wm h]at Y;exact I.kp j<|mem_keys.mpr Y
 .rw[Wm hc];have G:∀j,0<=j->aH X.cp j=if X.cov kd av e j=true then aH (tbl<|ds.take<|X.n+1) j else none:=λj j0=>by
   rw[I.cp j j0,tv];by_cases h:j=k
   .rw[h,Wm hc,Wm hc]
   .rw[Wm h]
  cases hp:X.pg with
  |none=>exact{hn,I.nd,G,I.kp,I.su,λP U=>by cases U}
  |some P=>
   show Inv kd av e ds (if P.inp kd e k=true then _ else _);have q:=I.pg P hp;by_cases hi:P.inp kd e k=true
   .rw[Wn hi];refine{hn,I.nd,G,I.kp,I.su,λP' O=>?_};cases O;refine{q.rn,q.ra,Z4 HB<|Nat.succ_le_succ q.nl,λz hz=>?_,λh=>?_,λy hy=>?_}
    .rcases RD.mp (show(z.1,z.2)∈yD P.no k x from hz)with⟨h1,h2⟩|⟨_,h⟩
     .rwa[h1,h2]
     .exact q.nk z h
    .unfold Qf.inp at hi;rw[show P.fd=none from h]at hi;cases hi
    .let{nr,mr,l1,l2,l3,h1,h2,h3,h4,h5}:=q.fd y hy;refine{nr,mr,X6 l1,l2,l3,h1,h2,h3,λj z=>?_,λm hm=>?_}
     .show(j,z)∈yD P.no k x↔P.inp kd e j=true/\de j ((ds.take<|X.n+1).drop nr)=some z;rw[RD,h4,we hx l1,l6,hk];by_cases h:j=k
      .rw[Wn (by rw[h]),h];exact{λg=>g.elim (λg=>{hi,by rw[g.2]}) λg=>Ws M g.1,λg=> .inl {M,(Wq g.2).symm}}
      .rw[Wm λz=>h (Wq z).symm];exact{λg=>g.elim (λg=>Ws g.1 h) λg=>g.2,λg=> .inr ⟨h,g⟩}
     .let{c,z,hc,zc,l4,l5}:=h5 m hm;refine{c,z,hc,zc,l4,Zl l5 λh=>?_};rw[<-h,hx]at hc;cases hc;rw[zc]at hk;cases hk
   .rw[Wm hi];exact{hn,I.nd,G,I.kp,I.su,λP' O=>by
     cases O;have z:=Z P q (by cases h:P.inp kd e k<;>simp_all) X.cp;rw[hp]at z;exact z}
def Inv.mrk{kd:Int}{x:DR}(I:Inv kd av e ds X)(D:Rj ds)(hx:ds[X.n]?=some x)(U:x.r= .mark m):Inv kd av e ds (X.mrk m):=by
 have hn:=(Q2.mp hx).1;have tv:tbl (ds.take<|X.n+1)=tbl (ds.take X.n):=by
  rw[Bu hx];unfold ap;rw[U]
 have Y:∀j,0<=j->aH X.cp j=if X.cov kd av e j=true then aH (tbl<|ds.take<|X.n+1) j else none:=λj j0=>by
  rw[I.cp j j0,tv]
 unfold PQ.mrk;cases hp:X.pg with
 |none=>exact{hn,I.nd,Y,I.kp,I.su,λP hP=>by cases hP}
 |some P=>
  show Inv kd av e ds (if P.cl=some m then _ else _);have q:=I.pg P hp;by_cases O:P.cl=some m
  .rw[Wn O];have ov:=KL q O D hx U;obtain⟨y,hy⟩:∃y,P.fd=some y:=by
    cases c:P.fd with
    |none=>rw[(q.un c).2]at O;cases O
    |some y=>exact⟨y,M⟩
   let{nr,mr,l1,l2,l3,h1,h2,h3,h4,h5}:=q.fd y hy;have on:(P.out.map (·.1)).Nodup:=Nd λz hz=>by rw[hy]at hz;cases hz;exact h1
   have rk:∀k,hO X.rv kd X.ra e k=hN kd P.ta e k:=λk=>by
    unfold hO;rw[q.rn,Wm (λz=>by cases z),q.ra]
   have ei:∀k,P.inp kd e k=(hN kd P.ta e k&&!hO P.ah kd P.aa e k):=λk=>by
    unfold Qf.inp;rw[hy];rfl
   refine{hn,EF I.nd,λk k0=>?_,λk hk=>?_,λk k0 hk=>I.su k k0 (by rw[rk];exact h3 k k0 hk),λP' G=>by cases G}
   .show aH (w6 X.cp P.out) k=if(hN kd av e k&&!hO P.ah kd P.aa e k)=true then aH (tbl<|ds.take<|X.n+1) k else none
    rw[w5 on,ov,tv,I.cp k k0];unfold PQ.cov;rw[rk,ei];have s1:=I.su k k0;rw[rk]at s1;have s2:=h3 k k0;cases c1:hN kd P.ta e k<;>cases c2:hO P.ah kd P.aa e k<;>cases c3:hN kd av e k<;>simp_all<;>(cases aH (tbl<|ds.take X.n) k<;>rfl)
   .have hk:=mem_keys.mp hk;change (aH (w6 X.cp P.out) k).isSome=true at hk;rw[w5 on]at hk;cases c:aH P.out k with
    |none=>rw[c]at hk;exact I.kp k<|mem_keys.mpr hk
    |some v=>
     rw[ov]at c;split at c
     .let{z,hz,kz}:=Bv (mem_keys.mpr<|by rw[c];rfl);exact D.kb z (Zs hz) k kz
     .cases c
  .rw[Wm O];refine{hn,I.nd,Y,I.kp,I.su,λP' G=>?_};cases G;refine{q.rn,q.ra,X6 q.nl,q.nk,q.un,λy hy=>?_};let{nr,mr,l1,l2,l3,h1,h2,h3,h4,h5}:=q.fd y hy;refine{nr,mr,X6 l1,l2,l3,h1,h2,h3,λj z=>?_,λm' Z=>?_}
   .show _↔_/\de j ((ds.take<|X.n+1).drop nr)=some z;rw[h4,we hx l1,l6,U,Wm λz=>by cases z]
   .let{c,z,hc,zc,l4,l5}:=h5 m' Z;refine{c,z,hc,zc,l4,Zl l5 λh=>?_};rw[<-h,hx]at hc;cases hc;rw[zc]at U;cases U;exact O Z
def Inv.step{kd:Int}{x:DR}(I:Inv kd av e ds X)(D:Rj ds)(hx:ds[X.n]?=some x):Inv kd av e ds (bB kd av e X x):=by
 have z:=Q1 hx;unfold bB;cases c:x.r with
 |put k v=>exact I.chg (D.kb x z k<|by rw[c];rfl) hx<|by rw[c];rfl
 |drop k=>exact I.chg (D.kb x z k<|by rw[c];rfl) hx<|by rw[c];rfl
 |mark m=>exact I.mrk D hx c
def Mn{kd:Int}{x:DR}:(X.chg kd av e k x).n=X.n+1:=by
 unfold PQ.chg;split
 .rfl
 .cases X.pg with
  |none=>rfl
  |some P=>
   dsimp only;split<;>rfl
def ON{i:Int}:(X.mrk i).n=X.n+1:=by
 unfold PQ.mrk;cases X.pg with
 |none=>rfl
 |some P=>
  dsimp only;split<;>rfl
def Di{kd:Int}{x:DR}:(bB kd av e X x).n=X.n+1:=by
 unfold bB;cases x.r with
 |put k v=>exact Mn
 |drop k=>exact Mn
 |mark i=>exact ON
def Rk(t:PB)(H:Hp)(v:V)(kd:Int)(a e:V):Prop:=v= .non\/∃p,v= .ref p/\Pz t H p kd a e/\R4 kd a e
def Rk.same{kd:Int}{a:V}(h:Rk t H v kd a e)(s:GI H H'):Rk t H' v kd a e:=by
 rcases h with h|⟨p,h1,h2,z⟩
 .exact .inl h
 .exact .inr {p,h1,h2.same s,z}
noncomputable def KP:Option (Addr×List Tp)->V
 |some y=> .ref y.1
 |none=> .non
noncomputable def BV:Option Int->V
 |some i=> .int i
 |none=> .non
def oPg:Option Qf->V
 |some P=> .ref P.g
 |none=> .non
structure RY(t:PB)(H:Hp)(kd:Int)(e:V)(P:Qf):Prop where
 ob:∃dx,H P.g=some (.ins t.bZ dx [("asked",.ref P.tk),("found",KP P.fd),("ahead",P.ah),("noted",.ref P.nd),("closing",BV P.cl)])
 no:H P.nd=some (.dK<|aI<|P.no.map λz=>(z.1,V.ref z.2.p))
 tk:Pz t H P.tk kd P.ta e/\R4 kd P.ta e
 ah:Rk t H P.ah kd P.aa e
 fd:∀y,P.fd=some y->H y.1=some (.lst<|y.2.map λe=>V.ref e.p)/\∀z∈y.2,H z.p=some (.tup [.int z.k,z.v])
 ro:∀z∈P.no,H z.2.p=some (.tup z.2.r.vs)
structure Pr(t:PB)(H:Hp)(c a p dd:K')(kd:Int)(av e:V)(X:PQ):Prop where
 ob:∃dx,H c=some (.ins t.aY dx [(oq,.ref a),("first",.ref p),("rest",X.rv),("followed",.int X.n),("copied",.ref dd),("page",oPg X.pg)])
 cp:H dd=some (.dK<|aI X.cp)
 tk:Pz t H p kd av e/\R4 kd av e
 rt:Rk t H X.rv kd X.ra e
 pg:∀P,X.pg=some P->RY t H kd e P/\P.nd≠dd
def RY.same{kd:Int}{P:Qf}(h:RY t H kd e P)(s:GI H H'):RY t H' kd e P:=by
 let{dx,o}:=h.ob;exact{{dx,s _ _ o},s _ _ h.no,{h.tk.1.same s,h.tk.2},h.ah.same s,λy hy=>{s _ _ (h.fd y hy).1,λz hz=>s _ _<|(h.fd y hy).2 z hz},λz hz=>s _ _<|h.ro z hz}
def Pr.same{kd:Int}(h:Pr t H c a p dd kd av e X)(s:GI H H'):Pr t H' c a p dd kd av e X:=by
 let{dx,o}:=h.ob;exact{{dx,s _ _ o},s _ _ h.cp,{h.tk.1.same s,h.tk.2},h.rt.same s,λP z=>{(h.pg P z).1.same s,(h.pg P z).2}}
def Dn(t:PB):Sp:=λvs H Q _=>∃(v:V)(kd k:Int)(av e:V),vs=[v,.int k]/\Rk t H v kd av e/\0<=k/\∀H',GI H H'->Q (.bl<|hO v kd av e k) H'
def wL:Cy P w K mg base PJ 4 t.z7 t.uv [fe,et] (Dn t):=by
 refine T.Ad.okl Dv λs H vs Q E O h _=>?_;intro X;let{v,kd,k,av,e,rfl,TO,k0,q}:=h;refine{_,(ay<|aG<|gw (b7 lT Ck bx<|az _)<|gv<|rO (kk:=3) (iH (cG T.bR T.kM (fP T) T.kR (_))<|iH (cG T.iu T.nZ (iE T) T.oy (_))<|cG T.cP T.j2 (fO T) T.kA (_)) O.mo Ck<|ae P0 aj)
  ,?_}
 unfold hO at q;rcases TO with rfl|⟨p,rfl,U,I⟩
 .rw[Wn M]at q;exact{_,M,M,_,M,sr M<|q H (GI.refl _)}
 rw[Wm (by intro z;cases z)]at q;let{Y,fr,G,tr}:=U;refine{_,M,M,_,M,?_};rw[show decide (V.ref p=V.non)=false from Wz λz=>by cases z];exact cy {_,M,p,_,Y,fr,_,M,G,tr.ho,dHN I.kd,_,M,Am I G tr k0 λH2 s2=>q H2 s2}
def rA(t:PB):Sp:=λvs H Q _=>∃(c a p dd:K')(kd k:Int)(av e:V)(X:PQ),vs=[.ref c,.int k]/\Pr t H c a p dd kd av e X/\0<=k/\∀H',GI H H'->Q (.bl<|X.cov kd av e k) H'
def rT:Cy P w K mg base PJ 5 t.kW t.gI [cC,et] (rA t):=by
 refine T.GN.okl rH λs H vs Q E G h _=>?_;intro X;let{c,a,p,dd,kd,k,av,e,X,rfl,C,k0,q}:=h;refine{_,(ay<|aG<|gw (rO (kk:=3) (iH (cG T.bR T.kM (fP T) T.kR (_))<|iH (cG T.iu T.nZ (iE T) T.oy (_))<|cG T.cP T.j2 (fO T) T.kA (_)) G.mo (au Ck M)<|ae P0 aj)<|gv<|DE<|aP (wL T) G.mo {_} T.Gd T.Ad.kp T.GD .nil aA (ae (au Ck M)<|ae P0 aj))
  ,?_}
 let{dx,I}:=C.ob;let{{U,fr,z,tr},O}:=C.tk;unfold PQ.cov at q;refine{_,M,c,_,dx,_,_,M,I,T.aC,T.vp,M,p,_,U,fr,_,M,z,tr.ho,dHN O.kd,_,M,Am O z tr k0 λH2 s2=>{_,M,?_}};cases hc:hN kd av e k with
 |false=>
  rw[hc]at q;exact cu<|q H2 s2
 |true=>
  rw[hc]at q;exact cy {_,M,c,_,dx,_,_,M,s2 _ _ I,T.aC,T.cV,M,_,M,X.rv,kd,k,X.ra,e,M,C.rt.same s2,k0,λH3 s3=>{_,M,q H3<|s2.trans s3}}
def rp(t:PB):Sp:=λvs H Q _=>∃(kd k:Int)(e:V)(P:Qf),vs=[.ref P.g,.int k]/\RY t H kd e P/\0<=k/\∀H',GI H H'->Q (.bl<|P.inp kd e k) H'
def rR:Cy P w K mg base PJ 5 t.kT t.gG [cC,et] (rp t):=by
 refine T.GL.okl rF λs H vs Q E O h _=>?_;intro X;let{kd,k,e,P',rfl,C,k0,q}:=h;refine{_,(ay<|aG<|gw (b7 lT (au Ck M) bx<|az _)<|gw (rO (kk:=3) (iH (cG T.bR T.kM (fP T) T.kR (_))<|iH (cG T.iu T.nZ (iE T) T.oy (_))<|cG T.cP T.j2 (fO T) T.kA (_)) O.mo (au Ck M)<|ae P0 aj)<|gv<|DE<|aP (wL T) O.mo {_} T.Gd T.Ad.kp T.GD .nil aA (ae (au Ck M)<|ae P0 aj))
  ,?_}
 let{dx,I}:=C.ob;let{{Y,fr,G,tr},U}:=C.tk;unfold Qf.inp at q;refine{_,M,P'.g,_,dx,_,_,M,I,T.bp,T.bV,M,M,_,M,?_};cases hf:P'.fd with
 |none=>
  rw[hf]at q;exact sr M<|q H (GI.refl _)
 |some y=>
  rw[hf]at q;refine xo (λz=>by cases z) ?_;refine{_,M,P'.g,_,dx,_,_,M,I,T.bp,T.pQ,M,P'.tk,_,Y,fr,_,M,G,tr.ho,dHN U.kd,_,M,Am U G tr k0 λH2 s2=>{_,M,?_}};cases hc:hN kd P'.ta e k with
  |false=>
   rw[hc]at q;exact cu<|q H2 s2
  |true=>
   rw[hc]at q;exact cy {_,M,P'.g,_,dx,_,_,M,s2 _ _ I,T.bp,T.jY,M,_,M,P'.ah,kd,k,P'.aa,e,M,C.ah.same s2,k0,λH3 s3=>{_,M,q H3<|s2.trans s3}}
def PQ.mut(X:PQ)(c dd:K'):Addr->Prop:=λb=>b=c\/b=dd\/∃P,X.pg=some P/\(b=P.g\/b=P.nd)
def PQ.adr(X:PQ)(c p dd:K'):Addr->Prop:=λb=>X.mut c dd b\/b=p\/X.rv= .ref b\/∃P,X.pg=some P/\(b=P.tk\/P.ah= .ref b\/∃y,P.fd=some y/\b=y.1)
def SO(a p:K')(rv:V)(n:Int)(dd:K')(pg:V):List (Str×V):=[(oq,.ref a),("first",.ref p),("rest",rv),("followed",.int n),("copied",.ref dd),("page",pg)]
noncomputable def Rx(tk:K')(fd ah:V)(nd:K')(cl:V):List (Str×V):=[("asked",.ref tk),("found",fd),("ahead",ah),("noted",.ref nd),("closing",cl)]
def cr{o':HO}(h1:H b=some o)(h2:H q=some o')(n:o≠o'):b≠q:=λz=>by
 rw[z,h2]at h1;exact n (Wq h1).symm
def Pz.ne{d:K'}{kd:Int}{a:V}(h:Pz t H p kd a e)(hc:H c=some (.ins C d fs))(n:fs.lookup (va:Str)=none):p≠c:=λz=>by
 let{dx,G,h1,h2}:=h;rw[z,hc]at h1;have:=h2.at_;rw[<-(HO.ins.inj<|Wq h1).2.2,n]at this;cases this
def Pz.nd{kd:Int}{a:V}(h:Pz t H p kd a e)(hc:H c=some o)(n:∀C d fs,o≠ .ins C d fs):p≠c:=λz=>by
 let{dx,G,h1,h2}:=h;rw[z,hc]at h1;exact n _ _ _<|Wq h1
def Pz.up{kd:Int}{a:V}(h:Pz t H p kd a e)(n:p≠c):Pz t (upd H c o) p kd a e:=by
 let{dx,z,h1,h2}:=h;exact{dx,z,by rwa[af n],h2}
def Rk.up{kd:Int}{a:V}(h:Rk t H v kd a e)(n:∀p,Pz t H p kd a e->p≠c):Rk t (upd H c o) v kd a e:=by
 rcases h with h|⟨p,h1,h2,z⟩
 .exact .inl h
 .exact .inr {p,h1,h2.up<|n p h2,z}
section
variable{kd:Int}
def RY.go{P:Qf}(h:RY t H kd e P)(k:∀b o,H b=some o->(b=P.g\/b=P.nd\/b=P.tk\/P.ah= .ref b\/(∃y,P.fd=some y/\b=y.1)\/∃xs,o= .tup xs)->H' b=some o):RY t H' kd e P:=by
 let{dx,G}:=h.ob;refine{{dx,k _ _ G<|.inl M},k _ _ h.no<|.inr<|.inl M,{?_,h.tk.2},?_,λy hy=>{k _ _ (h.fd y hy).1<|.inr<|.inr<|.inr<|.inr<|.inl ⟨y,hy,M⟩,λz hz=>k _ _ ((h.fd y hy).2 z hz)<|.inr (.inr<|.inr<|.inr<|.inr {_,M})},λz hz=>k _ _ (h.ro z hz)<|.inr (.inr<|.inr<|.inr<|.inr {_,M})}
 .let{d,fs,h1,h2}:=h.tk.1;exact{d,fs,k _ _ h1<|.inr<|.inr<|.inl M,h2}
 .rcases h.ah with h|⟨q,h1,⟨d,fs,h2,I⟩,O⟩
  .exact .inl h
  .exact .inr {q,h1,{d,fs,k _ _ h2<|.inr<|.inr<|.inr<|.inl h1,I},O}
def Pr.go(C:Pr t H c a p dd kd av e X)(k:∀b o,H b=some o->(X.adr c p dd b\/∃xs,o= .tup xs)->H' b=some o):Pr t H' c a p dd kd av e X:=by
 let{dx,G}:=C.ob;refine{{dx,k _ _ G<|.inl (.inl<|.inl M)},k _ _ C.cp<|.inl<|.inl<|.inr<|.inl M,{?_,C.tk.2},?_,λP z=>{(C.pg P z).1.go λb o e h=>k b o e ?_,(C.pg P z).2}}
 .let{d,fs,h1,h2}:=C.tk.1;exact{d,fs,k _ _ h1<|.inl<|.inr<|.inl M,h2}
 .rcases C.rt with h|⟨q,h1,⟨d,fs,h2,I⟩,O⟩
  .exact .inl h
  .exact .inr {q,h1,{d,fs,k _ _ h2<|.inl<|.inr<|.inr<|.inl h1,I},O}
 .rcases h with h|h|h|h|h|h
  .exact .inl<|.inl (.inr<|.inr {P,z,.inl h})
  .exact .inl<|.inl (.inr<|.inr {P,z,.inr h})
  .exact .inl<|.inr (.inr<|.inr {P,z,.inl h})
  .exact .inl<|.inr (.inr<|.inr {P,z,.inr<|.inl h})
  .exact .inl<|.inr (.inr<|.inr {P,z,.inr<|.inr h})
  .exact .inr h
def RY.offc{P:Qf}{rv pg:V}(h:RY t H kd e P)(hc:H c=some (.ins t.aY dx<|SO a p rv n dd pg)):RY t (upd H c o) kd e P:=by
 let{I,G}:=h.ob;refine{{I,by rwa[af (cr G hc λz=>Ws (WG List.length (HO.ins.inj z).2.2)<|by show ¬5=6;decide)]},by rw[af (cr h.no hc λz=>by cases z)];exact h.no,{h.tk.1.up<|h.tk.1.ne hc M,h.tk.2},h.ah.up λq hq=>hq.ne hc M,λy hy=>{?_,λz hz=>?_},λz hz=>?_}
 .have:=(h.fd y hy).1;rwa[af (cr this hc λz=>by cases z)]
 .have:=(h.fd y hy).2 z hz;rwa[af (cr this hc λz=>by cases z)]
 .have:=h.ro z hz;rwa[af (cr this hc λz=>by cases z)]
def RY.offd{P:Qf}{d:K'}(h:RY t H kd e P)(hd:H d=some (.dK kvs))(n:P.nd≠d):RY t (upd H d o) kd e P:=by
 let{I,G}:=h.ob;refine{{I,by rwa[af (cr G hd λz=>by cases z)]},by rw[af n];exact h.no,{h.tk.1.up (h.tk.1.nd hd λ_ _ _ z=>by cases z),h.tk.2},h.ah.up (λq hq=>hq.nd hd λ_ _ _ z=>by cases z),λy hy=>{?_,λz hz=>?_},λz hz=>?_}
 .have:=(h.fd y hy).1;rwa[af (cr this hd λz=>by cases z)]
 .have:=(h.fd y hy).2 z hz;rwa[af (cr this hd λz=>by cases z)]
 .have:=h.ro z hz;rwa[af (cr this hd λz=>by cases z)]
def Pr.setc(C:Pr t H c a p dd kd av e X){rv ra:V}{n:Nat}{pg:Option Qf}(rt:Rk t H rv kd ra e)(hp:∀P,pg=some P->RY t H kd e P/\P.nd≠dd):Pr t (upd H c<|.ins t.aY dx<|SO a p rv n dd<|oPg pg) c a p dd kd av e ⟨rv,ra,n,X.cp,pg⟩:=by
 let{O,G}:=C.ob;exact{⟨dx,ag⟩,by rw[af (cr C.cp G λz=>by cases z)];exact C.cp,{C.tk.1.up<|C.tk.1.ne G M,C.tk.2},rt.up λq hq=>hq.ne G M,λP I=>{(hp P I).1.offc G,(hp P I).2}}
def Pr.setd(C:Pr t H c a p dd kd av e X){kv:Sn}:Pr t (upd H dd<|.dK<|aI kv) c a p dd kd av e {X with cp:=kv}:=by
 let{O,I}:=C.ob;exact{{O,by rw[af (cr I C.cp λz=>by cases z)];exact I},ag,{C.tk.1.up (C.tk.1.nd C.cp λ_ _ _ z=>by cases z),C.tk.2},C.rt.up (λq hq=>hq.nd C.cp λ_ _ _ z=>by cases z),λP G=>{(C.pg P G).1.offd C.cp (C.pg P G).2,(C.pg P G).2}}
def Pr.setn(C:Pr t H c a p dd kd av e X){P:Qf}(O:X.pg=some P){no:List (Int×DR)}(Z:∀z∈no,H z.2.p=some (.tup z.2.r.vs)):Pr t (upd H P.nd<|.dK<|aI<|no.map λz=>(z.1,V.ref z.2.p)) c a p dd kd av e {X with pg:=some {P with no:=no}}:=by
 let{dy,G}:=C.ob;let{R,U}:=C.pg P O;let{dg,Y}:=R.ob;rw[O]at G;refine{{dy,by rwa[af (cr G R.no λz=>by cases z)]},by rw[af U.symm];exact C.cp,{C.tk.1.up (C.tk.1.nd R.no λ_ _ _ z=>by cases z),C.tk.2},C.rt.up (λq hq=>hq.nd R.no λ_ _ _ z=>by cases z),λP' I=>?_};cases I;refine{{{dg,by rwa[af (cr Y R.no λz=>by cases z)]},ag,{R.tk.1.up (R.tk.1.nd R.no λ_ _ _ z=>by cases z),R.tk.2},R.ah.up (λq hq=>hq.nd R.no λ_ _ _ z=>by cases z),λy hy=>{?_,λz hz=>?_},λz hz=>?_},U}
 .have:=(R.fd y hy).1;rwa[af (cr this R.no λz=>by cases z)]
 .have:=(R.fd y hy).2 z hz;rwa[af (cr this R.no λz=>by cases z)]
 .have:=Z z hz;rwa[af (cr this R.no λz=>by cases z)]
def Pr.setg(C:Pr t H c a p dd kd av e X){P:Qf}(U:X.pg=some P){fd:Option (Addr×List Tp)}{ah aa:V}{cl:Tl}(hf:∀y,fd=some y->H y.1=some (.lst<|y.2.map λe=>V.ref e.p)/\∀z∈y.2,H z.p=some (.tup [.int z.k,z.v]))(ha:Rk t H ah kd aa e):Pr t (upd H P.g<|.ins t.bZ dx<|Rx P.tk (KP fd) ah P.nd<|BV cl) c a p dd kd av e {X with pg:=some {P with fd:=fd,ah:=ah,aa:=aa,cl:=cl}}:=by
 let{Y,I}:=C.ob;let{R,Z}:=C.pg P U;let{dg,G}:=R.ob;rw[U]at I;have gc:=cr I G λz=>Ws (WG List.length (HO.ins.inj z).2.2) (by show ¬6=5;decide);refine{{Y,by rw[af gc];exact I},by rw[af (cr C.cp G λz=>by cases z)];exact C.cp,{C.tk.1.up<|C.tk.1.ne G M,C.tk.2},C.rt.up λq hq=>hq.ne G M,λP' O=>?_};cases O;refine{{⟨dx,ag⟩,by rw[af (cr R.no G λz=>by cases z)];exact R.no,{R.tk.1.up<|R.tk.1.ne G M,R.tk.2},ha.up λq hq=>hq.ne G M,λy hy=>{?_,λz hz=>?_},λz hz=>?_},Z}
 .have:=(hf y hy).1;rwa[af (cr this G λz=>by cases z)]
 .have:=(hf y hy).2 z hz;rwa[af (cr this G λz=>by cases z)]
 .have:=R.ro z hz;rwa[af (cr this G λz=>by cases z)]
end
theorem HW:∀{more acc:Sn},((acc++more).map (·.1)).Nodup->ud (aI acc) (aI more)=aI (acc++more)
 | [],acc,_=>by rw[Zu];rfl
 |p::r,acc,h=>by
  have n:aH acc p.1=none:=by
   cases c:aH acc p.1 with
   |none=>rfl
   |some w=>
    rw[QO,VV]at h;exact Ws M (h.2.2 p.1 (QJ.mpr {(p.1,w),bK c,M}) p.1 QK)
  show ud (a9 (aI acc) (Sum.inl p.1) p.2) (aI r)=_;rw[dW,BL p.2 n,HW (by rwa[QV]),QV];rfl
def lO{x:V}{r:Tb}:bP f v ((f,x)::r)=(f,v)::r:=by rw[bP,Wn M]
def Fz:Sp:=λvs H Q _=>∃(d:K')(D:Sn)(x:DR)(k:Int),vs=[.ref d,.ref x.p]/\H d=some (.dK<|aI D)/\H x.p=some (.tup x.r.vs)/\x.r.key=some k/\D.length<50000/\Q .non (upd H d<|.dK<|aI<|ap D x)
def zp:Cy P w K mg base PJ 1 t.CF t.xB [v7,"row"] Fz:=by
 refine T.CH.okl FE λs H vs Q E G h _=>?_;intro X;let{d,D,x,k,rfl,hd,hx,hk,dl,q}:=h;refine rV (λx=>aS (aw bH (aR bY P0 ai<|λ_ _=>M) bQ<|az _) (ay<|jy (gh G) Ck (aR bY P0 ai<|λ_ _=>M) (aR bY P0 ai<|λ_ _=>M) M) x) ?_;refine aB (aT<|d6 ZB Xv Vt HV Ck<|ae (aR bY P0 ai<|λ_ _=>M)<|ae bx aj) ?_
 intros
 unfold ap at q;cases G:x.r with
 |put j v=>
  rw[G]at q hx;refine{_,M,x.p,_,_,_,M,M,Px.of hx,M,M,_,M,dX M ?_};refine{_,M,x.p,_,_,_,M,M,Px.of hx,M,_,M,_,M,x.p,_,_,_,M,M,Px.of hx,M,d,_,M,Qw.k (k:=Sum.inl j) hd (by rw[b9];exact bq ()),?_};rw[dW];exact q
 |drop j=>
  rw[G]at q hx;refine{_,M,x.p,_,_,_,M,M,Px.of hx,M,M,_,M,bg (λz=>Ws (V.str.inj z) ∅) ?_};refine{_,M,.inr<|.inr<|.inl {M,.inl {_,hd}},_,M,x.p,_,_,_,M,M,Px.of hx,M,d,_,Sum.inl j,.non,M,M,hd,λv _=>?_,λI=>?_}
  .rw[qI];exact q
  .rw[PK]at I;have e:bT D j=D:=List.filter_eq_self.mpr λz hz=>Wv λe=>by
    have:=mem_keys.mp (XE (f:=(·.1)) hz);rw[e,I]at this;cases this
   have q:Q .non (upd H d<|.dK<|aI<|bT D j):=q;rw[e]at q;have u:upd H d (.dK<|aI D)=H:=funext λb=>by
    by_cases c:b=d
    .rw[c,ag,hd]
    .rw[af c]
   rw[u]at q;exact q
 |mark i=>rw[G]at hk;cases hk
def Dw.at1{r:Dw}(h:r.key=some k):RO r.vs 1=some (.int k):=by
 cases r with
 |put j v=>cases h;rfl
 |drop j=>cases h;rfl
 |mark i=>cases h
structure CSz(X:PQ):Prop where
 cl:X.cp.length<=5000
 pg:∀P,X.pg=some P->P.no.length<=5000/\(∀z∈P.no,∃k,z.2.r.key=some k)/\(P.fd=none->P.cl=none)/\∀y,P.fd=some y->(y.2.map (·.k)).Nodup/\y.2.length<=5000
def Inv.sz{kd:Int}(I:Inv kd av e ds X)(l:ds.length<=5000):CSz X:=by
 refine{?_,λP U=>?_}
 .have h1:X.cp.length<=((tbl<|ds.take X.n).map (·.1)).length:=OW I.nd λk hk=>by
   have k0:=I.kp k hk;have hk:=mem_keys.mp hk;rw[I.cp k k0]at hk;split at hk
   .exact mem_keys.mpr hk
   .cases hk
  have h2:=Eo (l:=ds.take X.n);rw[Q0]at h1;rw[Q9]at h2;lia
 .have q:=I.pg P U;have:=I.le;have:=q.nl;refine{(),λz hz=>{_,q.nk z hz},λh=>(q.un h).2,λy hy=>?_};let{nr,G,l1,Z,l3,O,Y,_}:=q.fd y hy;refine{O,?_};have h1:=gR O (S:=(tbl<|ds.take G).map (·.1)) λk hk=>by
   let{z,hz,rfl}:=QJ.mp hk;exact QJ.mpr {_,((Y z.k z.v).mp<|XE (f:=Tp.kv) hz).1,M}
  have h2:=Eo (l:=ds.take G);rw[Q0,Q0]at h1;rw[Q9]at h2;lia
def tK(K:JZ)(t:PB):Sp:=λvs H Q _=>∃(kd:Int)(e:V)(P:Qf)(y:Addr×List Tp),vs=[.ref P.g]/\RY t H kd e P/\P.fd=some y/\(y.2.map (·.k)).Nodup/\(∀z∈P.no,∃k,z.2.r.key=some k)/\y.2.length<=5000/\P.no.length<=5000/\
 ∀(H':Hp)(r:K'),GI H H'->H r=none->H' r=some (.dK<|aI P.out)->Q (.ref r) H'
def ua:Cy P w K mg base PJ 2 t.mM t.hX [cC] (tK K t):=by
 refine T.GX.okl tO λs H vs Q E I h _=>?_;intro X;let{kd,e,P',y,rfl,R,hy,nt,nk,l1,l2,q}:=h;refine ak (PF 1<|kI (D8 I.hd) {_} T.G1 A7 (ae (au Ck M) aj))
   (ak (Ay (jV WF M (KI<|DF ZB PySem.F.slot_dict_values PySem.F.type_dict_values FU<|au Ck M) (Ri 2)
    (ay<|aT<|aP (zp T) I.mo {_} T.Il T.CH.kp T.Js .nil aA (ae P0<|ae P1 aj))))
   (aB (aG P0) ?_))
 intros
 let{dg,hg}:=R.ob;let{hf,tu}:=R.fd y hy;have ef:KP P'.fd= .ref y.1:=by rw[hy];rfl
 rw[ef]at hg;refine{_,M,P'.g,_,dg,_,_,M,hg,T.bp,T.bV,M,y.1,y.2.map λu=>(u.p,Sum.inl u.k,u.v),M,by rw[Z2];exact E7.of hf,(λu' a0=>by let{u,hu,rfl}:=QJ.mp a0;exact Px.of<|tu u hu),λr nr=>?_};rw[Z2];have el:y.2.map ((λx:Addr×Key×V=>x.2)∘λu:Tp=>(u.p,(Sum.inl u.k:Key),u.v))=aI (y.2.map Tp.kv):=by unfold aI;rw[Z2];rfl
 have er:P'.rows=y.2.map Tp.kv:=by unfold Qf.rows;rw[hy]
 rw[el,show ud [] (aI<|y.2.map Tp.kv)=_ from HW (acc:=[]) (by rwa[W6,Z2]),W6,<-er];have lr:P'.rows.length<=5000:=by rwa[er,Q0]
 have s1:=al (o:= .dK<|aI P'.rows) nr;have h1:upd H r (.dK<|aI P'.rows) r=some (.dK<|aI P'.rows):=ag;generalize upd H r (.dK<|aI P'.rows)=H1 at s1 h1⊢;have G:=s1 _ _ R.no;have O:r≠P'.nd:=λz=>by rw[z,R.no]at nr;cases nr
 refine{P'.nd,_,G,_,M,P'.g,_,dg,_,_,M,s1 _ _ hg,T.bp,T.pP,M,.inr<|.inr<|.inl {M,.inl {_,G}},P'.nd,_,M,M,G,λY nv=>{Y,P'.nd,_,M,ag,al nv _ _ G,λob=>?_}};have s2:=s1.trans (al (o:=SI Y P'.nd) nv);have h2:=al (o:=SI Y P'.nd) nv _ _ h1;have Z:=al (o:=SI Y P'.nd) nv _ _ G;generalize upd H1 Y (SI Y P'.nd)=H2 at s2 h2 Z⊢;refine IR (ob:=ob) (d:=P'.nd) (kvs:=aI<|P'.no.map λz=>(z.1,V.ref z.2.p)) (λi B H'=>∃u:Option V,B=[some (.ref P'.g),some (.ref r),u]/\H' P'.nd=some (.frz ob<|.dK<|aI<|P'.no.map λz=>(z.1,V.ref z.2.p))/\H' r=some (.dK (aI (((P'.no.map (·.2)).take i).foldl ap P'.rows)))/\∀b o,b≠P'.nd->b≠r->H2 b=some o->H' b=some o) ?_ (λi B H' _ w=>by let{u,_,w,_}:=w;exact w) (λi k v B H' hk w=>?_)<|λB H' w=>?_
 .exact{none,M,ag,by rwa[af O],λb o n1 n2 e=>by rwa[af n1]}
 .let{u,rfl,fz,I,kp}:=w;obtain⟨z,hz,rfl⟩:∃z,P'.no[i]?=some z/\v= .ref z.2.p:=by
   unfold aI at hk;rw[Z3,Z3]at hk;cases c:P'.no[i]? with
   |none=>rw[c]at hk;cases hk
   |some z=>rw[c]at hk;cases hk;exact⟨z,M,M⟩
  have hm:=Q1 hz;have hi:=(Q2.mp hz).1;let{k',kz}:=nk z hm;have U:=s2 _ _ (R.ro z hm);have hx:=kp _ _ (cr U Z λz=>by cases z) (cr U h2 λz=>by cases z) U;have lf:=sH (l:=(P'.no.map (·.2)).take i) (R1:=P'.rows);rw[Q9]at lf;unfold gi
  (try dsimp only)
  refine{_,M,_,M,r,_,z.2,k',M,I,hx,kz,(),?_};refine{_,M,by rwa[af O.symm],?_,λb o n1 n2 e=>by rw[af n2];exact kp b o n1 n2 e};rw[ag,QY,Z3,hz,XW];rfl
 .let{u,rfl,fz,I,kp}:=w;refine{ob,fz,?_};rw[b9,Q0,Z1 (by rw[Q0];exact Q4 _)]at I;refine{_,M,q _ r (λb o e=>?_) nr<|by rw[af O];exact I};by_cases c:b=P'.nd
  .rwa[c,ag,<-R.no,<-c]
  .rw[af c];exact kp b o c (ao e nr)<|s2 _ _ e
def kZ(K:JZ)(t:PB):Sp:=λvs H Q _=>∃(c a p dd:K')(kd m:Int)(av e:V)(X:PQ),vs=[.ref c,.int m]/\Pr t H c a p dd kd av e X/\CSz X/\
 ∀H',Pr t H' c a p dd kd av e {X.mrk m with n:=X.n}->(∀b o,¬X.mut c dd b->H b=some o->H' b=some o)->Q .non H'
def lU:Cy P w K mg base PJ 3 t.gj t.dn [cC,"number"] (kZ K t):=by
 refine T.Bn.okl lg λs H vs Q E hr h _=>?_;intro X;let{c,a,p,dd,kd,m,av,e,X',rfl,C,Z,q}:=h;refine ak (PF 2<|au Ck M)
   (ak (aS (PW.pt<|mJ (aw fN P1 bx<|az _)<|i5<|aw EB (au P1 M) P0<|az _)
    (ay oS)
    aJ)
   (ak (aT<|d6 ZB PySem.F.slot_dict_update PySem.F.type_dict_update FV (au Ck M)<|ae (bn P1 T.bp T.GQ (ua T) hr.mo T.GW .nil aA) aj)
   (ak (bu Ck (au P1 M) M)
   (aB (bu Ck bx M) ?_))))
 intros
 let{dx,O}:=C.ob;refine{_,M,c,_,dx,_,_,M,O,T.aC,T.a6,M,?_};cases hp:X'.pg with
 |none=>
  have q:=q H;unfold PQ.mrk at q;rw[hp]at q O;refine{_,M,M,_,M,dX M<|q ?_ λ_ _ _ e=>e};have h:=C;rw[show X'={X' with pg:=none} by rw[<-hp]]at h;exact h
 |some P'=>
  let{R,nn}:=C.pg P' hp;let{z1,z2,z3,z4}:=Z.pg P' hp;let{dg,Y}:=R.ob;unfold PQ.mrk at q;rw[hp]at q O
  (try dsimp only at q)
  refine{_,M,M,_,M,bg (λz=>by cases z) {_,M,P'.g,_,dg,_,_,M,Y,T.bp,T.c8,M,_,M,?_}};by_cases I:P'.cl=some m
  case neg=>
   rw[Wm I]at q;have q:=q H (by have h:=C;rw[show X'={X' with pg:=some P'} by rw[<-hp]]at h;exact h) λ_ _ _ e=>e;cases cc:P'.cl with
   |none=>exact{M,_,M,cy q}
   |some z=>
    refine{M,_,M,?_};rw[Wz λh=>I (by rw[cc,V.int.inj h])];exact cy q
  rw[Wn I]at q;rw[I]at Y⊢;obtain⟨y,hy⟩:∃y,P'.fd=some y:=by
   cases cf:P'.fd with
   |none=>rw[z3 cf]at I;cases I
   |some y=>exact⟨y,M⟩
  let{ny,ly}:=z4 y hy;refine{M,_,M,sr M ?_};unfold mY
  (try dsimp only)
  refine{_,M,c,_,dx,_,_,M,O,T.aC,T.gy,M,.inr<|.inr<|.inl {M,.inl {_,C.cp}},_,M,P'.g,dg,_,M,Y,{_},kd,e,P',y,M,R,hy,ny,z2,ly,z1,λH2 o s2 no G=>?_};have od:dd≠o:=ao C.cp no;have lo:P'.out.length<=10000:=by
   have h1:=sH (l:=P'.no.map (·.2)) (R1:=P'.rows);have h2:P'.rows.length=y.2.length:=by unfold Qf.rows;rw[hy];exact Q0 _
   rw[Q0]at h1;show((P'.no.map (·.2)).foldl ap P'.rows).length<=10000;lia
  have zc:=Z.cl;refine{dd,o,_,_,M,M,od,s2 _ _ C.cp,G,(by rw[b9,b9];exact Zq<|bq ()),?_};rw[zu];have U:=(C.same s2).setd (kv:=w6 X'.cp P'.out);have k2:∀b o,¬X'.mut c dd b->H b=some o->upd H2 dd (.dK<|aI<|w6 X'.cp P'.out) b=some o:=λb o n e=>by rw[af λz=>n (.inr<|.inl z)];exact s2 _ _ e
  generalize upd H2 dd (.dK<|aI<|w6 X'.cp P'.out)=H3 at U k2⊢;let{d2,G}:=U.ob;let{R2,_}:=U.pg P' hp;let{a0,a1}:=R2.ob
  (try dsimp only)
  refine{_,M,P'.g,_,a0,_,_,M,a1,T.bp,T.jY,M,_,M,c,_,d2,_,M,G,T.aC,T.cV,(by show 6<1000;decide),?_};rw[bO ∅,bO ∅,lO];refine{_,M,c,_,d2,_,M,ag,T.aC,T.a6,(by show 6<1000;decide),?_};rw[du,bO ∅,bO ∅,bO ∅,bO ∅,bO ∅,lO];exact q _ (U.setc (pg:=none) R2.ah λ_ z=>by cases z) λb o n e=>by rw[af λz=>n (.inl z)];exact k2 b o n e
def jH(K:JZ)(t:PB):Sp:=λvs H Q _=>∃(c a p dd:K')(kd k:Int)(av e:V)(X:PQ)(x:DR),vs=[.ref c,.ref x.p]/\Pr t H c a p dd kd av e X/\CSz X/\H x.p=some (.tup x.r.vs)/\x.r.key=some k/\0<=k/\
 ∀H',Pr t H' c a p dd kd av e {X.chg kd av e k x with n:=X.n}->(∀b o,¬X.mut c dd b->H b=some o->H' b=some o)->Q .non H'
def jX:Cy P w K mg base PJ 6 t.fk t.cY [cC,"row"] (jH K t):=by
 refine T.Ae.okl jI λs H vs Q E I h _=>?_;intro X;let{c,a,p,dd,kd,k,av,e,X',x,rfl,C,Z,hx,hk,k0,q}:=h;refine ak (PF 2<|aR bY P0 ai<|λ_ _=>M)
   (ak (PF 3<|au Ck M)
   (rV (λx=>aS (cU<|aW Ck T.aC T.F8 (rT T) I.mo T.GG .nil aA<|ae P1 aj) (ay<|aT<|aP (zp T) I.mo {_} T.Il T.CH.kp T.Js .nil aA (ae (au Ck M)<|ae P0 aj)) x) ?_))
 refine aB (aS (PW.pt<|eU (aw lT PM bx<|az _)<|dB<|cU<|aW PM T.bp T.F6 (rR T) I.mo T.GE .nil aA<|ae P1 aj)
    (ay<|jy (gh I) (au PM M) P1 P0 M)
    aJ) ?_
 intros
 let{dx,O}:=C.ob;refine{_,M,x.p,_,_,_,M,M,Px.of hx,Dw.at1 hk,_,M,c,_,dx,_,_,M,O,T.aC,T.a6,M,?_};refine{_,M,c,dx,_,M,O,{_},_,M,c,a,p,dd,kd,k,av,e,X',M,C,k0,λH1 s1=>{_,M,?_}};have C1:=C.same s1;have G:=s1 _ _ hx;have U:=s1 _ _ O;unfold PQ.chg at q;have zc:=Z.cl;cases hc:X'.cov kd av e k with
 |true=>
  rw[Wn hc]at q;refine cy {_,M,c,_,dx,_,_,M,U,T.aC,T.gy,M,_,M,dd,X'.cp,x,k,M,C1.cp,G,hk,(),?_};exact q _ C1.setd λb o n e=>by rw[af λz=>n (.inr<|.inl z)];exact s1 _ _ e
 |false=>
  rw[Wm (by rw[hc];exact Q8)]at q;refine cu ?_;cases hp:X'.pg with
  |none=>
   rw[hp]at q;refine{_,M,M,_,M,sr M<|q _ ?_ λb o _ e=>s1 _ _ e};have h:=C1;rw[show X'={X' with pg:=none} by rw[<-hp]]at h;exact h
  |some P'=>
   let{R,nn}:=C1.pg P' hp;let{z1,z2,z3,z4}:=Z.pg P' hp;let{dg,hg}:=R.ob;rw[hp]at q
   (try dsimp only at q)
   refine{_,M,M,_,M,xo (λz=>by cases z) {_,M,P'.g,dg,_,M,hg,{_},_,M,kd,k,e,P',M,R,k0,λH2 s2=>{_,M,?_}}};have Y:=C1.same s2;have a0:=s2 _ _ G;cases hi:P'.inp kd e k with
   |false=>
    rw[Wm (by rw[hi];exact Q8)]at q;refine cu<|q _ ?_ λb o _ e=>s2 _ _ (s1 _ _ e);have h:=Y;rw[show X'={X' with pg:=some P'} by rw[<-hp]]at h;exact h
   |true=>
    rw[Wn hi]at q;let{R2,_}:=Y.pg P' hp;let{a1,a2}:=R2.ob;refine cy {_,M,_,M,P'.g,_,a1,_,_,M,a2,T.bp,T.pP,M,_,M,P'.nd,_,M,Qw.k (k:=Sum.inl k) R2.no (by rw[b9,Q0];exact bq ()),?_};rw[dW,<-HA];refine q _ (Y.setn hp λz hz=>?_) λb o n e=>by rw[af λz=>n (.inr<|.inr {P',hp,.inr z})];exact s2 _ _<|s1 _ _ e
    rcases RD.mp (show(z.1,z.2)∈yD P'.no k x from hz)with⟨_,h⟩|⟨_,h⟩
    .rwa[h]
    .exact R2.ro z h
section
variable{kd:Int}
def Pr.dom(C:Pr t H c a p dd kd av e X)(h:X.adr c p dd b):∃o,H b=some o/\∀xs,o≠ .tup xs:=by
 let{dx,I}:=C.ob;have tk:∀{q:K'}{a':V},Pz t H q kd a' e->∃o,H q=some o/\∀xs,o≠ .tup xs:=λh=>by
  let{_,_,h,_}:=h;exact{_,h,λ_ z=>by cases z}
 have G:∀{v a':V},Rk t H v kd a' e->v= .ref b->∃o,H b=some o/\∀xs,o≠ .tup xs:=λh z=>by
  rcases h with h|⟨q,h1,h2,_⟩
  .rw[h]at z;cases z
  .rw[h1]at z;cases z;exact tk h2
 rcases h with(rfl|rfl|⟨P,hP,rfl|rfl⟩)|rfl|h|⟨P,hP,rfl|h|⟨y,hy,rfl⟩⟩
 .exact{_,I,λ_ z=>by cases z}
 .exact{_,C.cp,λ_ z=>by cases z}
 .let{U,O}:=(C.pg P hP).1.ob;exact{_,O,λ_ z=>by cases z}
 .exact{_,(C.pg P hP).1.no,λ_ z=>by cases z}
 .exact tk C.tk.1
 .exact G C.rt h
 .exact tk (C.pg P hP).1.tk.1
 .exact G (C.pg P hP).1.ah h
 .exact{_,((C.pg P hP).1.fd y hy).1,λ_ z=>by cases z}
def Pr.nmut(C:Pr t H c a p dd kd av e X)(hb:H b=some o)(n1:∀C d fs,o≠ .ins C d fs)(z:∀k,o≠ .dK k):¬X.mut c dd b:=λh=>by
 let{dx,I}:=C.ob;rcases h with rfl|rfl|⟨P,G,rfl|rfl⟩
 .rw[I]at hb;exact n1 _ _ _ (Wq hb).symm
 .rw[C.cp]at hb;exact z _ (Wq hb).symm
 .let{U,O}:=(C.pg P G).1.ob;rw[O]at hb;exact n1 _ _ _ (Wq hb).symm
 .rw[(C.pg P G).1.no]at hb;exact z _ (Wq hb).symm
def Pr.fr{x:PX}(C:Pr t H c a p dd kd av e X)(n:∀b,X.adr c p dd b->¬F b)(A:PY K t H a F x)(f:Fr F F' H H'):Pr t H' c a p dd kd av e X/\∀b,X.adr c p dd b->¬F' b:=
 {C.go λb o G h=>(f b o (h.elim (n b) λ⟨xs,z⟩=>λO=>by
  let{o',I,nt}:=A.dom O;rw[G]at I;exact nt xs<|by rw[<-Wq I,z]) G).1,λb hb=>by
  let{o,G,_}:=C.dom hb;exact(f b o (n b hb) G).2}
def PY.mut{x:PX}(A:PY K t H a F x)(C:Pr t H c a p dd kd av e X)(n:∀b,X.adr c p dd b->¬F b)(k:∀b o,¬X.mut c dd b->H b=some o->H' b=some o):PY K t H' a F x:=
 A.keep (λb hb=>by
  let{o,e,_}:=A.dom hb;rw[e];exact k b o (λz=>n b (.inl z) hb) e) λb xs e=>k b _ (C.nmut e (λ_ _ _ z=>by cases z) λ_ z=>by cases z) e
def ou{x:DR}:(X.chg kd av e k x).rv=X.rv/\(X.chg kd av e k x).ra=X.ra/\(∀P',(X.chg kd av e k x).pg=some P'->∃P,X.pg=some P/\P'={P with no:=P'.no})/\(X.chg kd av e k x).pg.isSome=X.pg.isSome:=by
 let{rv,ra,n,cp,pg}:=X;unfold PQ.chg;split
 .exact{M,M,λP' h=>⟨P',h,M⟩,M}
 .cases pg with
  |none=>exact{M,M,(λP' h=>by cases h),M}
  |some P=>
   dsimp only;split
   .exact{M,M,(λP' h=>by cases h;exact⟨P,M,M⟩),M}
   .exact{M,M,(λP' h=>by cases h;exact⟨P,M,M⟩),M}
def Nl:((X.mrk m).rv=X.rv/\(X.mrk m).ra=X.ra/\(X.mrk m).pg=X.pg/\∀P,X.pg=some P->P.cl≠some m)\/∃P,X.pg=some P/\P.cl=some m/\(X.mrk m).rv=P.ah/\(X.mrk m).ra=P.aa/\(X.mrk m).pg=none:=by
 let{rv,ra,n,cp,pg}:=X;unfold PQ.mrk;cases pg with
 |none=>exact .inl {M,M,M,λ_ z=>by cases z}
 |some P=>
  dsimp only;by_cases h:P.cl=some m
  .rw[Wn h];exact .inr ⟨P,M,h,M,M,M⟩
  .rw[Wm h];exact .inl {M,M,M,λ_ z=>by cases z;exact h}
def rh{x:DR}:((bB kd av e X x).rv=X.rv/\(bB kd av e X x).ra=X.ra/\(∀P',(bB kd av e X x).pg=some P'->∃P,X.pg=some P/\P'={P with no:=P'.no})/\(∀P m,X.pg=some P->x.r= .mark m->P.cl≠some m)/\(bB kd av e X x).pg.isSome=X.pg.isSome)\/∃P m,X.pg=some P/\x.r= .mark m/\P.cl=some m/\(bB kd av e X x).rv=P.ah/\(bB kd av e X x).ra=P.aa/\(bB kd av e X x).pg=none:=by
 unfold bB;cases r:x.r with
 |put k v=>exact .inl {ou.1,ou.2.1,ou.2.2.1,(λ_ _ _ z=>by cases z),ou.2.2.2}
 |drop k=>exact .inl {ou.1,ou.2.1,ou.2.2.1,(λ_ _ _ z=>by cases z),ou.2.2.2}
 |mark m=>
  rcases Nl (X:=X) (m:=m)with⟨h1,h2,G,I⟩|⟨P,h1,h2,G⟩
  .exact .inl {h1,h2,λP' h=>{P',G▸h,M},(λP m' O z=>by cases z;exact I P O),by rw[G]}
  .exact .inr ⟨P,m,h1,M,h2,G⟩
def Bz{x:DR}(h:(bB kd av e X x).mut c dd b):X.mut c dd b:=by
 rcases h with h|h|⟨P',z,h⟩
 .exact .inl h
 .exact .inr<|.inl h
 .rcases rh (X:=X) (kd:=kd) (av:=av) (e:=e) (x:=x)with⟨_,_,g,_⟩|⟨P,m,_,_,_,_,_,g⟩
  .let{P,G,I}:=g P' z;rw[I]at h;exact .inr<|.inr ⟨P,G,h⟩
  .rw[g]at z;cases z
def Hn{x:DR}(h:(bB kd av e X x).adr c p dd b):X.adr c p dd b:=by
 rcases h with h|h|h|⟨P',z,h⟩
 .exact .inl<|Bz h
 .exact .inr<|.inl h
 .rcases rh (X:=X) (kd:=kd) (av:=av) (e:=e) (x:=x)with⟨g,_⟩|⟨P,m,G,_,_,g,_⟩
  .rw[g]at h;exact .inr<|.inr (.inl h)
  .rw[g]at h;exact .inr<|.inr (.inr {P,G,.inr<|.inl h})
 .rcases rh (X:=X) (kd:=kd) (av:=av) (e:=e) (x:=x)with⟨_,_,g,_⟩|⟨P,m,_,_,_,_,_,g⟩
  .let{P,G,I}:=g P' z;rw[I]at h;exact .inr<|.inr (.inr ⟨P,G,h⟩)
  .rw[g]at z;cases z
end
theorem Ci{c p dd b:K'}{kd:Int}{av e:V}:∀{l:List DR}{X:PQ},(l.foldl (bB kd av e) X).adr c p dd b->X.adr c p dd b
 | [],_,h=>h
 |x::r,X,h=>Hn (Ci (l:=r) (X:=bB kd av e X x) h)
theorem xw{c dd b:K'}{kd:Int}{av e:V}:∀{l:List DR}{X:PQ},(l.foldl (bB kd av e) X).mut c dd b->X.mut c dd b
 | [],_,h=>h
 |x::r,X,h=>Bz (xw (l:=r) (X:=bB kd av e X x) h)
theorem D5{kd:Int}{av e:V}:∀{l:List DR}{X:PQ},(l.foldl (bB kd av e) X).n=X.n+l.length
 | [],_=>rfl
 |x::r,X=>by
  show(r.foldl (bB kd av e)<|bB kd av e X x).n=X.n+(r.length+1);rw[D5,Di];lia
def SF(x:PX)(ds:List DR):Prop:=x.di=ds.map λd=>(d.p,d.r.vs)
def nset{m:Nat}(h:X.n=m):(⟨X.rv,X.ra,m,X.cp,X.pg⟩:PQ)=X:=by
 subst h;rfl
def rq(K:JZ)(t:PB):Sp:=λvs H Q _=>∃(c a p dd:K')(kd z:Int)(av e:V)(X:PQ)(F:O')(x:PX)(ds:List DR),vs=[.ref c,.int z]/\Pr t H c a p dd kd av e X/\PY K t H a F x/\SF x ds/\Inv kd av e ds X/\Rj ds/\ds.length<=5000/\0<=z/\
 ∀H' X',X'=((ds.drop X.n).take z.toNat).foldl (bB kd av e) X->Pr t H' c a p dd kd av e X'->Inv kd av e ds X'->(∀b o,¬X.mut c dd b->H b=some o->H' b=some o)->Q (.int X'.n) H'
def rS:Cy P w K mg base PJ 7 t.kU t.gH [cC,"steps"] (rq K t):=by
 refine T.GM.okl rG λs H vs Q E G h _=>?_;intro X;let{c,a,p,dd,kd,z,av,e,X',F,x,ds,rfl,C,A,dy,I,D,dl,z0,q}:=h;refine ak (PF 2<|eK gL (aW (au Ck M) T.aO T.cX (eP T) G.mo T.Jw .nil aA<|ae (au Ck M) aj) lR<|dS<|aD (pq M) {_} T.G0 AZ (ae P0<|ae ai aj))
   (cI (λx=>(jV WF M (eO P1) (Ri 3)
    x)) ?_)
 refine cI (λx=>aS (aw bH (aR bY PM ai<|λ_ _=>M) bQ<|az _) x<|ay<|aT<|aW Ck T.aC T.zy (jX T) G.mo T.zV .nil aA<|ae PM aj) ?_;refine aB (aT<|aW Ck T.aC T.Bl (lU T) G.mo T.Bm .nil aA<|ae (aR bY PM ai<|λ_ _=>M) aj) ?_
 intros
 refine aB (iM Ck ai xq) ?_
 intros
 refine aB (aG<|au Ck M) ?_
 intros
 let{dx,ho}:=C.ob;let{da,fa,ha,hm,_}:=A.ins;refine{_,M,c,_,dx,_,_,M,ho,T.aC,T.eQ,M,a,da,fa,M,ha,hm _ ∅,_,M,c,_,dx,_,_,M,ho,T.aC,T.cZ,M,a,_,F,x,M,A,(),λH1 r s1 nr G=>?_};refine{_,M,_,_,M,_,M,r,_,M,E7.of G,λp1 a2=>?_};have ez:(if(0:Int)>z then(0:Int)else z)=z:=by rw[Wm ()]
 unfold SF at dy;rw[ez,sM z0,<-Xe,dy,<-XH,<-Xe,Z2,Zk];obtain⟨rs,a3⟩:∃rs,(ds.drop X'.n).take z.toNat=rs:={_,M};rw[a3]at q⊢;have a4:∀(i:Nat)(d:DR),rs[i]?=some d->ds[X'.n+i]?=some d:=λi d h=>by
  rw[<-a3,Vb]at h;split at h
  .rwa [Xp]at h
  .cases h
 have rd:∀d∈ds,H1 d.p=some (.tup d.r.vs):=λd hd=>(A.same s1).di (d.p,d.r.vs) (by rw[dy];exact QJ.mpr ⟨d,hd,M⟩);change Ag _ _ _ _ (upd H1 p1<|.lst<|rs.map λd=>V.ref d.p);have s2:=s1.trans (al (o:= .lst<|rs.map λd=>V.ref d.p) a2);have h2:upd H1 p1 (.lst<|rs.map λd=>V.ref d.p) p1=some (.lst<|rs.map λd=>V.ref d.p):=ag;have a1:∀d∈ds,upd H1 p1 (.lst<|rs.map λd=>V.ref d.p) d.p=some (.tup d.r.vs):=λd hd=>al a2 _ _ (rd d hd);generalize upd H1 p1 (.lst<|rs.map λd=>V.ref d.p)=H2 at s2 h2 a1⊢;have C2:=C.same s2;have pn:=C2.nmut h2 (λ_ _ _ z=>by cases z) (λ_ z=>by cases z);refine{_,M,p1,M,{_,E7.of h2},pe (K:=K) (a:=p1) (xs:=rs.map λd=>V.ref d.p) (λi B H'=>∃v3:Option V,B=[some (.ref c),some (.int z),some (.ref p1),v3]/\(∀b o,¬X'.mut c dd b->H2 b=some o->H' b=some o)/\Pr t H' c a p dd kd av e ((rs.take i).foldl (bB kd av e) X')/\Inv kd av e ds ((rs.take i).foldl (bB kd av e) X')) ?_ (λi B H' _ w=>by let{_,_,k,_}:=w;exact E7.of<|k _ _ pn h2) (λi u B H' hu w'=>?_)<|λB H' w'=>?_}
 .exact{none,M,λ_ _ _ h=>h,C2,I}
 .let{v3,rfl,kp,CI,II}:=w';obtain⟨d,rfl,ed⟩:∃d,u=V.ref d.p/\rs[i]?=some d:=by
   rw[Z3]at hu;cases c:rs[i]? with
   |none=>rw[c]at hu;cases hu
   |some e=>rw[c]at hu;cases hu;exact⟨e,M,M⟩
  have hi:=(Q2.mp ed).1;have nX:((rs.take i).foldl (bB kd av e) X').n=X'.n+i:=by rw[D5,Q9,ZP (Zq hi)]
  have eN:(rs.take<|i+1).foldl (bB kd av e) X'=bB kd av e ((rs.take i).foldl (bB kd av e) X') d:=by
   rw[QY,ed,XW];rfl
  have hd:ds[((rs.take i).foldl (bB kd av e) X').n]?=some d:=by rw[nX];exact a4 i d ed
  have O:=Q1 hd;have mI:∀b,((rs.take i).foldl (bB kd av e) X').mut c dd b->X'.mut c dd b:=λb=>xw;have IN:=II.step D hd;have te:H' d.p=some (.tup d.r.vs):=kp _ _ (C2.nmut (a1 d O) (λ_ _ _ z=>by cases z)<|λ_ z=>by cases z) (a1 d O);rw[eN];have sN:=Di (kd:=kd) (av:=av) (e:=e) (X:=(rs.take i).foldl (bB kd av e) X') (x:=d);generalize (rs.take i).foldl (bB kd av e) X'=Y at CI II hd mI IN nX sN⊢;have Z:=II.sz dl;unfold gi
  (try dsimp only)
  refine dw (λB H3=>B=[some (.ref c),some (.int z),some (.ref p1),some (.ref d.p)]/\(∀b o,¬X'.mut c dd b->H2 b=some o->H3 b=some o)/\Pr t H3 c a p dd kd av e {bB kd av e Y d with n:=Y.n}) (λnx go=>?_)<|λB H3 w3=>?_
  .let{dY,hY}:=CI.ob;have kb:=D.kb d O;cases G:d.r with
   |mark m=>
    rw[G]at te;refine{_,M,d.p,_,_,_,M,M,Px.of te,M,M,_,M,dX M {_,M,c,dY,_,M,hY,{_},_,M,d.p,_,_,_,M,M,Px.of te,M,c,a,p,dd,kd,m,av,e,Y,M,CI,Z,λH3 U k3=>go _ _ {M,λb o n e=>k3 b o (λz=>n<|mI b z)<|kp b o n e,?_}}};unfold bB;rwa[G]
   |put k v=>
    have a0:=te;rw[G]at a0;refine{_,M,d.p,_,_,_,M,M,Px.of a0,M,M,_,M,bg (λz=>Ws (V.str.inj z) ∅) {_,M,c,dY,_,M,hY,{_},_,M,?_}};exact{c,a,p,dd,kd,k,av,e,Y,d,M,CI,Z,te,by rw[G];rfl,kb k (by rw[G];rfl),λH3 U k3=>go _ _ {M,λb o n e=>k3 b o (λz=>n<|mI b z)<|kp b o n e,by unfold bB;rwa[G]}}
   |drop k=>
    have a0:=te;rw[G]at a0;refine{_,M,d.p,_,_,_,M,M,Px.of a0,M,M,_,M,bg (λz=>Ws (V.str.inj z) ∅) {_,M,c,dY,_,M,hY,{_},_,M,?_}};exact{c,a,p,dd,kd,k,av,e,Y,d,M,CI,Z,te,by rw[G];rfl,kb k (by rw[G];rfl),λH3 U k3=>go _ _ {M,λb o n e=>k3 b o (λz=>n<|mI b z)<|kp b o n e,by unfold bB;rwa[G]}}
  let{rfl,k3,U}:=w3;generalize bB kd av e Y d=Z' at U IN sN⊢;let{d3,h3}:=U.ob;refine{_,M,c,_,d3,_,_,M,h3,T.aC,T.cZ,M,_,_,M,M,d3,_,h3,(by show 6<1000;decide),?_};rw[bO ∅,bO ∅,bO ∅,lO];refine{_,M,λb o n e=>by rw[af λz=>n (.inl z)];exact k3 b o n e,?_,IN};have h:=U.setc (n:=Y.n+1) (pg:=Z'.pg) (dx:=d3) U.rt U.pg;rw[nset sN]at h;exact h
 .let{v3,rfl,kp,CI,II}:=w';rw[Q0,Zd]at CI II;let{d3,h3}:=CI.ob;exact{_,M,c,_,d3,_,_,M,h3,T.aC,T.cZ,M,q H' _ M CI II λb o n e=>kp b o n<|s2 _ _ e}
def yh(t:PB):Sp:=λvs H Q _=>∃(g dx tk:K'),vs=[.ref g,.ref tk]/\H g=some (.ins t.bZ dx [])/\
 ∀H' nd,H' g=some (.ins t.bZ dx<|Rx tk .non .non nd .non)->H' nd=some (.dK [])->H nd=none->(∀b o,b≠g->H b=some o->H' b=some o)->Q .non H'
def yN:Cy P w K mg base PJ 1 t.tq t.mC [cC,fe] (yh t):=by
 refine T.LK.okl yA λs H vs Q E hr h _=>?_;intro X;let{g,dx,tk,rfl,hg,q}:=h;refine ak (bu Ck P0 M)
   (ak (bu Ck bx M)
   (ak (bu Ck bx M)
   (ak (bu Ck i7 M)
   (aB (bu Ck bx M) ?_))))
 intros
 refine{_,M,_,M,g,_,dx,[],M,hg,T.bp,T.pQ,lY (by kernel_rfl),c4 λH1 h1 I=>?_};refine{_,M,g,_,dx,_,M,h1,T.bp,T.bV,lY (by kernel_rfl),c4 λH2 h2 O=>?_};refine{_,M,g,_,dx,_,M,h2,T.bp,T.jY,lY (by kernel_rfl),c4 λH3 U Y=>λnd z=>?_};refine{_,M,g,_,dx,_,M,al z _ _ U,T.bp,T.pP,lY (by kernel_rfl),c4 λH4 h4 Z=>?_};refine{_,M,g,_,dx,_,M,h4,T.bp,T.c8,lY (by kernel_rfl),c4 λH5 h5 o5=>?_};have G:=(ao U z).symm;refine q _ nd (h5.trans<|by kernel_rfl) (by rw[o5 _ G,Z _ G];exact ag) (by rw[Y _ G,O _ G,I _ G]at z;exact z) λb o n e=>?_;rw[o5 b n,Z b n];exact al z _ _ (by rwa[Y b n,O b n,I b n])
def S9(g nd q:K')(ra:V):Qf:={g,nd,q,ra,none,.non,.non,[],none}
def yg(K:JZ)(t:PB):Sp:=λvs H Q _=>∃(g a tk nd dx:K')(n kd:Int)(av e fd ah cl:V)(F:O')(x:PX),vs=[.ref g,.ref a,.int n]/\H g=some (.ins t.bZ dx<|Rx tk fd ah nd cl)/\¬F g/\PY K t H a F x/\Pz t H tk kd av e/\R4 kd av e/\¬F tk/\1<=n/\n<=1000/\x.st.kv.length<4096/\x.ks.length<4096/\(∀k∈x.ks,0<=k)/\(∀p∈x.st.kv,∃i:Int,p.2= .int i)/\
 ∀(H':Hp)(F':O')(f:K')(v:V)(ts:List Tp)(a':V)(R:Int->Bool),PY K t H' a F' x->Fr F F' H H'->¬F' f->H' f=some (.lst<|ts.map λe=>V.ref e.p)->(∀e∈ts,H' e.p=some (.tup [.int e.k,e.v]))->Ej t H' F' x.st kd n av e v ts a' R->Q .non (upd H' g<|.ins t.bZ dx<|Rx tk (.ref f) v nd cl)
def yM:Cy P w K mg base PJ 9 t.tm t.mB [cC,oq,nj] (yg K t):=by
 refine T.LJ.okl yz λs H vs Q E O h _=>?_;intro X;let{g,a,tk,nd,dx,n,kd,av,e,fd,ah,cl,F,x,rfl,G,Y,A,Z,on,nt,n1,n2,l4,lk,k0,iv,q}:=h;refine ak (PF 3<|aP (Nk T) O.mo {_} T.Po T.Pd.kp T.NY.choose_spec.1 T.NY.choose_spec.2 aA (ae P0<|ae (au Ck M)<|ae P1 aj))
   (ak (bu Ck (aR bY PM ai<|λ_ _=>M) M)
   (aB (bu Ck (aR bY PM ai<|λ_ _=>M) M) ?_))
 intros
 refine{_,M,_,M,g,_,dx,_,_,M,G,T.bp,T.pQ,M,_,M,a,tk,n,kd,av,e,F,x,M,A,Z,on,nt,n1,n2,l4,lk,k0,iv,λH2 F2 r f v ts a' R A2 I pg U=>?_};let{h2,a0}:=I _ _ Y G;have rg:r≠g:=λz=>by have h:=pg.tu;rw[z,h2]at h;cases h
 unfold Rx at h2;refine{_,M,r,_,_,_,M,M,Px.of pg.tu,M,_,M,g,_,dx,_,M,h2,T.bp,T.bV,(by show 5<1000;decide),?_};rw[bO ∅,lO];refine{_,M,r,_,_,_,M,M,Px.of (by rw[af rg];exact pg.tu),M,_,M,g,_,dx,_,M,ag,T.bp,T.jY,(by show 5<1000;decide),?_};rw[du,bO ∅,bO ∅,lO];exact q H2 F2 f v ts a' R A2 I pg.ng.2 pg.li (λu hu=>(pg.rw u hu).1) U
def tL(t:PB):Sp:=λvs H Q _=>∃(c a p dd:K')(kd:Int)(av e:V)(X:PQ),vs=[.ref c]/\Pr t H c a p dd kd av e X/\Q (.int X.n) H
def kJ:Cy P w K mg base PJ 1 t.mN t.hZ [cC] (tL t):=by
 refine T.GY.okl tP λs H vs Q E G h _=>?_;intro X;let{c,a,p,dd,kd,av,e,X',rfl,C,q}:=h;refine{_,(ay<|aG<|au Ck M)
  ,?_}
 let{dx,z}:=C.ob;exact{_,M,c,_,dx,_,_,M,z,T.aC,T.cZ,M,q}
def uU(t:PB):Sp:=λvs H Q _=>∃(c a p dd:K')(kd:Int)(av e:V)(X:PQ),vs=[.ref c]/\Pr t H c a p dd kd av e X/\Q X.rv H
def vk:Cy P w K mg base PJ 1 t.oK t.jp [cC] (uU t):=by
 refine T.JF.okl vb λs H vs Q E G h _=>?_;intro X;let{c,a,p,dd,kd,av,e,X',rfl,C,q}:=h;refine{_,(ay<|aG<|au Ck M)
  ,?_}
 let{dx,z}:=C.ob;exact{_,M,c,_,dx,_,_,M,z,T.aC,T.cV,M,q}
def uW(t:PB):Sp:=λvs H Q _=>∃(c a p dd:K')(kd:Int)(av e:V)(X:PQ),vs=[.ref c]/\Pr t H c a p dd kd av e X/\∀r,H r=none->Q (.ref r) (upd H r<|.dK<|aI X.cp)
def vo:Cy P w K mg base PJ 1 t.oN t.jq [cC] (uW t):=by
 refine T.JH.okl vc λs H vs Q E G h _=>?_;intro X;let{c,a,p,dd,kd,av,e,X',rfl,C,q}:=h;refine{_,(ay<|aG<|kI xE {_} T.G1 A7 (ae (au Ck M) aj))
  ,?_}
 let{dx,z}:=C.ob;exact{_,M,c,_,dx,_,_,M,z,T.aC,T.gy,M,dd,_,M,C.cp,q}
def lN{E:XK}{bm:Sl}(Y:Qc K C bm)(k:Rs H C [] E){x:Str}:Ht K (Ep C<|LW (tC<|.str x) Fx) E D B H:=by
 refine{(by show 1<=1000;decide),λea z=>{ea,C,none,bm,M,ag,Y,?_}};rw[du];exact k ea none _ {ag,.inl ⟨M,M⟩} λb o q=>by rw[af (ao q z)];exact q
def m7(K:JZ)(t:PB):Sp:=λvs H Q E=>∃(c a p dd:K')(kd:Int)(av e:V)(X:PQ)(F:O')(x:PX),vs=[.ref c]/\Pr t H c a p dd kd av e X/\PY K t H a F x/\(∀b,X.adr c p dd b->¬F b)/\x.now+x.ma<40000/\(X.pg≠none\/X.rv= .non->Rs H t.bI [] E)/\
 ∀q,X.pg=none->X.rv= .ref q->∀(H':Hp)(F':O')(r g nd:K'),PY K t H' a F' {x with ma:=x.ma+1,di:=x.di++ [(r,[.str ge,.int (x.ma+1)])]}->Pr t H' c a p dd kd av e {X with pg:=some (S9 g nd q X.ra)}->(∀b,({X with pg:=some (S9 g nd q X.ra)}:PQ).adr c p dd b->¬F' b)->H g=none->H nd=none->(∀b o,b≠c->¬F b->H b=some o->H' b=some o/\¬F' b)->Q (.int<|x.ma+1) H'
def nY:Cy P w K mg base (Rl P w) 3 t.iB t.eF [cC] (m7 K t):=by
 have a8:=QB.nd;refine T.C7.okX QB (λvs H Q E h=>?_)<|λaa A outer s H vs Q E hr h=>?_
 .let{c,a,p,dd,kd,av,e,X,F,x,rfl,_}:=h;rfl
 .let{c,a,p,dd,kd,av,e,X',F,x,rfl,C,A,U,l,rz,q}:=h;refine ak (aS (aw lT (au Ck M) bx<|az _)
   (ay<|rN M vB<|oU T.aN T.j4 {_} T.iF (ae bQ aj))
   aJ)
     (ak (aS (aw fN (au Ck M) bx<|az _)
   (ay<|rN M vB<|oU T.aN T.j4 {_} T.iF (ae bQ aj))
   aJ)
     (ak (bu Ck (iD T.Pf (yN T) hr.mo {_} T.Pg T.LA .nil aA (ae (au Ck M) aj)) M)
     (aB (aG<|bn (au Ck M) T.aO T.r6 (i9 T) hr.mo T.sR .nil aA) ?_)))
  intros
  let{dx,G}:=C.ob;by_cases hp:X'.pg=none
  case neg=>
   obtain⟨P',hP⟩:∃P',X'.pg=some P':=by
    cases c:X'.pg with
    |none=>exact Ws c hp
    |some P'=>exact⟨P',M⟩
   rw[hP]at G;exact{_,M,c,_,dx,_,_,M,G,T.aC,T.a6,M,M,_,M,xo (λz=>by cases z)<|lN T.aN (rz<|.inl hp)}
  rcases C.rt with I|⟨q',I,_,_⟩
  .rw[hp,I]at G;refine{_,M,c,_,dx,_,_,M,G,T.aC,T.a6,M,M,_,M,sr M ?_};unfold mY
   (try dsimp only)
   exact{_,M,c,_,dx,_,_,M,G,T.aC,T.cV,M,M,_,M,dX M<|lN T.aN (rz<|.inr I)}
  have q:=q q' hp I;rw[hp,I]at G;refine{_,M,c,_,dx,_,_,M,G,T.aC,T.a6,M,M,_,M,sr M ?_};unfold mY
  (try dsimp only)
  refine{_,M,c,_,dx,_,_,M,G,T.aC,T.cV,M,M,_,M,bg (λz=>by cases z) ?_}
  (try dsimp only)
  refine{_,M,c,_,dx,_,_,M,G,T.aC,T.cV,M,λg dg Y nd ac=>?_};have s1:=b6 (al (o:= .own g) nd) (o:= .ins t.bZ dg []) Y;refine{g,dg,q',M,ag,λH2 no a1 a2 nn kp=>{M,?_}};have s2:GI H H2:=λb o e=>kp b o (ao e Y) (s1 _ _ e);have C2:=C.same s2;have O:=cN s1 nn;have gc:g≠c:=λz=>by rw[z,G]at Y;cases Y
  have a3:Pz t H2 q' kd X'.ra e/\R4 kd X'.ra e:=by
   rcases C2.rt with h|⟨z,h1,h2⟩
   .rw[I]at h;cases h
   .rw[I]at h1;cases h1;exact h2
  refine{_,M,c,_,dx,_,M,s2 _ _ G,T.aC,T.a6,(by show 6<1000;decide),?_};rw[bO ∅,bO ∅,bO ∅,bO ∅,bO ∅,lO];have Z:=C2.setc (n:=X'.n) (pg:=some<|S9 g no q' X'.ra) (dx:=dx) C2.rt λP z=>by
   cases z;exact{{⟨dg,a1⟩,a2,a3,.inl M,(λ_ z=>by cases z),(λ_ z=>by cases z)},λz=>by rw[show no=dd from z,C.cp]at O;cases O}
  have a4:=s2 _ _ G;have nc:¬F c:=U c (.inl<|.inl M);rw[I]at Z;have A3:=(A.same s2).upd (o:= .ins t.aY dx<|SO a p (.ref q') X'.n dd<|.ref g) nc λxs z=>by rw[a4]at z;cases z
  have k3:∀b o,b≠c->H2 b=some o->upd H2 c (.ins t.aY dx<|SO a p (.ref q') X'.n dd<|.ref g) b=some o:=λb o n e=>by rwa[af n]
  change Ag _ _ _ _ (upd H2 c<|.ins t.aY dx<|SO a p (.ref q') X'.n dd<|.ref g)at*;change Pr t (upd H2 c<|.ins t.aY dx<|SO a p (.ref q') X'.n dd<|.ref g) _ _ _ _ _ _ _ _ at Z;generalize upd H2 c (.ins t.aY dx<|SO a p (.ref q') X'.n dd<|.ref g)=H3 at Z A3 k3⊢;let{da,fa,ha,hm,_}:=A3.ins;let{d3,h3}:=Z.ob;refine{_,M,c,_,d3,_,_,M,h3,T.aC,T.eQ,M,a,da,fa,M,ha,hm _ ∅,a,F,x,M,A3,l,λH4 F4 r A4 f4=>?_};have a5:∀b,PQ.adr {.ref q',X'.ra,X'.n,X'.cp,some<|S9 g no q' X'.ra} c p dd b->¬F b:=λb hb=>by
   rcases hb with(h|h|⟨P,z,h⟩)|h|h|⟨P,z,h⟩
   .exact U b<|.inl (.inl h)
   .exact U b<|.inl (.inr<|.inl h)
   .cases z;rcases h with rfl|rfl
    .exact A.out Y
    .exact A.out O
   .exact U b<|.inr (.inl h)
   .exact U b<|.inr (.inr<|.inl<|I.trans h)
   .cases z;rcases h with rfl|h|⟨y,h,_⟩
    .exact U _<|.inr (.inr<|.inl I)
    .cases h
    .cases h
  let{C4,a0}:=Z.fr a5 A3 f4;have eX:({.ref q',X'.ra,X'.n,X'.cp,some<|S9 g no q' X'.ra}:PQ)={X' with pg:=some (S9 g no q' X'.ra)}:=by rw[<-I]
  rw[eX]at C4 a0;exact q H4 F4 r g no A4 C4 a0 Y O λb o n1 n2 e=>f4 b o n2 (k3 b o n1<|s2 _ _ e)
def m6(K:JZ)(t:PB):Sp:=λvs H Q E=>∃(c a p dd:K')(n kd:Int)(av e:V)(X:PQ)(F:O')(x:PX),vs=[.ref c,.int n]/\Pr t H c a p dd kd av e X/\PY K t H a F x/\(∀b,X.adr c p dd b->¬F b)/\1<=n/\n<=1000/\x.st.kv.length<4096/\x.ks.length<4096/\(∀k∈x.ks,0<=k)/\(∀p∈x.st.kv,∃i:Int,p.2= .int i)/\((∀P,X.pg=some P->P.fd≠none)->Rs H t.bI [] E)/\
 ∀P,X.pg=some P->P.fd=none->∀(H':Hp)(F':O')(f l:K')(v:V)(ts:List Tp)(a':V)(R:Int->Bool),PY K t H' a F' x->Pr t H' c a p dd kd av e {X with pg:=some {P with fd:=some (f,ts),ah:=v,aa:=a'}}->(∀b,({X with pg:=some {P with fd:=some (f,ts),ah:=v,aa:=a'}}:PQ).adr c p dd b->¬F' b)->(∀b o,b≠P.g->¬F b->H b=some o->H' b=some o/\¬F' b)->(∃H1,Ej t H1 F' x.st kd n P.ta e v ts a' R)->H' l=some (.lst<|ts.map λe=>V.ref e.p)->¬F' l->l≠f->(∀b o,¬F b->H b=some o->b≠l)->Q (.ref l) H'
def nW:Cy P w K mg base (Rl P w) 10 t.iA t.cO [cC,nj] (m6 K t):=by
 have a2:=QE.nd;refine T.C6.okX QE (λvs H Q E h=>?_)<|λa3 A outer s H vs Q E hr h=>?_
 .let{c,a,p,dd,n,kd,av,e,X,F,x,rfl,_}:=h;rfl
 .let{c,a,p,dd,n,kd,av,e,X',F,x,rfl,C,A,nF,n1,n2,l4,lk,k0,iv,rz,q}:=h;refine ak (PF 2<|au Ck M)
    (ak (aS (PW.pt<|mJ (aw fN P1 bx<|az _)<|i5<|aw lT (au P1 M) bx<|az _)
   (ay<|rN M vB<|oU T.aN T.j4 {_} T.iF (ae bQ aj))
   aJ)
     (ak (aT<|aW P1 T.bp T.K3 (yM T) hr.mo T.Lz .nil aA<|ae (au Ck M)<|ae P0 aj)
     (aB (aG<|kI AX {_} T.Ph Lp (ae (au P1 M) aj)) ?_)))
  intros
  let{dx,ho}:=C.ob;cases hp:X'.pg with
  |none=>
   rw[hp]at ho;exact{_,M,c,_,dx,_,_,M,ho,T.aC,T.a6,M,_,M,M,_,M,dX M<|lN (D:={nx:=λ_ _=>True,rt:=λ_ _=>True}) T.aN (rz λP z=>by rw[hp]at z;cases z)}
  |some P'=>
  let{R0,nn}:=C.pg P' hp;let{I,Y}:=R0.ob;rw[hp]at ho;cases O:P'.fd with
  |some y=>
   rw[O]at Y;refine{_,M,c,_,dx,_,_,M,ho,T.aC,T.a6,M,?_};exact{_,M,M,_,M,bg (λz=>by cases z) {_,M,P'.g,_,I,_,_,M,Y,T.bp,T.bV,M,M,_,M,xo (λz=>by cases z)<|lN T.aN (rz λP z h=>by rw[hp]at z;cases z;rw[O]at h;cases h)}}
  |none=>
  have q:=q P' hp O;rw[O]at Y;refine{_,M,c,_,dx,_,_,M,ho,T.aC,T.a6,M,?_};refine{_,M,M,_,M,bg (λz=>by cases z) {_,M,P'.g,_,I,_,_,M,Y,T.bp,T.bV,M,M,_,M,sr M ?_}};unfold mY
  (try dsimp only)
  have ng:¬F P'.g:=nF _ (.inl<|.inr<|.inr {P',hp,.inl M});have nt:¬F P'.tk:=nF _ (.inr<|.inr<|.inr {P',hp,.inl M});refine{_,M,P'.g,I,_,M,Y,{_},_,M,c,_,dx,_,_,M,ho,T.aC,T.eQ,M,_,M,P'.g,a,P'.tk,P'.nd,I,n,kd,P'.ta,e,_,_,_,F,x,M,Y,ng,A,R0.tk.1,R0.tk.2,nt,n1,n2,l4,lk,k0,iv,λH2 F2 f v ts a' R A2 f2 nf hf tu U=>?_};let{C2,G}:=C.fr nF A f2;have a0:=(f2 _ _ ng Y).1;have a1:=(f2 _ _ ng Y).2;have fg:=cr hf a0 λz=>by cases z
  have C3:=C2.setg hp (fd:=some (f,ts)) (ah:=v) (aa:=a') (cl:=P'.cl) (dx:=I) (λy hy=>by cases hy;exact⟨hf,tu⟩) (by
   rcases U.rest with h|⟨q',h1,h2,h3,_⟩
   .exact .inl h.1
   .exact .inr ⟨q',h1,h2,h3⟩)
  have A3:=A2.upd (o:= .ins t.bZ I<|Rx P'.tk (.ref f) v P'.nd<|BV P'.cl) a1 λxs z=>by rw[a0]at z;cases z
  have k3:∀b o,b≠P'.g->H2 b=some o->upd H2 P'.g (.ins t.bZ I<|Rx P'.tk (.ref f) v P'.nd<|BV P'.cl) b=some o:=λb o n e=>by rwa[af n]
  change Pr t (upd H2 P'.g<|.ins t.bZ I<|Rx P'.tk (.ref f) v P'.nd<|BV P'.cl) _ _ _ _ _ _ _ _ at C3;have h3:upd H2 P'.g (.ins t.bZ I<|Rx P'.tk (.ref f) v P'.nd<|BV P'.cl) P'.g=some (.ins t.bZ I<|Rx P'.tk (.ref f) v P'.nd<|BV P'.cl):=ag
  (try dsimp only)
  generalize upd H2 P'.g (.ins t.bZ I<|Rx P'.tk (.ref f) v P'.nd<|BV P'.cl)=H3 at C3 A3 k3 h3⊢;refine{_,M,P'.g,_,I,_,_,M,h3,T.bp,T.bV,M,f,_,M,.inl<|E7.of<|k3 _ _ fg hf,λl Z=>?_};have s3:=al (o:= .lst<|ts.map λe=>V.ref e.p) Z;refine q _ F2 f l v ts a' R (A3.same s3) (C3.same s3) (λb hb=>?_) (λb o n1 n2 e=>{s3 _ _<|k3 b o n1 (f2 b o n2 e).1,(f2 b o n2 e).2}) ⟨H2,U⟩ ag (A3.out Z) (λz=>by rw[z,k3 _ _ fg hf]at Z;cases Z) λb o n2 e z=>?_
  .rcases hb with(h|h|⟨P,z,h⟩)|h|h|⟨P,z,h⟩
   .exact G b<|.inl (.inl h)
   .exact G b<|.inl (.inr<|.inl h)
   .cases z;exact G b<|.inl (.inr<|.inr ⟨P',hp,h⟩)
   .exact G b<|.inr (.inl h)
   .exact G b<|.inr (.inr<|.inl h)
   .cases z;rcases h with h|h|⟨y,hy,h⟩
    .exact G b<|.inr (.inr<|.inr {P',hp,.inl h})
    .rcases U.rest with g|⟨q',h1,h2,h3,h4,_⟩
     .rw[show v=V.ref b from h]at g;cases g.1
     .rw[show v=V.ref b from h]at h1;cases h1;exact h4
    .cases hy;rwa[h]
  .by_cases c:b=P'.g
   .rw[<-z,c,h3]at Z;cases Z
   .rw[<-z,k3 b o c (f2 b o n2 e).1]at Z;cases Z
def mQ(K:JZ)(t:PB):Sp:=λvs H Q E=>∃(c a p dd:K')(kd:Int)(av e:V)(X:PQ)(F:O')(x:PX),vs=[.ref c]/\Pr t H c a p dd kd av e X/\PY K t H a F x/\(∀b,X.adr c p dd b->¬F b)/\x.now+x.ma<40000/\((∀P,X.pg=some P->P.fd≠none->P.cl≠none)->Rs H t.bI [] E)/\
 ∀P y,X.pg=some P->P.fd=some y->P.cl=none->∀(H':Hp)(F':O')(r:K'),PY K t H' a F' {x with ma:=x.ma+1,di:=x.di++ [(r,[.str ge,.int (x.ma+1)])]}->Pr t H' c a p dd kd av e {X with pg:=some {P with cl:=some (x.ma+1)}}->(∀b,({X with pg:=some {P with cl:=some (x.ma+1)}}:PQ).adr c p dd b->¬F' b)->(∀b o,b≠P.g->¬F b->H b=some o->H' b=some o/\¬F' b)->Q (.int<|x.ma+1) H'
def mT:Cy P w K mg base (Rl P w) 2 t.gU t.dO [cC] (mQ K t):=by
 have a1:=Pw.nd;refine T.CM.okX Pw (λvs H Q E h=>?_)<|λa2 A outer s H vs Q E hr h=>?_
 .let{c,a,p,dd,kd,av,e,X,F,x,rfl,_}:=h;rfl
 .let{c,a,p,dd,kd,av,e,X',F,x,rfl,C,A,nF,l,rz,q}:=h;refine ak (PF 1<|au Ck M)
    (ak (aS (PW.pt<|mJ (aw fN P0 bx<|az _)<|mJ (aw fN (au P0 M) bx<|az _)<|i5<|aw lT (au P0 M) bx<|az _)
   (ay<|rN M vB<|oU T.aN T.j4 {_} T.iF (ae bQ aj))
   aJ)
     (ak (bu P0 (bn (au Ck M) T.aO T.r6 (i9 T) hr.mo T.sR .nil aA) M)
     (aB (aG<|au P0 M) ?_)))
  intros
  let{dx,Y}:=C.ob;cases hp:X'.pg with
  |none=>
   rw[hp]at Y;exact{_,M,c,_,dx,_,_,M,Y,T.aC,T.a6,M,_,M,M,_,M,dX M<|lN (D:={nx:=λ_ _=>True,rt:=λ_ _=>True}) T.aN (rz λP z=>by rw[hp]at z;cases z)}
  |some P'=>
  let{R0,nn}:=C.pg P' hp;let{U,I}:=R0.ob;rw[hp]at Y;cases hy:P'.fd with
  |none=>
   rw[hy]at I;refine{_,M,c,_,dx,_,_,M,Y,T.aC,T.a6,M,?_};exact{_,M,M,_,M,bg (λz=>by cases z) {_,M,P'.g,_,U,_,_,M,I,T.bp,T.bV,M,M,_,M,dX M<|lN (D:={nx:=λ_ _=>True,rt:=λ_ _=>True}) T.aN (rz λP z h=>by rw[hp]at z;cases z;exact Ws hy h)}}
  |some y=>
  cases O:P'.cl with
  |some m=>
   rw[hy,O]at I;refine{_,M,c,_,dx,_,_,M,Y,T.aC,T.a6,M,?_};exact{_,M,M,_,M,bg (λz=>by cases z) {_,M,P'.g,_,U,_,_,M,I,T.bp,T.bV,M,M,_,M,bg (λz=>by cases z) {_,M,P'.g,_,U,_,_,M,I,T.bp,T.c8,M,M,_,M,xo (λz=>by cases z)<|lN T.aN (rz λP z h g=>by rw[hp]at z;cases z;rw[O]at g;cases g)}}}
  |none=>
  have q:=q P' y hp hy O;rw[hy,O]at I;have ng:¬F P'.g:=nF _ (.inl<|.inr<|.inr {P',hp,.inl M});refine{_,M,c,_,dx,_,_,M,Y,T.aC,T.a6,M,?_};refine{_,M,M,_,M,bg (λz=>by cases z) {_,M,P'.g,_,U,_,_,M,I,T.bp,T.bV,M,M,_,M,bg (λz=>by cases z) {_,M,P'.g,_,U,_,_,M,I,T.bp,T.c8,M,M,_,M,sr M ?_}}};unfold mY
  (try dsimp only)
  let{da,fa,ha,hm,_}:=A.ins;refine{_,M,c,_,dx,_,_,M,Y,T.aC,T.eQ,M,a,da,fa,M,ha,hm _ ∅,a,F,x,M,A,l,λH2 F2 r A2 f2=>?_};let{Z,a0}:=f2 _ _ ng I;let{C2,G}:=C.fr nF A f2;let{R2,_}:=C2.pg P' hp;refine{_,M,P'.g,_,U,_,M,Z,T.bp,T.c8,(by show 5<1000;decide),?_};rw[bO ∅,bO ∅,bO ∅,bO ∅,lO];refine{_,M,P'.g,_,U,_,_,M,ag,T.bp,T.c8,M,?_};refine q _ F2 r (A2.upd a0 λxs z=>by rw[Z]at z;cases z) (by have h:=C2.setg hp (fd:=P'.fd) (ah:=P'.ah) (aa:=P'.aa) (cl:=some<|x.ma+1) (dx:=U) R2.fd R2.ah;rw[show KP P'.fd=V.ref y.1 by rw[hy];rfl]at h;exact h) (λb hb=>?_) λb o n1 n2 e=>{by rw[af n1];exact(f2 b o n2 e).1,(f2 b o n2 e).2};rcases hb with(h|h|⟨P,z,h⟩)|h|h|⟨P,z,h⟩
  .exact G b<|.inl (.inl h)
  .exact G b<|.inl (.inr<|.inl h)
  .cases z;exact G b<|.inl (.inr<|.inr ⟨P',hp,h⟩)
  .exact G b<|.inr (.inl h)
  .exact G b<|.inr (.inr<|.inl h)
  .cases z;exact G b<|.inr (.inr<|.inr ⟨P',hp,h⟩)
def uV(K:JZ)(t:PB):Sp:=λvs H Q _=>∃(c dx a p:K')(kd:Int)(av e:V)(F:O')(x:PX),vs=[.ref c,.ref a,.ref p,.non]/\H c=some (.ins t.aY dx [])/\PY K t H a F x/\Pz t H p kd av e/\R4 kd av e/\
 ∀H' dd,Pr t H' c a p dd kd av e {.ref p,av,x.di.length,[],none}->H dd=none->(∀b o,b≠c->H b=some o->H' b=some o)->Q .non H'
def vn:Cy P w K mg base PJ 2 t.oM t.gd [cC,oq,fe,"stopped"] (uV K t):=by
 have a1:=Qm.nd;refine T.JG.ok Qm (λvs H Q E h=>?_)<|λa2 A outer s H vs Q E hr h=>?_
 .let{c,dx,a,p,kd,av,e,F,x,rfl,_}:=h;rfl
 .let{c,dx,a,p,kd,av,e,F,x,rfl,hc,A,TK,on,q}:=h;refine cI (λx=>aS (aw fN PM bx<|az _) x aJ) ?_;refine aB (PF 3<|bM<|ae P1<|ae (aD aE {_} T.bS bj (ae (bn P0 T.aO T.cX (eP T) hr.mo T.bh.choose_spec.1 T.bh.choose_spec.2 aA) aj))<|ae i7 aj) ?_
  intros
  refine ak (bu Ck P0 M)
    (ak (bu Ck P1 M)
    (ak (bu Ck (aR bY PM ai<|λ_ _=>M) M)
    (ak (bu Ck (aR bY PM ai<|λ_ _=>M) M)
    (ak (bu Ck (kI xE {_} T.G1 A7 (ae (aR bY PM ai<|λ_ _=>M) aj)) M)
    (aB (bu Ck bx M) ?_)))))
  intros
  let{da,fa,hi,hm,_}:=A.ins;refine dw (λB H'=>∃tp I:Addr,B=[some (.ref c),some (.ref a),some (.ref p),some (.ref tp)]/\GI H H'/\H' tp=some (.tup [.ref p,.int x.di.length,.ref I])/\H' I=some (.dK [])) (λnx go=>?_)<|λB H2 w=>?_
  .refine{_,M,M,_,M,dX M {_,M,_,M,a,da,fa,M,hi,hm _ ∅,a,0,F,x,M,A,ZL _,λH1 r s1 nr hr=>{r,_,M,.inl<|E7.of hr,λI a0=>{(by show 3<=sizeLine;decide),λtp Y=>?_}}}};rw[Q0,show(0:Int).toNat=0 from rfl,Zz];exact go _ _ {tp,I,M,(s1.trans<|al a0).trans<|al Y,ag,al Y _ _ ag}
  let{tp,I,rfl,s2,G,O}:=w;have U:=s2 _ _ hc;have n1:tp≠c:=λz=>by rw[z,U]at G;cases G
  have n2:I≠c:=λz=>by rw[z,U]at O;cases O
  refine{_,M,_,M,c,_,dx,[],M,U,T.aC,T.eQ,lY (by kernel_rfl),c4 λH3 h3 o3=>?_};refine{_,M,_,M,c,_,dx,_,M,h3,T.aC,T.vp,lY (by kernel_rfl),c4 λH4 h4 o4=>?_};refine{_,M,tp,_,_,_,M,M,Px.of (by rwa[o4 _ n1,o3 _ n1]),M,_,M,c,_,dx,_,M,h4,T.aC,T.cV,lY (by kernel_rfl),c4 λH5 h5 o5=>?_};have Z:∀{b:K'},b≠c->H5 b=H2 b:=λn=>by rw[o5 _ n,o4 _ n,o3 _ n]
  refine{_,M,tp,_,_,_,M,M,Px.of (by rwa[Z n1]),M,_,M,c,_,dx,_,M,h5,T.aC,T.cZ,lY (by kernel_rfl),c4 λH6 h6 o6=>?_};refine{_,M,tp,_,_,_,M,M,Px.of (by rwa[o6 _ n1,Z n1]),M,I,_,M,by rwa[o6 _ n2,Z n2],λdd nd=>?_};refine{_,M,c,_,dx,_,M,al nd _ _ h6,T.aC,T.gy,lY (by kernel_rfl),c4 λH7 h7 o7=>?_};refine{_,M,c,_,dx,_,M,h7,T.aC,T.a6,lY (by kernel_rfl),c4 λH8 h8 o8=>?_};have nc:=(ao h6 nd).symm;have k8:∀b o,b≠c->H b=some o->H8 b=some o:=λb o n e=>by
   rw[o8 b n,o7 b n];exact al nd _ _<|by rw[o6 b n,Z n];exact s2 _ _ e
  have tk:Pz t H8 p kd av e:=by
   let{dq,fq,h1,h2}:=id TK;exact{dq,fq,k8 p _ (TK.ne hc M) h1,h2}
  exact q _ dd {{dx,h8.trans<|by kernel_rfl},by rw[o8 _ nc,o7 _ nc];exact ag,⟨tk,on⟩,.inr ⟨p,M,tk,on⟩,λ_ z=>by cases z} (cN s2<|by rw[o6 _ nc,Z nc]at nd;exact nd) k8
def zd:(0:Int)<10^(38:Int).toNat:=by decide
def Me{i:Int}(z:0<=i)(h1:i<=11)(m0:0<=m)(m1:m<=65536):0<=i*m/\i*m<=720896:={Vc z m0,Int.le_trans (Int.mul_le_mul h1 m1 m0 (_)) (_)}
def Kx(H:Hp)(c n way:Int):St->Hp->Prop:=λB H'=>H=H'/\∃st:Int,B=[some (.int c),some (.int st),some (.int n),some (.int way),none]/\0<=st/\st<=10^38
def BC:Sp:=λvs H Q _=>∃c:Int,vs=[.int c]/\∀(H':Hp)(r:K')(rs:R'),GI H H'->H r=none->H' r=some (.lst<|rs.map V.int)->rs.length<=12->(∀k∈rs,0<=k/\k<10^39)->Q (.ref r) H'
def BU:Cy P w K mg base PJ 2 t.xN t.qO [eH] BC:=by
 refine T.Eg.okl PR λs H vs Q E hr h _=>?_;intro X;let{c,rfl,q}:=h;refine cI (λx=>aS (aw bH (aq aV Ck ai) ai<|az _) x aJ) ?_;refine ak (nM (i:=1) PR.nd M (Or.inr M)<|aq aV (aq aU Ck ai)<|aq jW ai ai)
   (aB (aG<|oW M (P9.of (M':=[z9]) (N:=[eH,"_law_start",wp,kP,"_law_step_here"]) (N':=[eH,"_law_start",wp,kP,"_law_step_here"]) (dsc:=am iS) M M ∅) (kG {_} T.qV (ae (aq bG ai<|aq aV (aq aU Ck ai) ai) aj))<|λ_ _ _ _ _=>(aq bG P1<|aq eY Ck<|aR (IC K M) (bX<|ae ai<|ae ai<|ae ai<|ae ai<|ae ai aj) (aq aV (aq aU P0 ai) ai)<|λ_ _=>M)) ?_)
 intros
 refine ak (PF 2<|aP (pL T) hr.mo {_} T.AM T.tF.kp T.Ba .nil aA (ae Ck<|ae ai aj))
   (ak (PF 3<|aq aV P1 ai)
   (ak (nM (i:=1) PR.nd M (Or.inr M)<|aq aV (aq aU P1 ai) ai)
   (ak (aS (aw bH PM ai<|az _)
    (ay<|nM (i:=1) PR.nd M (Or.inr M)<|aq aV (aq aU Ck ai)<|aq jW ai ai)
    aJ)
   (ak (aS (aw bH PM ai<|az _)
    (ay<|nM (i:=1) PR.nd M (Or.inr M)<|aq eY ai<|aq aV (aq aU P1 ai) ai)
    aJ)
   (cI (λx=>aS (aw bH PM ai<|az _) x aJ) ?_)))))
 refine aB (nM (i:=1) PR.nd M (Or.inr M)<|aq bG (aq eY ai<|aq aV (aq aU P1 ai) ai)<|aq aV (aq aU P1 ai) ai) ?_
 intros
 refine ak (aS (aw bH PM ai<|az _)
    (ay<|nM (i:=1) PR.nd M (Or.inr M)<|aq aV (aq aU P1 ai) ai)
    aJ)
   (ak (nM (i:=4) PR.nd M (Or.inr M)<|aR aQ (bX<|ae ai<|ae ai<|ae ai<|ae ai<|ae ai aj) (aq aV (aq aU P1 ai) ai)<|λ_ _=>M)
   (aB (aG<|oW M (P9.of (M':=[z9]) (N:=[eH,"_law_start",wp,kP,"_law_step_here"]) (N':=[eH,"_law_start",wp,kP,"_law_step_here"]) (dsc:=am iS) M M ∅) (kG {_} T.qV (ae (aq bG ai<|aq aV (aq aU P1 ai) ai) aj))<|λ_ _ _ _ _=>(aq bG P1<|aq eY Ck Qy)) ?_))
 intros
 have two:(0:Int)<2:=by decide
 have Y:(10:Int)^(38:Int).toNat=10^38:=M;refine{_,M,_,_,M,M,two,M,_,M,b4 (λz=>?_)<|λz=>?_}
 .have s0:=QP (c/120) (ZC zd);have s1:=QL (c/120) zd;refine{_,M,_,_,M,M,{(_),(_)},_,_,M,M,{(_),(_),(_)},_,_,M,M,zd,?_}
  (try dsimp only)
  generalize c/120%10^(38:Int).toNat=st at s0 s1⊢;rw[Y]at s1;have b0:=QP (c/2) (show(12:Int)≠0 by decide);have b1:=QL (c/2) (show(0:Int)<12 by decide);refine{_,M,_,_,M,M,{(_),(_)},_,_,M,M,(by show(0:Int)<12;decide),_,_,M,M,?_}
  (try dsimp only)
  generalize c/2%12=m at b0 b1⊢;refine{1+m,M,(),(),λD hD=>qP (n:=(1+m).toNat) (lo:=0) (λi ys H2=>GI H H2/\∃rs:List Int,ys=rs.map V.int/\rs.length=i/\∀k∈rs,0<=k/\k<10^39) {al hD,[],M,M,λ_ z=>Ws z ZU} (λi ys H2 hi w G=>?_)<|λys H2 w G=>?_}
  .let{s2,rs,rfl,Z,hb}:=w;let{sp,O,p0,p1}:=zj (c:=c/24) (n:=5) (L:=[.int 1,.int 3,.int 256,.int 65536,.int 5000]) (P:=λm=>0<=m/\m<=65536) {{(_),(_)},{(_),(_)},{(_),(_)},{(_),(_)},{(_),(_)},trivial} M (_);refine{_,M,_,M,(by show 5<=sizeLine;decide),λp np=>{_,M,_,_,M,M,{(_),(_)},_,_,M,M,(by show(0:Int)<5;decide),p,_,_,_,M,M,E7.of ag,O,_,_,M,M,.inr {(),()},_,_,M,M,?_}};have I:=al (o:= .lst [.int 1,.int 3,.int 256,.int 65536,.int 5000]) np
   (try dsimp only)
   generalize upd H2 p (.lst [.int 1,.int 3,.int 256,.int 65536,.int 5000])=H3 at I⊢;let{x0,x1}:=Me (i:=0+(i:Int)) () () p0 p1;generalize (0+(i:Int))*sp=x at x0 x1⊢;refine Pq.mk hi (I _ _ G) (cR<|by rw[Q0];lia) {b6 (s2.trans I) hD,rs++ [st+x],by rw[QO];rfl,by rw[Q6,Z];rfl,λk hk=>?_};rcases Q5.mp hk with hk|hk
   .exact hb k hk
   .rw[Q7.mp hk];constructor<;>lia
  .let{s2,rs,rfl,Z,hb}:=w;exact q H2 D rs s2 hD G () hb
 clear z;refine{_,M,c,1,M,λn n0 n1=>?_};refine{_,M,_,_,M,M,(by show(0:Int)<5;decide),?_}
 (try dsimp only)
 generalize n%5=way;have s0:=QP (n/5) (show(50:Int)≠0 by decide);have s1:=QL (n/5) (show(0:Int)<50 by decide);refine{_,M,_,_,M,M,{(_),(_)},_,_,M,M,(by show(0:Int)<50;decide),?_}
 (try dsimp only)
 generalize n/5%50=st at s0 s1⊢;refine dw (Kx H c n way) (λnx go=>?_)<|λU H1 w=>?_
 .refine{_,M,M,_,M,b4 (λz=>?_)<|λz=>go _ _ {M,st,M,s0,()}};have a0:=QP (c/5) (ZC zd);have a1:=QL (c/5) zd;refine{_,M,_,_,M,M,{(_),(_)},_,_,M,M,{(_),(_),(_)},_,_,M,M,zd,go _ _ {M,_,M,a0,?_}};rw[Y]at a1⊢;lia
 clear s0 s1 st;let{rfl,st,rfl,s0,s1}:=w;refine dw (Kx H c n way) (λnx go=>?_)<|λU H1 w=>?_
 .refine{_,M,M,_,M,b4 (λz=>?_)<|λz=>go _ _ ⟨M,st,M,s0,s1⟩};have a0:=QP (n/5) (show(40:Int)≠0 by decide);have a1:=QL (n/5) (show(0:Int)<40 by decide);exact{_,M,_,_,M,M,{(_),(_)},_,_,M,M,(by show(0:Int)<40;decide),_,_,M,M,.inl {(_),(_)},go _ _ {M,_,M,(),()}}
 clear s0 s1 st;let{rfl,st,rfl,s0,s1}:=w;refine dw (Kx H c n way) (λnx go=>?_)<|λU H1 w=>?_
 .refine{_,M,M,_,M,b4 (λz=>?_)<|λz=>go _ _ ⟨M,st,M,s0,s1⟩};have a0:=QP (n/5) (show(9:Int)≠0 by decide);have a1:=QL (n/5) (show(0:Int)<9 by decide);have b0:=QP (n/45) (show(7:Int)≠0 by decide);have b1:=QL (n/45) (show(0:Int)<7 by decide);exact{_,M,_,_,M,M,{(_),(_)},_,_,M,M,(by show(0:Int)<9;decide),_,_,M,M,.inl {(_),(_)},_,M,_,_,M,M,{(_),(_)},_,_,M,M,(by show(0:Int)<7;decide),_,_,M,M,go _ _ {M,_,M,(),()}}
 clear s0 s1 st;let{rfl,st,rfl,s0,s1}:=w;refine dw (Kx H c n way) (λnx go=>?_)<|λU H1 w=>?_
 .refine{_,M,M,_,M,b4 (λz=>?_)<|λz=>go _ _ ⟨M,st,M,s0,s1⟩};have a0:=QP (n/5) (show(3000:Int)≠0 by decide);have a1:=QL (n/5) (show(0:Int)<3000 by decide);exact{_,M,_,_,M,M,{(_),(_)},_,_,M,M,(by show(0:Int)<3000;decide),go _ _ {M,_,M,(),()}}
 clear s0 s1 st;let{rfl,st,rfl,s0,s1}:=w;let{sp,O,p0,p1}:=zj (c:=n/20000) (n:=5) (L:=[.int 1,.int 3,.int 256,.int 65536,.int 5000]) (P:=λm=>0<=m/\m<=65536) {{(_),(_)},{(_),(_)},{(_),(_)},{(_),(_)},{(_),(_)},trivial} M (_);refine{(by show 5<=sizeLine;decide),λp np=>{_,M,_,_,M,M,{(_),(_)},_,_,M,M,(by show(0:Int)<5;decide),p,_,_,_,M,M,E7.of ag,O,?_}};have I:=al (o:= .lst [.int 1,.int 3,.int 256,.int 65536,.int 5000]) np
 (try dsimp only)
 generalize upd H p (.lst [.int 1,.int 3,.int 256,.int 65536,.int 5000])=H3 at I⊢;have b0:=QP (n/100000) (show(12:Int)≠0 by decide);have b1:=QL (n/100000) (show(0:Int)<12 by decide);refine{_,M,_,_,M,M,{(_),(_)},_,_,M,M,(by show(0:Int)<12;decide),_,_,M,M,?_}
 (try dsimp only)
 generalize n/100000%12=m at b0 b1⊢;refine{1+m,M,(),(),λD hD=>qP (n:=(1+m).toNat) (lo:=0) (λi ys H2=>GI H3 H2/\∃rs:List Int,ys=rs.map V.int/\rs.length=i/\∀k∈rs,0<=k/\k<10^39) {al hD,[],M,M,λ_ z=>Ws z ZU} (λi ys H2 hi w G=>?_)<|λys H2 w G=>?_}
 .let{s2,rs,rfl,Z,hb}:=w;let{x0,x1}:=Me (i:=0+(i:Int)) () () p0 p1;refine{_,M,_,M,_,M,_,_,M,M,.inr {(),()},_,_,M,M,?_}
  (try dsimp only)
  generalize (0+(i:Int))*sp=x at x0 x1⊢;refine Pq.mk hi G (cR<|by rw[Q0];lia) {b6 s2 hD,rs++ [st+x],by rw[QO];rfl,by rw[Q6,Z];rfl,λk hk=>?_};rcases Q5.mp hk with hk|hk
  .exact hb k hk
  .rw[Q7.mp hk];constructor<;>lia
 .let{s2,rs,rfl,Z,hb}:=w;exact q H2 D rs (I.trans s2) (cN I hD) G () hb
def Wh(F:O')(d:K'):Addr->Prop:=λb=>F b\/b=d
def Fr.wh{d:K'}(f:Fr F F' H H'):Fr (Wh F d) (Wh F' d) H H':=λb o n G=>{(f b o (λz=>n<|.inl z) G).1,λz=>z.elim (f b o (λz=>n<|.inl z) G).2 λz=>n<|.inr z}
def Fr.wd{d:K'}:Fr (Wh F d) (Wh F d) H (upd H d o):=λb o n G=>{by rwa[af λz=>n (.inr z)],n}
structure Jd(K:JZ)(t:PB)(H:Hp)(a d:K')(F:O')(x:PX)(ds:List DR):Prop where
 A:PY K t H a F x
 di:H d=some (.dK<|aI x.st.kv)
 nd:¬F d
 kb:∀k∈x.st.kv.map (·.1),0<=k/\k<10^40
 iv:∀p∈x.st.kv,∃i:Int,p.2= .int i
 le:x.st.kv.length<=400
 dy:SF x ds
 D:Rj ds
 tb:tbl ds=x.st.kv
 mx:∀y∈ds,∀m,y.r= .mark m->m<=x.ma
 fl:x.fl=0
 ho:x.ho=[]
def Hz{kv:Sn}{i:Int}(h:∀p∈kv,∃i:Int,p.2= .int i):∀p∈a9 kv k (.int i),∃i:Int,p.2= .int i:=λp hp=>by
 unfold a9 at hp;split at hp
 .let{q,hq,rfl}:=QJ.mp hp;by_cases c:q.1=k
  .exact{i,by rw[Wn c]}
  .rw[Wm c];exact h q hq
 .rcases Q5.mp hp with y|y
  .exact h p y
  .rw[Q7.mp y];exact⟨i,M⟩
def Rj.snoc{y:DR}(D:Rj ds)(k0:∀k,y.r.key=some k->0<=k)(m0:∀m,y.r= .mark m->∀z∈ds,z.r≠ .mark m)(U:∀k,y.r= .drop k->(aH (tbl ds) k).isSome=true):Rj (ds++ [y]):=by
 have at_:∀(i:Nat)(z:DR),(ds++ [y])[i]?=some z->ds[i]?=some z\/(i=ds.length/\z=y):=λi z h=>by
  rcases Nat.lt_trichotomy i ds.length with c|c|c
  .rw[Zy c]at h;exact .inl h
  .rw[c,Zw (Q4 _),Nat.sub_self]at h;exact .inr {c,(Wq h).symm}
  .rw[Vq (by rw[Q6,Zt];lia)]at h;cases h
 refine{λz hz k hk=>?_,λi j u v m hu Y G I=>?_,λi z k hz O=>?_}
 .rcases Q5.mp hz with h|h
  .exact D.kb z h k hk
  .rw[Q7.mp h]at hk;exact k0 k hk
 .rcases at_ i u hu with h1|⟨h1,rfl⟩<;>rcases at_ j v Y with h2|⟨h2,rfl⟩
  .exact D.un i j u v m h1 h2 G I
  .exact Ws G<|m0 m I u (Q1 h1)
  .exact Ws I<|m0 m G v (Q1 h2)
  .rw[h1,h2]
 .rcases at_ i z hz with h1|⟨h1,rfl⟩
  .rw[Ze (Zq (Q2.mp h1).1)];exact D.dr i z k h1 O
  .rw[h1,Ze (Q4 _),Zd];exact U k O
def SF.snoc{x:PX}{y:DR}(h:SF x ds)(e:x'.di=x.di++ [(y.p,y.r.vs)]):SF x' (ds++ [y]):=by
 unfold SF at h⊢;rw[e,h,QO];rfl
section
variable{d:K'}{x:PX}{i:Int}
def Jd.fr(J:Jd K t H a d F x ds)(A:PY K t H' a F' x)(f:Fr F F' H H'):Jd K t H' a d F' x ds:={A,(f _ _ J.nd J.di).1,(f _ _ J.nd J.di).2,J.kb,J.iv,J.le,J.dy,J.D,J.tb,J.mx,J.fl,J.ho}
def Jd.same(J:Jd K t H a d F x ds)(s:GI H H'):Jd K t H' a d F x ds:=J.fr (J.A.same s) (Fr.of_same s)
def Jd.put(J:Jd K t H a d F x ds)(A:PY K t H' a F' x')(f:Fr F F' H H')(e:x'.st=x.st.put k (.int i))(m:x'.ma=x.ma)(e2:x'.di=x.di++ [(r,[.str "put",.int k,.int i])])(I:x'.fl=x.fl)(O:x'.ho=x.ho)(k0:0<=k/\k<10^40)(l:x.st.kv.length<=399):Jd K t (L2.upd H' d<|.dK<|aI<|a9 x.st.kv k<|.int i) a d F' x' (ds++ [{r,.put k i}]):=by
 let{U,n1}:=f _ _ J.nd J.di;have G:x'.st.kv=a9 x.st.kv k (.int i):=by rw[e];exact P6.three_kv
 refine{A.upd n1 (λxs z=>by rw[U]at z;cases z),by rw[G];exact ag,n1,λz hz=>?_,by rw[G];exact Hz J.iv,?_,J.dy.snoc e2,J.D.snoc (λz hz=>by cases hz;exact k0.1) (λ_ z=>by cases z) (λ_ z=>by cases z),?_,λy hy z hz=>?_,I.trans J.fl,O.trans J.ho}
 .rw[G,sj]at hz;split at hz
  .exact J.kb z hz
  .rcases Q5.mp hz with y|y
   .exact J.kb z y
   .rwa[Q7.mp y]
 .rw[G];have:=cw x.st.kv k (.int i);lia
 .rw[rc,J.tb,G];rfl
 .rw[m];rcases Q5.mp hy with h|h
  .exact J.mx y h z hz
  .rw[Q7.mp h]at hz;cases hz
def Jd.drop(J:Jd K t H a d F x ds)(A:PY K t H' a F' x')(f:Fr F F' H H')(e:x'.st=x.st.drop k)(m:x'.ma=x.ma)(e2:x'.di=x.di++ [(r,[.str J',.int k])])(I:x'.fl=x.fl)(O:x'.ho=x.ho)(k0:0<=k)(hs:(aH x.st.kv k).isSome=true):Jd K t (L2.upd H' d<|.dK<|aI<|bT x.st.kv k) a d F' x' (ds++ [{r,.drop k}]):=by
 let{U,n1}:=f _ _ J.nd J.di;have G:x'.st.kv=bT x.st.kv k:=by rw[e];exact P6.three_kv
 have sub:∀p∈bT x.st.kv k,p∈x.st.kv:=λp hp=>(Z6.mp hp).1;refine{A.upd n1 (λxs z=>by rw[U]at z;cases z),by rw[G];exact ag,n1,λz hz=>?_,by rw[G];exact λp hp=>J.iv p<|sub p hp,?_,J.dy.snoc e2,J.D.snoc (λz hz=>by cases hz;exact k0) (λ_ z=>by cases z) (λz hz=>by cases hz;rwa[J.tb]),?_,λy hy z hz=>?_,I.trans J.fl,O.trans J.ho}
 .rw[G]at hz;let{p,hp,rfl}:=QJ.mp hz;exact J.kb _<|QJ.mpr {p,sub p hp,M}
 .rw[G];exact Z4 (QX _ _) J.le
 .rw[rc,J.tb,G];rfl
 .rw[m];rcases Q5.mp hy with h|h
  .exact J.mx y h z hz
  .rw[Q7.mp h]at hz;cases hz
def Jd.mark(J:Jd K t H a d F x ds)(A:PY K t H' a F' x')(h1:H' d=some (.dK<|aI x.st.kv))(h2:¬F' d)(e:x'.st=x.st)(m:x'.ma=x.ma+1)(e2:x'.di=x.di++ [(r,[.str ge,.int (x.ma+1)])])(G:x'.fl=x.fl)(I:x'.ho=x.ho):Jd K t H' a d F' x' (ds++ [{r,.mark<|x.ma+1}]):=by
 refine{A,by rwa[e],h2,by rw[e];exact J.kb,by rw[e];exact J.iv,by rw[e];exact J.le,J.dy.snoc e2,J.D.snoc (λz hz=>by cases hz) (λz hz y hy h=>?_) (λ_ z=>by cases z),?_,λy hy z hz=>?_,G.trans J.fl,I.trans J.ho}
 .cases hz;have:=J.mx y hy _ h;lia
 .rw[rc,J.tb,e];rfl
 .rw[m];rcases Q5.mp hy with h|h
  .have:=J.mx y h z hz;lia
  .rw[Q7.mp h]at hz;cases hz;lia
def Jd.len(J:Jd K t H a d F x ds):(ds.length:Int)=x.now+x.ma:=by
 have:=J.A.ok.dl;rw[J.dy,Q0]at this;exact this
end
def EC{y:DR}(h:∀y∈mo,∀m,y.r≠ .mark m)(k:∀m,y.r≠ .mark m):∀z∈mo++ [y],∀m,z.r≠ .mark m:=λz hz m=>by
 rcases Q5.mp hz with g|g
 .exact h z g m
 .rw[Q7.mp g];exact k m
def Al(K:JZ)(t:PB):Sp:=λvs H Q _=>∃(a d:K')(c:Int)(F:O')(x:PX)(ds:List DR)(N:Nat),vs=[.ref a,.ref d,.int c]/\Jd K t H a d F x ds/\x.now+x.ma<3900/\x.st.kv.length<=N/\300<=N/\N<=390/\
 ∀(H':Hp)(F':O')(x':PX)(more:List DR),(∀y∈more,∀m,y.r≠ .mark m)->Jd K t H' a d F' x' (ds++more)->x'.now<=x.now+12->x'.ma=x.ma->x'.st.kv.length<=N->Fr (Wh F d) (Wh F' d) H H'->Q .non H'
def AH:Cy P w K mg base PJ 7 t.uM t.oi [eR,"_law_kept",eH] (Al K t):=by
 refine T.CK.okl As λs H vs Q E U h _=>?_;intro X;let{a,d,c,F,x,ds,N,rfl,J,l1,l0,N1,N2,q}:=h;refine ak (PF 3<|aP (BU T) U.mo {_} T.Nn T.Eg.kp T.NX .nil aA (ae (aq aU P1 ai) aj))
   (rV (λx=>(jV WF M (kG {_} T.qV (ae (aD aE {_} T.bS bj (ae PM aj)) aj)) (Ri 4)
    x)) ?_)
 refine Mc (λx y=>aS (aw bH (aq aV P1 ai) ai<|az _) x y) ?_;refine rV (λx=>aS (Dy<|HL (gh U) (aR aQ PM Qa<|λ_ _=>M) P0) x aJ) ?_;refine ak (aT<|aW Ck T.aO T.JN (wU T) U.mo T.JY .nil aA<|ae (aR aQ PM Qa<|λ_ _=>M) aj)
   (aB (aT<|d6 ZB Xv Vt EE P0<|ae (aR aQ PM Qa<|λ_ _=>M) aj) ?_)
 intros
 refine rV (λx=>aS (aw fL (aD Gz {_} T.bS bj (ae P0 aj)) ai<|az _) x aJ) ?_;refine ak (PF 5<|aq eY (aq aV (aq bG (aq aU P1 ai) Qa)<|aq jW ai ai)<|aR aQ (bX<|ae ai<|ae (HH De ai) aj) (aq aV (aq aU P1 ai) ai)<|λ_ _=>M)
   (cI (λx=>aS (aw bH (aq aV (aq aU P1 ai) ai) ai<|az _) x aJ) ?_)
 refine aB (PF 5<|aq eV (aq aV (aq bG (aq BR P1<|aq eY ai<|aq jW ai ai) Qa)<|aq eY ai<|aq jW ai ai)<|aq jW ai ai) ?_
 intros
 refine ak (aT<|aW Ck T.aO T.K4 (yO T) U.mo T.LB .nil aA<|ae (aR aQ PM Qa<|λ_ _=>M)<|ae Qy aj)
   (aB (jy (gh U) P0 (aR aQ PM Qa<|λ_ _=>M) Qy M) ?_)
 intros
 refine{_,M,_,_,M,M,{(_),(_)},_,M,λH1 r rs s1 nr U lr rb=>?_};have J1:=J.same s1;have nF:¬F r:=J.A.out nr;have a2:r≠d:=ao J.di nr|>.symm;refine{_,M,r,_,M,.inl<|E7.of U,?_};rw[Q0];refine{(rs.length:Int),M,(),(),D4 (n:=(rs.length:Int).toNat) (λi B H'=>∃(F':O')(x':PX)(more:List DR)(v4 v5:Tg),B=[some (.ref a),some (.ref d),some (.int c),some (.ref r),v4,v5]/\(∀y∈more,∀m,y.r≠ .mark m)/\Jd K t H' a d F' x' (ds++more)/\x'.now<=x.now+i/\x'.ma=x.ma/\x'.st.kv.length<=N/\Fr (Wh F d) (Wh F' d) H1 H') {F,x,[],none,none,M,(λ_ z=>by cases z),(by rwa[Zu]),(),M,l0,Fr.refl} (λi B H2 hi w=>?_)<|λB H2 w=>?_}
 .let{Z,G,mo,v4,v5,rfl,nm,I,l2,m2,e2,Y}:=w;let{O,a0}:=Y _ _ (λz=>z.elim nF a2) U;have hi':i<rs.length:=();obtain⟨k,ek⟩:∃k,rs[i]?=some k:={_,Q3 hi'};let{k0,k1}:=rb k (Q1 ek);have at1:RO (rs.map V.int) (0+(i:Int))=some (.int k):=by
   rw[Int.zero_add];refine vH ?_;rw[Z3,ek];rfl
  let{a3,a4,a5,a6,_}:=I.A.ins;refine{_,M,_,_,M,M,(by show(0:Int)<4;decide),M,_,M,b4 (λz=>?_)<|λz=>?_}
  .refine{_,M,_,M,r,_,_,_,M,M,E7.of O,at1,_,M,d,_,M,QA.k (k:=Sum.inl k) I.di,_,M,?_};rw[PK];cases ev:aH G.st.kv k with
   |none=>exact cu {Z,G,mo,_,_,M,nm,I,(),m2,e2,Y}
   |some v=>
    refine cy {_,M,a,a3,a4,M,a5,a6 _ ∅,_,M,_,M,r,_,_,_,M,M,E7.of O,at1,a,k,Z,G,M,I.A,k0,(),λ_ H3 F3 b2 r3 q3 b5 A3 N3 f3=>?_,λz=>by rw[ev]at z;cases z};let{d3,n3}:=f3 _ _ I.nd I.di;let{a8,b8}:=f3 _ _ (λz=>a0<|.inl z) O;refine{_,M,.inr<|.inr<|.inl {M,.inl {_,d3}},_,M,_,M,r,_,_,_,M,M,E7.of a8,at1,d,_,Sum.inl k,v,M,M,d3,PK.trans ev,?_};rw[qI];have J3:=I.drop A3 f3 M M M M M k0 (by rw[ev];rfl);rw[QV]at J3;exact{F3,_,_,_,_,M,EC nm (λ_ z=>by cases z),J3,by show G.now+1<=_;lia,m2,by rw[show(G.st.drop k).kv=bT G.st.kv k from P6.three_kv];exact Z4 (QX _ _) e2,(Y.trans f3.wh).trans Fr.wd}
  .refine{_,M,d,_,M,I.di,_,_,M,M,_,M,b4 (λy=>?_)<|λy=>{Z,G,mo,_,_,M,nm,I,(),m2,e2,Y}};have y:=Wt y;rw[b9]at y;refine dw (λB H'=>∃v:Int,B=[some (.ref a),some (.ref d),some (.int c),some (.ref r),some (.int<|0+(i:Int)),some (.int v)]/\GI H2 H') (λnx go=>?_)<|λB H3 w=>?_
   .let{sg,aa,g0}:=zj (c:=c/16) (n:=2) (L:=[.int 1,.int (-1)]) (P:=λm=> -2<m/\m<2) {{(_),(_)},{(_),(_)},trivial} M (_);exact{_,M,_,_,M,M,{(_),(_)},_,M,_,_,M,M,_,_,M,M,{(_),(_),(_)},_,_,M,M,vM,_,M,(by show 2<=sizeLine;decide),λp np=>{_,M,_,_,M,M,{(_),(_)},_,_,M,M,(by show(0:Int)<2;decide),p,_,_,_,M,M,E7.of ag,aa,_,_,M,M,.inr {(),()},go _ _ {_,M,al np}}}
   let{v,rfl,s3}:=w;refine dw (λB H'=>∃v:Int,B=[some (.ref a),some (.ref d),some (.int c),some (.ref r),some (.int<|0+(i:Int)),some (.int v)]/\GI H2 H') (λnx go=>?_)<|λB H4 w=>?_
   .refine{_,M,_,_,M,M,{(_),(_)},_,_,M,M,(by show(0:Int)<2;decide),M,_,M,b4 (λ_=>?_)<|λ_=>go _ _ ⟨v,M,s3⟩};exact{_,M,_,_,M,M,{(_),(_),(_)},_,_,M,M,.inl {(_),(_)},_,_,M,M,{(_),(_)},_,M,_,_,M,M,_,_,M,M,{(_),(_),(_)},_,_,M,M,.inl {(_),(_)},_,_,M,M,(by show(0:Int)<2*10^(39:Int).toNat;decide),_,_,M,M,{(_),(_),(_)},_,_,M,M,go _ _ {_,M,s3}}
   clear s3 v;let{v,rfl,s4}:=w;have J4:=I.same s4;let{ac,ah,an,ax,_}:=J4.A.ins;have a1:=s4 _ _ O;refine{_,M,a,ac,ah,M,an,ax _ ∅,_,M,_,M,r,_,_,_,M,M,E7.of a1,at1,_,M,a,k,v,Z,G,M,J4.A,k0,(),λH5 F5 ba r5 q5 bb A5 N5 f5=>?_};let{d5,n5}:=f5 _ _ J4.nd J4.di;let{b1,be}:=f5 _ _ (λz=>a0<|.inl z) a1;refine{_,M,_,M,_,M,_,M,r,_,_,_,M,M,E7.of b1,at1,d,_,M,Qw.k (k:=Sum.inl k) d5 (by rw[b9];exact bq ()),?_};rw[dW];have J5:=J4.put A5 f5 M M M M M {k0,()} ();rw[QV]at J5;exact{F5,_,_,_,_,M,EC nm (λ_ z=>by cases z),J5,by show G.now+1<=_;lia,m2,by rw[show(G.st.put k<|.int v).kv=a9 G.st.kv k (.int v) from P6.three_kv];have:=cw G.st.kv k (.int v);lia,(Y.trans<|(Fr.of_same s4).trans f5.wh).trans Fr.wd}
 .let{Z,G,mo,v4,v5,rfl,nm,I,l2,m2,e2,Y}:=w;exact q H2 Z G mo nm I () m2 e2<|(Fr.of_same s1).trans Y
def yc(K:JZ)(t:PB):Sp:=λvs H Q _=>∃(l:K')(cs:R'),vs=[.ref l]/\H l=some (.lst<|cs.map V.int)/\cs.length<=63/\
 ∀(H':Hp)(r a d:K')(F:O')(x:PX)(ds:List DR),(∀y∈ds,∀m,y.r≠ .mark m)->H r=none->¬F r->H' r=some (.tup [.ref a,.ref d])->Jd K t H' a d F x ds->x.now<=12*cs.length->x.ma=0->x.st.kv.length<=300->(∀b o,H b=some o->H' b=some o/\¬Wh F d b)->Q (.ref r) H'
def yJ:Cy P w K mg base PJ 8 t.sX t.mn ["_law_cells"] (yc K t):=by
 refine T.Bk.okl yu λs H vs Q E hr h _=>?_;intro X;let{l,cs,rfl,hl,ll,q}:=h;refine ak (PF 1<|rP T.OR (wS T) hr.mo {_} T.OU T.JW .nil aA)
   (ak (PF 2 i7)
   (cI (λx=>(jV WF M (eO Ck) (Ri 3)
    x)) ?_))
 refine aB (aT<|aP (AH T) hr.mo {_} T.Mj T.CK.kp T.Ms .nil aA (ae P0<|ae P1<|ae PM aj)) ?_
 intros
 refine aB (aG<|bM<|ae P0<|ae P1 aj) ?_
 intros
 refine λa dx na nd a1=>{a,dx,M,ag,λH1 F1 A1 f1=>{M,λd n1=>?_}};have I:∀b o,H b=some o->H1 b=some o/\¬F1 b:=λb o e=>f1 b o (ao e na) (by rwa[af (ao e na),af (ao e nd)]);have J2:Jd K t (upd H1 d<|.dK []) a d F1 PX.new []:={A1.same<|al n1,ag,A1.out n1,(λ_ z=>by cases z),(λ_ z=>by cases z),(_),M,{(λ_ z=>by cases z),(λi j x y m h=>by rw[List.getElem?_nil]at h;cases h),(λi x k h=>by rw[List.getElem?_nil]at h;cases h)},M,(λ_ z=>by cases z),M,M};have Y:∀b o,H b=some o->upd H1 d (.dK []) b=some o/\¬Wh F1 d b:=λb o e=>{by rw[af (ao (I b o e).1 n1)];exact(I b o e).1,λz=>z.elim (I b o e).2<|ao (I b o e).1 n1};show Ag _ _ _ _ (upd H1 d<|.dK []);generalize upd H1 d (.dK [])=H2 at J2 Y⊢;refine{_,M,l,M,{_,E7.of (Y _ _ hl).1},pe (K:=K) (a:=l) (xs:=cs.map V.int) (λi B H'=>∃(F':O')(x':PX)(ds:List DR)(O:Tg),B=[some (.ref l),some (.ref a),some (.ref d),O]/\(∀y∈ds,∀m,y.r≠ .mark m)/\Jd K t H' a d F' x' ds/\x'.now<=12*i/\x'.ma=0/\x'.st.kv.length<=300/\∀b o,H b=some o->H' b=some o/\¬Wh F' d b) {F1,_,[],none,M,(λ_ z=>by cases z),J2,(_),M,(_),Y} (λi B H' _ w=>?_) (λi z B H' hz w=>?_)<|λB H' w=>?_}
 .let{F',x',ds,O,rfl,nm,G,Z,m',U,o'}:=w;exact E7.of (o' _ _ hl).1
 .let{F',x',ds,O,rfl,nm,G,Z,m',U,o'}:=w;have hi:=(Q2.mp hz).1;rw[Q0]at hi;let{c,hc,rfl}:=QJ.mp (Q1 hz);exact{_,M,_,M,_,M,a,d,c,F',x',ds,300,M,G,(),U,(_),(_),λH3 F3 x3 mo a0 J3 l3 m3 e3 f3=>{F3,x3,ds++mo,_,M,(λy hy=>(Q5.mp hy).elim (nm y)<|a0 y),J3,(),m3.trans m',e3,λb o e=>f3 b o (o' b o e).2 (o' b o e).1}}
 .let{F',x',ds,O,rfl,nm,G,Z,m',U,o'}:=w;rw[Q0]at Z;refine{_,M,_,M,(by show 2<=sizeLine;decide),λr nr=>?_};refine q _ r a d F' x' ds nm ?_ (G.A.out nr) ag (G.same<|al nr) () m' U λb o e=>{by rw[af (ao (o' b o e).1 nr)];exact(o' b o e).1,(o' b o e).2};cases e:H r with
  |none=>rfl
  |some o=>rw[(o' _ _ e).1]at nr;cases nr
theorem Hb:∀{l:List DR}{R1:Sn},(∀p∈R1,∃i:Int,p.2= .int i)->∀p∈l.foldl ap R1,∃i:Int,p.2= .int i
 | [],_,h=>h
 |d::r,R1,h=>Hb (l:=r) (R1:=ap R1 d) λp hp=>by
  unfold ap at hp;cases c:d.r with
  |put k v=>rw[c]at hp;exact Hz h p hp
  |drop k=>rw[c]at hp;exact h p (Z6.mp hp).1
  |mark m=>rw[c]at hp;exact h p hp
def Lb{a b:Sn}(z:(a.map (·.1)).Nodup)(G:(b.map (·.1)).Nodup)(h:∀k,aH a k=aH b k):a.Perm b:=by
 refine(Wl ((Zr.mp z).imp λh e=>h<|by rw[e])<|(Zr.mp G).imp λh e=>h<|by rw[e]).mpr λp=>{λhp=>?_,λhp=>?_}
 .have:=bW z (k:=p.1) (v:=p.2) hp;rw[h]at this;exact bK this
 .have:=bW G (k:=p.1) (v:=p.2) hp;rw[<-h]at this;exact bK this
def Rj.key(D:Rj ds){n:Nat}(h:k∈(tbl<|ds.take n).map (·.1)):0<=k:=by
 let{z,hz,G}:=Bv h;exact D.kb z (Zs hz) k G
def dueC(X:PQ)(kd:Int)(av e:V)(ds:List DR):List (Int×V):=(tbl<|ds.take X.n).filter λp=>X.cov kd av e p.1
def D7{kv:Sn}{f:Int->Bool}(nd:(kv.map (·.1)).Nodup):aH (kv.filter λp=>f p.1) k=if f k=true then aH kv k else none:=by
 have z:((kv.filter λp=>f p.1).map (·.1)).Nodup:=nd.sublist (V3.map _);by_cases c:f k=true
 .rw[Wn c];cases h:aH kv k with
  |some v=>exact bW z<|Z6.mpr {bK h,c}
  |none=>
   cases h2:aH (kv.filter λp=>f p.1) k with
   |none=>rfl
   |some v=>
    have:=bW nd (Z6.mp<|bK h2).1;rw[h]at this;cases this
 .rw[Wm c];cases h2:aH (kv.filter λp=>f p.1) k with
  |none=>rfl
  |some v=>exact Ws (Z6.mp<|bK h2).2 c
def Inv.due{kd:Int}(I:Inv kd av e ds X)(D:Rj ds):X.cp.Perm (dueC X kd av e ds):=by
 have nt:=Ha (l:=ds.take X.n);refine Lb I.nd (nt.sublist<|V3.map _) λk=>?_;unfold dueC;rw[D7 nt];by_cases k0:0<=k
 .exact I.cp k k0
 .have h1:aH X.cp k=none:=by
   cases c:aH X.cp k with
   |none=>rfl
   |some v=>exact Ws (I.kp k<|mem_keys.mpr<|by rw[c];rfl) k0
  have h2:aH (tbl<|ds.take X.n) k=none:=by
   cases c:aH (tbl<|ds.take X.n) k with
   |none=>rfl
   |some v=>exact Ws (D.key<|mem_keys.mpr<|by rw[c];rfl) k0
  rw[h1,h2,ite_self]
def D3{kd:Int}{a:V}:hO (.ref q) kd a e k=hN kd a e k:=by
 unfold hO;rw[Wm λz=>by cases z]
section
variable{kd:Int}
def Inv.begin:Inv kd av e ds {.ref p,av,ds.length,[],none}:=by
 refine{Q4 _,ZE,λk _=>?_,(λ_ z=>by cases z),λk _ h=>?_,(λ_ z=>by cases z)}
 .rw[Wm]
  .exact kD
  .unfold PQ.cov;show ¬(hN kd av e k&&!hO (.ref p) kd av e k)=true;rw[D3];cases hN kd av e k<;>simp
 .have h:hO (.ref p) kd av e k=true:=h;rwa [D3]at h
def Inv.open{g nd:K'}(I:Inv kd av e ds X)(G:X.rv= .ref q):Inv kd av e ds {X with pg:=some (S9 g nd q X.ra)}:=
 {I.le,I.nd,I.cp,I.kp,I.su,λP h=>by
  cases h;exact{G,M,QT _,(λ_ z=>by cases z),λ_=>⟨M,M⟩,λ_ z=>by cases z}}
def Inv.read{P:Qf}{f:K'}(I:Inv kd av e ds X)(hp:X.pg=some P)(hf:P.fd=none)(nt:(ts.map (·.k)).Nodup)(U:∀k v,(k,v)∈ts.map Tp.kv↔(k,v)∈tbl ds/\hN kd P.ta e k=true/\R k=false)(G:∀k,0<=k->R k=true->hN kd P.ta e k=true)(O:∀k,R k=hO v kd a' e k):Inv kd av e ds {X with pg:=some {P with fd:=some (f,ts),ah:=v,aa:=a'}}:=by
 have q:=I.pg P hp;let{h1,h2}:=q.un hf;refine{I.le,I.nd,I.cp,I.kp,I.su,λP' h=>?_};cases h;refine{q.rn,q.ra,q.nl,q.nk,(λz=>by cases z),λy hy=>?_};cases hy;refine{X.n,ds.length,Q4 _,I.le,Q4 _,nt,λk w=>?_,λk k0 h=>G k k0<|(O k).trans h,λk x=>?_,λm Y=>?_}
 .rw[U k w,Zd,O]
 .show(k,x)∈P.no↔_/\de k ((ds.take X.n).drop X.n)=some x;rw[h1,Vo (by rw[Q9];lia)];exact{(λz=>by cases z),(λz=>by cases z.2)}
 .rw[show P.cl=some m from Y]at h2;cases h2
def Inv.close{P:Qf}{y:Addr×List Tp}{z:DR}(I:Inv kd av e ds X)(hp:X.pg=some P)(hy:P.fd=some y)(Y:z.r= .mark m):Inv kd av e (ds++ [z]) {X with pg:=some {P with cl:=some m}}:=by
 have J:=I.more (more:=[z]);have q:=J.pg P hp;refine{J.le,J.nd,J.cp,J.kp,J.su,λP' h=>?_};cases h;refine{q.rn,q.ra,q.nl,q.nk,(λh=>by rw[show P.fd=none from h]at hy;cases hy),λO hy'=>?_};let{nr,Z,l1,l2,U,h1,h2,h3,h4,h5}:=(I.pg P hp).fd O hy';let{a0,a1,_}:=q.fd O hy';refine{nr,Z,l1,l2,by rw[Q6];lia,h1,by rwa[Ze U],h3,by rwa[Ze I.le],λm' G=>?_};cases G;exact{ds.length,z,by rw[Zw (Q4 _),Nat.sub_self];rfl,Y,U,I.le}
end
def PY.rise{x:PX}(A:PY K t H a F x):dH x.ks:=by
 let{_,_,_,_,_,_,L}:=A.lvs;exact L.rise
def PY.notup{x:PX}(A:PY K t H a F x)(e:H b=some (.tup xs)):¬F b:=λz=>by
 let{o,G,n}:=A.dom z;rw[e]at G;exact n _ (Wq G).symm
def SG.bd{kd:Int}(h:SG st ks kd n av e ps (some a'))(hk:∀k∈ks,k<10^40)(O:R4 kd a' e):Rc a':=by
 rcases h with⟨k0,m,g,G⟩|⟨up,k1,Y,Z,G⟩
 .rcases O with⟨_,i,j,rfl,rfl,h1,h2,h3⟩|⟨z,_⟩|⟨z,_⟩
  .show i<10^80;lia
  .lia
  .lia
 .split at G
  .cases G
  .cases c:(cE up av e ks)[n.toNat-1]? with
   |none=>rw[c]at G;cases G
   |some k=>
    rw[c]at G;cases G;have I:=Q1 c;unfold cE at I;have I:=(Z6.mp I).1;have U:k<10^40:=hk k (by split at I;exact I;exact XC.mp I);show(if up=true then k+1 else k-1)<10^80;split<;>lia
def Ot(F:O')(X:PQ)(c dd d:K'):Addr->Prop:=λb=>F b\/X.mut c dd b\/b=d
structure Qi(K:JZ)(t:PB)(H:Hp)(sc a d c p dd n:K')(F:O')(x:PX)(ds:List DR)(X:PQ)(kd:Int)(av e:V)(ns:R'):Prop where
 J:Jd K t H a d F x ds
 C:Pr t H c a p dd kd av e X
 nF:∀b,X.adr c p dd b->¬F b
 nm:¬X.mut c dd d
 hn:H n=some (.tup [.int kd,av,e])
 I:Inv kd av e ds X
 cS:RZ K (Ot F X c dd d) H sc (ns.map V.int)
section
variable{sc d n:K'}{x:PX}{kd:Int}
def Pr.nadr(C:Pr t H c a p dd kd av e X)(hb:H b=some (.dK kvs))(nm:¬X.mut c dd b):¬X.adr c p dd b:=λh=>by
 have tk:∀{q:K'}{a':V},Pz t H q kd a' e->q≠b:=λh=>h.nd hb λ_ _ _ z=>by cases z
 rcases h with h|h|h|⟨P,G,h|h|⟨y,hy,h⟩⟩
 .exact nm h
 .exact tk C.tk.1 h.symm
 .rcases C.rt with g|⟨q,h1,h2,_⟩
  .rw[g]at h;cases h
  .rw[h1]at h;cases h;exact tk h2 M
 .exact tk (C.pg P G).1.tk.1 h.symm
 .rcases(C.pg P G).1.ah with g|⟨q,h1,h2,_⟩
  .rw[g]at h;cases h
  .rw[h1]at h;cases h;exact tk h2 M
 .have:=((C.pg P G).1.fd y hy).1;rw[<-h,hb]at this;cases this
def Qi.same(S:Qi K t H sc a d c p dd n F x ds X kd av e ns)(s:GI H H'):Qi K t H' sc a d c p dd n F x ds X kd av e ns:=
 {S.J.same s,S.C.same s,S.nF,S.nm,s _ _ S.hn,S.I,S.cS.fr<|Fr.of_same s}
def Qi.fo(S:Qi K t H sc a d c p dd n F x ds X kd av e ns)(G:X'=l.foldl (bB kd av e) X)(C:Pr t H' c a p dd kd av e X')(I:Inv kd av e ds X')(k:∀b o,¬X.mut c dd b->H b=some o->H' b=some o):Qi K t H' sc a d c p dd n F x ds X' kd av e ns/\Fr (Ot F X c dd d) (Ot F X' c dd d) H H':=by
 have O:∀b,X'.mut c dd b->X.mut c dd b:=λb h=>by rw[G]at h;exact xw h
 have fo:Fr (Ot F X c dd d) (Ot F X' c dd d) H H':=λb o U Y=>{k b o (λz=>U<|.inr<|.inl z) Y,λz=>U<|z.imp id λz=>z.imp (O b) id};have A:=S.J.A.mut S.C S.nF k;exact{{{A,k _ _ S.nm S.J.di,S.J.nd,S.J.kb,S.J.iv,S.J.le,S.J.dy,S.J.D,S.J.tb,S.J.mx,S.J.fl,S.J.ho},C,λb h=>S.nF b (by rw[G]at h;exact Ci h),λz=>S.nm<|O d z,k _ _ (S.C.nmut S.hn (λ_ _ _ z=>by cases z) λ_ z=>by cases z) S.hn,I,S.cS.fr fo},fo}
def Qi.wr(S:Qi K t H sc a d c p dd n F x ds X kd av e ns)(hb:H b=some (.dK kvs))(G:¬Ot F X c dd d b):Qi K t (upd H b o) sc a d c p dd n F x ds X kd av e ns:=by
 have U:=S.C.nadr hb λz=>G (.inr<|.inl z);have J:=S.J;refine{{J.A.upd (λz=>G<|.inl z) (λxs z=>by rw[hb]at z;cases z),by rw[af λz=>G (.inr<|.inr z.symm)];exact J.di,J.nd,J.kb,J.iv,J.le,J.dy,J.D,J.tb,J.mx,J.fl,J.ho},S.C.go λz o' O h=>?_,S.nF,S.nm,?_,S.I,S.cS.put hb}
 .rw[af λy=>?_]
  .exact O
  .rcases h with h|⟨xs,h⟩
   .exact U<|y▸h
   .rw[y,hb,h]at O;cases O
 .rw[af λy=>by have h:=S.hn;rw[y,hb]at h;cases h];exact S.hn
def Qi.turn(S:Qi K t H sc a d c p dd n F x ds X kd av e ns){g:K'}{G:List DR}(U:X.mut c dd g)(J:H' d=some (.dK<|aI x.st.kv)->¬F' d->Jd K t H' a d F' x' G)(C:Pr t H' c a p dd kd av e X')(nF:∀b,X'.adr c p dd b->¬F' b)(I:Inv kd av e G X')(Y:∀b o,H b=some o->X'.mut c dd b->X.mut c dd b)(k:∀b o,b≠g->¬F b->H b=some o->H' b=some o/\¬F' b):Qi K t H' sc a d c p dd n F' x' G X' kd av e ns/\Fr (Ot F X c dd d) (Ot F' X' c dd d) H H':=by
 have fo:Fr (Ot F X c dd d) (Ot F' X' c dd d) H H':=λb o O Z=>by
  let{h1,h2}:=k b o (λz=>O<|.inr<|.inl<|z▸U) (λz=>O<|.inl z) Z;exact{h1,λz=>z.elim h2 λz=>z.elim (λz=>O<|.inr<|.inl<|Y b o Z z) λz=>O<|.inr (.inr z)}
 let{d1,d2}:=k d _ (λz=>S.nm<|z▸U) S.J.nd S.J.di;exact{{J d1 d2,C,nF,λz=>S.nm<|Y d _ S.J.di z,(k n _ (λz=>S.C.nmut S.hn (λ_ _ _ z=>by cases z) (λ_ z=>by cases z)<|z▸U) (S.J.A.notup S.hn) S.hn).1,I,S.cS.fr fo},fo}
def Mf{P P':Qf}(hp:X.pg=some P)(G:X'.pg=some P')(I:P'.g=P.g)(e2:P'.nd=P.nd)(z:X'.mut c dd b):X.mut c dd b:=by
 rcases z with z|z|⟨O,z,h⟩
 .exact .inl z
 .exact .inr<|.inl z
 .rw[G]at z;cases z;rw[I,e2]at h;exact .inr<|.inr ⟨P,hp,h⟩
def U_hO{ta:V}(U:Ej t H1 F st kd m ta e v ts a' R)(z:Int):R z=hO v kd a' e z:=by
 rcases U.rest with⟨h1,h2⟩|⟨q,h1,_,_,_,h2,_⟩
 .rw[h1,h2];unfold hO;rw[Wn M]
 .rw[h1,h2,D3]
end
def NP{n m:Nat}:∀(i:Nat)(x:DR),((ds.drop n).take m)[i]?=some x->ds[n+i]?=some x:=λi d h=>by
 rw[Vb]at h;split at h
 .rwa [Xp]at h
 .cases h
section
variable{sc d n:K'}{x:PX}{kd:Int}
def Qi.off(S:Qi K t H sc a d c p dd n F x ds X kd av e ns)(hb:H b=some o)(n1:∀C d fs,o≠ .ins C d fs)(G:∀k,o≠ .dK k)(I:¬F b):¬Ot F X c dd d b:=λz=>by
 rcases z with z|z|z
 .exact I z
 .exact S.C.nmut hb n1 G z
 .rw[z,S.J.di]at hb;exact G _ (Wq hb).symm
def Qi.new(S:Qi K t H sc a d c p dd n F x ds X kd av e ns)(hb:H b=none):¬Ot F X c dd d b:=λz=>by
 rcases z with z|z|z
 .exact S.J.A.out hb z
 .let{o,G,_}:=S.C.dom (.inl z);rw[hb]at G;cases G
 .rw[z,S.J.di]at hb;cases hb
def Qi.tk(S:Qi K t H sc a d c p dd n F x ds X kd av e ns)(h:Pz t H q kd a' e)(I:¬F q):¬Ot F X c dd d q:=λz=>by
 let{dx,O}:=S.C.ob;rcases z with z|(z|z|⟨P,G,z|z⟩)|z
 .exact I z
 .exact h.ne O M z
 .exact h.nd S.C.cp (λ_ _ _ z=>by cases z) z
 .let{Y,U}:=(S.C.pg P G).1.ob;exact h.ne U M z
 .exact h.nd (S.C.pg P G).1.no (λ_ _ _ z=>by cases z) z
 .exact h.nd S.J.di (λ_ _ _ z=>by cases z) z
def Jd.kl(J:Jd K t H a d F x ds):x.ks.length<=400:=by
 have G:x.ks.Nodup:=J.A.rise.imp λh=>Int.ne_of_lt h;have:=gR G (S:=x.st.kv.map (·.1)) λz hz=>mem_keys.mpr ((J.A.ok.ks z).mp hz);rw[Q0]at this;exact Z4 this J.le
def Jd.k0(J:Jd K t H a d F x ds):∀k∈x.ks,0<=k/\k<10^40:=λk hk=>J.kb k (mem_keys.mpr<|(J.A.ok.ks k).mp hk)
end
def RL{r:Dw}:pE r.vs [.str ge,.int m]=true↔r= .mark m:=by
 cases r with
 |put k v=>exact{(λz=>by simp[Dw.vs,pE]at z),(λz=>by cases z)}
 |drop k=>exact{(λz=>by
   have h:(RW (.str J') (.str ge)&&pE [.int k] [.int m])=true:=z;have h2:RW (.str J') (.str ge)=false:=by decide+kernel
   rw[h2]at h;cases h),(λz=>by cases z)}
 |mark i=>
  have h2:RW (.str ge) (.str ge)=true:=by decide+kernel
  have h:pE (Dw.mark i).vs [.str ge,.int m]=(i==m):=by
   show(RW (.str ge) (.str ge)&&(RW (.int i) (.int m)&&true))=(i==m);rw[h2,VF,Bool.and_true];rfl
  rw[h];exact{λz=>by rw[eq_of_beq z],λz=>by cases z;exact WN _}
def Kl{r:Dw}:r.vs.all ir=true:=by
 cases r<;>rfl
def Bd(X:PQ):Prop:=(X.rv≠ .non->Rc X.ra)/\∀P,X.pg=some P->P.ah≠ .non->Rc P.aa
def Bd.step{kd:Int}{x:DR}(b:Bd X):Bd (bB kd av e X x):=by
 rcases rh (X:=X) (kd:=kd) (av:=av) (e:=e) (x:=x)with⟨z,G,I,_⟩|⟨P,m,z,G,I,O,U,Y⟩
 .refine{by rw[z,G];exact b.1,λP' h=>?_};let{P,Z,e2}:=I P' h;rw[e2];exact b.2 P Z
 .refine{by rw[O,U];exact b.2 P z,λP' h=>by rw[Y]at h;cases h}
theorem Bd.fold{kd:Int}{av e:V}:∀{l:List DR}{X:PQ},Bd X->Bd (l.foldl (bB kd av e) X)
 | [],_,h=>h
 |x::r,X,h=>Bd.fold (l:=r) (X:=bB kd av e X x) h.step
section
variable{sc d n:K'}{x:PX}{kd:Int}
def Qi.rd(S:Qi K t H sc a d c p dd n F x ds X kd av e ns){P:Qf}{f:K'}(hp:X.pg=some P)(hf:P.fd=none)(hc:P.cl=none)(A:PY K t H' a F' x)(C:Pr t H' c a p dd kd av e {X with pg:=some {P with fd:=some (f,ts),ah:=v,aa:=a'}})(O:∀b,({X with pg:=some {P with fd:=some (f,ts),ah:=v,aa:=a'}}:PQ).adr c p dd b->¬F' b)(k:∀b o,b≠P.g->¬F b->H b=some o->H' b=some o/\¬F' b)(U:∃H1,Ej t H1 F' x.st kd m P.ta e v ts a' R):
  ∃(X2:PQ)(G:Qf)(y:Addr×List Tp),Qi K t H' sc a d c p dd n F' x ds X2 kd av e ns/\Fr (Ot F X c dd d) (Ot F' X2 c dd d) H H'/\X2.pg=some G/\G.fd=some y/\G.cl=none/\(Bd X->Bd X2):=by
 let{H1,U}:=U;let{Y,Z}:=S.turn (.inr<|.inr {_,hp,.inl M}) (λh1 h2=>⟨A,h1,h2,S.J.kb,S.J.iv,S.J.le,S.J.dy,S.J.D,S.J.tb,S.J.mx,S.J.fl,S.J.ho⟩) C O (S.I.read hp hf U.nd (by rw[S.J.tb];exact U.me) U.less<|U_hO U) (λb o _=>Mf hp M M M) k;refine{_,_,_,Y,Z,M,M,hc,λb=>{b.1,λP z h=>?_}};cases z;have h1:=U.tell x.ks A.rise A.ok.ks;rw[Wm h]at h1;rcases U.rest with z|⟨q',_,_,o,_⟩
 .exact Ws z.1 h
 .exact h1.bd (λk hk=>(S.J.k0 k hk).2) o
end
def x6(t:PB):Sp:=λvs H Q _=>∃(v av e:V)(kd:Int),vs=[v]/\Rk t H v kd av e/\(v≠ .non->Rc av/\Rc e)/\∀H',GI H H'->Q (.str<|if v= .non then mu else fw (RQ kd) av e) H'
def yG:Cy P w K mg base PJ 3 t.sT t.mf [xP] (x6 t):=by
 refine T.tE.okl yp λs H vs Q E U h _=>?_;intro X;let{v,av,e,kd,rfl,TO,bd,q}:=h;refine ak (aS (aw fN Ck bx<|az _)
    (ay<|aG bQ)
    aJ)
   (aB (aG<|FM (kk:=2) (iH (cG T.bR T.F9 (vi T) T.oz (_))<|iH (cG T.iu T.Mg (vi T) T.oz (_))<|cG T.cP T.JO (vi T) T.oz (_)) U.mo Ck) ?_)
 intros
 rcases TO with rfl|⟨p,rfl,Y,I⟩
 .exact{_,M,M,_,M,dX M<|q H (GI.refl _)}
 let{Z,be}:=bd λz=>by cases z
 refine{_,M,M,_,M,bg (λz=>by cases z) ?_};let{O,fr,G,tr}:=Y;exact{_,M,p,_,O,fr,_,M,G,tr.wo,dWN I.kd,p,O,kd,fr,av,e,M,G,tr,I,Z,be,λH2 s2=>q H2 s2}
def Inv.self{kd:Int}(I:Inv kd av e ds X)(D:Rj ds):∀z∈aI X.cp,Fl z.2/\aH (aI X.cp) z.1=some z.2:=λz hz=>by
 unfold aI at hz;let{w,hw,rfl}:=QJ.mp hz;let{i,G}:=Hb (l:=ds.take X.n) (λ_ z=>by cases z) w (Z6.mp<|(I.due D).mem_iff.mp hw).1;exact{by show Fl w.2;rw[G];exact WD,by show aH (aI _) (Sum.inl w.1)=_;rw[PK];exact bW I.nd hw}
structure SS(t:PB)(H:Hp)(c a p dd:K')(kd:Int)(av e:V)(X:PQ)(E:O'):Prop where
 C:Pr t H c a p dd kd av e X
 n:∀b,X.adr c p dd b->¬E b
def SS.fr{kd:Int}{E E':O'}(h:SS t H c a p dd kd av e X E)(f:Fr E E' H H')(tu:∀b xs,H b=some (.tup xs)->¬E b):SS t H' c a p dd kd av e X E':=
 {h.C.go λb o G hb=>(f b o (hb.elim (h.n b) λzz=>by let{xs,z}:=zz;exact tu b xs<|z▸G) G).1,λb hb=>by
  let{o,G,_}:=h.C.dom hb;exact(f b o (h.n b hb) G).2}
def SS.same{kd:Int}{E:O'}(h:SS t H c a p dd kd av e X E)(s:GI H H'):SS t H' c a p dd kd av e X E:={h.C.same s,h.n}
def Qi.tu{sc d n:K'}{x:PX}{kd:Int}(S:Qi K t H sc a d c p dd n F x ds X kd av e ns):∀b xs,H b=some (.tup xs)->¬Ot F X c dd d b:=λb xs hb=>S.off hb (λ_ _ _ z=>by cases z) (λ_ z=>by cases z) (S.J.A.notup hb)
def RG(n m:Int)(X:PQ):Prop:=(n=0/\X.pg=none)\/∃P,X.pg=some P/\((n=1/\P.fd=none)\/∃y,P.fd=some y/\((n=2/\P.cl=none)\/(n=3/\P.cl=some m)))
noncomputable def SZ(y:DR):Bool:=match y.r with
 | .mark _=>true
 |_=>false
def sP(ds:List DR):Nat:=(ds.filter SZ).length
instance (r:Dw)(m:Int):Decidable (r= .mark m):=match r with
 | .mark i=>if h:i=m then .isTrue (by rw[h])else .isFalse λz=>h (by cases z;rfl)
 | .put _ _=> .isFalse λz=>by cases z
 | .drop _=> .isFalse λz=>by cases z
def RG.step{kd:Int}{x:DR}(I:Inv kd av e ds X)(h:RG n m X):RG (if n=3/\x.r= .mark m then 0 else n) m (bB kd av e X x):=by
 rcases rh (X:=X) (kd:=kd) (av:=av) (e:=e) (x:=x)with⟨_,_,O,Z,U⟩|⟨P,m',Y,g2,O,_,_,g6⟩
 .rcases h with⟨rfl,h⟩|⟨P,h,g⟩
  .rw[Wm λz=>Ws z.1 (_)];rw[h]at U;cases c:(bB kd av e X x).pg with
   |none=>exact .inl ⟨M,c⟩
   |some P'=>rw[c]at U;cases U
  .rw[Wm λz=>(by
    rcases g with⟨G,_⟩|⟨y,_,⟨G,_⟩|⟨_,e2⟩⟩
    .have:=z.1;lia
    .have:=z.1;lia
    .exact Z P m h z.2 e2)]
   rw[h]at U;cases c:(bB kd av e X x).pg with
   |none=>rw[c]at U;cases U
   |some P'=>
    let{P2,G,e2}:=O P' c;rw[h]at G;cases G;refine .inr {P',c,?_};rw[e2];exact g
 .rcases h with⟨_,h⟩|⟨P2,h,g⟩
  .rw[h]at Y;cases Y
  .rw[h]at Y;cases Y;rcases g with⟨_,G⟩|⟨y,_,⟨_,G⟩|⟨rfl,G⟩⟩
   .rw[((I.pg P h).un G).2]at O;cases O
   .rw[G]at O;cases O
   .rw[G]at O;cases O;rw[Wn ⟨M,g2⟩];exact .inl ⟨M,g6⟩
theorem RG.fold{kd:Int}{av e:V}{ds:List DR}{n m:Int}(D:Rj ds):∀{l:List DR}{X:PQ},Inv kd av e ds X->RG n m X->(∀(i:Nat)(x:DR),l[i]?=some x->ds[X.n+i]?=some x)->RG (if n=3/\(l.any λx=>decide (x.r= .mark m))=true then 0 else n) m (l.foldl (bB kd av e) X)
 | [],X,I,h,_=>by rwa[Wm λz=>by cases z.2]
 |x::r,X,I,h,g=>by
  have h1:=h.step (kd:=kd) (av:=av) (e:=e) (x:=x) I;have hx:=g 0 x M;have O:=I.step D (x:=x) hx;have h2:=RG.fold (n:=if n=3/\x.r= .mark m then 0 else n) (m:=m) D (l:=r) O h1 λi y hy=>by
   rw[Di,Nat.add_assoc,Nat.add_comm 1 i];exact g (i+1) y hy
  rw[Xl];by_cases c:n=3/\x.r= .mark m
  .rw[Wn c,Wm λz=>Ws z.1 (_)]at h2;rwa[Wn {c.1,by rw[Wv c.2];rfl}]
  .rw[Wm c]at h2;by_cases G:n=3
   .rwa[Wz λz=>c ⟨G,z⟩,Bool.false_or]
   .rw[Wm λz=>G z.1]at h2⊢;exact h2
section
variable{sc d n:K'}{x:PX}{kd:Int}
def Qi.opn1(S:Qi K t H sc a d c p dd n F x ds X kd av e ns){g nd:K'}(U:X.rv= .ref q)(A:PY K t H' a F' {x with ma:=x.ma+1,di:=x.di++ [(r,[.str ge,.int (x.ma+1)])]})(C:Pr t H' c a p dd kd av e {X with pg:=some (S9 g nd q X.ra)})(Y:∀b,({X with pg:=some (S9 g nd q X.ra)}:PQ).adr c p dd b->¬F' b)(Z:H g=none)(nn:H nd=none)(k:∀b o,b≠c->¬F b->H b=some o->H' b=some o/\¬F' b):
  ∃(O:PX)(X2:PQ)(P:Qf),Qi K t H' sc a d c p dd n F' O (ds++ [{r,.mark<|x.ma+1}]) X2 kd av e ns/\Fr (Ot F X c dd d) (Ot F' X2 c dd d) H H'/\(Bd X->Bd X2)/\O.now=x.now/\O.ma=x.ma+1/\X2.pg=some P/\P.fd=none:=by
 let{S2,f2}:=S.turn (.inl M) (λh1 h2=>S.J.mark A h1 h2 M M M M M) C Y (S.I.open U).more (λb o G z=>by
  rcases z with z|z|⟨P,z,h⟩
  .exact .inl z
  .exact .inr<|.inl z
  .cases z;rcases h with h|h
   .rw[show b=g from h,Z]at G;cases G
   .rw[show b=nd from h,nn]at G;cases G) k
 exact{_,_,_,S2,f2,(λb=>{b.1,λP z h=>by cases z;exact Ws M h}),M,M,M,M}
def Qi.cls1(S:Qi K t H sc a d c p dd n F x ds X kd av e ns){P:Qf}{y:Addr×List Tp}(hp:X.pg=some P)(hy:P.fd=some y)(A:PY K t H' a F' {x with ma:=x.ma+1,di:=x.di++ [(r,[.str ge,.int (x.ma+1)])]})(C:Pr t H' c a p dd kd av e {X with pg:=some {P with cl:=some (x.ma+1)}})(U:∀b,({X with pg:=some {P with cl:=some (x.ma+1)}}:PQ).adr c p dd b->¬F' b)(k:∀b o,b≠P.g->¬F b->H b=some o->H' b=some o/\¬F' b):
  ∃(G:PX)(X2:PQ)(O:Qf),Qi K t H' sc a d c p dd n F' G (ds++ [{r,.mark<|x.ma+1}]) X2 kd av e ns/\Fr (Ot F X c dd d) (Ot F' X2 c dd d) H H'/\(Bd X->Bd X2)/\G.now=x.now/\G.ma=x.ma+1/\X2.pg=some O/\O.fd=some y/\O.cl=some (x.ma+1):=by
 let{Y,Z}:=S.turn (.inr<|.inr {_,hp,.inl M}) (λh1 h2=>S.J.mark A h1 h2 M M M M M) C U (S.I.close hp hy M) (λb o _=>Mf hp M M M) k;exact{_,_,_,Y,Z,(λb=>{b.1,λP' z h=>by cases z;exact b.2 P hp h}),M,M,M,hy,M}
end
def SL(w:Int)(X:PQ):Prop:=(w=0/\(X.pg≠none\/X.rv= .non))\/(w=1/\∀P,X.pg=some P->P.fd≠none)\/(w=2/\∀P,X.pg=some P->P.fd≠none->P.cl≠none)
def Ak(K:JZ)(t:PB):Sp:=λvs H Q _=>∃(sc a d c p dd n:K')(F:O')(x:PX)(ds:List DR)(X:PQ)(kd w z:Int)(av e:V)(ns:R'),vs=[.ref c,.int w,.int z]/\Qi K t H sc a d c p dd n F x ds X kd av e ns/\0<=w/\w<=2/\1<=z/\z<=20/\x.now+x.ma<3900/\
 (∀H',SL w X->GI H H'->Q (.int<|0-2) H')/\
 (∀(H':Hp)(F':O')(x':PX)(X':PQ)(r:K'),¬SL w X->w≠1->Qi K t H' sc a d c p dd n F' x' (ds++ [{r,.mark<|x.ma+1}]) X' kd av e ns->Fr (Ot F X c dd d) (Ot F' X' c dd d) H H'->(Bd X->Bd X')->x'.now=x.now->x'.ma=x.ma+1->RG (w+1) (x.ma+1) X'->Q (.int<|x.ma+1) H')/\
 (∀(H':Hp)(F':O')(X':PQ)(k:Nat),¬SL w X->w=1->Qi K t H' sc a d c p dd n F' x ds X' kd av e ns->Fr (Ot F X c dd d) (Ot F' X' c dd d) H H'->(Bd X->Bd X')->(∀m,RG 2 m X')->Q (.int k) H')
def AG:Cy P w K mg base PJ 11 t.uL t.oh [gs,kP,"_law_many"] (Ak K t):=by
 refine T.CJ.okl Qv λs H vs Q E Y h _=>?_;intro X;let{sc,a,d,c,p,dd,n,F,x,ds,X',kd,w,z,av,e,ns,rfl,S,w0,w2,z0,z1,l,Z,qm,q1}:=h;refine ak (PF 3<|aq eV ai ai)
   (ak (M7 M M (λpn E=>(ay (aS (aw bH P0 ai<|az _)
    (ay<|PF 3<|zl Ck T.aC T.CQ (nY T) Y.mo T.CY .nil HM)
    (ay (aS (aw bH P0 ai<|az _)
    (ay<|PF 3<|aD (pV (K:=K) M) {_} T.bS bj (ae (HI Ck T.aC T.CP (nW T) Y.mo T.CW .nil HM<|ae P1 aj) aj))
    (ay<|PF 3<|zl Ck T.aC T.Ca (mT T) Y.mo T.CB .nil HM))))))
    (OM (i:=4) Qv.nd M M {_} T.iF T.aN (λea=>(kF (PF 3<|aq eV ai ai)
    (ay (aS (PW.pt<|mJ (lQ<|cU<|aD (pW K M) {_} T.dQ cH (ae Qa<|ae (cK (v:= .ref t.bL) {_} T.KU M) aj))<|i5<|cU<|aD (pW K M) {_} T.dQ cH (ae Qa<|ae (cK (v:= .ref t.xF) {_} T.Of M) aj))
    (ay<|PF 3<|aq eV ai ai)
    aJ)))) KK))
   (aB (aG PM) ?_))
 intros
 let{dc,hc}:=S.C.ob;refine{_,_,M,M,?_}
 (try dsimp only)
 refine{_,M,M,_,M,b4 (λy=>?_)<|λy=>?_}
 .have y:w=0:=V.int.inj (Wt y);refine{_,M,c,dc,_,M,hc,{_},c,a,p,dd,kd,av,e,X',F,x,M,S.C,S.J.A,S.nF,(),λhz ea od H1 hx hs=>?_,λq hp hv H1 F1 r g nd A1 C1 G ng nn k1=>?_}
  .refine{ea,t.bI,M,hx.1,_,true,T.aN,T.fB,cy ?_};refine{_,_,M,M,?_};refine{_,M,ea,od,_,_,_,_,_,M,hx,T.aN,T.fu,oZ T.aN T.qW T.fA,true,M,cu ?_};refine{_,M,ea,od,_,_,_,_,_,M,hx,T.aN,T.fu,oZ T.aN T.y9 T.ii,false,M,cu ?_};exact{_,M,Z H1 (.inl ⟨y,hz⟩) hs}
  .let{x2,X2,P2,S2,f2,bd,l1,l2,l3,l4}:=S.opn1 hv A1 C1 G ng nn k1;have nr:¬SL w X':=λO=>by
    rcases O with⟨_,h|h⟩|⟨h,_⟩|⟨h,_⟩
    .exact h hp
    .rw[hv]at h;cases h
    .lia
    .lia
   exact{_,M,qm H1 F1 x2 X2 r nr () S2 f2 bd l1 l2<|.inr {P2,l3,.inl {(),l4}}}
 have y0:w≠0:=λz=>y (by rw[z];exact Wv M);have kl:=S.J.kl;have le:=S.J.le;refine{_,M,M,_,M,b4 (λy=>?_)<|λy=>?_}
 .have y:w=1:=V.int.inj (Wt y);refine{_,M,c,dc,_,M,hc,{_},_,M,c,a,p,dd,z,kd,av,e,X',F,x,M,S.C,S.J.A,S.nF,(),(),(),(),(λk hk=>(S.J.k0 k hk).1),S.J.iv,λhz ea od H1 hx hs=>?_,λU hp hf H1 F1 f l v ts a' R A1 C1 G k1 E1 hl _ _ _=>?_}
  .refine{ea,t.bI,M,hx.1,_,true,T.aN,T.fB,cy ?_};refine{_,_,M,M,?_};refine{_,M,ea,od,_,_,_,_,_,M,hx,T.aN,T.fu,oZ T.aN T.qW T.fA,true,M,cu ?_};refine{_,M,ea,od,_,_,_,_,_,M,hx,T.aN,T.fu,oZ T.aN T.y9 T.ii,false,M,cu ?_};exact{_,M,Z H1 (.inr<|.inl ⟨y,hz⟩) hs}
  .let{X4,P4,y4,S4,f4,p4,a0,a1,br}:=S.rd hp hf ((S.I.pg U hp).un hf).2 A1 C1 G k1 E1;have nr:¬SL w X':=λO=>by
    rcases O with⟨h,_⟩|⟨_,h⟩|⟨h,_⟩
    .lia
    .exact h U hp hf
    .lia
   exact{l,_,M,.inl<|E7.of hl,_,M,q1 H1 F1 X4 _ nr y S4 f4 br λ_=> .inr {P4,p4,.inr {y4,a0,.inl ⟨M,a1⟩}}}
 have y1:w=2:=by
  have:w≠1:=λz=>y (by rw[z];exact Wv M);lia
 refine{_,M,c,dc,_,M,hc,{_},c,a,p,dd,kd,av,e,X',F,x,M,S.C,S.J.A,S.nF,(),λhz ea od H1 hx hs=>?_,λU y hp hy a2 H1 F1 r A1 C1 G k1=>?_}
 .refine{ea,t.bI,M,hx.1,_,true,T.aN,T.fB,cy ?_};refine{_,_,M,M,?_};refine{_,M,ea,od,_,_,_,_,_,M,hx,T.aN,T.fu,oZ T.aN T.qW T.fA,true,M,cu ?_};refine{_,M,ea,od,_,_,_,_,_,M,hx,T.aN,T.fu,oZ T.aN T.y9 T.ii,false,M,cu ?_};exact{_,M,Z H1 (.inr<|.inr ⟨y1,hz⟩) hs}
 .let{x2,X2,P2,S2,f2,bd,l1,l2,l3,l4,l5}:=S.cls1 hp hy A1 C1 G k1;have nr:¬SL w X':=λO=>by
   rcases O with⟨h,_⟩|⟨h,_⟩|⟨_,h⟩
   .lia
   .lia
   .exact h U hp (by rw[hy];intro z;cases z) a2
  exact{_,M,qm H1 F1 x2 X2 r nr () S2 f2 bd l1 l2<|.inr {P2,l3,.inr {y,l4,.inr {(),l5}}}}
noncomputable def Qe(n m:Int):List (Key×V):=[(Sum.inr (pU:Str),.int n),(Sum.inr (ge:Str),.int m)]
def MY{w:Int}(r:SL w X)(h:RG n m X):w≠n\/(w=0/\X.rv= .non):=by
 rcases r with⟨rfl,r|r⟩|⟨rfl,r⟩|⟨rfl,r⟩
 .rcases h with⟨_,h⟩|⟨P,_,⟨e,_⟩|⟨y,_,⟨e,_⟩|⟨e,_⟩⟩⟩
  .exact Ws h r
  .exact .inl ()
  .exact .inl ()
  .exact .inl ()
 .exact .inr ⟨M,r⟩
 .rcases h with⟨e,_⟩|⟨P,hp,⟨e,g⟩|⟨y,_,⟨e,_⟩|⟨e,_⟩⟩⟩
  .exact .inl ()
  .exact Ws g<|r P hp
  .exact .inl ()
  .exact .inl ()
 .rcases h with⟨e,_⟩|⟨P,hp,⟨e,g⟩|⟨y,hy,⟨e,g⟩|⟨e,_⟩⟩⟩
  .exact .inl ()
  .exact .inl ()
  .exact Ws g<|r P hp (by rw[hy];intro z;cases z)
  .exact .inl ()
def Ew{w:Int}(G:0<=w)(I:w<=2)(r:¬SL w X)(h:RG n m X):w=n/\(w=0->X.rv≠ .non):=by
 refine{?_,λe g=>r<|.inl {e,.inr g}};rcases h with⟨e,h⟩|⟨P,hp,⟨e,h⟩|⟨y,hy,⟨e,h⟩|⟨e,h⟩⟩⟩
 .rcases(show w=0\/w=1\/w=2 by lia)with z|z|z
  .lia
  .exact Ws (.inr<|.inl {z,λP g=>by rw[h]at g;cases g}) r
  .exact Ws (.inr<|.inr {z,λP g=>by rw[h]at g;cases g}) r
 .rcases(show w=0\/w=1\/w=2 by lia)with z|z|z
  .exact Ws (.inl {z,.inl<|by rw[hp];intro g;cases g}) r
  .lia
  .exact Ws (.inr<|.inr {z,λP' g f=>by rw[hp]at g;cases g;exact Ws h f}) r
 .rcases(show w=0\/w=1\/w=2 by lia)with z|z|z
  .exact Ws (.inl {z,.inl<|by rw[hp];intro g;cases g}) r
  .exact Ws (.inr<|.inl {z,λP' g=>by rw[hp]at g;cases g;rw[hy];intro f;cases f}) r
  .lia
 .rcases(show w=0\/w=1\/w=2 by lia)with z|z|z
  .exact Ws (.inl {z,.inl<|by rw[hp];intro g;cases g}) r
  .exact Ws (.inr<|.inl {z,λP' g=>by rw[hp]at g;cases g;rw[hy];intro f;cases f}) r
  .exact Ws (.inr<|.inr {z,λP' g _=>by rw[hp]at g;cases g;rw[h];intro f;cases f}) r
def Jm{y:DR}(h:y.r= .mark k):sP (ds++ [y])=sP ds+1:=by
 unfold sP;rw[Za,Q6,Xn,Wn (by unfold SZ;rw[h])];rfl
def Jl{z:DR}(h:ds[i]?=some z):sP (ds.take<|i+1)=sP (ds.take i)+if SZ z=true then 1 else 0:=by
 unfold sP;rw[QY,h,Za,Q6];show _+(List.filter SZ [z]).length=_;rw[Xn];split<;>rfl
def NS:sP ds<=ds.length:=QX _ _
def MB{r:Dw}:∃w:Str,RO r.vs 0=some (.str w)/\(decide (V.str w=V.str ge)=match r with| .mark _=>true|_=>false):=by
 cases r with
 |put k v=>exact{"put",M,by show decide (V.str "put"=V.str ge)=false;decide+kernel}
 |drop k=>exact{J',M,by show decide (V.str J'=V.str ge)=false;decide+kernel}
 |mark m=>exact{ge,M,by show decide (V.str ge=V.str ge)=true;decide+kernel}
def Os(F:O')(X:PQ)(c dd d s:K'):Addr->Prop:=λb=>Ot F X c dd d b\/b=s
def Fr.os{d s:K'}(f:Fr (Ot F X c dd d) (Ot F' X' c dd d) H H'):Fr (Os F X c dd d s) (Os F' X' c dd d s) H H':=λb o G I=>{(f b o (λz=>G<|.inl z) I).1,λz=>z.elim (f b o (λz=>G<|.inl z) I).2 λz=>G<|.inr z}
def Fr.sd{d s:K'}:Fr (Os F X c dd d s) (Os F X c dd d s) H (upd H s o):=λb o G I=>{by rw[af λz=>G (.inr z)];exact I,G}
def Oi{r:Dw}{u:V}(h:r.vs[j]?=some u):Fl u:=by
 cases r<;>(rcases j with _|_|_|j)<;>cases h<;>exact WD
def Ff{r:Dw}(h1:H p=some (.tup r.vs))(h2:H q=some (.tup r.vs)):Sa K H 4 (.ref p) (.ref q):= .inr {p,q,_,_,M,M,.inr {Px.of h1,Px.of h2},M,λj u v hu z=>by
 rw[hu]at z;cases z;exact .inl {Oi hu,M}}
def xK(h:∀z∈ds,H z.p=some (.tup z.r.vs))(j:Nat)(u v:V)(hu:(ds.map λd=>V.ref d.p)[j]?=some u)(G:(ds.map λd=>V.ref d.p)[j]?=some v):Sa K H 4 u v:=by
 rw[hu]at G;cases G;let{z,hz,rfl}:=QJ.mp (Q1 hu);exact Ff (h z hz)<|h z hz
def Jy{z:DR}{mt:K'}(h:∀y∈ds++ [z],H y.p=some (.tup y.r.vs))(I:H mt=some (.tup z.r.vs))(j:Nat)(u v:V)(hu:((ds++ [z]).map λd=>V.ref d.p)[j]?=some u)(G:((ds.map λd=>V.ref d.p)++ [.ref mt])[j]?=some v):Sa K H 4 u v:=by
 rw[QO]at hu;rcases VQ j (ds.map λd=>V.ref d.p).length with c|c
 .rw[Zy c]at hu G;exact xK (λy hy=>h y<|Q5.mpr<|.inl hy) j u v hu G
 .rw[Zw c]at hu G;generalize j-_=k at hu G;rcases k with _|k
  .cases hu;cases G;exact Ff (h z<|Q5.mpr<|.inr QK) I
  .cases hu
def MU{cp:Sn}(ha:H a=some (.dK<|aI cp))(hb:H b=some (.dK<|aI cp))(I:∀z∈aI cp,Fl z.2/\aH (aI cp) z.1=some z.2):Od H (.ref a) (.ref b):=by
 have G:∀p∈aI cp,∃i:Int,p.1= .inl i:=λp hp=>by
  unfold aI at hp;let{w,_,rfl}:=QJ.mp hp;exact⟨w.1,M⟩
 exact{a,b,_,_,M,M,ha,hb,M,λp hp=>{G p hp,I p hp},G}
def AQ{k:Str}{s x s2 y:Array Nat}(h:(k.cps++s++x++s2++y)[0]?=(mu:Str).cps[0]?)(l:0<k.cps.size)(n:k.cps[0]?≠(mu:Str).cps[0]?):False:=by
 rw[XM,XM,XM,Array.getElem?_append_left l]at h;exact n h
def Fo{kd:Int}{a:V}:fw (RQ kd) a e≠(mu:Str):=λh=>by
 have h:=WG (λz:Str=>z.cps[0]?) h;unfold fw RQ at h;split at h
 .exact AQ (k:=G') (s:=(" ":Str).cps) (x:=(wr a).cps) (s2:=(" ":Str).cps) (y:=(wr e).cps) h ∅ ∅
 .split at h
  .exact AQ (k:="up") (s:=(" ":Str).cps) (x:=(wr a).cps) (s2:=(" ":Str).cps) (y:=(wr e).cps) h ∅ ∅
  .exact AQ (k:="down") (s:=(" ":Str).cps) (x:=(wr a).cps) (s2:=(" ":Str).cps) (y:=(wr e).cps) h ∅ ∅
def both{G P:Prop}(f:G->P)(g:G):P:=f g
def ya(K:JZ)(t:PB):Sp:=λvs H Q _=>∃(sc a d c p dd nt s:K')(F:O')(x:PX)(ds:List DR)(X:PQ)(kd w cl n m:Int)(av e:V)(ns:R'),vs=[.ref c,.ref a,.ref s,.int w,.int cl]/\Qi K t H sc a d c p dd nt F x ds X kd av e ns/\Bd X/\Rc e/\H s=some (.dK<|Qe n m)/\¬Ot F X c dd d s/\RG n m X/\(sP ds:Int)=x.ma/\0<=w/\w<=2/\x.now+x.ma<3800/\
 ∀(H':Hp)(F':O')(x':PX)(mo:List DR)(X':PQ)(n' m':Int),Qi K t H' sc a d c p dd nt F' x' (ds++mo) X' kd av e ns->Fr (Os F X c dd d s) (Os F' X' c dd d s) H H'->H' s=some (.dK<|Qe n' m')->¬Ot F' X' c dd d s->Bd X'->RG n' m' X'->(sP (ds++mo):Int)=x'.ma->x'.now=x.now->x'.ma<=x.ma+1->Q (.bl true) H'
def yI:Cy P w K mg base PJ 12 t.sV t.mi [gs,eR,pT,kP,eH] (ya K t):=by
 refine T.Bj.okl yr λs H vs Q E U h _=>?_;intro X;let{sc,a,d,c,p,dd,nt,s,F,x,ds,X',kd,w,cl,n,m,av,e,ns,rfl,S,bd,be,hs,os,st,cm,w0,w2,l,q}:=h;refine ak (PF 5<|bn P0 T.aO T.cX (eP T) U.mo T.bh.choose_spec.1 T.bh.choose_spec.2 aA)
   (ak (PF 6<|bM<|ae (bn Ck T.aC T.xh (vo T) U.mo T.xJ .nil aA)<|ae (bn Ck T.aC T.hI (kJ T) U.mo T.ie .nil aA)<|ae (aP (yG T) U.mo {_} T.AL T.tE.kp T.A9 .nil aA (ae (bn Ck T.aC T.xg (vk T) U.mo T.xI .nil aA) aj)) aj)
   (ak (PF 7<|aP (AG T) U.mo {_} T.Mi T.CJ.kp T.Mr .nil aA (ae Ck<|ae PM<|ae (aq bG ai<|aq aV Qa ai) aj))
   (cI (λx=>aS (PW.pt<|mJ (aw EB PM (oV (gh U) P1 bQ<|λ_ _=>M)<|az _)<|i5<|PW.pt<|eU (aw bH PM ai<|az _)<|dB<|aw bH (aR bY Ro ai<|λ_ _=>M) bQ<|az _) x aJ) ?_)))
 refine ak (PF 8<|bM<|ae (bn Ck T.aC T.xh (vo T) U.mo T.xJ .nil aA)<|ae (bn Ck T.aC T.hI (kJ T) U.mo T.ie .nil aA)<|ae (aP (yG T) U.mo {_} T.AL T.tE.kp T.A9 .nil aA (ae (bn Ck T.aC T.xg (vk T) U.mo T.xI .nil aA) aj)) aj)
   (aB (aG<|gw (b7 bH Rn (aq eV ai ai)<|az _)<|gw (b7 (DH K M U.u20) (bn P0 T.aO T.cX (eP T) U.mo T.bh.choose_spec.1 T.bh.choose_spec.2 aA) Qy<|az _)<|gv<|b7 (Nh K M U.u20) pv8 Ro<|az _) ?_)
 intros
 refine ak (jy (gh U) P1 bQ (aq bG PM ai) M)
   (cI (λx=>aS (aw bH PM ai<|az _) x aJ) ?_)
 refine aB (aG<|gw (b7 wH Rn ai<|az _)<|gv<|b7 (DH K M U.u20) (bn P0 T.aO T.cX (eP T) U.mo T.bh.choose_spec.1 T.bh.choose_spec.2 aA) Qy<|az _) ?_
 intros
 refine ak (PF 9<|aD aE {_} T.bS bj (ae (nN M (P9.of (M':=["_law_row"]) (N:=[gs,eR,pT,kP,eH,"_law_rows","_law_before","_law_found","_law_after","_law_marks"]) (N':=[gs,eR,pT,kP,eH,"_law_rows","_law_before","_law_found","_law_after","_law_marks"]) (dsc:=am iC) M M ∅) (eO Qy) (λ_ _ _ _ _=>(aw bH (aR (vE K M) Ck ai<|λ_ _=>M) bQ<|az _))<|λ_ _ _ _ _=>Ck) aj))
   (ak (jy (gh U) P1 bQ Rn M)
   (aB (aG<|gw (b7 bH Rn (aq bG pv9 ai)<|az _)<|gv<|b7 (DH K M U.u20) (bn P0 T.aO T.cX (eP T) U.mo T.bh.choose_spec.1 T.bh.choose_spec.2 aA) (aq HN Qy<|bX<|ae (bM<|ae bQ<|ae Rn aj) aj)<|az _) ?_))
 intros
 let{da,fa,ha,hm,_}:=S.J.A.ins;refine{_,M,a,da,fa,M,ha,hm _ ∅,a,0,F,x,M,S.J.A,ZL _,λH1 r s1 nr U=>?_};have dy:=S.J.dy;unfold SF at dy;rw[show(0:Int).toNat=0 from rfl,Zz,dy,Z2]at U;have U:H1 r=some (.lst<|ds.map λd=>V.ref d.p):=U;have S1:=S.same s1;let{dc,hc}:=S1.C.ob
 (try dsimp only)
 refine{_,M,c,dc,_,M,hc,{_},c,a,p,dd,kd,av,e,X',M,S1.C,λr1 bw=>?_};have s2:=al (o:= .dK<|aI X'.cp) bw;have h2:upd H1 r1 (.dK<|aI X'.cp) r1=some (.dK<|aI X'.cp):=ag
 (try dsimp only)
 generalize upd H1 r1 (.dK<|aI X'.cp)=H2 at s2 h2⊢;have S2:=S1.same s2;let{b2,a8}:=S2.C.ob;refine{_,M,c,b2,_,M,a8,{_},c,a,p,dd,kd,av,e,X',M,S2.C,_,M,c,b2,_,M,a8,{_},c,a,p,dd,kd,av,e,X',M,S2.C,X'.rv,X'.ra,e,kd,M,S2.C.rt,(λh=>{bd.1 h,be}),λH3 s3=>{(by show 3<=sizeLine;decide),λtb b8=>?_}};have s4:=(s2.trans s3).trans (al (o:= .tup [.ref r1,.int X'.n,.str (if X'.rv= .non then mu else fw (RQ kd) X'.ra e)]) b8);have h4:upd H3 tb (.tup [.ref r1,.int X'.n,.str (if X'.rv= .non then mu else fw (RQ kd) X'.ra e)]) tb=some (.tup [.ref r1,.int X'.n,.str (if X'.rv= .non then mu else fw (RQ kd) X'.ra e)]):=ag;have h5:=al (o:= .tup [.ref r1,.int X'.n,.str (if X'.rv= .non then mu else fw (RQ kd) X'.ra e)]) b8 _ _ (s3 _ _ h2)
 (try dsimp only)
 generalize upd H3 tb (.tup [.ref r1,.int X'.n,.str (if X'.rv= .non then mu else fw (RQ kd) X'.ra e)])=H4 at s4 h4 h5⊢;have S4:=S1.same s4;have a5:=s1.trans s4;have aa:=s4 _ _ U;have ac:=a5 _ _ hs;have nw:∀b,H b=none->¬Ot F X' c dd d b:=λb hb=>S.new hb;have z0:=QP cl (show(20:Int)≠0 by decide);have z1:=QL cl (show(0:Int)<20 by decide);clear hc a8 S2 ha hm;refine{_,M,_,M,_,M,_,_,M,M,(by show(0:Int)<20;decide),_,_,M,M,sc,a,d,c,p,dd,nt,F,x,ds,X',kd,w,_,av,e,ns,M,S4,w0,w2,(),(),(),λY rf s5=>?_,λY F5 x5 X5 r5 ah w1 Z f5 b5 l1 l2 an=>?_,λY F5 X5 k ah w1 Z f5 b5 an=>?_}
 .have O:=s5 _ _ ac;have gn:QA Y s (.str pU) (some<|.int n):=QA.k (k:=Sum.inr (pU:Str)) O;have Z:=S4.same s5;have a0:=s5 _ _ aa;have h6:=s5 _ _ h4;have h7:=s5 _ _ h5;have c0:=a5.trans s5;have sf:=Z.I.self Z.J.D;have tu:∀z∈ds,Y z.p=some (.tup z.r.vs):=λz hz=>Z.J.A.di (z.p,z.r.vs) (by rw[dy];exact QJ.mpr ⟨z,hz,M⟩);unfold gi
  (try dsimp only)
  refine{_,M,_,M,s,_,M,gn,M,_,M,?_};apply both
  case f=>
   intro fin;by_cases wn:w=n
   .have hv:w=0/\X'.rv= .non:=(MY rf st).elim (λh=>Ws wn h) id;exact ET (by rw[wn]) {_,M,M,_,M,dX (by rw[hv.1]) {_,M,tb,_,_,_,M,M,Px.of h6,M,M,_,M,dX (by rw[Wn hv.2]) fin}}
   .exact OX (λz=>wn<|V.int.inj z) (cy fin)
  case g=>
   let{c1,c2}:=Z.C.ob;refine{_,M,c,c1,_,M,c2,{_},c,a,p,dd,kd,av,e,X',M,Z.C,λr2 c3=>?_};have s6:=al (o:= .dK<|aI X'.cp) c3;have h8:upd Y r2 (.dK<|aI X'.cp) r2=some (.dK<|aI X'.cp):=ag
   (try dsimp only)
   generalize upd Y r2 (.dK<|aI X'.cp)=H6 at s6 h8⊢;have S6:=Z.same s6;let{ba,bb}:=S6.C.ob;refine{_,M,c,ba,_,M,bb,{_},c,a,p,dd,kd,av,e,X',M,S6.C,_,M,c,ba,_,M,bb,{_},c,a,p,dd,kd,av,e,X',M,S6.C,X'.rv,X'.ra,e,kd,M,S6.C.rt,(λh=>{bd.1 h,be}),λH7 s7=>{(by show 3<=sizeLine;decide),λta bi=>?_}};have s8:=(s6.trans s7).trans (al (o:= .tup [.ref r2,.int X'.n,.str (if X'.rv= .non then mu else fw (RQ kd) X'.ra e)]) bi);have h9:upd H7 ta (.tup [.ref r2,.int X'.n,.str (if X'.rv= .non then mu else fw (RQ kd) X'.ra e)]) ta=some (.tup [.ref r2,.int X'.n,.str (if X'.rv= .non then mu else fw (RQ kd) X'.ra e)]):=ag;have bl:=al (o:= .tup [.ref r2,.int X'.n,.str (if X'.rv= .non then mu else fw (RQ kd) X'.ra e)]) bi _ _ (s7 _ _ h8)
   (try dsimp only)
   generalize upd H7 ta (.tup [.ref r2,.int X'.n,.str (if X'.rv= .non then mu else fw (RQ kd) X'.ra e)])=H8 at s8 h9 bl⊢;have S8:=Z.same s8;let{da,fa,ha,hm,_}:=S8.J.A.ins;refine{_,M,_,_,M,M,M,_,M,dX M {_,M,a,da,fa,M,ha,hm _ ∅,a,0,F,x,M,S8.J.A,ZL _,λH9 r9 s9 bo G=>?_}};rw[show(0:Int).toNat=0 from rfl,Zz,dy,Z2]at G;have G:H9 r9=some (.lst<|ds.map λd=>V.ref d.p):=G;have a2:=s8.trans s9;refine{_,M,r9,r,_,_,M,M,.inl {E7.of G,E7.of<|a2 _ _ a0},M,xK<|λz hz=>a2 _ _ (tu z hz),_,M,cy {_,M,_,M,ta,tb,_,_,M,M,Px.of<|s9 _ _ h9,Px.of<|a2 _ _ h6,M,λj u v hu hv=>?_,?_}}
   .rcases j with _|_|_|j
    .cases hu;cases hv;exact .inr<|MU (s9 _ _ bl) (a2 _ _ h7) sf
    .cases hu;cases hv;exact .inl<|.inl ⟨WD,M⟩
    .cases hu;cases hv;exact .inl<|.inl ⟨WD,M⟩
    .cases hu
   .exact q H9 F x [] X' n m (by rw[Zu];exact S8.same s9) (Fr.of_same<|c0.trans a2) (a2 _ _ O) os bd st (by rwa[Zu]) M ()
 .let{wn,hv}:=Ew w0 w2 ah st;let{O,a3}:=f5 _ _ os ac;let{a0,ca}:=f5 _ _ (nw r nr) aa;have h6:=(f5 _ _ (S4.tu _ _ h4) h4).1;have gn:QA Y s (.str pU) (some<|.int n):=QA.k (k:=Sum.inr (pU:Str)) O;have tu:∀z∈ds++ [{r5,.mark<|x.ma+1}],Y z.p=some (.tup z.r.vs):=λz hz=>Z.J.A.di (z.p,z.r.vs) (by rw[Z.J.dy];exact QJ.mpr ⟨z,hz,M⟩);have dl:=Z.J.len;unfold gi
  (try dsimp only)
  refine{_,M,_,M,s,_,M,gn,M,_,M,ET (by rw[wn]) {_,M,M,_,M,?_}};apply both
  case f=>
   intro fin;by_cases z0:w=0
   .exact dX (by rw[z0]) {_,M,tb,_,_,_,M,M,Px.of h6,M,M,_,M,bg (λz=>by have z:=V.str.inj z;rw[Wm (hv z0)]at z;exact Fo z) fin}
   .exact bg (λz=>z0<|V.int.inj z) (cu fin)
  case g=>
   unfold mY
   (try dsimp only)
   refine{_,M,_,_,M,M,_,M,s,_,M,Qw.k (k:=Sum.inr (pU:Str)) O (by show 2<_;decide),?_}
   (try dsimp only)
   refine{_,M,M,_,M,bg (λz=>w1<|V.int.inj z) ?_};unfold mY
   (try dsimp only)
   have a4:upd Y s (.dK<|a9 (Qe n m) (Sum.inr (pU:Str))<|V.int<|w+1) s=some (.dK<|Qe (w+1) m):=ag;have S6:=Z.wr (o:= .dK<|a9 (Qe n m) (Sum.inr (pU:Str))<|V.int<|w+1) O a3;have f6:Fr (Os F X' c dd d s) (Os F5 X5 c dd d s) H4 (upd Y s<|.dK<|a9 (Qe n m) (Sum.inr (pU:Str))<|V.int<|w+1):=f5.os.trans Fr.sd;have a1:upd Y s (.dK<|a9 (Qe n m) (Sum.inr (pU:Str))<|V.int<|w+1) r=some (.lst<|ds.map λd=>V.ref d.p):=by rwa[af (cr a0 O λz=>by cases z)]
   have bp:∀z∈ds++ [{r5,.mark<|x.ma+1}],upd Y s (.dK<|a9 (Qe n m) (Sum.inr (pU:Str))<|V.int<|w+1) z.p=some (.tup z.r.vs):=λz hz=>by rw[af (cr (tu z hz) O λz=>by cases z)];exact tu z hz
   generalize upd Y s (.dK<|a9 (Qe n m) (Sum.inr (pU:Str))<|V.int<|w+1)=H6 at a4 S6 f6 a1 bp⊢;refine{_,M,r,M,{_,E7.of a1},λD hD=>jr (K:=K) (a:=r) (xs:=ds.map λd=>V.ref d.p) (λi ys H2=>GI H6 H2/\ys.length=sP (ds.take i)) {al hD,M} (λi ys H2 _ w=>E7.of<|w.1 _ _ a1) (λi x ys H2 hx w a6=>?_)<|λys H2 w a6=>?_}
   .let{s2,ey}:=w;have hi:=(Q2.mp hx).1;rw[Z3]at hx;cases cz:ds[i]? with
    |none=>rw[cz]at hx;cases hx
    |some z=>
     rw[cz]at hx;cases hx;have hz:=bp z (Q5.mpr<|.inl<|Q1 cz);let{w',e1,e2}:=MB (r:=z.r);have cs:=Jl cz;have cl:=NS (ds:=ds.take i);rw[Q9]at cl;refine{_,M,z.p,_,_,_,M,M,Px.of<|s2 _ _ hz,e1,M,_,M,?_};rw[e2];show if SZ z=true then _ else _
     rw[Q6,Zt]at dl;by_cases cM:SZ z=true
     .rw[Wn cM];exact{_,M,Pq.mk hi a6 (bq ()) {b6 s2 hD,by rw[Q6,ey,cs,Wn cM];rfl}}
     .rw[Wm cM];exact Qn.mk hi a6 {s2,by rw[ey,cs,Wm cM];rfl}
   .let{s2,ey}:=w;rw[Q0,Zd]at ey;have S7:=S6.same s2;have ax:=s2 _ _ a4;have br:=s2 _ _ a1;have f7:=f6.trans (Fr.of_same s2);refine{D,_,M,.inl<|E7.of a6,?_}
    (try dsimp only)
    refine{_,M,_,M,s,_,M,Qw.k (k:=Sum.inr (ge:Str)) ax (by show 2<_;decide),?_}
    (try dsimp only)
    have bt:upd H2 s (.dK<|a9 (Qe (w+1) m) (Sum.inr (ge:Str))<|V.int<|x.ma+1) s=some (.dK<|Qe (w+1)<|x.ma+1):=ag;have S8:=S7.wr (o:= .dK<|a9 (Qe (w+1) m) (Sum.inr (ge:Str))<|V.int<|x.ma+1) ax a3;have f8:Fr (Os F X' c dd d s) (Os F5 X5 c dd d s) H4 (upd H2 s<|.dK<|a9 (Qe (w+1) m) (Sum.inr (ge:Str))<|V.int<|x.ma+1):=f7.trans Fr.sd;have bv:upd H2 s (.dK<|a9 (Qe (w+1) m) (Sum.inr (ge:Str))<|V.int<|x.ma+1) r=some (.lst<|ds.map λd=>V.ref d.p):=by rwa[af (cr br ax λz=>by cases z)]
    generalize upd H2 s (.dK<|a9 (Qe (w+1) m) (Sum.inr (ge:Str))<|V.int<|x.ma+1)=H8 at bt S8 f8 bv⊢;let{da,fa,ha,hm,_}:=S8.J.A.ins;refine{_,M,_,M,_,_,M,M,M,_,M,dX (by rw[ey,cm]) {_,M,a,da,fa,M,ha,hm _ ∅,a,0,F5,x5,M,S8.J.A,ZL _,λH9 r9 s9 bo G=>?_}};rw[show(0:Int).toNat=0 from rfl,Zz,Z.J.dy,Z2]at G;have G:H9 r9=some (.lst<|(ds++ [({r5,.mark<|x.ma+1}:DR)]).map λd=>V.ref d.p):=G;have b1:∀z∈ds++ [{r5,.mark<|x.ma+1}],H9 z.p=some (.tup z.r.vs):=λz hz=>s9 _ _ (S8.J.A.di (z.p,z.r.vs)<|by rw[Z.J.dy];exact QJ.mpr ⟨z,hz,M⟩);rw[Q6,Zt]at dl
    (try dsimp only)
    refine{_,M,_,M,(by show 2<=sizeLine;decide),λmt c5=>{(by show 1<=sizeLine;decide),λl9 c8=>?_}};have sA:=al (o:= .tup [.str ge,.int (x.ma+1)]) c5;have sB:=al (o:= .lst [.ref mt]) c8;have hA:=sB _ _ (show upd H9 mt (.tup [.str ge,.int (x.ma+1)]) mt=some (.tup [.str ge,.int (x.ma+1)]) from ag);refine{r,l9,_,_,M,M,sB _ _<|sA _ _<|s9 _ _ bv,ag,bq (by rw[Q0];lia),λl8 c9=>?_};have sC:=al (o:= .lst<|(ds.map λd=>V.ref d.p)++ [.ref mt]) c9;have sE:=((s9.trans sA).trans sB).trans sC;have sF:=(sA.trans sB).trans sC;refine{r9,l8,_,_,M,M,.inl {E7.of<|sF _ _ G,E7.of ag},by rw[Q0,Q6,Q6,Q0];rfl,Jy (λy hy=>sF _ _<|b1 y hy)<|sC _ _ hA,?_};exact q _ F5 x5 [{r5,.mark<|x.ma+1}] X5 (w+1) (x.ma+1) (S8.same sE) ((Fr.of_same a5).trans<|f8.trans<|Fr.of_same sE) (sE _ _ bt) a3 (b5 bd) an (by rw[Jm M,l2];lia) l1 ()
 .let{wn,hv}:=Ew w0 w2 ah st;let{O,a3}:=f5 _ _ os ac;have a0:=(f5 _ _ (nw r nr) aa).1;have gn:QA Y s (.str pU) (some<|.int n):=QA.k (k:=Sum.inr (pU:Str)) O;unfold gi
  (try dsimp only)
  refine{_,M,_,M,s,_,M,gn,M,_,M,ET (by rw[wn]) {_,M,M,_,M,bg (λz=>by have:=V.int.inj z;lia)<|cu ?_}};unfold mY
  (try dsimp only)
  refine{_,M,_,_,M,M,_,M,s,_,M,Qw.k (k:=Sum.inr (pU:Str)) O (by show 2<_;decide),?_}
  (try dsimp only)
  have a4:upd Y s (.dK<|a9 (Qe n m) (Sum.inr (pU:Str))<|V.int<|w+1) s=some (.dK<|Qe 2 m):=by rw[w1];exact ag
  have S6:=Z.wr (o:= .dK<|a9 (Qe n m) (Sum.inr (pU:Str))<|V.int<|w+1) O a3;have f6:Fr (Os F X' c dd d s) (Os F5 X5 c dd d s) H4 (upd Y s<|.dK<|a9 (Qe n m) (Sum.inr (pU:Str))<|V.int<|w+1):=f5.os.trans Fr.sd;have a1:upd Y s (.dK<|a9 (Qe n m) (Sum.inr (pU:Str))<|V.int<|w+1) r=some (.lst<|ds.map λd=>V.ref d.p):=by rwa[af (cr a0 O λz=>by cases z)]
  generalize upd Y s (.dK<|a9 (Qe n m) (Sum.inr (pU:Str))<|V.int<|w+1)=H6 at a4 S6 f6 a1⊢;let{da,fa,ha,hm,_}:=S6.J.A.ins;refine{_,M,M,_,M,dX (by rw[w1]) {_,M,_,_,M,M,_,M,?_}};rw[Wv (show(0:Int)<=(k:Int) by lia)];refine cy {_,M,a,da,fa,M,ha,hm _ ∅,a,0,F5,x,M,S6.J.A,ZL _,λH9 r9 s9 bo G=>?_};rw[show(0:Int).toNat=0 from rfl,Zz,dy,Z2]at G;have G:H9 r9=some (.lst<|ds.map λd=>V.ref d.p):=G;have b1:∀z∈ds,H9 z.p=some (.tup z.r.vs):=λz hz=>s9 _ _ (S6.J.A.di (z.p,z.r.vs)<|by rw[dy];exact QJ.mpr ⟨z,hz,M⟩);refine{_,M,r9,r,_,_,M,M,.inl {E7.of G,E7.of<|s9 _ _ a1},M,xK b1,?_};exact q _ F5 x [] X5 2 m (by rw[Zu];exact S6.same s9) ((Fr.of_same a5).trans<|f6.trans<|Fr.of_same s9) (s9 _ _ a4) a3 (b5 bd) (an m) (by rwa[Zu]) M ()
def Lm{z:Int}(h:i<=xs.length)(G:0<=z):mV xs (some (i:Int)) (some<|(i:Int)+z)=(xs.drop i).take z.toNat:=by
 obtain⟨j,rfl⟩:∃j:Nat,z=(j:Int):={z.toNat,()};unfold mV;rw[HT.sIx_nat,show(i:Int)+(j:Int)=((i+j:Nat):Int) by lia,HT.sIx_nat,ZP h,Zk];rcases VU (i+j) xs.length with c|c
 .rw[ZP c,Nat.add_sub_cancel_left]
 .rw[Vl c,Z1 (by rw[Zc];exact Q4 _),Z1 (by rw[Zc];lia)]
theorem CC{H:Hp}{m:Int}:∀{l:List DR},(∀z∈l,H z.p=some (.tup z.r.vs))->((l.map (·.p)).any λb=>pE (q9 H b) [.str ge,.int m])=l.any λx=>decide (x.r= .mark m)
 | [],_=>rfl
 |y::r,h=>by
  rw[Z0,Xl,Xl,CC λz hz=>h z (QM _ hz)];congr 1;have e:q9 H y.p=y.r.vs:=by unfold q9;rw[h y QK]
  rw[e];by_cases c:y.r= .mark m
  .rw[Wv c];exact RL.mpr c
  .rw[Wz c];cases G:pE y.r.vs [.str ge,.int m]with
   |false=>rfl
   |true=>exact Ws (RL.mp G) c
def tJ(K:JZ)(t:PB):Sp:=λvs H Q _=>∃(sc a d c p dd nt s:K')(F:O')(x:PX)(ds:List DR)(X:PQ)(kd z n m:Int)(av e:V)(ns:R'),vs=[.ref c,.ref a,.ref s,.int z]/\Qi K t H sc a d c p dd nt F x ds X kd av e ns/\Bd X/\H s=some (.dK<|Qe n m)/\¬Ot F X c dd d s/\RG n m X/\0<=z/\x.now+x.ma<3800/\
 ∀(H':Hp)(X':PQ)(n':Int),Qi K t H' sc a d c p dd nt F x ds X' kd av e ns->Fr (Os F X c dd d s) (Os F X' c dd d s) H H'->H' s=some (.dK<|Qe n' m)->¬Ot F X' c dd d s->Bd X'->RG n' m X'->Q (.bl true) H'
def t9:Cy P w K mg base PJ 8 t.mL t.hV [gs,eR,pT,"_law_steps"] (tJ K t):=by
 refine T.vz.okl tN λs H vs Q E G h _=>?_;intro X;let{sc,a,d,c,p,dd,nt,s,F,x,ds,X',kd,z,n,m,av,e,ns,rfl,S,bd,hs,os,st,z0,l,q}:=h;refine ak (PF 4<|bn P0 T.aO T.cX (eP T) G.mo T.bh.choose_spec.1 T.bh.choose_spec.2 aA)
   (ak (PF 5<|bn Ck T.aC T.hI (kJ T) G.mo T.ie .nil aA)
   (ak (aS (aw EB (aW Ck T.aC T.F7 (rS T) G.mo T.GF .nil aA<|ae PM aj) (aD (iN M) {_} T.vJ ox (ae (aq bG Qy PM)<|ae (aD aE {_} T.bS bj (ae Qa aj)) aj))<|az _)
    (ay<|aG BP)
    aJ)
   (ak (aS (PW.pt<|eU (aw bH (oV (gh G) P1 bQ<|λ_ _=>M) ai<|az _)<|dB<|aw (Ng K M G.u20) (bM<|ae bQ<|ae (oV (gh G) P1 bQ<|λ_ _=>M) aj) (eK gL Qa (dS Qy)<|dS<|aq bG Qy PM) M)
    (ay<|jy (gh G) P1 bQ ai M)
    aJ)
   (aB (aG<|b7 bH (bn Ck T.aC T.hI (kJ T) G.mo T.ie .nil aA) (aD (iN M) {_} T.vJ ox (ae (aq bG Qy PM)<|ae (aD aE {_} T.bS bj (ae Qa aj)) aj))<|az _) ?_))))
 intros
 let{da,fa,ha,hm,_}:=S.J.A.ins;have dl:=S.J.len;have il:=S.I.le;refine{_,M,a,da,fa,M,ha,hm _ ∅,a,0,F,x,M,S.J.A,ZL _,λH1 r s1 nr G=>?_};have dy:=S.J.dy;unfold SF at dy;rw[show(0:Int).toNat=0 from rfl,Zz,dy,Z2]at G;have G:H1 r=some (.lst<|ds.map λd=>V.ref d.p):=G;have U:=S.same s1;have a5:=S.new nr;let{dc,hc}:=U.C.ob
 (try dsimp only)
 refine{_,M,c,dc,_,M,hc,{_},c,a,p,dd,kd,av,e,X',M,U.C,?_}
 (try dsimp only)
 refine{_,M,c,dc,_,M,hc,{_},_,M,c,a,p,dd,kd,z,av,e,X',F,x,ds,M,U.C,U.J.A,U.J.dy,U.I,U.J.D,(),z0,λH2 X2 e2 C2 I2 k2=>?_};let{S2,f2}:=U.fo e2 C2 I2 k2;have st2:=st.fold (kd:=kd) (av:=av) (e:=e) U.J.D (l:=(ds.drop X'.n).take z.toNat) U.I NP;rw[<-e2]at st2;have a6:Bd X2:=by rw[e2];exact bd.fold
 have n2:V.int (X2.n:Int)=V.int (if(ds.length:Int)<(X'.n:Int)+z then(ds.length:Int)else(X'.n:Int)+z):=by
  rw[e2,D5,Q9,Zc];congr 1;split<;>lia
 let{O,ax}:=f2 _ _ a5 G;let{Y,a1}:=f2 _ _ os (s1 _ _ hs);have f2:Fr (Os F X' c dd d s) (Os F X2 c dd d s) H H2:=(Fr.of_same s1).trans f2.os;refine{_,M,_,M,_,_,M,M,_,M,r,_,M,.inl<|E7.of O,?_};rw[Q0];refine{_,_,M,M,_,M,ET n2 ?_};unfold mY
 (try dsimp only)
 have gn:QA H2 s (.str pU) (some<|.int n):=QA.k (k:=Sum.inr (pU:Str)) Y;have gm:QA H2 s (.str ge) (some<|.int m):=QA.k (k:=Sum.inr (ge:Str)) Y;refine dw (λB H'=>B=[some (.ref c),some (.ref a),some (.ref s),some (.int z),some (.ref r),some (.int X'.n)]/\∃n',Qi K t H' sc a d c p dd nt F x ds X2 kd av e ns/\Fr (Os F X' c dd d s) (Os F X2 c dd d s) H H'/\H' s=some (.dK<|Qe n' m)/\RG n' m X2/\H' r=some (.lst<|ds.map λd=>V.ref d.p)) (λnx go=>?_)<|λB H3 w=>?_
 .refine{_,M,s,_,M,gn,M,_,M,?_};by_cases n3:n=3
  case neg=>
   rw[Wm λz=>n3 z.1]at st2;exact bg (λz=>n3<|V.int.inj z)<|cu (go _ _ ⟨M,n,S2,f2,Y,st2,O⟩)
  refine dX (by rw[n3]) {_,M,s,_,M,gm,(by show 2<=sizeLine;decide),λmt a2=>?_};have s3:=al (o:= .tup [.str ge,.int m]) a2;have a3:upd H2 mt (.tup [.str ge,.int m]) mt=some (.tup [.str ge,.int m]):=ag;have nn:∀b o,H2 b=some o->b≠mt:=λb o e=>ao e a2
  (try dsimp only)
  generalize upd H2 mt (.tup [.str ge,.int m])=H3 at s3 a3⊢;refine{_,M,_,M,_,M,_,M,_,M,_,_,M,M,_,M,r,_,M,E7.of<|s3 _ _ O,λl nl=>?_};rw[Lm (by rwa[Q0]) z0,<-XH,<-Xe];have s4:=s3.trans (al (o:= .lst<|((ds.drop X'.n).take z.toNat).map λd=>V.ref d.p) nl);have h4:upd H3 l (.lst<|((ds.drop X'.n).take z.toNat).map λd=>V.ref d.p) l=some (.lst<|((ds.drop X'.n).take z.toNat).map λd=>V.ref d.p):=ag;have a4:=al (o:= .lst<|((ds.drop X'.n).take z.toNat).map λd=>V.ref d.p) nl _ _ a3
  (try dsimp only)
  generalize upd H3 l (.lst<|((ds.drop X'.n).take z.toNat).map λd=>V.ref d.p)=H4 at s4 h4 a4⊢;have a0:∀y∈ds,H2 y.p=some (.tup y.r.vs):=λy hy=>S2.J.A.di (y.p,y.r.vs) (by rw[dy];exact QJ.mpr ⟨y,hy,M⟩);have sub:∀y∈(ds.drop X'.n).take z.toNat,y∈ds:=λy hy=>Xx (Zs hy);refine{mt,l,_,((ds.drop X'.n).take z.toNat).map (·.p),M,M,a4,M,E7.of (by rwa[Z2]),λb hb=>?_,_,M,?_}
  .let{y,hy,rfl}:=QJ.mp hb;exact{nn _ _<|a0 y<|sub y hy,_,s4 _ _<|a0 y<|sub y hy,Kl}
  rw[Wm (show ¬(false=true) by decide),CC λy hy=>s4 _ _ (a0 y<|sub y hy)];have S4:=S2.same s4;have Z:=s4 _ _ Y;have f4:=f2.trans (Fr.of_same s4);cases ca:((ds.drop X'.n).take z.toNat).any λx=>decide (x.r= .mark m)with
  |false=>
   rw[Wm λz=>by rw[ca]at z;cases z.2]at st2;exact cu<|go _ _ {M,n,S4,f4,Z,st2,s4 _ _ O}
  |true=>
   rw[Wn ⟨n3,ca⟩]at st2;refine cy {_,M,s,_,M,Qw.k (k:=Sum.inr (pU:Str)) Z (by show 2<_;decide),?_};exact go _ _ {M,0,S4.wr Z a1,f4.trans Fr.sd,ag,st2,by rw[af (cr (s4 _ _ O) Z λz=>by cases z)];exact s4 _ _ O}
 .let{rfl,n',S3,f3,a8,aa,ac}:=w;let{ah,an}:=S3.C.ob
  (try dsimp only)
  refine{_,M,c,ah,_,M,an,{_},c,a,p,dd,kd,av,e,X2,M,S3.C,_,M,_,M,_,_,M,M,_,M,r,_,M,.inl<|E7.of ac,?_};rw[Q0];refine{_,_,M,M,?_};rw[Wv n2];exact q H3 X2 n' S3 f3 a8 a1 a6 aa
section
variable{sc d n:K'}{x:PX}{kd:Int}
def Pr.nadI(z:Pr t H c a p dd kd av e X)(hb:H b=some o)(hl:∀xs,o≠ .lst xs)(tk:∀{q:K'}{a':V},Pz t H q kd a' e->q≠b)(nm:¬X.mut c dd b):¬X.adr c p dd b:=λh=>by
 rcases h with h|h|h|⟨P,G,h|h|⟨y,hy,h⟩⟩
 .exact nm h
 .exact tk z.tk.1 h.symm
 .rcases z.rt with g|⟨q,h1,h2,_⟩
  .rw[g]at h;cases h
  .rw[h1]at h;cases h;exact tk h2 M
 .exact tk (z.pg P G).1.tk.1 h.symm
 .rcases(z.pg P G).1.ah with g|⟨q,h1,h2,_⟩
  .rw[g]at h;cases h
  .rw[h1]at h;cases h;exact tk h2 M
 .have:=((z.pg P G).1.fd y hy).1;rw[<-h,hb]at this;exact hl _<|Wq this
end
structure RP(K:JZ)(t:PB)(H:Hp)(sc a d nt p c0 dd0 s0 c1 dd1 s1:K')(F:O')(x:PX)(ds:List DR)(X0 X1:PQ)(n0 m0 n1 m1 kd:Int)(av e:V)(ns:R'):Prop where
 S:Qi K t H sc a d c0 p dd0 nt F x ds X0 kd av e ns
 Z:SS t H c1 a p dd1 kd av e X1 (Os F X0 c0 dd0 d s0)
 I1:Inv kd av e ds X1
 b0:Bd X0
 b1:Bd X1
 h0:H s0=some (.dK<|Qe n0 m0)
 o0:¬Ot F X0 c0 dd0 d s0
 h1:H s1=some (.dK<|Qe n1 m1)
 o1:¬Os F X0 c0 dd0 d s0 s1
 a1:¬X1.adr c1 p dd1 s1
 t0:RG n0 m0 X0
 t1:RG n1 m1 X1
 cm:(sP ds:Int)=x.ma
def RP.swap{sc d c0 s0 O s1:K'}{x:PX}{n0 kd:Int}(R1:RP K t H sc a d nt p c0 dd0 s0 O dd1 s1 F x ds X0 X1 n0 m0 n1 m1 kd av e ns):RP K t H sc a d nt p O dd1 s1 c0 dd0 s0 F x ds X1 X0 n1 m1 n0 m0 kd av e ns:=by
 have nF:∀b,X1.adr O p dd1 b->¬F b:=λb hb z=>R1.Z.n b hb (.inl<|.inl z);have nm:¬X1.mut O dd1 d:=λz=>R1.Z.n d (.inl z) (.inl<|.inr<|.inr M);have U:∀b,X1.mut O dd1 b->¬X0.mut c0 dd0 b:=λb h z=>R1.Z.n b (.inl h) (.inl<|.inr<|.inl z);have ad:∀b,X1.mut O dd1 b->¬X0.adr c0 p dd0 b:=λb h=>by
  have G:=U b h;rcases h with rfl|rfl|⟨P,hP,rfl|rfl⟩
  .let{dx,ho}:=R1.Z.C.ob;exact R1.S.C.nadI ho (λ_ z=>by cases z) (λh=>h.ne ho M) G
  .exact R1.S.C.nadr R1.Z.C.cp G
  .let{dg,hg}:=(R1.Z.C.pg P hP).1.ob;exact R1.S.C.nadI hg (λ_ z=>by cases z) (λh=>h.ne hg M) G
  .exact R1.S.C.nadr (R1.Z.C.pg P hP).1.no G
 have Y:¬X0.adr c0 p dd0 s1:=R1.S.C.nadr R1.h1 λz=>R1.o1 (.inl<|.inr<|.inl z);have a0:¬X0.adr c0 p dd0 s0:=R1.S.C.nadr R1.h0 λz=>R1.o0 (.inr<|.inl z);have a2:¬X1.mut O dd1 s0:=λz=>R1.Z.n s0 (.inl z) (.inr M);have cS:RZ K (Ot F X1 O dd1 d) H sc (ns.map V.int):=by
  rcases R1.S.cS with⟨rd,nf⟩|h
  .refine .inl {rd,λz=>?_};rcases z with z|z|z
   .exact nf<|.inl z
   .rcases rd with rd|⟨ob,rd⟩
    .exact R1.Z.C.nmut rd (λ_ _ _ z=>by cases z) (λ_ z=>by cases z) z
    .exact R1.Z.C.nmut rd (λ_ _ _ z=>by cases z) (λ_ z=>by cases z) z
   .exact nf<|.inr (.inr z)
  .exact .inr h
 refine{⟨R1.S.J,R1.Z.C,nF,nm,R1.S.hn,R1.I1,cS⟩,{R1.S.C,λb hb z=>?_},R1.S.I,R1.b1,R1.b0,R1.h1,λz=>?_,R1.h0,λz=>?_,a0,R1.t1,R1.t0,R1.cm}
 .rcases z with(z|z|z)|z
  .exact R1.S.nF b hb z
  .exact ad b z hb
  .exact R1.S.C.nadr R1.S.J.di R1.S.nm<|z▸hb
  .exact Y<|z▸hb
 .rcases z with z|z|z
  .exact R1.o1<|.inl (.inl z)
  .exact R1.a1<|.inl z
  .exact R1.o1<|.inl (.inr<|.inr z)
 .rcases z with(z|z|z)|z
  .exact R1.o0<|.inl z
  .exact a2 z
  .exact R1.o0<|.inr (.inr z)
  .exact R1.o1<|.inr z.symm
def RP.go{sc d c0 s0 U s1:K'}{x:PX}{G:PQ}{n0 I O kd:Int}(R1:RP K t H sc a d nt p c0 dd0 s0 U dd1 s1 F x ds X0 X1 n0 m0 n1 m1 kd av e ns)(S:Qi K t H' sc a d c0 p dd0 nt F' x' (ds++mo) G kd av e ns)(f:Fr (Os F X0 c0 dd0 d s0) (Os F' G c0 dd0 d s0) H H')(Y:H' s0=some (.dK<|Qe I O))(o0:¬Ot F' G c0 dd0 d s0)(b0:Bd G)(t0:RG I O G)(cm:(sP (ds++mo):Int)=x'.ma):RP K t H' sc a d nt p c0 dd0 s0 U dd1 s1 F' x' (ds++mo) G X1 I O n1 m1 kd av e ns:=by
 let{g1,g2}:=f _ _ R1.o1 R1.h1;exact{S,R1.Z.fr f λb xs hb z=>z.elim (R1.S.tu b xs hb) λz=>(by rw[z,R1.h0]at hb;cases hb),R1.I1.more,b0,R1.b1,Y,o0,g1,g2,R1.a1,t0,R1.t1,cm}
def RP.pick{sc d G I dd' O:K'}{x:PX}{Y:PQ}{n' m' kd o:Int}(R1:RP K t H sc a d nt p c dd G I dd' O F x ds X Y n m n' m' kd av e ns)(ho:o=0\/o=1):∃(c0 dd0 s0 U dd1 s1:K')(X0 X1:PQ)(n0 m0 n1 m1:Int),RP K t H sc a d nt p c0 dd0 s0 U dd1 s1 F x ds X0 X1 n0 m0 n1 m1 kd av e ns/\RO [V.ref c,V.ref I] o=some (V.ref c0)/\RO [V.ref G,V.ref O] o=some (V.ref s0)/\∀(H':Hp)(F':O')(x':PX)(z:List DR)(Z:PQ)(i j:Int),RP K t H' sc a d nt p c0 dd0 s0 U dd1 s1 F' x' z Z X1 i j n1 m1 kd av e ns->∃(X Y:PQ)(n m n' m':Int),RP K t H' sc a d nt p c dd G I dd' O F' x' z X Y n m n' m' kd av e ns:=by
 rcases ho with rfl|rfl
 .exact{_,_,_,_,_,_,_,_,_,_,_,_,R1,M,M,λH' F' x' z Z i j h=>{_,_,_,_,_,_,h}}
 .exact{_,_,_,_,_,_,_,_,_,_,_,_,R1.swap,M,M,λH' F' x' z Z i j h=>{_,_,_,_,_,_,h.swap}}
def RP.off{sc d c0 s0 G s1:K'}{x:PX}{n0 kd:Int}(R1:RP K t H sc a d nt p c0 dd0 s0 G dd1 s1 F x ds X0 X1 n0 m0 n1 m1 kd av e ns)(hb:H b=some (.lst xs))(I:¬F b):¬Os F X0 c0 dd0 d s0 b:=λz=>z.elim (R1.S.off hb (λ_ _ _ z=>by cases z) (λ_ z=>by cases z) I) λz=>by rw[z,R1.h0]at hb;cases hb
def RP.same{sc d c0 s0 z s1:K'}{x:PX}{n0 kd:Int}(R1:RP K t H sc a d nt p c0 dd0 s0 z dd1 s1 F x ds X0 X1 n0 m0 n1 m1 kd av e ns)(s:GI H H'):RP K t H' sc a d nt p c0 dd0 s0 z dd1 s1 F x ds X0 X1 n0 m0 n1 m1 kd av e ns:={R1.S.same s,R1.Z.same s,R1.I1,R1.b0,R1.b1,s _ _ R1.h0,R1.o0,s _ _ R1.h1,R1.o1,R1.a1,R1.t0,R1.t1,R1.cm}
def RG.n0(h:RG n m X):0<=n/\n<=3:=by
 rcases h with⟨e,_⟩|⟨P,_,⟨e,_⟩|⟨y,_,⟨e,_⟩|⟨e,_⟩⟩⟩<;>lia
def Jn(h:∀y∈ds,∀m,y.r≠ .mark m):sP ds=0:=by
 unfold sP;rw[Xr.mpr]
 .rfl
 .intro y hy z;unfold SZ at z;cases c:y.r with
  |mark m=>exact h y hy m c
  |put k v=>rw[c]at z;cases z
  |drop k=>rw[c]at z;cases z
def Hq(K:JZ):Sp:=λvs H Q _=>∃(a:K')(ns:R'),vs=[.ref a]/\E7 K H a (ns.map V.int)/\ns.length<=63/\∀H',Q (.bl true) H'
def Nj:Cy P w K mg base PJ 13 t.Mu t.E6 [u5] (Hq K):=by
 refine T.Pc.okl MV λs H vs Q E hr h _=>?_;intro X;let{sc,ns,rfl,hS,ax,q}:=h;refine ak (Az (aP (yJ T) hr.mo {_} T.La T.Bk.kp T.Lv .nil aA (ae (eK gL Ck (dS ai)<|dS ai) aj))<|DB M<|kH (Ri 1)<|kH (Ri 2) AA)
   (ak (PF 3<|aP (yH T) hr.mo {_} T.K8 T.Bi.kp T.Ls .nil aA (ae (aP (vg T) hr.mo {_} T.Im T.xW.kp T.Jt .nil aA (ae (aP (vh T) hr.mo {_} T.Io T.xX.kp T.Ju .nil aA (ae Ck<|ae ai aj))<|ae (aD (sQ hr.hd) {_} T.Bo uz (ae P1 aj)) aj)) aj))
   (ak (PF 4<|bX<|ae (iD T.FY (vn T) hr.mo {_} T.FZ T.ig.choose_spec.1 T.ig.choose_spec.2 aA (ae P0<|ae PM aj))<|ae (iD T.FY (vn T) hr.mo {_} T.FZ T.ig.choose_spec.1 T.ig.choose_spec.2 aA (ae P0<|ae PM aj)) aj)
   (ak (PF 5<|bX<|ae BN<|ae BN aj)
   (cI (λx=>(jV WF M (eO<|eK gL Ck (dS ai)<|dS ai) (Ri 6)
    x)) ?_))))
 refine ak (PF 7<|aq aV Ro ai)
   (ak (PF 8<|aq aV (aq aU Ro ai) ai)
   (Md (λx y=>aS (aw bH pv8 ai<|az _) x y) ?_))
 refine aB (aS (lQ<|cU<|aP (t9 T) hr.mo {_} T.GS T.vz.kp T.GV .nil aA (ae (aR aQ Qa Rn<|λ_ _=>M)<|ae P0<|ae (aR aQ Qy Rn<|λ_ _=>M)<|ae (aq aV (aq aU Ro ai) ai) aj))
    (ay<|aG BP)
    aJ) ?_
 intros
 refine ak (aS (PW.pt<|eU (aw bH (aq aV (aq aU Ro ai) ai) ai<|az _)<|dB<|aw fL (oV (gh hr) (aR aQ Qy Rn<|λ_ _=>M) bQ<|λ_ _=>M) ai<|az _)
    (ay<|PF 8<|oV (gh hr) (aR aQ Qy Rn<|λ_ _=>M) bQ<|λ_ _=>M)
    aJ)
   (aB (aS (lQ<|cU<|aP (yI T) hr.mo {_} T.K9 T.Bj.kp T.Lu .nil aA (ae (aR aQ Qa Rn<|λ_ _=>M)<|ae P0<|ae (aR aQ Qy Rn<|λ_ _=>M)<|ae pv8<|ae (aq aU Ro ai) aj))
    (ay<|aG BP)
    aJ) ?_)
 intros
 refine aB (aS (PW.pt<|mJ (aw (Nf K M hr.u20) (bn P0 T.aO T.JM (wT T) hr.mo T.JX .nil aA) (bX aj)<|az _)<|i5<|aw EB (au P0 M) ai<|az _)
    (ay<|aG BP)
    aJ) ?_
 intros
 refine aB (aG BP) ?_
 intros
 let{cs,bv,sb}:=Ct ns (some 3) (some 13);refine{_,M,_,M,_,M,sc,_,M,hS,λp1 bw=>?_};rw[bv];have d4:cs.length<=63:=Z4 sb.length_le ax;have cS:=(RZ.of (F:=λ_=>False) hS λ_ _ z=>z).new (o:= .lst<|cs.map V.int) bw;have h1:upd H p1 (.lst<|cs.map V.int) p1=some (.lst<|cs.map V.int):=ag
 (try dsimp only)
 generalize upd H p1 (.lst<|cs.map V.int)=H1 at cS h1⊢;refine{p1,cs,M,h1,d4,λH2 r2 a d F x ds d5 dc c0 c3 J l2 df e2 o2=>?_};have cS:=cS.fr (F':=Wh F d) (H':=H2) λb o _ e=>o2 b o e;refine{r2,_,M,Px.of c3,M,_,_,M,_,_,M,M,?_};clear hS h1 o2 bw bv sb c3 dc c0;obtain⟨c1,dg⟩:∃c:Int,ns.getD (1:Int).toNat 0=c:={_,M};refine{_,M,sc,ns,1,M,cS.sq,(_),?_};rw[dg];refine{_,M,d,_,x.st.kv.map (·.1),M,.inl J.di,zC,λl ms nl pm pw=>?_};have s3:=al (o:= .lst<|ms.map V.int) nl;have h3:upd H2 l (.lst<|ms.map V.int) l=some (.lst<|ms.map V.int):=ag
 (try dsimp only)
 generalize upd H2 l (.lst<|ms.map V.int)=H3 at s3 h3⊢;refine{_,l,ms,M,h3,λk hk=>J.kb k<|pm.mem_iff.mp hk,?_};intro H4 n av e s4 hn on ba be;obtain⟨kd,dh⟩:∃kd:Int,c1%3=kd:={_,M};rw[dh]at hn on;have b8:=s3.trans s4;have J4:=J.same b8;have c8:=cS.fr (Fr.of_same b8);clear s3 s4 h3 nl pm pw cS J;refine{n,kd,av,e,M,Px.of hn,on,λH5 p s5 np TK=>?_};have J5:=J4.same s5;have a2:¬F p:=J4.A.out np;have c9:=c8.fr (Fr.of_same s5);have cc:=s5 _ _ hn;clear np s5 b8 hn c8 J4
 (try dsimp only)
 refine{_,M,_,M,λc dx nc ce dm=>?_};have O:=b6 (al (o:= .own c) ce) (o:= .ins t.aY dx []) nc;refine{c,dx,a,p,kd,av,e,F,x,M,ag,J5.A.same O,TK.same O,on,λH6 dd C a3 kp=>{M,?_}};have s6:GI H5 H6:=λb o e=>kp b o (ao e nc) (O _ _ e);have a4:H5 dd=none:=cN O a3;have ed:ds.length=x.di.length:=by rw[J5.dy,Q0]
 rw[<-ed]at C;have S6:Qi K t H6 sc a d c p dd n F x ds {.ref p,av,ds.length,[],none} kd av e ns:=by
  refine{J5.same s6,C,λb hb=>?_,λz=>?_,s6 _ _ cc,Inv.begin,(c9.fr (F':=Ot F {.ref p,av,ds.length,[],none} c dd d) λb o nb eb=>{s6 _ _ eb,λz=>?_})}
  .rcases hb with(rfl|rfl|⟨P,z,_⟩)|rfl|h|⟨P,z,_⟩
   .exact J5.A.out nc
   .exact J5.A.out a4
   .cases z
   .exact a2
   .cases h;exact a2
   .cases z
  .rcases z with z|z|⟨P,z,_⟩
   .rw[<-z,J5.di]at nc;cases nc
   .rw[<-z,J5.di]at a4;cases a4
   .cases z
  .rcases z with z|(z|z|⟨P,z,_⟩)|z
   .exact nb<|.inl z
   .rw[z,nc]at eb;cases eb
   .rw[z,a4]at eb;cases eb
   .cases z
   .exact nb<|.inr z
 have aa:=TK.same s6;clear kp s6 O J5 TK cc c9 a3 a4 nc ce dm C;refine{_,M,_,M,λc' cf ah b1 cg=>?_};have O:=b6 (al (o:= .own c') b1) (o:= .ins t.aY cf []) ah;refine{c',cf,a,p,kd,av,e,F,x,M,ag,S6.J.A.same O,aa.same O,on,λH7 dd' C' a3 kp=>{M,?_}};have s7:GI H6 H7:=λb o e=>kp b o (ao e ah) (O _ _ e);have ci:H6 dd'=none:=cN O a3;rw[<-ed]at C';have S7:=S6.same s7;have Z7:∀b,PQ.adr {.ref p,av,ds.length,[],none} c' p dd' b->¬Ot F {.ref p,av,ds.length,[],none} c dd d b:=λb hb=>by
  rcases hb with(rfl|rfl|⟨P,z,_⟩)|rfl|h|⟨P,z,_⟩
  .exact S6.new ah
  .exact S6.new ci
  .cases z
  .exact S6.tk aa a2
  .cases h;exact S6.tk aa a2
  .cases z
 clear kp O a3 b1 cg ed S6;refine{(by show 2<=sizeLine;decide),λlc bh=>?_};have s8:=al (o:= .lst [.ref c,.ref c']) bh;have G:upd H7 lc (.lst [.ref c,.ref c']) lc=some (.lst [.ref c,.ref c']):=ag
 (try dsimp only)
 generalize upd H7 lc (.lst [.ref c,.ref c'])=H8 at s8 G⊢;refine λs0 a1 s1 Z=>{(by show 2<=sizeLine;decide),λls a5=>?_};have bi:upd (upd (upd H8 s0<|.dK<|Qe 0 0) s1<|.dK<|Qe 0 0) ls (.lst [.ref s0,.ref s1]) s0=some (.dK<|Qe 0 0):=al a5 _ _ (al Z _ _ ag);have bl:upd (upd (upd H8 s0<|.dK<|Qe 0 0) s1<|.dK<|Qe 0 0) ls (.lst [.ref s0,.ref s1]) s1=some (.dK<|Qe 0 0):=al a5 _ _ ag;have I:upd (upd (upd H8 s0<|.dK<|Qe 0 0) s1<|.dK<|Qe 0 0) ls (.lst [.ref s0,.ref s1]) ls=some (.lst [.ref s0,.ref s1]):=ag;have s9:=((al (o:= .dK<|Qe 0 0) a1).trans<|al (o:= .dK<|Qe 0 0) Z).trans (al (o:= .lst [.ref s0,.ref s1]) a5);have bo:H8 s1=none:=cN (al a1) Z;have b5:H8 ls=none:=cN (al a1) (cN (al Z) a5);have cj:s1≠s0:=λz=>by rw[z,ag]at Z;cases Z
 show gi 5 _ _ (upd (upd (upd H8 s0<|.dK<|Qe 0 0) s1<|.dK<|Qe 0 0) ls<|.lst [.ref s0,.ref s1]) _;generalize upd (upd (upd H8 s0<|.dK<|Qe 0 0) s1<|.dK<|Qe 0 0) ls (.lst [.ref s0,.ref s1])=H9 at bi bl I s9⊢;have S8:=S7.same s8;have C8:=C'.same s8;have T9:RP K t H9 sc a d n p c dd s0 c' dd' s1 F x ds {.ref p,av,ds.length,[],none} {.ref p,av,ds.length,[],none} 0 0 0 0 kd av e ns:=by
  have bb:Bd {.ref p,av,ds.length,[],none}:={λ_=>ba,λ_ z=>by cases z};refine{S8.same s9,{C8.same s9,λb hb z=>z.elim (Z7 b hb) λz=>?_},Inv.begin,bb,bb,bi,S8.new a1,bl,λz=>z.elim (S8.new bo) cj,λz=>?_,.inl ⟨M,M⟩,.inl ⟨M,M⟩,by rw[Jn d5,df];rfl}
  .let{o,eo,_}:=C8.dom hb;rw[z,a1]at eo;cases eo
  .let{o,eo,_}:=C8.dom z;rw[bo]at eo;cases eo
 have oc:¬F lc:=S7.J.A.out bh;have ol:¬F ls:=S8.J.A.out b5;have G:=s9 _ _ G;clear S7 S8 C8 C' Z7 s7 s8 s9 ah ci bh a1 Z a5 bo b5 bi bl aa a2;let{c5,ck,co}:=Ct ns (some 13) (some 53);unfold gi
 (try dsimp only)
 refine{_,M,_,M,_,M,sc,_,M,T9.S.cS.sq,λp5 bp=>?_};rw[ck];have dv:c5.length<=63:=Z4 co.length_le ax;have a6:=al (o:= .lst<|c5.map V.int) bp;have an:upd H9 p5 (.lst<|c5.map V.int) p5=some (.lst<|c5.map V.int):=ag;have cp:¬F p5:=T9.S.J.A.out bp
 (try dsimp only)
 generalize upd H9 p5 (.lst<|c5.map V.int)=dz at a6 an⊢;have ct:=T9.same a6;have G:=a6 _ _ G;have I:=a6 _ _ I;clear T9 a6 bp ck co;refine{p5,M,{_,E7.of an},pe (K:=K) (a:=p5) (xs:=c5.map V.int) (λi B H'=>∃(F':O')(x':PX)(a8:List DR)(X Y:PQ)(n0 m0 n1 m1:Int)(u1 u2 u3:Tg),B=[some (.ref sc),some (.ref a),some (.ref d),some (.ref p),some (.ref lc),some (.ref ls),u1,u2,u3]/\RP K t H' sc a d n p c dd s0 c' dd' s1 F' x' a8 X Y n0 m0 n1 m1 kd av e ns/\x'.now<=756/\x'.ma<=i/\(H' lc=some (.lst [.ref c,.ref c'])/\¬F' lc)/\(H' ls=some (.lst [.ref s0,.ref s1])/\¬F' ls)/\(H' p5=some (.lst<|c5.map V.int)/\¬F' p5)) {F,x,ds,_,_,_,_,_,_,none,none,none,M,ct,(),(),⟨G,oc⟩,⟨I,ol⟩,⟨an,cp⟩} (λi B H' _ w=>by let{_,_,_,_,_,_,_,_,_,_,_,_,_,_,_,_,_,_,h,_}:=w;exact E7.of h) (λi y B H' hy w=>?_)<|λB H' w=>q _};clear ct G I an oc ol cp;let{F',x',a8,X,Y,n0,m0,n1,m1,u1,u2,u3,rfl,T5,l1,l2,G,I,a0}:=w;have hi:=(Q2.mp hy).1;rw[Q0]at hi;let{g,_,rfl}:=QJ.mp (Q1 hy);have g0:=QP g (show(2:Int)≠0 by decide);have g1:=QL g (show(0:Int)<2 by decide);let{ca,da,sa,cb,db,sb,Xa,Xb,na,ma,nb,mb,U,ac,as,back}:=T5.pick (o:=g%2) ();unfold gi
 (try dsimp only)
 refine{_,M,_,_,M,M,(by show(0:Int)<2;decide),?_}
 (try dsimp only)
 refine{_,M,_,_,M,M,{(_),(_)},_,_,M,M,(by show(0:Int)<4;decide),?_}
 (try dsimp only)
 refine dw (λB H2=>∃(F2:O')(x2:PX)(br:List DR)(X Y:PQ)(n0 m0 n1 m1:Int)(u3:Tg),B=[some (.ref sc),some (.ref a),some (.ref d),some (.ref p),some (.ref lc),some (.ref ls),some (.int g),some (.int<|g%2),u3]/\RP K t H2 sc a d n p c dd s0 c' dd' s1 F2 x2 br X Y n0 m0 n1 m1 kd av e ns/\x2.now<=756/\x2.ma<=(i:Int)+1/\(H2 lc=some (.lst [.ref c,.ref c'])/\¬F2 lc)/\(H2 ls=some (.lst [.ref s0,.ref s1])/\¬F2 ls)/\(H2 p5=some (.lst<|c5.map V.int)/\¬F2 p5)) (λnx go=>?_)<|λB H2 w=>?_
 .have w0:=QP (g/2) (show(4:Int)≠0 by decide);have w1:=QL (g/2) (show(0:Int)<4 by decide);refine{_,M,M,_,M,b4 (λy=>?_)<|λy=>?_}
  .have z0:=QP (g/8) (show(4:Int)≠0 by decide);refine{_,M,_,M,lc,_,_,_,M,M,E7.of G.1,ac,_,M,_,M,_,M,ls,_,_,_,M,M,E7.of I.1,as,_,M,_,_,M,M,{(_),(_)},_,_,M,M,(by show(0:Int)<4;decide),sc,a,d,ca,p,da,n,sa,F',x',a8,Xa,kd,_,na,ma,av,e,ns,M,U.S,U.b0,U.h0,U.o0,U.t0,z0,(),λH2 X2 n2 S2 f2 h2 o2 b2 t2=>{_,M,cu ?_}};have T2:=U.go (mo:=[]) (by rwa[Zu]) f2 h2 o2 b2 t2 (by rw[Zu];exact U.cm);rw[Zu]at T2;let{X3,Y3,i0,j0,i1,j1,T3}:=back _ _ _ _ _ _ _ T2;exact go _ _ {F',x',a8,X3,Y3,i0,j0,i1,j1,_,M,T3,l1,(),{(f2 _ _ (U.off G.1 G.2) G.1).1,G.2},{(f2 _ _ (U.off I.1 I.2) I.1).1,I.2},{(f2 _ _ (U.off a0.1 a0.2) a0.1).1,a0.2}}
  .have y3:g/2%4≠3:=λz=>y (by rw[z];exact Wv M);have gn:QA H' sa (.str pU) (some<|.int na):=QA.k (k:=Sum.inr (pU:Str)) U.h0;have dn:=U.t0.n0;refine dw (λB H2=>∃w:Int,B=[some (.ref sc),some (.ref a),some (.ref d),some (.ref p),some (.ref lc),some (.ref ls),some (.int g),some (.int<|g%2),some (.int w)]/\H2=H'/\0<=w/\w<=2) (λe0 bt=>?_)<|λB H2 w=>?_
   .refine{_,M,_,_,M,M,{(_),(_)},_,_,M,M,(by show(0:Int)<2;decide),M,_,M,b4 (λy4=>?_)<|λy4=>cu<|bt _ _ {_,M,M,w0,()}};refine{_,M,_,M,ls,_,_,_,M,M,E7.of I.1,as,sa,_,M,gn,_,_,M,M,_,M,b4 (λy5=>?_)<|λy5=>bt _ _ {_,M,M,w0,()}};have y5:=Wt y5;exact{_,M,_,M,ls,_,_,_,M,M,E7.of I.1,as,sa,_,M,gn,bt _ _ {na,M,M,dn.1,()}}
   let{w,rfl,rfl,w3,w4}:=w
   (try dsimp only)
   refine{_,M,_,M,lc,_,_,_,M,M,E7.of G.1,ac,_,M,_,M,_,M,ls,_,_,_,M,M,E7.of I.1,as,_,M,_,M,_,_,M,M,{(_),(_)},sc,a,d,ca,p,da,n,sa,F',x',a8,Xa,kd,w,_,na,ma,av,e,ns,M,U.S,U.b0,be,U.h0,U.o0,U.t0,U.cm,w3,w4,(),λH2 F2 x2 mo X2 n2 m2 S2 f2 h2 o2 b2 t2 c2 l3 l4=>{_,M,cu ?_}};have T2:=U.go S2 f2 h2 o2 b2 t2 c2;let{X3,Y3,i0,j0,i1,j1,T3}:=back _ _ _ _ _ _ _ T2;let{k1,k2}:=f2 _ _ (U.off G.1 G.2) G.1;let{k3,k4}:=f2 _ _ (U.off I.1 I.2) I.1;let{k5,k6}:=f2 _ _ (U.off a0.1 a0.2) a0.1;exact go _ _ {F2,x2,_,X3,Y3,i0,j0,i1,j1,_,M,T3,(),(),{k1,λz=>k2<|.inl (.inl z)},{k3,λz=>k4<|.inl (.inl z)},{k5,λz=>k6<|.inl (.inl z)}}
 .let{F2,x2,br,X2,Y2,i0,j0,i1,j1,u4,rfl,T2,l3,l4,k1,k2,k3}:=w;let{cv,cz,d0,dp,_,d1}:=T2.S.J.A.ins
  (try dsimp only)
  refine{_,M,a,cv,cz,M,d0,dp _ ∅,a,F2,x2,M,T2.S.J.A,by rw[T2.S.J.ho];decide,λH3 l8 ms s3 e1 dq d2 _=>?_};have dr:ms=[]:=by rw[T2.S.J.ho]at d2;exact d2.eq_nil
  subst dr;refine{(by show 0<=sizeLine;decide),λe8 d3=>{l8,e8,_,M,M,E7.of<|al d3 _ _ dq,E7.of ag,_,M,cu ?_}};have s4:=s3.trans (al (o:= .lst []) d3)
  (try dsimp only)
  generalize upd H3 e8 (.lst [])=H4 at s4⊢;rw[T2.S.J.fl]at d1;refine{_,M,a,_,cv,cz,_,M,s4 _ _ d0,T.aO,T.wZ,d1,M,_,M,sr M ?_};exact{F2,x2,br,X2,Y2,i0,j0,i1,j1,_,_,_,M,T2.same s4,l3,(),{s4 _ _ k1.1,k1.2},{s4 _ _ k2.1,k2.2},{s4 _ _ k3.1,k3.2}}
end
end SW
namespace ZK
open PySem PySem.W SW L2
def fM{P:Params}{x qual:Str}{st:Stmt}{a:K'}{kV G I z ct:Sk}{O:Sy}(l:(K P).lookup a=some (f<|D x qual st N kV G I O z ct):=by kernel_rfl)(c:codeIn (K P) z qual=true:=by kernel_rfl)(k:keepIn (K P) (.ref a)=true:=by kernel_rfl):PL (K P) x qual st a (D x qual st N kV G I O z ct):=NM l c k
def nA{P:Params}{C:K'}{x:Str}(h:findIn (K P) (.ref C) x=some none:=by kernel_rfl):E8 (K P) C x:=h
def fT{P:Params}{x qual:Str}{st:Stmt}{a b:K'}{kV G I z ct:Sk}{O:Sy}(l:(K P).lookup a=some (f<|D x qual st (R b) kV G I O z ct):=by kernel_rfl)(c:codeIn (K P) z qual=true:=by kernel_rfl)(k:keepIn (K P) (.ref a)=true:=by kernel_rfl):Ob (K P) x qual st b a (D x qual st (R b) kV G I O z ct):=EW l c k
def fU{P:Params}{x qual:Str}{st:Stmt}{a b:K'}{kV G I z ct:Sk}{O:Sy}(l:(K P).lookup a=some (f<|D x qual st (R b) kV G I O z ct):=by kernel_rfl)(c:codeIn (K P) z qual=true:=by kernel_rfl)(k:keepIn (K P) (.ref a)=true:=by kernel_rfl):R3 (K P) x qual st a (D x qual st (R b) kV G I O z ct):=(EW l c k).1
def N8{P:Params}:(K P).lookup 245=some {(T oo),none,.seq #[(.int 0 495),(.int 65536 496)] 0, #[]}:=by kernel_rfl
def N7{P:Params}:(K P).lookup 272=some {(T oo),none,.seq #[(.int 0 530),N] 0, #[]}:=by kernel_rfl
def N6{P:Params}:(K P).lookup 299=some {(T oo),none,.seq #[N,(.int 0 564)] 0, #[]}:=by kernel_rfl
def N4{P:Params}:(K P).lookup 319=some {(T oo),none,.seq #[(.int 10 590),N] 0, #[]}:=by kernel_rfl
def T419{P:Params}:(K P).lookup 419=some {(T oo),none,.seq #[N] 0, #[]}:=by kernel_rfl
def T434{P:Params}:(K P).lookup 434=some {(T oo),none,.seq #[(.int 10 746)] 0, #[]}:=by kernel_rfl
def T827{P:Params}:(K P).lookup 827=some {(T oo),none,.seq #[(.int 0 1257)] 0, #[]}:=by kernel_rfl
end ZK
namespace SW
open PySem L2
set_option maxHeartbeats 0
variable{α:Type}{YP:World->Heap->Prop}
def Sj{us:List α}(hl:us.length=1):∃z,us=[z]:=by rcases us with _|⟨z,_|⟨y,t⟩⟩<;>first|exact{_,M}|simp at hl
def SQ{us:List α}(hl:us.length=2):∃z G,us=[z,G]:=by rcases us with _|⟨z,_|⟨G,_|⟨y,t⟩⟩⟩<;>first|exact{_,_,M}|simp at hl
def Sg{us:List α}(hl:us.length=3):∃z G I,us=[z,G,I]:=by rcases us with _|⟨z,_|⟨G,_|⟨I,_|⟨y,t⟩⟩⟩⟩<;>first|exact{_,_,_,M}|simp at hl
def us4{us:List α}(hl:us.length=4):∃z G I O,us=[z,G,I,O]:=by rcases us with _|⟨z,_|⟨G,_|⟨I,_|⟨O,_|⟨y,t⟩⟩⟩⟩⟩<;>first|exact{_,_,_,_,M}|simp at hl
def us5{us:List α}(hl:us.length=5):∃z G I O U,us=[z,G,I,O,U]:=by rcases us with _|⟨z,_|⟨G,_|⟨I,_|⟨O,_|⟨U,_|⟨y,t⟩⟩⟩⟩⟩⟩<;>first|exact{_,_,_,_,_,M}|simp at hl
open ZK in
def txt{P:Params}{h:Heap}{mg:Sz}(X:(ZK.K P).In h)(G:h.Ns mainGlobals mg):Txt (ZK.K P) mg ZK.t:=by
 constructor
 case g_BITS=>exact{364,Xu X G<|by kernel_rfl}
 case g_PLACES=>exact{366,Xu X G<|by kernel_rfl}
 case g_STRETCHES_A_KEY=>exact{588,Xu X G<|by kernel_rfl}
 case g_MOST_IN_LEAF=>exact{852,Xu X G<|by kernel_rfl}
 case g_LEAST_IN_TWO=>exact{854,Xu X G<|by kernel_rfl}
 case g_LEAST_SIZE=>exact{1028,Xu X G<|by kernel_rfl}
 case g_GREATEST_SIZE=>exact{1030,Xu X G<|by kernel_rfl}
 all_goals first
  |exact ZK.fM
  |exact{(by kernel_rfl),(by kernel_rfl),(by kernel_rfl)}
  |exact Xu X G<|by kernel_rfl
  |exact ZK.nA
  |exact .all λus hl=>by let{_,_,rfl}:=SQ hl;rfl
  |exact{(by kernel_rfl),(by kernel_rfl),(by kernel_rfl),(by kernel_rfl)}
  |exact .all λus hl=>by let{_,rfl}:=Sj hl;rfl
  |exact IA (by kernel_rfl) (by kernel_rfl) (by kernel_rfl)<|λz=>Ws z (_)
  |exact .all λus hl=>by let{_,_,_,rfl}:=Sg hl;rfl
  |exact PySem.W.mg_none_of X G<|by kernel_rfl
  |exact ZK.fU
  |exact{{_,_,_,_,_,_,_,_,_,_,_,_,_,_,{_}},{[ZK.t.bL],M},(by kernel_rfl),(by kernel_rfl),(by kernel_rfl),(by kernel_rfl)}
  |exact .all λus hl=>by let{_,_,_,_,rfl}:=us4 hl;rfl
  |exact IA (by kernel_rfl) (by kernel_rfl) (by kernel_rfl)<|λ_=>M
  |exact .all λus hl=>by let{_,_,_,_,_,rfl}:=us5 hl;rfl
  |exact dt (ds:=[]) 2 M (fT (a:=441)) T434 λ_ _ _ _ _ _ us hl=>by let{_,_,rfl}:=SQ hl;exact{_,M,M}
  |exact dt (ds:=[]) 2 M (fT (a:=834)) T827 λ_ _ _ _ _ _ us hl=>by let{_,_,rfl}:=SQ hl;exact{_,M,M}
  |exact dt (ds:=[]) 3 M (fT (a:=252)) N8 λ_ _ _ _ _ _ us hl=>by let{_,_,_,rfl}:=Sg hl;exact{_,M,M}
  |exact dt (ds:=[]) 3 M (fT (a:=279)) N7 λ_ _ _ _ _ _ us hl=>by let{_,_,_,rfl}:=Sg hl;exact{_,M,M}
  |exact dt (ds:=[]) 3 M (fT (a:=306)) N6 λ_ _ _ _ _ _ us hl=>by let{_,_,_,rfl}:=Sg hl;exact{_,M,M}
  |exact dt (ds:=[]) 4 M (fT (a:=324)) N4 λ_ _ _ _ _ _ us hl=>by let{_,_,_,_,rfl}:=us4 hl;exact{_,M,M}
  |exact dt (ds:=[]) 4 M (fT (a:=426)) T419 λ_ _ _ _ _ _ us hl=>by let{_,_,_,_,rfl}:=us4 hl;exact{_,M,M}
  |exact{_,dt (ds:=[(.int 0 1257)]) 1 M (fT (a:=834)) T827 λ_ _ _ _ _ _ us hl=>by let{_,rfl}:=Sj hl;exact{_,M,M},(.cons {_,M} .nil)}
  |exact{_,dt (ds:=[(.int 0 495),(.int 65536 496)]) 1 M (fT (a:=252)) N8 λ_ _ _ _ _ _ us hl=>by let{_,rfl}:=Sj hl;exact{_,M,M},(.cons {_,M}<|.cons {_,M} .nil)}
  |exact{_,dt (ds:=[(.int 0 530),N]) 1 M (fT (a:=279)) N7 λ_ _ _ _ _ _ us hl=>by let{_,rfl}:=Sj hl;exact{_,M,M},(.cons {_,M}<|.cons M .nil)}
  |exact{_,dt (ds:=[(.int 0 564)]) 2 M (fT (a:=306)) N6 λ_ _ _ _ _ _ us hl=>by let{_,_,rfl}:=SQ hl;exact{_,M,M},(.cons {_,M} .nil)}
  |exact{_,dt (ds:=[(.int 10 590),N]) 2 M (fT (a:=324)) N4 λ_ _ _ _ _ _ us hl=>by let{_,_,rfl}:=SQ hl;exact{_,M,M},(.cons {_,M}<|.cons M .nil)}
  |exact{_,dt (ds:=[(.int 10 746)]) 1 M (fT (a:=441)) T434 λ_ _ _ _ _ _ us hl=>by let{_,rfl}:=Sj hl;exact{_,M,M},(.cons {_,M} .nil)}
  |exact{_,dt (ds:=[(.int 65536 496)]) 2 M (fT (a:=252)) N8 λ_ _ _ _ _ _ us hl=>by let{_,_,rfl}:=SQ hl;exact{_,M,M},(.cons {_,M} .nil)}
  |exact{_,dt (ds:=[N,(.int 0 564)]) 1 M (fT (a:=306)) N6 λ_ _ _ _ _ _ us hl=>by let{_,rfl}:=Sj hl;exact{_,M,M},(.cons M<|.cons {_,M} .nil)}
  |exact{_,dt (ds:=[N]) 2 M (fT (a:=279)) N7 λ_ _ _ _ _ _ us hl=>by let{_,_,rfl}:=SQ hl;exact{_,M,M},(.cons M .nil)}
  |exact{_,dt (ds:=[N]) 3 M (fT (a:=324)) N4 λ_ _ _ _ _ _ us hl=>by let{_,_,_,rfl}:=Sg hl;exact{_,M,M},(.cons M .nil)}
  |exact{_,dt (ds:=[N]) 3 M (fT (a:=426)) T419 λ_ _ _ _ _ _ us hl=>by let{_,_,_,rfl}:=Sg hl;exact{_,M,M},(.cons M .nil)}
  |exact{{_,_,_,_,_,_,_,_,_,_,_,_,_,_,{_}},{[],M},(by kernel_rfl),(by kernel_rfl),(by kernel_rfl),(by kernel_rfl)}
  |exact(by kernel_rfl)
def walk{l:PySem.W.OpenLaw}{q:Sr}{loose:Sx}{XP:(Str->Option Value)->Heap->Prop}{d:DefRec}{K:Params->JZ}(U:l.most=some 63)(I:d.params.defaults=[])
  (Y:∀(w:World)(h:Heap),YP w h->(K w.params).In h) (hd:d.name="law")
  (F:∀(w:World)(mg:Str->Option Value)(h:Heap),(K w.params).In h->h.Ns mainGlobals mg->∃t,Txt (K w.params) mg t):
  PySem.W.WalkO q loose XP YP l.row.toRowW d [] (λf vs=>PySem.call f vs):=by
 refine L2.walk_of (n:=63) (k:=13) (x:=u5) (CX:=λ_=>PJ) (sp:=λw=>Hq<|K w.params) U (_) I {M,(_),(_)} Y (λw mg fa h Z G O=>?_) (λ_ _ a ns hl _ hS=>{a,ns,M,hS,hl,λ_=>M}) λ_ _ _ _ _ z=>z;let{t,T}:=F w mg h Z G;have e:=O.symm.trans ((WG mg hd).trans T.Pn);cases e;let{oc,od,kV,a0,pm,an,a1,ct,a2,e1,lk,a3}:=T.Pc.ex;refine{t.E6,λs u=>?_,λbase _ _=>Nj T};rw[e1];exact .of_eq M
end SW
open PySem PySem.W PyProof.Rows
set_option maxRecDepth 100000 in
set_option maxHeartbeats 0 in
theorem PySem.Challenge.cw_staywalk_k53_each_in_its_turn_holds : PySem.Challenge.rw_staywalk_k53_each_in_its_turn.Holds := by
 w_on
 refine holds_law ZK.said λsaid=>?_;refine holds_open (q:=ZK.q) (loose:=["BySlots","Up","Down","ask"]) (Xt:=λs=>xlAt ZK.q [] s&&recOk (RowW.records<|OpenRow.toRowW<|OpenLaw.row PySem.Challenge.rw_staywalk_k53_each_in_its_turn) s) (XP:=XL ZK.q []) (Yf:=Hook.obs ZK.H) (Ya:=Hook.val ZK.H) (YP:=Hook.says ZK.H) ZK.left (Hook.of ZK.H) (Hook.keeps ZK.H) (λs e=>xl_of s (Zj.mp e).1) XL.keeps {_} {_} {_} (λs e=>recFacts_of (Zj.mp e).2) {_} (by first|assumption|decide+kernel) ∅ ⟨M,M,M,M,M,∅⟩ ?hw ?hc
 (case hw=>w_witness2)
 exact SW.walk (l:=PySem.Challenge.rw_staywalk_k53_each_in_its_turn) M M (λw h Y=>kIn_of Y) M λw mg h KX G=>⟨_,SW.txt KX G⟩
#print axioms PySem.Challenge.cw_staywalk_k53_each_in_its_turn_holds
