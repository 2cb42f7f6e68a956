import PyProof.Rows.All
import PySem.Challenge.RW_staywalk_k82_whole_the_copy_is_the_house
import KE.KFromBytes
import KE.KIntText
import KE.KPairComp
import KE.KSortTup
import KE.KIsAll
import KE.KDictSum
import KE.KRevIter
import KE.KRevSl
import KE.KEqDict
import KE.LcSums
import KE.KDictOf
set_option Elab.async false
set_option linter.all false
set_option maxRecDepth 100000
set_option tactic.hygienic false
set_option compiler.extract_closed false
noncomputable section
local macro_rules (kind:=«term{_}»)|`({$x,*})=>`(⟨$x,*⟩)
local macro_rules|`(tactic|let $p:term:=$e)=>do
 let n:=Lean.Syntax.node .none
 let w:=λs=>n ``Lean.Parser.Tactic.rcasesPatLo #[n ``Lean.Parser.Tactic.rcasesPatMed #[Lean.mkNullNode #[s]],Lean.mkNullNode]
 let r←p.raw.rewriteBottomUpM (m:=Lean.MacroM) λs=>pure (if s.isIdent then w (n ``Lean.Parser.Tactic.rcasesPat.one #[s]) else if s.isOfKind ``Lean.Parser.Term.hole then w (n ``Lean.Parser.Tactic.rcasesPat.ignore #[s[0]]) else if s.isOfKind ``«term{_}» then w (n ``Lean.Parser.Tactic.rcasesPat.tuple s.getArgs) else if s.isOfKind Lean.choiceKind then (s.getArgs.find? (·.isOfKind ``Lean.Parser.Tactic.rcasesPatLo)).getD s else s)
 if r.isOfKind ``Lean.Parser.Tactic.rcasesPatLo then `(tactic|obtain $(⟨r[0]⟩):rcasesPatMed:=$e) else Lean.Macro.throwUnsupported
local macro_rules|`(!$n:num)=>`(nat_lit $n)
local macro_rules|`(tactic|lia)=>`(tactic|first|with_reducible (first|assumption|exact Nat.le_of_lt (by assumption)|exact Nat.le_of_not_lt (by assumption)|exact Nat.not_lt_of_le (by assumption)|exact Nat.ne_of_lt (by assumption)|exact Nat.ne_of_gt (by assumption)|exact Nat.le_succ_of_le (by assumption)|exact Nat.lt_succ_of_lt (by assumption)|exact Nat.lt_succ_of_le (by assumption)|exact Nat.lt_of_succ_lt (by assumption)|exact Nat.lt_of_lt_of_le (by assumption) (by assumption)|exact Nat.lt_of_le_of_lt (by assumption) (by assumption)|exact Nat.le_trans (by assumption) (by assumption)|exact Int.le_of_lt (by assumption)|exact Int.lt_of_lt_of_le (by assumption) (by assumption)|exact Int.lt_of_le_of_lt (by assumption) (by assumption)|exact Int.le_trans (by assumption) (by assumption))|lia +abstractProof)
local macro_rules | `(()) => `(by lia)
local macro_rules | `((_)) => `(by decide)
local macro_rules | `(∅) => `(by decide+kernel)
local macro_rules | `({_}) => `(by rfl)
abbrev M:=@rfl
local macro_rules|`(tactic|ac_rfl)=>`(tactic|(first|exact .inl M|exact .inr M|assumption))
local macro_rules|`(tactic|subst_eqs)=>`(tactic|(intro _;rfl))
local macro_rules|`(tactic|and_intros)=>`(tactic|(first|exact Or.inl M|exact Or.inr (Or.inl M)|exact Or.inr<|Or.inr M))
set_option genSizeOf false
set_option maxHeartbeats 0
abbrev Q1:=@List.length_map
abbrev Q2:=@List.mem_of_getElem?
abbrev Q3:=@List.getElem?_eq_some_iff
abbrev Q4:=@List.getElem?_eq_getElem
abbrev Q5:=@Nat.le_refl
abbrev Q6:=@List.mem_append
abbrev Q7:=@List.length_take
abbrev Q8:=@List.length_append
abbrev Q9:=@List.mem_singleton
abbrev Z0:=@Int.emod_lt_of_pos
abbrev Z1:=@Bool.false_ne_true
abbrev Z2:=@Int.emod_nonneg
abbrev Z3:=@Array.length_toList
abbrev Z4:=@List.mem_cons_self
abbrev Z5:=@List.mem_map
abbrev Z6:=@List.map_append
abbrev Z7:=@List.mem_cons_of_mem
abbrev Z8:=@List.size_toArray
abbrev Z9:=@List.append_assoc
abbrev Za:=@Nat.zero_le
abbrev Zb:=@List.mem_cons
abbrev Zc:=@List.pairwise_append
abbrev Zd:=@List.length_filter_le
abbrev Ze:=@List.getD_eq_getElem?_getD
abbrev Zf:=@List.getElem?_map
abbrev Zg:=@List.take_add_one
abbrev Zh:=@List.length_cons
abbrev Zi:=@PySem.F.plainAttrs_list
abbrev Zj:=@List.mem_filter
abbrev Zk:=@List.map_cons
abbrev Zl:=@Nat.le_trans
abbrev Zm:=@List.getElem?_set
abbrev Zn:=@List.take_length
abbrev Zo:=@List.take_of_length_le
abbrev Zp:=@List.map_map
abbrev Zq:=@List.mem_append_right
abbrev Zr:=@Nat.lt_of_lt_of_le
abbrev Zs:=@Bool.and_eq_true
abbrev Zt:=@List.filter_append
abbrev Zu:=@List.getElem_of_mem
abbrev Zv:=@List.take_append_of_le_length
abbrev Zw:=@List.length_drop
abbrev Zx:=@Int.toNat_natCast
abbrev Zy:=@PySem.F.plainAttrs_dict
abbrev Zz:=@Array.getElem?_toList
abbrev ZA:=@Nat.sub_one_lt_of_le
abbrev ZB:=@List.mem_of_mem_take
abbrev ZC:=@Bool.and_eq_true_iff
abbrev ZD:=@List.length_set
abbrev ZE:=@List.pairwise_map
abbrev ZF:=@Nat.lt_of_le_of_ne
abbrev ZG:=@Nat.ne_of_lt
abbrev ZH:=@Nat.le_of_lt
abbrev ZI:=@List.take_append_drop
abbrev ZJ:=@Array.toList_append
abbrev ZL:=@List.append_nil
abbrev ZM:=@List.nodup_cons
abbrev ZN:=@List.getElem?_append_right
abbrev ZO:=@Nat.max_eq_right
abbrev ZP:=@List.getElem?_append_left
abbrev ZQ:=@PySem.F.slot_list_append
abbrev ZR:=@PySem.F.type_list_append
abbrev ZS:=@List.length_singleton
abbrev ZT:=@Nat.le_of_eq
abbrev ZU:=@Int.ne_of_gt
abbrev ZV:=@Bool.eq_false_iff
abbrev ZW:=@List.pairwise_iff_getElem
abbrev ZX:=@List.extract_eq_take_drop
abbrev ZY:=@List.nodup_nil
abbrev ZZ:=@PySem.W.kia_one
abbrev X0:=@Bool.false_eq_true
abbrev X9:=@Int.eq_ofNat_of_zero_le
abbrev Xa:=@List.length_pos_iff
abbrev Xb:=@List.length_reverse
abbrev Xc:=@Nat.le_succ
abbrev Xd:=@List.drop_eq_getElem_cons
abbrev Xe:=@Nat.add_lt_of_lt_sub'
abbrev Xf:=@List.mem_of_mem_eraseIdx
abbrev Xg:=@List.map_take
abbrev Xh:=@List.mem_append_left
abbrev Xi:=@Array.toList_extract
abbrev Xj:=@List.drop_zero
abbrev Xk:=@List.pairwise_singleton
abbrev Xl:=@Nat.le_succ_of_le
abbrev Xm:=@List.flatten_cons
abbrev Xn:=@Nat.min_eq_left
abbrev Xo:=@List.map_congr_left
abbrev Xp:=@List.flatten_append
abbrev Xq:=@Option.map_eq_some_iff
abbrev Xr:=@List.drop_eq_nil_of_le
abbrev Xs:=@Int.le_refl
abbrev Xu:=@List.getElem_mem
abbrev Xv:=@List.not_mem_nil
abbrev Xw:=@PySem.W.callWith_K
abbrev Xx:=@List.contains_cons
abbrev Xy:=@PySem.W.methodCall_KW
abbrev Xz:=@List.length_replicate
abbrev XA:=@PySem.F.slot_dict_pop
abbrev XB:=@List.getElem?_eq_none_iff
abbrev XC:=@List.ne_nil_of_length_pos
abbrev XD:=@Nat.lt_irrefl
abbrev XE:=@List.eq_of_mem_replicate
abbrev XF:=@List.mem_map_of_mem
abbrev XG:=@List.filter_sublist
abbrev XH:=@Bool.false_and
abbrev XI:=@Nat.lt_succ_self
abbrev XJ:=@List.all_eq_true
abbrev XM:=@List.getElem?_drop
abbrev XQ:=@List.pairwise_cons
abbrev XR:=@PySem.W.mg_of
abbrev XS:=@List.getElem?_eq_none
abbrev XT:=@List.getElem_take
abbrev XU:=@Array.getElem?_eq_some_iff
abbrev XV:=@List.lookup_cons
abbrev XW:=@List.mem_flatMap
abbrev XX:=@Nat.add_le_add_left
abbrev XY:=@Option.isSome_iff_exists
abbrev XZ:=@PySem.F.slot_dict_values
abbrev V0:=@PySem.F.slot_list_extend
abbrev V1:=@PySem.F.type_list_extend
abbrev V2:=@List.find?_cons
abbrev V3:=@Nat.eq_zero_or_pos
abbrev V4:=@List.getElem?_take
abbrev V5:=@List.getElem?_set_self
abbrev V6:=@Nat.pow_succ
abbrev V7:=@Nat.mul_comm
abbrev V8:=@Nat.add_zero
abbrev V9:=@List.getElem_drop
abbrev Va:=@Nat.zero_lt_of_lt
abbrev Vb:=@List.filter_eq_nil_iff
abbrev Vc:=@List.foldl_append
abbrev Vd:=@List.perm_append_comm
abbrev Ve:=@PySem.F.type_dict_pop
abbrev Vf:=@List.filter_cons
abbrev Vg:=@List.mem_reverse
abbrev Vh:=@List.any_cons
abbrev Vi:=@List.map_drop
abbrev Vj:=@Bool.true_and
abbrev Vk:=@List.mem_iff_getElem
abbrev Vl:=@Array.push_eq_append
abbrev Vm:=@List.mem_of_mem_drop
abbrev Vn:=@List.length_nil
abbrev Vo:=@Int.lt_ediv_add_one_mul_self
abbrev Vp:=@Nat.zero_add
abbrev Vq:=@Nat.lt_of_le_of_lt
abbrev Vr:=@PySem.F.excBase_ValueError
abbrev Vs:=@Nat.pos_of_ne_zero
abbrev Vt:=@Int.mul_nonneg
abbrev Vu:=@List.perm_ext_iff_of_nodup
abbrev Vv:=@List.take_sublist
abbrev Vw:=@Nat.le_pred_of_lt
abbrev Vx:=@List.nodup_append
abbrev Vy:=@List.getElem?_nil
abbrev Vz:=@List.getElem?_take_of_lt
abbrev VA:=@List.take_nil
abbrev VB:=@PySem.F.type_dict_values
abbrev VC:=@List.any_eq_true
abbrev VD:=@PySem.F.slot_dict_items
abbrev VE:=@List.getElem?_cons_succ
abbrev VF:=@Nat.ne_of_gt
abbrev VG:=@Nat.div_div_eq_div_mul
abbrev VH:=@Int.le_of_lt
abbrev VI:=@List.map_set
abbrev VJ:=@List.drop_of_length_le
abbrev VL:=@Bool.eq_iff_iff
abbrev VM:=@Option.map_some
abbrev VN:=@Int.ediv_nonneg
abbrev VO:=@Int.mul_ediv_add_emod
abbrev VP:=@Array.getElem_push_lt
abbrev VQ:=@List.pairwise_reverse
abbrev VR:=@Array.toArray_toList
abbrev VS:=@List.getElem?_set_ne
abbrev VT:=@Nat.add_le_add_right
abbrev VU:=@List.getElem?_append
abbrev VV:=@List.length_eraseIdx
abbrev VW:=@List.take_take
abbrev VX:=@List.filterMap_cons
abbrev VY:=@PySem.W.plainGet_of
abbrev VZ:=@PySem.W.callWith_K0
abbrev W2:=@Int.toNat_of_nonneg
abbrev W8:=@List.take_succ_cons
abbrev W9:=@List.sum_cons
abbrev Wa:=@Int.natCast_nonneg
abbrev Wb:=@Nat.lt_or_eq_of_le
abbrev Wc:=@List.eraseIdx_append_of_length_le
abbrev Wd:=@Option.isSome_map
abbrev We:=@Int.mul_comm
abbrev Wf:=@Bool.or_true
abbrev Wg:=@Nat.lt_of_succ_lt
abbrev Wi:=@Nat.sub_pos_of_lt
abbrev Wj:=@Array.toList_push
abbrev Wk:=@Nat.sub_self
abbrev Wl:=@List.filter_congr
abbrev Wm:=@Bool.not_eq_true'
abbrev Wn:=@List.eraseIdxIfInBounds_toArray
abbrev Wo:=@PySem.W.kat_cons
abbrev Wp:=@List.mem_flatten
abbrev Wq:=@Nat.min_eq_right
abbrev Wr:=@Int.mul_le_mul_of_nonneg_right
abbrev Ws:=@Int.ediv_le_ediv
abbrev Wt:=@Nat.add_mul
abbrev Wu:=@Int.mul_le_mul_of_nonneg_left
abbrev Wv:=@List.of_mem_zip
abbrev Ww:=@List.nil_append
abbrev Wx:=@PySem.F.slot_dict_setdefault
abbrev Wy:=@PySem.W.kat_yes
abbrev Wz:=@List.mem_range
abbrev WA:=@Int.fdiv_eq_ediv_of_nonneg
abbrev WB:=@Nat.not_lt
abbrev WC:=@List.drop_drop
abbrev WD:=@Nat.sub_le
abbrev WE:=@Array.toList_setIfInBounds
abbrev WF:=@Array.perm_iff_toList_perm
abbrev WG:=@PySem.W.kat_go
abbrev WH:=@PySem.W.kat_no
abbrev WI:=@if_neg
abbrev WJ:=@if_pos
abbrev WK:=@PySem.Heap.get?_push_of_some
abbrev WL:=@Option.some.inj
abbrev WM:=@PyProof.Rows.wpS_bind
abbrev WN:=@absurd
abbrev WO:=@PySem.wpAny_bind
abbrev WP:=@of_decide_eq_true
abbrev WQ:=@PyProof.Rows.wpS_pure
abbrev WR:=@decide_eq_true
abbrev WS:=@PySem.Heap.lt_size
abbrev WT:=@PySem.Heap.get?_push_size
abbrev WU:=@decide_eq_false
abbrev WV:=@PySem.wpAny_pure
abbrev WW:=@beq_iff_eq
abbrev WX:=@PySem.PassesOwn.never
abbrev WY:=@decide_eq_true_eq
abbrev WZ:=@beq_eq_false_iff_ne
abbrev Y0:=@PySem.Heap.get?_update_other
abbrev Y1:=@True.intro
abbrev Y2:=@congrArg
abbrev Y3:=@PyProof.Rows.wpS_forRange
abbrev Y4:=@List.Pairwise.nil
abbrev Y5:=@PySem.wpAny_truthy_bool
abbrev Y6:=@PySem.wpAny_mono
abbrev Y7:=@of_decide_eq_false
abbrev Y8:=@List.Perm.append_right
abbrev Y9:=@List.Perm.trans
abbrev Yb:=@PyProof.Rows.wpS_modify
abbrev Yc:=@PySem.wpAny_Call_Name_kw
abbrev Yd:=@PySem.wpAny_passesOwn
abbrev Ye:=@beq_self_eq_true
abbrev Yg:=@PySem.Heap.get?_none_of_le
abbrev Yh:=@PySem.wpAny_holding
abbrev Yi:=@List.Perm.append_left
abbrev Yj:=@PyProof.Rows.wpS_mono
abbrev Yk:=@PySem.call_meetsIn
abbrev Yl:=@PyProof.Rows.wpS_get
abbrev Ym:=@PySem.wpAny_rule
abbrev Yn:=@List.Perm.of_eq
abbrev Yo:=@Prod.mk.inj
namespace L2
open PySem PySem.Spec PyProof.Rows
noncomputable def aK(s:Stmt)(j:Nat):Stmt:=match s with
 | .ClassDef _ _ _ body _ _ _ _ _ _ _=>body.getD j (.Pass {0,0,0,0})
 |_=> .Pass {0,0,0,0}
noncomputable def iK(s:Stmt):Arguments:=match s with
 | .FunctionDef _ a _ _ _ _ _ _ _ _=>a
 |_=>{posonlyargs:=[],args:=[],vararg:=none,kwonlyargs:=[],kw_defaults:=[],kwarg:=none,defaults:=[]}
noncomputable def dB(s:Stmt):List Stmt:=match s with
 | .FunctionDef _ _ b _ _ _ _ _ _ _=>b
 |_=> []
noncomputable def ak(s:Stmt):Scope:=match s with
 | .FunctionDef _ _ _ _ _ _ sc _ _ _=>sc
 |_=>{kind:= .function,names:=[],isGenerator:=false,isCoroutine:=false}
end L2
namespace HD
open PySem PySem.W
abbrev _root_.Se:=Program
abbrev _root_.Sf:=World
noncomputable def K2(p:Se)(w:Sf)(n₀:Nat)(ann:Option Value):Nat->SharedT->Thread->Option SharedT
 |0,_,_=>none
 |n+1,s,t=>match through t with
  |true=>some s
  |false=>match Fast.tw6613529449190102663 n₀ ann t with
   |false=>none
   |true=>match Fast.tw10156331382660048174 (Fast.tw11892475500146522536 Fast.tw14364793385576792824) p w s t with
    |some (s',t')=>K2 p w n₀ ann n s' t'
    |none=>none
def K0{p:Se}{w:Sf}{z:Nat}{G:Option Value}{n:Nat}{s s':SharedT}{t:Thread}(h:K2 p w z G n s t=some s'):topRun treeTable p w z G n s.abs t=some s'.abs:=by
 induction n generalizing s t with
 |zero=>cases h
 |succ n O=>
  unfold K2 at h;rw[<-Fast.te6613529449190102663,<-Fast.te10156331382660048174,<-Fast.te11892475500146522536,<-Fast.te14364793385576792824]at h;unfold topRun;cases I:through t with
  |true=>rw[I]at h;cases h;rfl
  |false=>
   rw[I]at h;cases hk:stepOk z G t with
   |false=>rw[hk]at h;cases h
   |true=>
    rw[hk]at h;cases hs:stepT (denote treeTable) p w s t with
    |none=>rw[hs]at h;cases h
    |some x=>
     let{U,Y}:=x;rw[hs]at h;show(match step (denote treeTable) p w s.abs t with| .go s' t'=>topRun treeTable p w z G n s' t'| .halt _ _=>none)=_;rw[stepT_spec hs];exact O h
noncomputable def IZ:List Obj->BT->Nat->Option (BT×Nat)
 | [],t,n=>some (t,n)
 |o::r,t,n=>match ((t.ins n o).get n).isSome with
  |true=>IZ r (t.ins n o) (n+1)
  |false=>none
theorem Fi{z:Life}:∀{l:List Obj}{t t':BT}{n n':Nat},IZ l t n=some (t',n')->absHeap t' n' z={(absHeap t n z).objs++l.toArray,z}
 | [],t,t',n,n',h=>by
  cases h;rw[Array.append_empty];rfl
 |o::r,t,t',n,n',h=>by
  unfold IZ at h;cases g:((t.ins n o).get n).isSome with
  |false=>rw[g]at h;cases h
  |true=>
   rw[g]at h;rw[Fi h,absHeap_ins g];show Heap.mk _ _=Heap.mk _ _;congr 1;show(absHeap t n z).objs.push o++r.toArray=_;rw[<-Array.append_singleton,Array.append_assoc];congr 1;simp
abbrev _root_.J':=Shared
def toT(s:J'):Option SharedT:=match IZ s.heap.objs.toList .nil 0 with
 |some (t,n)=>some ⟨t,n,s.heap.life,s.gens,s.drawn,s.toks,s.os⟩
 |none=>none
def MZ{s:J'}{S:SharedT}(h:toT s=some S):S.abs=s:=by
 unfold toT at h;cases e:IZ s.heap.objs.toList .nil 0 with
 |none=>rw[e]at h;cases h
 |some x=>
  let{t,n}:=x;rw[e]at h;cases h;let{{G,z},gens,drawn,toks,os}:=s;show Shared.mk (absHeap t n z) _ _ _ _=_;rw[Fi e];show Shared.mk (Heap.mk (#[]++G.toList.toArray) z) _ _ _ _=_;rw[VR,Array.empty_append]
def N7(p:Se)(w:Sf)(N:Nat)(s₀:J'):Option Shared:=match toT s₀ with
 |some S=>(K2 p w S.n (s₀.heap.nsMap mainGlobals "__annotations__") N S<|topStub p).map SharedT.abs
 |none=>none
def LL{p:Se}{w:Sf}{N:Nat}{s₀ s₁:J'}(h:N7 p w N s₀=some s₁):topRun treeTable p w s₀.heap.objs.size (s₀.heap.nsMap mainGlobals "__annotations__") N s₀ (topStub p)=some s₁:=by
 unfold N7 at h;cases e:toT s₀ with
 |none=>rw[e]at h;cases h
 |some S=>
  rw[e]at h;let{G,h1,rfl}:=Xq.mp h;have ea:=MZ e;have z:S.n=s₀.heap.objs.size:=by
   rw[<-ea];exact(absHeap_size _ _ _).symm
  rw[z]at h1;have:=K0 h1;rw[ea]at this;exact this
def endP(p:Se)(w:Sf)(N:Nat):Option Shared:=((Fast.tw10274390034422433532 Fast.tw14364793385576792824 (opening p) w N (start<|opening p).1 (start<|opening p).2).bind<|Fast.tw14289696077712309145 p).bind λs₀=>match s₀.heap.isNs mainGlobals&&s₀.gens.size==0 with
 |true=>(N7 p w N s₀).bind λs₁=>match staticsOk (importedModules p.main.body) s₀.heap s₁.heap&&namesBound p s₁.heap&&gensDone s₁&&laidKept s₀.heap s₁.heap with
  |true=>some s₁
  |false=>none
 |false=>none
def lA(p q:Se)(N:Nat)(w:Sf):=(endP p w N).map λs=>(Fast.tw5160383126252970620 (R.mapR (λx=>x.name)<|Fast.tw3399658132070893891 q) (Fast.tw5991557255702980513 q) [] {s with gens:= #[]},s.heap.bltView)
abbrev _root_.Sh:=List Str
def lB(p q:Se)(loose:Sh)(Xt:Shared->Bool)(N:Nat)(w:Sf):=(endP p w N).map λs=>(Fast.tw10880121769531294198 s.heap (Fast.tw821141287760084731 q loose) (R.mapR (λx=>x.name)<|Fast.tw3399658132070893891 q) (R.mapR (λx=>x.fst)<|Fast.tw7409074990110511671 q) (R.mapR (λx=>x.name)<|Fast.tw13664370479719496447 q<|Fast.tw821141287760084731 q loose)&&Fast.tw14722251495701143533 s.heap (importedModules p.main.body)&&s.heap.isNs mainGlobals&&s.heap.isNs builtinsNs&&Fast.tw10994771534591457954 q s.heap&&Xt s&&(s.gens.size==0),Fast.tw479339242167458305 q s)
def lC(p q:Se)(loose:Sh)(N:Nat)(w:Sf):=(endP p w N).map λs=>(Fast.tw16090120013241838585 q (Fast.tw3247288618530077131 q) s,Fast.tw2386780881361962483 q (Fast.tw821141287760084731 q loose) s,Fast.tw11698064438423848299 q loose s,Fast.tw7317090234206586261 q s,Fast.tw7369524293546568484 q loose s)
def left_of{p q:Se}{loose:Sh}{Xt:Shared->Bool}{α:Type}{Yf:Shared->α}{Ya:World->α}{N:Nat}(O:∀w,lA p q N w=some ((openGood q loose).1,(openGood q loose).2.1))(U:∀w,lB p q loose Xt N w=some (true,true))(Y:∀w,lC p q loose N w=some (openGood q loose).2.2.2.2)(hD:∀w,(endP p w N).map Yf=some (Ya w)):LeftO p q loose Xt Yf Ya N:=λw=>by
 let{s₁,e,a}:=Xq.mp (O w);let{_,e2,b}:=Xq.mp (U w);rw[e]at e2;cases e2;let{_,z,c}:=Xq.mp (Y w);rw[e]at z;cases z;let{_,G,d}:=Xq.mp (hD w);rw[e]at G;cases G;let{Z,a2}:=Yo a;let{b1,b2}:=Yo b;have g:Fast.tw4187177175401517315 q loose (importedModules p.main.body) Xt true s₁=openGood q loose:=by
  exact Prod.ext Z<|Prod.ext a2 (Prod.ext b1<|Prod.ext b2 c)
 rw[<-Fast.te4187177175401517315]at g;unfold endP at e;rw[<-Fast.te10274390034422433532,<-Fast.te14364793385576792824,<-Fast.te14289696077712309145]at e;let{s₀,h0,e}:=Option.bind_eq_some_iff.mp e;unfold openEnds fencedOpening;rw[h0];show(topFrom treeTable p w N s₀).map _=_;unfold topFrom;cases I:(s₀.heap.isNs mainGlobals&&s₀.gens.size==0)with
 |false=>rw[I]at e;cases e
 |true=>
  rw[I]at e;let{s₂,h1,e}:=Option.bind_eq_some_iff.mp e;show Option.map _ ((topRun treeTable p w s₀.heap.objs.size (s₀.heap.nsMap mainGlobals "__annotations__") N s₀<|topStub p).bind _)=_;rw[LL h1];cases hs:(staticsOk (importedModules p.main.body) s₀.heap s₂.heap&&namesBound p s₂.heap&&gensDone s₂&&laidKept s₀.heap s₂.heap)with
  |false=>rw[hs]at e;cases e
  |true=>
   rw[hs]at e;cases e;show Option.map _ (match (staticsOk (importedModules p.main.body) s₀.heap s₁.heap&&namesBound p s₁.heap&&gensDone s₁&&laidKept s₀.heap s₁.heap)with|true=>some s₁|false=>none)=_;rw[hs];show some (_,_)=some (_,_);rw[g,d]
end HD
namespace SW
open PySem L2
set_option maxHeartbeats 0
noncomputable def top(i:Nat):Stmt:=PySem.Challenge.pw_staywalk_k82_whole_the_copy_is_the_house.main.body.getD i (.Pass {0,0,0,0})
abbrev qA:=aK (top 5) 0
abbrev qz:=aK (top 6) 0
abbrev oA:=aK (top 7) 0
abbrev lg:=aK (top 8) 0
abbrev xw:=top 12
abbrev uP:=top 13
abbrev rL:=top 14
abbrev uN:=top 15
abbrev lY:=top 16
abbrev uO:=top 17
abbrev rM:=top 19
abbrev uR:=top 21
abbrev j8:=aK (top 22) 0
abbrev g8:=aK (top 23) 0
abbrev gw:=aK (top 23) 1
abbrev rN:=aK (top 24) 0
abbrev oz:=aK (top 24) 1
abbrev mF:=aK (top 25) 0
abbrev ku:=aK (top 25) 1
abbrev HV:=top 28
abbrev gW:=top 29
abbrev fE:=top 30
abbrev fF:=top 31
abbrev ou:=top 32
abbrev iV:=top 33
abbrev uQ:=top 35
abbrev xy:=top 36
abbrev mC:=aK (top 37) 0
abbrev mB:=aK (top 37) 1
abbrev gp:=aK (top 37) 2
abbrev gY:=aK (top 37) 3
abbrev i8:=aK (top 38) 0
abbrev d8:=aK (top 38) 1
abbrev d6:=aK (top 38) 2
abbrev dG:=aK (top 38) 3
abbrev gu:=aK (top 38) 4
abbrev c6:=aK (top 38) 5
abbrev cK:=aK (top 38) 6
abbrev i9:=aK (top 38) 7
abbrev gv:=aK (top 38) 8
abbrev g7:=aK (top 38) 9
abbrev i7:=aK (top 38) 10
abbrev gZ:=aK (top 38) 11
abbrev fK:=aK (top 38) 12
abbrev i5:=aK (top 42) 0
abbrev gM:=aK (top 42) 1
abbrev fI:=aK (top 42) 2
abbrev ko:=aK (top 42) 3
abbrev oC:=aK (top 42) 4
abbrev de:=aK (top 42) 6
abbrev cH:=aK (top 42) 7
abbrev fH:=aK (top 42) 8
abbrev dZ:=aK (top 42) 9
abbrev dF:=aK (top 42) 10
abbrev kj:=aK (top 44) 0
abbrev kh:=aK (top 44) 1
abbrev jI:=top 48
abbrev kf:=aK (top 49) 0
abbrev mq:=aK (top 49) 1
abbrev kg:=aK (top 49) 2
abbrev my:=aK (top 49) 3
abbrev mw:=aK (top 49) 4
abbrev gL:=aK (top 49) 6
abbrev oB:=aK (top 49) 7
abbrev eJ:=aK (top 49) 9
abbrev j9:=aK (top 49) 10
abbrev gl:=aK (top 49) 11
abbrev fG:=aK (top 49) 12
abbrev eT:=aK (top 49) 13
abbrev eU:=aK (top 49) 14
abbrev kq:=aK (top 51) 0
abbrev mD:=aK (top 51) 1
abbrev kr:=aK (top 51) 2
abbrev mE:=aK (top 51) 3
abbrev sX:=aK (top 51) 4
abbrev fJ:=aK (top 51) 6
abbrev i6:=aK (top 51) 7
abbrev qB:=aK (top 51) 11
abbrev kt:=aK (top 51) 15
abbrev i4:=top 53
abbrev mi:=top 54
abbrev mh:=top 55
abbrev iX:=top 56
abbrev oy:=top 57
abbrev dX:=top 58
abbrev iY:=top 59
abbrev lZ:=top 60
abbrev mj:=top 61
abbrev iZ:=top 62
abbrev mf:=top 63
abbrev gX:=top 64
abbrev ox:=top 65
abbrev iW:=top 66
abbrev mn:=top 67
abbrev j7:=top 68
abbrev EW:=top 69
set_option genInjectivity false in
structure PL where
 Du:Addr
 yu:FuncData
 AX:Addr
 vi:FuncData
 yD:Addr
 sf:FuncData
 AV:Addr
 vg:FuncData
 ud:Addr
 mU:FuncData
 AW:Addr
 vh:FuncData
 yE:Addr
 si:FuncData
 AZ:Addr
 vk:FuncData
 kW:Addr
 kG:FuncData
 nR:Addr
 c4:FuncData
 lR:Addr
 gI:FuncData
 yG:Addr
 jx:FuncData
 vG:Addr
 pC:FuncData
 ux:Addr
 gb:FuncData
 rj:Addr
 kT:FuncData
 MM:Addr
 Dm:FuncData
 nM:Addr
 ie:FuncData
 pM:Addr
 jr:FuncData
 pN:Addr
 js:FuncData
 vC:Addr
 pj:FuncData
 pL:Addr
 jq:FuncData
 AY:Addr
 vj:FuncData
 Dv:Addr
 yv:FuncData
 uu:Addr
 m9:FuncData
 ut:Addr
 m8:FuncData
 lO:Addr
 gF:FuncData
 nO:Addr
 ii:FuncData
 pV:Addr
 gf:FuncData
 iE:Addr
 eF:FuncData
 iD:Addr
 cI:FuncData
 gV:Addr
 dM:FuncData
 lP:Addr
 gG:FuncData
 gk:Addr
 c8:FuncData
 fu:Addr
 cP:FuncData
 pW:Addr
 jA:FuncData
 lQ:Addr
 gH:FuncData
 nQ:Addr
 iq:FuncData
 pU:Addr
 jz:FuncData
 nP:Addr
 io:FuncData
 jY:Addr
 gd:FuncData
 pS:Addr
 jy:FuncData
 q9:Addr
 kP:FuncData
 jW:Addr
 fY:FuncData
 qZ:Addr
 kO:FuncData
 jV:Addr
 fX:FuncData
 iC:Addr
 eE:FuncData
 jU:Addr
 fW:FuncData
 iB:Addr
 eD:FuncData
 gU:Addr
 dL:FuncData
 qY:Addr
 kN:FuncData
 qX:Addr
 kM:FuncData
 vD:Addr
 pz:FuncData
 qV:Addr
 kK:FuncData
 uo:Addr
 m5:FuncData
 qW:Addr
 kL:FuncData
 ur:Addr
 m7:FuncData
 uq:Addr
 m6:FuncData
 qU:Addr
 kJ:FuncData
 qT:Addr
 kI:FuncData
 qS:Addr
 kH:FuncData
 lN:Addr
 gE:FuncData
 jT:Addr
 fV:FuncData
 jC:Addr
 fc:FuncData
 jD:Addr
 fe:FuncData
 rc:Addr
 kQ:FuncData
 uv:Addr
 ni:FuncData
 re:Addr
 kR:FuncData
 uw:Addr
 nu:FuncData
 jX:Addr
 fZ:FuncData
 pT:Addr
 f9:FuncData
 rh:Addr
 kS:FuncData
 pR:Addr
 jw:FuncData
 ui:Addr
 mY:FuncData
 uh:Addr
 mX:FuncData
 yF:Addr
 sj:FuncData
 vF:Addr
 pB:FuncData
 iA:Addr
 eC:FuncData
 pP:Addr
 ju:FuncData
 uf:Addr
 mV:FuncData
 uj:Addr
 mZ:FuncData
 pQ:Addr
 jv:FuncData
 ug:Addr
 mW:FuncData
 nN:Addr
 ig:FuncData
 vE:Addr
 pA:FuncData
 pO:Addr
 jt:FuncData
 uk:Addr
 m4:FuncData
 qR:Addr
 kF:FuncData
 ML:Addr
 Fz:FuncData
 cE:Addr
 qi:Addr
 bW:Addr
 iM:Addr
 aX:Addr
 eP:Addr
 cQ:Addr
 bV:Addr
 aR:Addr
 bK:Addr
 gQ:Addr
 aZ:Addr
 a9:Addr
end SW
namespace ZK
open PySem PySem.W SW L2
noncomputable abbrev N:Value:= .none
noncomputable abbrev JZ(b:Bool):Value:= .bool b
noncomputable abbrev I(i:Int):Value:= .int i 0
noncomputable abbrev S(x:Str)(t:Nat):Value:= .str x t
noncomputable abbrev F(t:Nat):Value:= .str "/claim/cut.py" t
abbrev _root_.G':=Addr
noncomputable abbrev R(a:G'):Value:= .ref a
noncomputable abbrev T(n:String):Value:= .type n
abbrev _root_.P5:=Value
noncomputable abbrev E(P:Params)(x:Str)(t:Nat)(v:P5):DictEntry:={PyData.keyHash P x,.str x t,v}
abbrev _root_.Sa:=List Value
noncomputable abbrev c(vs:Sa):Obj:={.type "code",none,.fields vs.toArray, #[]}
abbrev o(n:Str)(a:Nat)(m:Str)(b d:Nat)(e g h i j:Int)(k:G')(l:Int)(r s t u:G')(v w:Int)(x:Nat):Obj:=c [S n a,S m b,F d,I e,I g,I h,I i,I j,R k,JZ true,I l,R r,N,R s,R t,R u,I v,I w,F x]
abbrev _root_.Sk:=Option Addr
abbrev D(nm qn:Str)(s:Stmt)(df kV dc pm:P5)(an:Sk)(cd ct:P5):FuncData:=fnOf nm qn (iK s) (dB s) (ak s) df kV dc pm an cd ct
abbrev _root_.Ss:=FuncData
noncomputable abbrev f(d:Ss):Obj:={.type "function",none,.func d, #[]}
abbrev d10:=λx q s r=>D x q s N N N (S "law_staywalk_k82_whole_the_copy_is_the_house" 1343) none (R r) N
abbrev d11:=λx q s r=>D x q s N N N (S "staywalk.asks" 563) none (R r) N
abbrev d12:=λx q s r=>D x q s N N N (S "staywalk.bits" 346) none (R r) N
abbrev d13:=λx q s r=>D x q s N N N (S "staywalk.copier" 616) none (R r) N
abbrev d14:=λx q s r=>D x q s N N N (S "staywalk.house" 1166) none (R r) N
abbrev d15:=λx q s r=>D x q s N N N (S "staywalk.leaves" 827) none (R r) N
abbrev d16:=λx q s r=>D x q s N N N (S "staywalk.makes" 940) none (R r) N
abbrev d17:=λx q s r=>D x q s N N N (S "staywalk.slots" 1003) none (R r) N
abbrev d18:=λx q s r=>D x q s N N N (S "staywalk.tokens" 410) none (R r) N
def t:PL:={141,d12 "turned" "turned" xw 140,148,d12 "mark_of" "mark_of" uP 147,155,d12 "place_of" "place_of" rL 154,162,d12 "slot_of" "slot_of" uN 161,169,d12 "stretch_of" "stretch_of" lY 168,176,d12 "slot_at" "slot_at" uO 175,183,D "is_whole" "is_whole" rM N N N (S "staywalk.wholes" 401) none (R 182) N,190,d18 "is_from" "is_from" uR 189,204,d18 "__init__" "Token.__init__" j8 203,233,D "__init__" "BySlots.__init__" g8 (R 226) N N (S "staywalk.tokens" 410) none (R 232) N,240,d18 "holds" "BySlots.holds" gw 239,260,D "__init__" "Up.__init__" rN (R 253) N N (S "staywalk.tokens" 410) none (R 259) N,267,d18 "holds" "Up.holds" oz 266,287,D "__init__" "Down.__init__" mF (R 280) N N (S "staywalk.tokens" 410) none (R 286) N,294,d18 "holds" "Down.holds" ku 293,305,D "ask" "ask" HV (R 300) N N (S "staywalk.asks" 563) none (R 304) N,312,d11 "page_by_slots" "page_by_slots" gW 311,317,d11 "page_by_keys" "page_by_keys" fE 316,322,d11 "keys_of_page" "keys_of_page" fF 321,329,d11 "keys_near" "keys_near" ou 328,336,d11 "token_behind" "token_behind" iV 335,343,d13 "is_left" "is_left" uQ 342,350,d13 "change" "change" xy 349,364,d13 "__init__" "Page.__init__" mC 363,371,d13 "read" "Page.read" mB 370,378,d13 "in_piece" "Page.in_piece" gp 377,385,d13 "outcome" "Page.outcome" gY 384,407,D "__init__" "Copier.__init__" i8 (R 400) N N (S "staywalk.copier" 616) none (R 406) N,414,d13 "open_page" "Copier.open_page" d8 413,422,D "read_page" "Copier.read_page" d6 (R 415) N N (S "staywalk.copier" 616) none (R 421) N,429,d13 "close_page" "Copier.close_page" dG 428,436,d13 "follow" "Copier.follow" gu 435,443,d13 "follow_mark" "Copier.follow_mark" c6 442,450,d13 "follow_change" "Copier.follow_change" cK 449,457,d13 "copy" "Copier.copy" i9 456,464,d13 "covers" "Copier.covers" gv 463,471,d13 "place" "Copier.place" g7 470,478,d13 "left" "Copier.left" i7 477,485,d13 "total" "Copier.total" gZ 484,492,d13 "stopped" "Copier.stopped" fK 491,513,d15 "__init__" "Leaves.__init__" i5 512,518,d15 "add" "Leaves.add" gM 517,525,d15 "discard" "Leaves.discard" fI 524,532,d15 "has" "Leaves.has" ko 531,549,d15 "from_on" "Leaves.from_on" de 548,554,d15 "down_from" "Leaves.down_from" cH 553,561,d15 "leaf_of" "Leaves.leaf_of" fH 560,568,d15 "part_leaf" "Leaves.part_leaf" dZ 567,575,d15 "join_small" "Leaves.join_small" dF 574,596,d16 "__init__" "Makes.__init__" kj 595,603,d16 "note" "Makes.note" kh 602,636,d17 "empty_row" "empty_row" jI 635,650,d17 "__init__" "Slots.__init__" kf 649,657,d17 "put" "Slots.put" mq 656,664,d17 "drop" "Slots.drop" kg 663,671,d17 "get" "Slots.get" my 670,678,d17 "has" "Slots.has" mw 677,690,d17 "rows" "Slots.rows" gL 689,709,d17 "span" "Slots.span" eJ 708,716,d17 "stop" "Slots.stop" j9 715,723,d17 "cell_of" "Slots.cell_of" gl 722,730,d17 "lying_at" "Slots.lying_at" fG 729,737,d17 "move_slot" "Slots.move_slot" eT 736,744,d17 "begin_row" "Slots.begin_row" eU 743,765,d14 "__init__" "House.__init__" kq 764,772,d14 "put" "House.put" mD 771,779,d14 "drop" "House.drop" kr 778,786,d14 "get" "House.get" mE 785,807,d14 "lay_mark" "House.lay_mark" fJ 806,815,D "diary" "House.diary" i6 (R 808) N N (S "staywalk.house" 1166) none (R 814) N,872,d14 "done" "House.done" kt 871,900,d10 "_law_cell_at" "_law_cell_at" i4 899,907,d10 "_law_mixed" "_law_mixed" mi 906,914,d10 "_law_place" "_law_place" mh 913,919,d10 "_law_run" "_law_run" iX 918,926,d10 "_law_deed" "_law_deed" oy 925,933,d10 "_law_numbers_told" "_law_numbers_told" dX 932,940,d10 "_law_numbers" "_law_numbers" iY 939,947,d10 "_law_token" "_law_token" lZ 946,954,d10 "_law_holds" "_law_holds" mj 953,961,d10 "_law_covered" "_law_covered" iZ 960,968,d10 "_law_table" "_law_table" mf 967,975,d10 "_law_is_right" "_law_is_right" gX 974,982,d10 "_law_turn" "_law_turn" ox 981,989,d10 "_law_stepped" "_law_stepped" iW 988,996,d10 "_law_grown" "_law_grown" mn 995,1003,d10 "_law_wholly" "_law_wholly" j7 1002,1008,d10 "law" "law" EW 1007,31,44,56,214,243,270,297,388,495,578,627,747,889}
abbrev ob(n m:Str)(a:Nat)(e g:Int)(k:G')(v:Nat):=o n a m (a+1) (a+2) e g 0 0 3 k 181 (k+1) (k+2) (k+3) (k+4) v e (v+1)
abbrev oa(n:Str):=ob n n
abbrev ea(P:Params)(x:Str)(t:Nat)(a:G'):=E P x t (R a)
def K:Params->Frag:=λP=>(!2,{N,none,.dict #[] 0, #[]})::
(!3,{(T "dict"),none,.dict #[E P "__name__" 165 (S "law_staywalk_k82_whole_the_copy_is_the_house" 1343),E P "__doc__" 166 N,E P "__package__" 167 N,E P "__loader__" 168 (.builtin "__main__.__loader__#opaque"),E P "__spec__" 169 N,ea P "__annotations__" 170 6,ea P "__builtins__" 171 4,E P "__file__" 173 (S "/claim/cut.py" 172),E P "__cached__" 174 N,ea P "_wall" 193 21,ea P "WalkError" 213 31,ea P "NoToken" 229 44,ea P "OutOfTurn" 245 56,ea P "NoKey" 270 75,ea P "Twice" 295 94,ea P "TooOld" 320 113,ea P "NoMoment" 345 132,E P "BITS" 349 (.int 16 348),E P "PLACES" 351 (.int 65536 350),ea P "turned" 361 141,ea P "mark_of" 368 148,ea P "place_of" 375 155,ea P "slot_of" 383 162,ea P "stretch_of" 392 169,ea P "slot_at" 400 176,ea P "is_whole" 409 183,ea P "is_from" 419 190,ea P "Token" 459 214,ea P "BySlots" 494 243,ea P "Up" 528 270,ea P "Down" 562 297,E P "STRETCHES_A_KEY" 566 (.int 4 565),ea P "ask" 573 305,ea P "page_by_slots" 586 312,ea P "page_by_keys" 592 317,ea P "keys_of_page" 598 322,ea P "keys_near" 607 329,ea P "token_behind" 615 336,ea P "is_left" 625 343,ea P "change" 633 350,ea P "Page" 693 388,ea P "Copier" 826 495,E P "MOST_IN_LEAF" 830 (.int 8 829),E P "LEAST_IN_TWO" 832 (.int 5 831),ea P "Leaves" 939 578,ea P "Makes" 1002 627,E P "LEAST_SIZE" 1006 (.int 4 1005),E P "GREATEST_SIZE" 1008 (.int 256 1007),ea P "empty_row" 1014 636,ea P "Slots" 1165 747,ea P "House" 1342 889,ea P "_law_cell_at" 1352 900,ea P "_law_mixed" 1361 907,ea P "_law_place" 1369 914,ea P "_law_run" 1375 919,ea P "_law_deed" 1387 926,ea P "_law_numbers_told" 1397 933,ea P "_law_numbers" 1409 940,ea P "_law_token" 1416 947,ea P "_law_holds" 1427 954,ea P "_law_covered" 1436 961,ea P "_law_table" 1445 968,ea P "_law_is_right" 1461 975,ea P "_law_turn" 1470 982,ea P "_law_stepped" 1480 989,ea P "_law_grown" 1491 996,ea P "_law_wholly" 1504 1003,ea P "law" 1510 1008] 68, #[]})::
(!30,{(T "dict"),none,.dict #[E P "__module__" 203 (S "staywalk.errors" 194),E P "__firstlineno__" 207 (.int 5 206),ea P "__static_attributes__" 208 29,ea P "__weakref__" 210 32,E P "__doc__" 211 N] 3, #[]})::
(!31,{(T "type"),none,.cls {"WalkError",[(T "ValueError")],[(R 31),(T "ValueError"),(T "Exception"),(T "BaseException"),(T "object")],30,"WalkError",true,[],[(R 44),(R 56),(R 75),(R 94),(R 113),(R 132)],false,none,false}, #[some (R 22),none,some (S "WalkError" 196),some (S "WalkError" 204),some (.builtin "ValueError.__new__"),some (JZ true)]})::
(!43,{(T "dict"),none,.dict #[E P "__module__" 221 (S "staywalk.errors" 194),E P "__firstlineno__" 225 (.int 7 224),ea P "__static_attributes__" 226 42,E P "__doc__" 227 N] 2, #[]})::
(!44,{(T "type"),none,.cls {"NoToken",[(R 31)],[(R 44),(R 31),(T "ValueError"),(T "Exception"),(T "BaseException"),(T "object")],43,"NoToken",true,[],[],false,none,false}, #[some (R 35),none,some (S "NoToken" 214),some (S "NoToken" 222),some (.builtin "ValueError.__new__"),some (JZ true)]})::
(!55,{(T "dict"),none,.dict #[E P "__module__" 237 (S "staywalk.errors" 194),E P "__firstlineno__" 241 (.int 9 240),ea P "__static_attributes__" 242 54,E P "__doc__" 243 N] 2, #[]})::
(!56,{(T "type"),none,.cls {"OutOfTurn",[(R 31)],[(R 56),(R 31),(T "ValueError"),(T "Exception"),(T "BaseException"),(T "object")],55,"OutOfTurn",true,[],[],false,none,false}, #[some (R 47),none,some (S "OutOfTurn" 230),some (S "OutOfTurn" 238),some (.builtin "ValueError.__new__"),some (JZ true)]})::
(!140,oa "turned" 352 34 1 135 359)::
(!141,f t.yu)::
(!147,oa "mark_of" 362 41 1 142 366)::
(!148,f t.vi)::
(!154,oa "place_of" 369 43 1 149 373)::
(!155,f t.sf)::
(!161,oa "slot_of" 376 45 2 156 381)::
(!162,f t.vg)::
(!168,oa "stretch_of" 384 47 2 163 390)::
(!169,f t.mU)::
(!175,oa "slot_at" 393 50 2 170 398)::
(!176,f t.vh)::
(!182,oa "is_whole" 403 53 1 177 407)::
(!183,f t.si)::
(!189,oa "is_from" 412 56 2 184 417)::
(!190,f t.vk)::
(!203,ob "__init__" "Token.__init__" 432 60 4 198 439)::
(!204,f t.kG)::
(!213,{(T "dict"),none,.dict #[E P "__module__" 427 (S "staywalk.tokens" 410),E P "__firstlineno__" 431 (.int 58 430),ea P "__init__" 441 204,ea P "words" 448 211,ea P "__static_attributes__" 452 212,ea P "__dict__" 454 215,ea P "__weakref__" 456 216,E P "__doc__" 457 N] 4, #[]})::
(!214,{(T "type"),none,.cls {"Token",[(T "object")],[(R 214),(T "object")],213,"Token",true,[],[(R 243),(R 270),(R 297)],false,none,false}, #[none,none,some (S "Token" 420),some (S "Token" 428),some (.builtin "object.__new__"),some (JZ true)]})::
(!226,{(T "tuple"),none,.seq #[(.int 0 472),(.int 65536 473)] 0, #[]})::
(!232,ob "__init__" "BySlots.__init__" 474 69 3 227 480)::
(!233,f t.c4)::
(!239,ob "holds" "BySlots.holds" 483 74 2 234 488)::
(!240,f t.gI)::
(!242,{(T "dict"),none,.dict #[E P "__module__" 467 (S "staywalk.tokens" 410),E P "__firstlineno__" 471 (.int 67 470),ea P "__init__" 482 233,ea P "holds" 490 240,ea P "__static_attributes__" 491 241,E P "__doc__" 492 N] 2, #[]})::
(!243,{(T "type"),none,.cls {"BySlots",[(R 214)],[(R 243),(R 214),(T "object")],242,"BySlots",true,[],[],false,none,false}, #[some (R 219),none,some (S "BySlots" 460),some (S "BySlots" 468),some (.builtin "object.__new__"),some (JZ true)]})::
(!253,{(T "tuple"),none,.seq #[(.int 0 507),N] 0, #[]})::
(!259,ob "__init__" "Up.__init__" 508 78 3 254 514)::
(!260,f t.jx)::
(!266,ob "holds" "Up.holds" 517 83 2 261 522)::
(!267,f t.pC)::
(!269,{(T "dict"),none,.dict #[E P "__module__" 502 (S "staywalk.tokens" 410),E P "__firstlineno__" 506 (.int 76 505),ea P "__init__" 516 260,ea P "holds" 524 267,ea P "__static_attributes__" 525 268,E P "__doc__" 526 N] 2, #[]})::
(!270,{(T "type"),none,.cls {"Up",[(R 214)],[(R 270),(R 214),(T "object")],269,"Up",true,[],[],false,none,false}, #[some (R 246),none,some (S "Up" 495),some (S "Up" 503),some (.builtin "object.__new__"),some (JZ true)]})::
(!280,{(T "tuple"),none,.seq #[N,(.int 0 541)] 0, #[]})::
(!286,ob "__init__" "Down.__init__" 542 87 3 281 548)::
(!287,f t.gb)::
(!293,ob "holds" "Down.holds" 551 92 2 288 556)::
(!294,f t.kT)::
(!296,{(T "dict"),none,.dict #[E P "__module__" 536 (S "staywalk.tokens" 410),E P "__firstlineno__" 540 (.int 85 539),ea P "__init__" 550 287,ea P "holds" 558 294,ea P "__static_attributes__" 559 295,E P "__doc__" 560 N] 2, #[]})::
(!297,{(T "type"),none,.cls {"Down",[(R 214)],[(R 297),(R 214),(T "object")],296,"Down",true,[],[],false,none,false}, #[some (R 273),none,some (S "Down" 529),some (S "Down" 537),some (.builtin "object.__new__"),some (JZ true)]})::
(!300,{(T "tuple"),none,.seq #[(.int 10 567),N] 0, #[]})::
(!304,c [(S "ask" 568),(S "ask" 569),(F 570),(I 96),(I 4),(I 0),(I 0),(I 3),(R 301),(JZ true),(I 181),(R 302),N,N,N,(R 303),(I 571),(I 96),(F 572)])::
(!305,f t.Dm)::
(!311,oa "page_by_slots" 574 104 3 306 584)::
(!312,f t.ie)::
(!316,c [(S "page_by_keys" 587),(S "page_by_keys" 588),(F 589),(I 118),(I 3),(I 0),(I 0),(I 3),(R 313),(JZ true),(I 181),(R 314),N,N,N,(R 315),(I 590),(I 118),(F 591)])::
(!317,f t.jr)::
(!321,c [(S "keys_of_page" 593),(S "keys_of_page" 594),(F 595),(I 121),(I 3),(I 0),(I 0),(I 3),(R 318),(JZ true),(I 181),(R 319),N,N,N,(R 320),(I 596),(I 121),(F 597)])::
(!322,f t.js)::
(!328,oa "keys_near" 599 130 3 323 605)::
(!329,f t.pj)::
(!335,oa "token_behind" 608 134 2 330 613)::
(!336,f t.jq)::
(!342,oa "is_left" 618 139 2 337 623)::
(!343,f t.vj)::
(!349,oa "change" 626 141 2 344 631)::
(!350,f t.yv)::
(!363,ob "__init__" "Page.__init__" 646 148 2 358 651)::
(!364,f t.m9)::
(!370,ob "read" "Page.read" 654 155 3 365 661)::
(!371,f t.m8)::
(!377,ob "in_piece" "Page.in_piece" 664 160 2 372 669)::
(!378,f t.gF)::
(!384,ob "outcome" "Page.outcome" 672 163 1 379 678)::
(!385,f t.ii)::
(!387,{(T "dict"),none,.dict #[E P "__module__" 641 (S "staywalk.copier" 616),E P "__firstlineno__" 645 (.int 146 644),ea P "__init__" 653 364,ea P "read" 663 371,ea P "in_piece" 671 378,ea P "outcome" 680 385,ea P "__static_attributes__" 686 386,ea P "__dict__" 688 389,ea P "__weakref__" 690 390,E P "__doc__" 691 N] 4, #[]})::
(!388,{(T "type"),none,.cls {"Page",[(T "object")],[(R 388),(T "object")],387,"Page",true,[],[],false,none,false}, #[none,none,some (S "Page" 634),some (S "Page" 642),some (.builtin "object.__new__"),some (JZ true)]})::
(!400,{(T "tuple"),none,.seq #[N] 0, #[]})::
(!406,ob "__init__" "Copier.__init__" 706 170 4 401 713)::
(!407,f t.gf)::
(!413,ob "open_page" "Copier.open_page" 716 180 1 408 720)::
(!414,f t.eF)::
(!415,{(T "tuple"),none,.seq #[(.int 10 723)] 0, #[]})::
(!421,ob "read_page" "Copier.read_page" 724 188 2 416 730)::
(!422,f t.cI)::
(!428,ob "close_page" "Copier.close_page" 733 195 1 423 738)::
(!429,f t.dM)::
(!435,ob "follow" "Copier.follow" 741 202 2 430 748)::
(!436,f t.gG)::
(!442,ob "follow_mark" "Copier.follow_mark" 751 212 2 437 757)::
(!443,f t.c8)::
(!449,ob "follow_change" "Copier.follow_change" 760 220 2 444 767)::
(!450,f t.cP)::
(!456,ob "copy" "Copier.copy" 770 228 1 451 774)::
(!457,f t.jA)::
(!463,ob "covers" "Copier.covers" 777 231 2 458 782)::
(!464,f t.gH)::
(!470,ob "place" "Copier.place" 785 234 1 465 789)::
(!471,f t.iq)::
(!477,ob "left" "Copier.left" 792 237 1 472 796)::
(!478,f t.jz)::
(!484,ob "total" "Copier.total" 799 240 1 479 803)::
(!485,f t.io)::
(!491,ob "stopped" "Copier.stopped" 806 243 1 486 810)::
(!492,f t.gd)::
(!494,{(T "dict"),none,.dict #[E P "__module__" 701 (S "staywalk.copier" 616),E P "__firstlineno__" 705 (.int 168 704),ea P "__init__" 715 407,ea P "open_page" 722 414,ea P "read_page" 732 422,ea P "close_page" 740 429,ea P "follow" 750 436,ea P "follow_mark" 759 443,ea P "follow_change" 769 450,ea P "copy" 776 457,ea P "covers" 784 464,ea P "place" 791 471,ea P "left" 798 478,ea P "total" 805 485,ea P "stopped" 812 492,ea P "__static_attributes__" 819 493,ea P "__dict__" 821 496,ea P "__weakref__" 823 497,E P "__doc__" 824 N] 4, #[]})::
(!495,{(T "type"),none,.cls {"Copier",[(T "object")],[(R 495),(T "object")],494,"Copier",true,[],[],false,none,false}, #[none,none,some (S "Copier" 694),some (S "Copier" 702),some (.builtin "object.__new__"),some (JZ true)]})::
(!512,ob "__init__" "Leaves.__init__" 845 250 1 507 849)::
(!513,f t.jy)::
(!517,c [(S "add" 852),(S "Leaves.add" 853),(F 854),(I 253),(I 2),(I 0),(I 0),(I 3),(R 514),(JZ true),(I 181),(R 515),N,N,N,(R 516),(I 855),(I 253),(F 856)])::
(!518,f t.kP)::
(!524,ob "discard" "Leaves.discard" 858 265 2 519 864)::
(!525,f t.fY)::
(!531,ob "has" "Leaves.has" 867 276 2 526 873)::
(!532,f t.kO)::
(!536,c [(S "many" 876),(S "Leaves.many" 877),(F 878),(I 280),(I 1),(I 0),(I 0),(I 3),(R 533),(JZ true),(I 181),(R 534),N,N,N,(R 535),(I 879),(I 280),(F 880)])::
(!548,c [(S "from_on" 889),(S "Leaves.from_on" 890),(F 891),(I 286),(I 3),(I 0),(I 0),(I 3),(R 545),(JZ true),(I 181),(R 546),N,N,N,(R 547),(I 892),(I 286),(F 893)])::
(!549,f t.fX)::
(!553,c [(S "down_from" 895),(S "Leaves.down_from" 896),(F 897),(I 294),(I 3),(I 0),(I 0),(I 3),(R 550),(JZ true),(I 181),(R 551),N,N,N,(R 552),(I 898),(I 294),(F 899)])::
(!554,f t.eE)::
(!560,ob "leaf_of" "Leaves.leaf_of" 901 304 2 555 909)::
(!561,f t.fW)::
(!567,ob "part_leaf" "Leaves.part_leaf" 912 315 2 562 919)::
(!568,f t.eD)::
(!574,ob "join_small" "Leaves.join_small" 922 321 2 569 928)::
(!575,f t.dL)::
(!577,{(T "dict"),none,.dict #[E P "__module__" 840 (S "staywalk.leaves" 827),E P "__firstlineno__" 844 (.int 248 843),ea P "__init__" 851 513,ea P "add" 857 518,ea P "discard" 866 525,ea P "has" 875 532,ea P "many" 881 537,ea P "all_of" 888 544,ea P "from_on" 894 549,ea P "down_from" 900 554,ea P "leaf_of" 911 561,ea P "part_leaf" 921 568,ea P "join_small" 930 575,ea P "__static_attributes__" 932 576,ea P "__dict__" 934 579,ea P "__weakref__" 936 580,E P "__doc__" 937 N] 4, #[]})::
(!578,{(T "type"),none,.cls {"Leaves",[(T "object")],[(R 578),(T "object")],577,"Leaves",true,[],[],false,none,false}, #[none,none,some (S "Leaves" 833),some (S "Leaves" 841),some (.builtin "object.__new__"),some (JZ true)]})::
(!595,ob "__init__" "Makes.__init__" 954 331 1 590 958)::
(!596,f t.kN)::
(!602,ob "note" "Makes.note" 961 334 3 597 967)::
(!603,f t.kM)::
(!626,{(T "dict"),none,.dict #[E P "__module__" 949 (S "staywalk.makes" 940),E P "__firstlineno__" 953 (.int 329 952),ea P "__init__" 960 596,ea P "note" 969 603,ea P "all_told" 976 610,ea P "value_at" 985 617,ea P "sweep" 993 624,ea P "__static_attributes__" 995 625,ea P "__dict__" 997 628,ea P "__weakref__" 999 629,E P "__doc__" 1000 N] 4, #[]})::
(!627,{(T "type"),none,.cls {"Makes",[(T "object")],[(R 627),(T "object")],626,"Makes",true,[],[],false,none,false}, #[none,none,some (S "Makes" 942),some (S "Makes" 950),some (.builtin "object.__new__"),some (JZ true)]})::
(!635,c [(S "empty_row" 1009),(S "empty_row" 1010),(F 1011),(I 351),(I 1),(I 0),(I 0),(I 3),(R 632),(JZ true),(I 181),(R 633),N,N,N,(R 634),(I 1012),(I 351),(F 1013)])::
(!636,f t.pz)::
(!649,ob "__init__" "Slots.__init__" 1027 355 1 644 1031)::
(!650,f t.kK)::
(!656,ob "put" "Slots.put" 1034 360 3 651 1041)::
(!657,f t.m5)::
(!663,ob "drop" "Slots.drop" 1044 368 2 658 1049)::
(!664,f t.kL)::
(!670,ob "get" "Slots.get" 1052 376 2 665 1058)::
(!671,f t.m7)::
(!677,ob "has" "Slots.has" 1061 382 2 672 1066)::
(!678,f t.m6)::
(!689,c [(S "rows" 1076),(S "Slots.rows" 1077),(F 1078),(I 388),(I 1),(I 0),(I 0),(I 3),(R 686),(JZ true),(I 181),(R 687),N,N,N,(R 688),(I 1079),(I 388),(F 1080)])::
(!690,f t.kJ)::
(!708,c [(S "span" 1096),(S "Slots.span" 1097),(F 1098),(I 397),(I 3),(I 0),(I 0),(I 3),(R 705),(JZ true),(I 181),(R 706),N,N,N,(R 707),(I 1099),(I 397),(F 1100)])::
(!709,f t.kI)::
(!715,ob "stop" "Slots.stop" 1102 407 2 710 1108)::
(!716,f t.kH)::
(!722,ob "cell_of" "Slots.cell_of" 1111 411 2 717 1119)::
(!723,f t.gE)::
(!729,ob "lying_at" "Slots.lying_at" 1122 419 2 724 1133)::
(!730,f t.fV)::
(!736,ob "move_slot" "Slots.move_slot" 1136 428 1 731 1144)::
(!737,f t.fc)::
(!743,ob "begin_row" "Slots.begin_row" 1147 441 1 738 1152)::
(!744,f t.fe)::
(!746,{(T "dict"),none,.dict #[E P "__module__" 1022 (S "staywalk.slots" 1003),E P "__firstlineno__" 1026 (.int 353 1025),ea P "__init__" 1033 650,ea P "put" 1043 657,ea P "drop" 1051 664,ea P "get" 1060 671,ea P "has" 1068 678,ea P "many" 1075 685,ea P "rows" 1081 690,ea P "moved" 1088 697,ea P "cells" 1095 704,ea P "span" 1101 709,ea P "stop" 1110 716,ea P "cell_of" 1121 723,ea P "lying_at" 1135 730,ea P "move_slot" 1146 737,ea P "begin_row" 1154 744,ea P "__static_attributes__" 1158 745,ea P "__dict__" 1160 748,ea P "__weakref__" 1162 749,E P "__doc__" 1163 N] 4, #[]})::
(!747,{(T "type"),none,.cls {"Slots",[(T "object")],[(R 747),(T "object")],746,"Slots",true,[],[],false,none,false}, #[none,none,some (S "Slots" 1015),some (S "Slots" 1023),some (.builtin "object.__new__"),some (JZ true)]})::
(!764,ob "__init__" "House.__init__" 1180 452 1 759 1184)::
(!765,f t.kQ)::
(!771,ob "put" "House.put" 1187 462 3 766 1193)::
(!772,f t.ni)::
(!778,ob "drop" "House.drop" 1196 468 2 773 1201)::
(!779,f t.kR)::
(!785,ob "get" "House.get" 1204 473 2 780 1209)::
(!786,f t.nu)::
(!806,ob "lay_mark" "House.lay_mark" 1227 482 1 801 1231)::
(!807,f t.fZ)::
(!808,{(T "tuple"),none,.seq #[(.int 0 1234)] 0, #[]})::
(!814,ob "diary" "House.diary" 1235 487 2 809 1240)::
(!815,f t.f9)::
(!871,ob "done" "House.done" 1300 512 3 866 1307)::
(!872,f t.kS)::
(!888,{(T "dict"),none,.dict #[E P "__module__" 1175 (S "staywalk.house" 1166),E P "__firstlineno__" 1179 (.int 450 1178),ea P "__init__" 1186 765,ea P "put" 1195 772,ea P "drop" 1203 779,ea P "get" 1211 786,ea P "has" 1219 793,ea P "many" 1226 800,ea P "lay_mark" 1233 807,ea P "diary" 1242 815,ea P "makes" 1250 822,ea P "hold" 1257 829,ea P "let_go" 1265 836,ea P "held" 1272 843,ea P "sweep" 1279 850,ea P "was" 1288 857,ea P "page_at" 1299 865,ea P "done" 1309 872,ea P "refuse_outside" 1317 879,ea P "value_then" 1326 886,ea P "__static_attributes__" 1335 887,ea P "__dict__" 1337 890,ea P "__weakref__" 1339 891,E P "__doc__" 1340 N] 4, #[]})::
(!889,{(T "type"),none,.cls {"House",[(T "object")],[(R 889),(T "object")],888,"House",true,[],[],false,none,false}, #[none,none,some (S "House" 1168),some (S "House" 1176),some (.builtin "object.__new__"),some (JZ true)]})::
(!899,oa "_law_cell_at" 1345 528 2 894 1350)::
(!900,f t.jw)::
(!906,oa "_law_mixed" 1353 532 2 901 1359)::
(!907,f t.mY)::
(!913,oa "_law_place" 1362 535 1 908 1367)::
(!914,f t.mX)::
(!918,c [(S "_law_run" 1370),(S "_law_run" 1371),(F 1372),(I 541),(I 1),(I 0),(I 0),(I 3),(R 915),(JZ true),(I 181),(R 916),N,N,N,(R 917),(I 1373),(I 541),(F 1374)])::
(!919,f t.sj)::
(!925,oa "_law_deed" 1376 558 3 920 1385)::
(!926,f t.pB)::
(!932,oa "_law_numbers_told" 1388 571 2 927 1395)::
(!933,f t.eC)::
(!939,oa "_law_numbers" 1398 582 2 934 1407)::
(!940,f t.ju)::
(!946,oa "_law_token" 1410 600 1 941 1414)::
(!947,f t.mV)::
(!953,oa "_law_holds" 1417 606 2 948 1425)::
(!954,f t.mZ)::
(!960,oa "_law_covered" 1428 613 3 955 1434)::
(!961,f t.jv)::
(!967,oa "_law_table" 1437 617 1 962 1443)::
(!968,f t.mW)::
(!974,oa "_law_is_right" 1446 625 3 969 1459)::
(!975,f t.ig)::
(!981,oa "_law_turn" 1462 641 2 976 1468)::
(!982,f t.pA)::
(!988,oa "_law_stepped" 1471 653 4 983 1478)::
(!989,f t.jt)::
(!995,oa "_law_grown" 1481 662 4 990 1489)::
(!996,f t.m4)::
(!1002,oa "_law_wholly" 1492 667 4 997 1502)::
(!1003,f t.kF)::
(!1007,c [(S "law" 1505),(S "law" 1506),(F 1507),(I 682),(I 1),(I 0),(I 0),(I 3),(R 1004),(JZ true),(I 181),(R 1005),N,N,N,(R 1006),(I 1508),(I 682),(F 1509)])::
(!1008,f t.Fz)::[]
noncomputable abbrev as:List Addr:=[2,3,30,31,43,44,55,56,140,141,147,148,154,155,161,162,168,169,175,176,182,183,189,190,203,204,213,214,226,232,233,239,240,242,243,253,259,260,266,267,269,270,280,286,287,293,294,296,297,300,304,305,311,312,316,317,321,322,328,329,335,336,342,343,349,350,363,364,370,371,377,378,384,385,387,388,400,406,407,413,414,415,421,422,428,429,435,436,442,443,449,450,456,457,463,464,470,471,477,478,484,485,491,492,494,495,512,513,517,518,524,525,531,532,536,548,549,553,554,560,561,567,568,574,575,577,578,595,596,602,603,626,627,635,636,649,650,656,657,663,664,670,671,677,678,689,690,708,709,715,716,722,723,729,730,736,737,743,744,746,747,764,765,771,772,778,779,785,786,806,807,808,814,815,871,872,888,889,899,900,906,907,913,914,918,919,925,926,932,933,939,940,946,947,953,954,960,961,967,968,974,975,981,982,988,989,995,996,1002,1003,1007,1008]
noncomputable abbrev p:Program:=PySem.Challenge.pw_staywalk_k82_whole_the_copy_is_the_house
abbrev q:Program:=view p [0,2,3,4,5,6,7,8,10,11,12,13,14,15,16,17,19,21,22,23,24,25,27,29,30,31,32,33,35,36,37,38,40,41,42,44,46,47,48,49,51,53,54,55,56,57,58,59,60,61,62,63,64,65,66,67,68,69]
abbrev H:Hook:=kHook K as λ_=>rfl
def said:OpenLaw.wellSaid PySem.Challenge.rw_staywalk_k82_whole_the_copy_is_the_house=true:=by
 rw[Fast.te9446332074065402090]
 kernel_rfl
noncomputable abbrev M':Nat:=14512
noncomputable abbrev L:List Str:=["BySlots","Up","Down","ask"]
abbrev X:Shared->Bool:=λs=>xlAt q [] s&&recOk [] s
def lA:∀w,HD.lA p q M' w=some ((openGood q L).1,(openGood q L).2.1):=λw=>by kernel_rfl
def lB:∀w,HD.lB p q L X M' w=some (true,true):=λw=>by kernel_rfl
def lC:∀w,HD.lC p q L M' w=some (openGood q L).2.2.2.2:=λw=>by kernel_rfl
def lD:∀w,(HD.endP p w M').map (Hook.obs H)=some (Hook.val H w):=λw=>by kernel_rfl
def left:LeftO p q L X (Hook.obs H) (Hook.val H) M':=HD.left_of lA lB lC lD
end ZK
abbrev cC:="self"
abbrev et:="key"
abbrev eH:="_law_cell"
abbrev eR:="_law_begun"
abbrev ff:="_law_copier"
abbrev fx:="token"
abbrev ge:="_law_house"
abbrev gs:="list"
abbrev gt:="leaves"
abbrev hL:="_law_numbers_here"
abbrev hW:="__debug__"
abbrev i3:="__init__"
abbrev jk:="ValueError.__new__"
abbrev lG:="_law_key"
abbrev l9:="many"
abbrev mu:="house"
abbrev nj:="_law_script"
abbrev oq:="range"
abbrev pq:="tuple"
abbrev pD:="_law_kept"
abbrev pE:="object.__class__"
abbrev pF:="type.__call__"
abbrev qN:="value"
abbrev qO:="_law_k"
abbrev qP:="at"
abbrev sD:="size"
abbrev t7:="end"
abbrev u4:="_law_keys"
abbrev u5:="table"
abbrev vm:="_law_before"
abbrev wp:="_law_number"
abbrev yz:="most"
abbrev yH:="place"
namespace L2
open PySem PySem.Spec PyProof.Rows
abbrev Key:=Sum Int Str
noncomputable def pe:Key->Value->Bool
 | .inl k,v=>Value.isInt k v
 | .inr x,v=>Value.isStrOf x v
noncomputable def keyH(w:Sf):Key->Int
 | .inl k=>hashInt k
 | .inr x=>hashStr w x
def cz:∀{k:Key}{v:P5},pe k v=true->(∃i t,k=Sum.inl i/\v=Value.int i t)\/(∃x t,k=Sum.inr x/\v=Value.str x t)
 | .inl i,v,h=>by
  let{t,e}:=Value.isInt_shape (k:=i) (v:=v) h;exact .inl ⟨i,t,M,e⟩
 | .inr x,v,h=>by
  let{t,e}:=Value.isStrOf_shape (x:=x) (v:=v) h;exact .inr ⟨x,t,M,e⟩
def GG(i:Int)(t:Tok):pe (.inl i) (.int i t)=true:=by simp[pe,Value.isInt]
def GF(x:Str)(t:Tok):pe (.inr x) (.str x t)=true:=by simp[pe,Value.isStrOf]
def NQ(a b:Int):decide ((Sum.inl a:Key)=Sum.inl b)=(a==b):=by
 by_cases e:a=b
 .subst e;simp
 .have h:¬(Sum.inl a:Key)=Sum.inl b:=λq=>e (Sum.inl.inj q);rw[WU h];exact(WZ.mpr e).symm
def NN(a b:Str):decide ((Sum.inr a:Key)=Sum.inr b)=decide (a=b):=by
 by_cases e:a=b
 .subst e;simp
 .have h:¬(Sum.inr a:Key)=Sum.inr b:=λq=>e (Sum.inr.inj q);rw[WU h,WU e]
def NP(a:Int)(b:Str):decide ((Sum.inl a:Key)=Sum.inr b)=false:=WU (λq=>nomatch q)
def NO(a:Str)(b:Int):decide ((Sum.inr a:Key)=Sum.inl b)=false:=WU (λq=>nomatch q)
def bj(prog:Se)(w:Sf):PySem.KeyKind prog w Key where
 is:=pe
 hash:=keyH w
 inj:=λv a b ha hb=>by
  rcases cz ha with⟨i,t,rfl,rfl⟩|⟨x,t,rfl,rfl⟩
  .rcases cz hb with⟨j,u,rfl,e⟩|⟨y,u,rfl,e⟩
   .injection e with e1 _;rw[e1]
   .exact nomatch e
  .rcases cz hb with⟨j,u,rfl,e⟩|⟨y,u,rfl,e⟩
   .exact nomatch e
   .injection e with e1 _;rw[e1]
 byValue:=λk v h=>by
  rcases cz h with⟨i,t,rfl,rfl⟩|⟨x,t,rfl,rfl⟩<;>rfl
 pyHash:=λhv h=>by
  rcases cz hv with⟨i,t,rfl,rfl⟩|⟨x,t,rfl,rfl⟩
  .exact wpAny_pyHash_int h
  .exact wpAny_pyHash_str h
 eqBool:=λhu hv h=>by
  rcases cz hu with⟨i,t,rfl,rfl⟩|⟨x,t,rfl,rfl⟩
  .rcases cz hv with⟨j,u,rfl,rfl⟩|⟨y,u,rfl,rfl⟩
   .rw[NQ]at h;exact wpAny_eqBool_int h
   .rw[NP]at h;exact SeqAt.EqAt.int_str i t y u _ _ _ _ h
  .rcases cz hv with⟨j,u,rfl,rfl⟩|⟨y,u,rfl,rfl⟩
   .rw[NO]at h;exact SeqAt.EqAt.str_int x t j u _ _ _ _ h
   .rw[NN]at h;exact wpAny_eqBool_str h
 «strs»:=λk x t v h=>by
  rcases cz h with⟨i,u,rfl,e⟩|⟨y,u,rfl,e⟩
  .exact nomatch e
  .injection e with e1 _;subst e1;cases v<;>rfl
def Et(prog:Se)(w:Sf)(k:Key)(v:P5):(bj prog w).is k v=pe k v:=rfl
def CV(prog:Se)(w:Sf)(i:Int)(t:Tok):(bj prog w).is (.inl i) (.int i t)=true:=GG i t
def CU(prog:Se)(w:Sf)(x:Str)(t:Tok):(bj prog w).is (.inr x) (.str x t)=true:=GF x t
inductive V where
 |non|bl (b:Bool)|int (i:Int)|str (x:Str)|byt (b:Array UInt8)|flt (b:UInt64)|ref (a:G')|ty (n:String)
 deriving DecidableEq
abbrev _root_.P7:=List V
variable{a b:G'}{o u:HO}{h h':Heap}{H:Hp}{xs:P7}{us:Sa}{P:Se}{x:V}{w:Sf}
def RelV:V->Value->Prop
 | .non,u=>u=Value.none
 | .bl b,u=>u=Value.bool b
 | .int i,u=>∃t,u=Value.int i t
 | .str x,u=>∃t,u=Value.str x t
 | .byt b,u=>∃t,u=Value.bytes b t
 | .flt b,u=>∃t,u=Value.float b t
 | .ref a,u=>u=Value.ref a
 | .ty n,u=>u=Value.type n
abbrev P0:List V->List Value->Prop:=Paired RelV
def P0.length(r:P0 xs us):xs.length=us.length:=Paired.length r
def P0.get{i:Nat}(h:P0 xs us)(e:xs[i]?=some x):∃u,us[i]?=some u/\RelV x u:=by
 induction h generalizing i with
 |nil=>cases e
 |cons r t z=>cases i with
  |zero=>cases e;exact{_,M,r}
  |succ i=>exact z e
def P0.set{u:P5}(r:RelV x u)(i:Nat)(h:P0 xs us):P0 (xs.set i x) (us.set i u):=by
 induction h generalizing i with
 |nil=>exact .nil
 |cons q t z=>cases i with
  |zero=>exact .cons r t
  |succ i=>exact .cons q<|z i
def P0.append{ys:P7}{z:Sa}(h:P0 xs us)(s:P0 ys z):P0 (xs++ys) (us++z):=by
 induction h with
 |nil=>exact s
 |cons r t G=>exact .cons r G
theorem P0.take:∀{xs:P7}{us:Sa}(n:Nat),P0 xs us->P0 (xs.take n) (us.take n)
 |_,_,0,_=> .nil
 |_,_,_+1,.nil=> .nil
 |_,_,n+1,.cons r t=> .cons r (P0.take n t)
theorem P0.drop:∀{xs:P7}{us:Sa}(n:Nat),P0 xs us->P0 (xs.drop n) (us.drop n)
 |_,_,0,r=>r
 |_,_,_+1,.nil=> .nil
 |_,_,n+1,.cons _ t=>P0.drop n t
def Qc:Option V->Option Value->Prop
 |some v,some u=>RelV v u
 |none,none=>True
 |_,_=>False
def KV{κ:Type}:List (κ×V)->List (κ×Value)->Prop:=Paired λ(p:κ×V)(q:κ×Value)=>p.1=q.1/\RelV p.2 q.2
noncomputable def kV:Key->V
 | .inl i=> .int i
 | .inr x=> .str x
abbrev _root_.Sm:=List (Key×V)
abbrev _root_.Sn:=List (Str×V)
abbrev _root_.So:=Array Value
abbrev _root_.Sw:=Int->Bool
abbrev _root_.SY:=List (List Key×V)
inductive HO where
 |lst(xs:P7)
 |tup(xs:P7)
 |dK (kvs:Sm)|dT (kvs:SY)
 |set(S:Sw)(n:Nat)
 |ins(C dx:G')(fs:Sn)
 |own(x:G')
 |xd(fs:Sn)
 |met(f x:G')
 |rng(lo hi:Int)
 |frz(o:Obj)(u:HO)
 |tbl(ps:So)
 |ext(φ:Heap->Prop)
abbrev Hp:=Addr->Option HO
def upd(H:Hp)(a:G')(o:HO):Hp:=λb=>if b=a then some o else H b
def ag:upd H a o a=some o:=by unfold upd;rw[WJ M]
def af(h:b≠a):upd H a o b=H b:=by unfold upd;rw[WI h]
def cR:upd (upd H a o) a u=upd H a u:=by
 funext b;unfold upd;split<;>rfl
def cX(h:H a=some o)(h':H b=some u)(d:o≠u):a≠b:=by
 intro e;subst e;rw[h]at h';exact d<|WL h'
def am(h:H a=some o)(h':H b=none):a≠b:=by
 intro e;subst e;rw[h]at h';cases h'
section
variable(P:Se)(w:Sf)
def PJ(H:Hp)(h:Heap)(a:G'):HO->Prop
 | .lst xs=>xs.length<=sizeLine/\∃(its:Sa)(n:Nat),P0 xs its/\h.get? a=some {cls:= .type gs,data:= .seq its.toArray n}
 | .tup xs=>xs.length<=sizeLine/\∃its:List Value,P0 xs its/\IsTup h a its.toArray
 | .dK kvs=>kvs.length<=sizeLine/\(a==sysModules)=false/\∃vs,KV kvs vs/\h.DictOf (bj P w) a vs
 | .dT kvs=>kvs.length<=sizeLine/\(a==sysModules)=false/\∃xs:List (List Key×Addr×Value),
   Paired (λ(p:List Key×V)(q:List Key×Addr×Value)=>p.1=q.1/\H q.2.1=some (.tup<|p.1.map kV)/\RelV p.2 q.2.2) kvs xs/\
   ∃o es ep,h.get? a=some o/\o.ExactDict/\o.data= .dict es ep/\es.toList=xs.map (entryOfKey<|tupleKind<|bj P w)/\(xs.map (·.1)).Nodup
 | .set S n=>h.SetOf (intKind P w) a S n
 | .ins C dx fs=>H dx=some (.own a)/\fs.length<=1000/\dx≠a/\h.get? a=some (PySem.W.instObj C dx)/\
   ∃mA,h.Ns1 dx mA/\(∀f,Qc (fs.lookup f) (mA f))/\PySem.Within mA (fs.map (·.1))
 | .own _=>∃o,h.get? a=some o
 | .xd fs=>∃mA,h.Ns1 a mA/\∀f,Qc (fs.lookup f) (mA f)
 | .rng lo hi=>∃t u v,h.get? a=some {cls:= .type oq,data:= .fields #[.int lo t,.int hi u,.int 1 v]}
 | .frz o u=>h.get? a=some o/\PJ H h a u
 | .tbl ps=>h.get? a=some {cls:= .none,data:= .fields ps}
 | .met f x=>h.get? a=some (PySem.W.methodObj (.ref f)<|.ref x)
 | .ext φ=>φ h/\(∃o,h.get? a=some o)/\∀h1 h2:Heap,φ h1->(∀o,h1.get? a=some o->h2.get? a=some o)->φ h2
def QU(H:Hp)(h:Heap):Prop:=∀a o,H a=some o->PJ P w H h a o
end
section
variable{H':Hp}
def PJ.lt(x:PJ P w H h a o):a<h.objs.size:=by
 cases o with
 |lst xs=>let{_,_,_,_,e}:=x;exact WS e
 |tup xs=>let{_,_,_,p}:=x;exact p.lt
 |dK kvs=>let{_,_,_,_,o,_,_,e,_}:=x;exact WS e
 |dT kvs=>let{_,_,_,_,o,_,_,e,_}:=x;exact WS e
 |set S n=>let{o,_,_,_,e,_}:=x;exact WS e
 |ins C dx fs=>let{_,_,_,e,_}:=x;exact WS e
 |own y=>let{_,e}:=x;exact WS e
 |xd fs=>let{_,{_,_,_,e,_},_}:=x;exact WS e
 |rng lo hi=>let{_,_,_,e}:=x;exact WS e
 |frz ob u=>let{e,_}:=x;exact WS e
 |tbl ps=>exact WS<|show h.get? a=some _ from x
 |met f y=>exact WS<|show h.get? a=some _ from x
 |ext φ=>let{_,{_,e},_}:=x;exact WS e
def Paired.mapP{α β:Type}{F G:α->β->Prop}{z:List α}{l₂:List β}(h:Paired F z l₂)(f:∀a b,F a b->G a b):Paired G z l₂:=by
 induction h with
 |nil=>exact .nil
 |cons r t I=>exact .cons (f _ _ r) I
def PJ.stay(x:PJ P w H h a o)(k:∀b u,(b=a\/H b=some (.own a))->h.get? b=some u->h'.get? b=some u)
  (G:∀b,H b=some (.own a)->H' b=some (.own a)) (I:∀b xs,H b=some (.tup xs)->H' b=some (.tup xs)):PJ P w H' h' a o:=by
 induction o with
 |lst xs=>let{z,its,n,r,e}:=x;exact{z,its,n,r,k _ _ (.inl M) e}
 |tup xs=>let{z,its,r,ob,e,c}:=x;exact{z,its,r,ob,k _ _ (.inl M) e,c}
 |dK kvs=>let{z,y,vs,r,ob,es,ep,e,c}:=x;exact{z,y,vs,r,ob,es,ep,k _ _ (.inl M) e,c}
 |dT kvs=>
  let{z,y,xs,r,ob,es,ep,e,c}:=x;exact{z,y,xs,Paired.mapP r λp q z=>{z.1,I _ _ z.2.1,z.2.2},ob,es,ep,k _ _ (.inl M) e,c}
 |set S n=>let{ob,es,ep,t,e,c}:=x;exact{ob,es,ep,t,k _ _ (.inl M) e,c}
 |ins C dx fs=>
  let{d,z,ne,e,mA,{od,es,ep,e2,c},r}:=x;exact{G _ d,z,ne,k _ _ (.inl M) e,mA,{od,es,ep,k _ _ (.inr d) e2,c},r}
 |own y=>let{ob,e}:=x;exact{ob,k _ _ (.inl M) e}
 |xd fs=>let{mA,{od,es,ep,e,c},r}:=x;exact{mA,{od,es,ep,k _ _ (.inl M) e,c},r}
 |rng lo hi=>let{t,u,v,e}:=x;exact{t,u,v,k _ _ (.inl M) e}
 |frz ob u O=>let{e,q}:=x;exact{k _ _ (.inl M) e,O q}
 |tbl ps=>
  have e:h.get? a=some {cls:= .none,data:= .fields ps}:=x;show h'.get? a=some {cls:= .none,data:= .fields ps};exact k a _ (.inl M) e
 |met f y=>
  have e:h.get? a=some (PySem.W.methodObj (.ref f)<|.ref y):=x;show h'.get? a=some (PySem.W.methodObj (.ref f)<|.ref y);exact k a _ (.inl M) e
 |ext φ=>let{p,{o,e},st}:=x;exact{st _ _ p λo q=>k _ _ (.inl M) q,{o,k _ _ (.inl M) e},st}
def QU.lt(x:QU P w H h)(e:H a=some o):a<h.objs.size:=(x a o e).lt
def QU.fresh(x:QU P w H h)(e:h.objs.size<=a):H a=none:=by
 cases q:H a with
 |none=>rfl
 |some u=>exact WN (Zr (x.lt q) e)<|XD _
def QU.kept(x:QU P w H h)(k:∀b u,h.get? b=some u->h'.get? b=some u):QU P w H h':=λa o e=>
 (x a o e).stay (λb u _ q=>k b u q) (λ_ q=>q) λ_ _ q=>q
def QU.laid(x:QU P w H h)(k:∀b u,h.get? b=some u->h'.get? b=some u)(G:h.objs.size<=a)(new:PJ P w (upd H a o) h' a o):QU P w (upd H a o) h':=λb u e=>by
 have z:=x.fresh G;by_cases hb:b=a
 .subst hb;rw[ag]at e;cases e;exact new
 .rw[af hb]at e;exact(x b u e).stay (λc v _ q=>k c v q) (λc q=>by rw[af (am q z)];exact q) λc xs q=>by rw[af (am q z)];exact q
end
def Rd(H:Hp)(a:G')(u:HO):Prop:=H a=some u\/∃o,H a=some (.frz o u)
def Rd.ok(r:Rd H a u)(x:QU P w H h):PJ P w H h a u:=by
 rcases r with r|⟨o,r⟩
 .exact x a u r
 .let{_,q}:=x a _ r;exact q
def Mut:Option HO->Prop
 |some (.lst _)=>True
 |some (.dK _)=>True
 |some (.dT _)=>True
 |some (.set _ _)=>True
 |some (.ins _ _ _)=>True
 |some (.ext _)=>True
 |_=>False
section
variable{x e:G'}{o':HO}
def QU.write(ok:QU P w H h)(U:Mut (H x))(he:e=x\/H e=some (.own x))(k:∀b u,b≠e->h.get? b=some u->h'.get? b=some u)(Y:∃u,h'.get? e=some u)
  (new:PJ P w (upd H x o') h' x o'):QU P w (upd H x o') h':=λb u q=>by
 have I:∀c y,H c=some (.own y)->c≠x:=λc y r z=>by subst z;rw[r]at U;exact U
 have O:∀c xs,H c=some (.tup xs)->c≠x:=λc xs r z=>by subst z;rw[r]at U;exact U
 by_cases hb:b=x
 .subst hb;rw[ag]at q;cases q;exact new
 .rw[af hb]at q;by_cases G:b=e
  .have q':H b=some (.own x):=by
    rcases he with z|z
    .exact WN (G.trans z) hb
    .rwa[G]
   rw[q]at q';cases q';let{v,Z}:=Y;exact{v,by rwa[G]}
  .refine(ok b u q).stay (λc v hc r=>k c v ?_ r) (λc r=>by rwa[af (I c b r)]) λc xs r=>by rwa[af (O c xs r)]
   rcases hc with rfl|hc
   .exact G
   .rintro rfl;rcases he with z|z
    .exact I c b hc z
    .rw[hc]at z;cases z;exact hb M
end
abbrev _root_.Si:=List Addr
structure Un(fs ex:Si)(H H':Hp)(h h':Heap):Prop where
 keep:∀b o,h.get? b=some o->H b=none->b∉fs->b∉ex->h'.get? b=some o
 slot:∀b o,h.get? b=some o->H b=none->b∈fs->b∉ex->∃sl,h'.get? b=some {o with slots:=sl}
 free:∀b o,h.get? b=some o->H b=none->b∉ex->H' b=none
 there:∀b o,h.get? b=some o->b∉ex->∃o',h'.get? b=some o'
 tups:∀b xs,H b=some (.tup xs)->H' b=some (.tup xs)
 frzs:∀b o u,H b=some (.frz o u)->H' b=some (.frz o u)
 tbls:∀b ps,H b=some (.tbl ps)->∃more,H' b=some (.tbl<|ps++more)
section
variable{fs fs' ex ex':Si}{H1 H2:Hp}{h1 h2:Heap}{x e:G'}
def Un.any(u:Un fs ex H H1 h h1){ob:Obj}(q:h.get? b=some ob)(n:H b=none)(hx:b∉ex):∃z,h1.get? b=some {ob with slots:=z}:=by
 by_cases hb:b∈fs
 .exact u.slot b ob q n hb hx
 .exact{ob.slots,u.keep b ob q n hb hx}
def Un.kept(k:∀b u,h.get? b=some u->h'.get? b=some u):Un fs ex H H h h':=
 {λb ob q _ _ _=>k b ob q,λb ob q _ _ _=>{ob.slots,k b ob q},λ_ _ _ n _=>n,λb ob q _=>{ob,k b ob q},λ_ _ q=>q,λ_ _ _ q=>q,λ_ ps q=>{#[],by rw[q];simp}}
def Un.refl:Un fs ex H H h h:=Un.kept λ_ _ q=>q
def Un.laid(k:∀b u,h.get? b=some u->h'.get? b=some u)(G:h.objs.size<=a)(z:H a=none):Un fs ex H (upd H a o) h h' where
 keep:=λb u q _ _ _=>k b u q
 slot:=λb u q _ _ _=>{u.slots,k b u q}
 free:=λb u q n _=>by rwa[af (ZG<|Zr (WS q) G)]
 there:=λb u q _=>{u,k b u q}
 tups:=λb xs q=>by rw[af (am q z)];exact q
 frzs:=λb u xs q=>by rw[af (am q z)];exact q
 tbls:=λb ps q=>{#[],by rw[af (am q z),q];simp}
def Un.write(I:Mut (H x))(he:e=x\/H e=some (.own x))(k:∀b u,b≠e->h.get? b=some u->h'.get? b=some u)(O:∃u,h'.get? e=some u):Un fs ex H (upd H x o) h h':=by
 have hx:∀b,H b=none->b≠x:=λb n z=>by subst z;rw[n]at I;exact I
 have hb:∀b,H b=none->b≠e:=λb n z=>by
  subst z;rcases he with r|r
  .exact hx b n r
  .rw[n]at r;cases r
 have U:∀b u,H b=some u->¬Mut (some u)->b≠x:=λb u q nm z=>by subst z;rw[q]at I;exact nm I
 refine{λb u q n _ _=>k b u (hb b n) q,λb u q n _ _=>{u.slots,k b u (hb b n) q},λb u q n _=>by rwa[af (hx b n)],λb u q _=>?_,
  λb xs q=>by rw[af (U b _ q λz=>z)];exact q,λb u xs q=>by rw[af (U b _ q λz=>z)];exact q,λb ps q=>{#[],by rw[af (U b _ q λz=>z),q];simp}}
 by_cases G:b=e
 .subst G;exact O
 .exact{u,k b u G q}
end
def SE(h:Heap)(H:Hp):List Addr:=(List.range h.objs.size).filter λa=>(H a).isSome
def BO(h:Heap)(H:Hp):Heap:=PySem.W.hideAll h (SE h H)
def GL(h:Heap)(H:Hp):(BO h H).objs.size=h.objs.size:=PySem.W.hideAll_size _ _
def Jl{o:Obj}(e:h.get? b=some o)(n:H b=none):(BO h H).get? b=some o:=
 PySem.W.hideAll_get _ e λz=>by
  have q:(H b).isSome=true:=(Zj.mp z).2;rw[n]at q;simp at q
def Ll{o:Obj}(e:(BO h H).get? b=some o):h.get? b=some o/\H b=none:=by
 have G:h.get? b=some o:=PySem.W.of_hideAll (SE h H) e;refine{G,?_};cases q:H b with
 |none=>rfl
 |some x=>
  have I:b∈SE h H:=Zj.mpr {Wz.mpr<|WS G,by simp[q]};have z:(BO h H).get? b=none:=PySem.W.hideAll_none (SE h H) I;rw[z]at e;cases e
abbrev FA:=PySem.W.Frag
abbrev _root_.Sb:=List (Addr×Obj)
abbrev _root_.Sg:=Value->Shared->Prop
abbrev _root_.Sj:=Around
abbrev _root_.Sq:=List Env
abbrev _root_.Sy:=List Expr
abbrev _root_.Td:=List (Str×Value)
variable{C a b dx f it:G'}{A:Sj}{g':Array GenState}{CX:CXT}{op:CmpOp}{X:Cx}{d':Drawn}{c e tg:Expr}{fd:Ss}{base h h':Heap}{H H':Hp}{lo:Int}{g:Int->Int->Int}{B:Sb}{kw:Td}{ch fp:Si}{outer:Sq}{es:Sy}{body:List Stmt}{N ps:Sh}{vs xs:P7}{us:Sa}{M':Model}{i j n t':Nat}{o:Option Value}{p pos pos':Pos}{P prog:Se}{K:FA}{r:R2}{R:Result->Shared->Prop}{scope:Scope}{s s':J'}{sp:Sp}{W:St}{m name qual x:Str}{t ta te:TE}{tb:TS}{tc:TT}{v y:V}{u:P5}{E Q:Sg}{rd:V->V->Hp->VK->Prop}{w:Sf}
abbrev _root_.Sl:=Str->Option Value
structure Mod(K:FA)(mg:Sl)(base:Heap):Prop where
 kin:K.In base
 glob:base.Ns mainGlobals mg
 blt:∃mb,base.Ns builtinsNs mb/\∀x:Str,x≠"__name__"->mb x=bootBuiltins x
 nolimit:base.NoLimit
set_option genInjectivity false in
structure Cx where
 prog:Program
 w:World
 K:FA
 mg:Str->Option Value
 base:Heap
 A:Around
 N:List Str
 s₀:Shared
 H₀:Hp
 env:Env
 outer:List Env
 stack:List Env
 ex:List Addr
 fn:Str->Bool
 calm:Bool
 pn:List (Addr×Obj)
 xe:Value->Shared->Prop
noncomputable def R4(l:Sq):List Addr:=l.filterMap (·.frame)
abbrev Cx.fs(X:Cx):List Addr:=R4 X.outer
def SM(sc:Scope)(x:Str):Prop:=sc.names.lookup x=some .local\/sc.names.lookup x=some .cell\/sc.names.lookup x=some .free
def Loc(sc:Scope)(x:Str):Prop:=sc.names.lookup x=some .local\/sc.names.lookup x=some .cell
def Look(env:Env)(h:Heap)(m:Sl)(x:Str)(u:P5):Prop:=
 (env.kindOf x=some .local/\m x=some u)\/((env.kindOf x=some .cell\/env.kindOf x=some .free)/\∃c,env.cells.lookup x=some c/\h.IsCell c (some u))
structure Cx.Ok(X:Cx):Prop where
 mod:Mod X.K X.mg X.base
 kind:X.env.scope.kind= .function
 glob:X.env.globals=mainGlobals
 blt:X.env.builtins=builtinsNs
 above:X.s₀.heap.objs.size<=X.env.locals
 inj:∀x y c,X.env.cells.lookup x=some c->X.env.cells.lookup y=some c->x=y
 has:∀x,(X.env.kindOf x=some .cell\/X.env.kindOf x=some .free)->∃c,X.env.cells.lookup x=some c
 cab:∀x c,X.fn x=true->X.env.cells.lookup x=some c->X.s₀.heap.objs.size<=c
 hd:X.calm=true->X.A.handled=none
 frames:X.A.frames=some X.stack
 stk:X.stack=X.outer\/(X.stack=X.env::X.outer/\X.env.frame=some X.env.locals)
 exf:∀b∈X.ex,b≠X.env.locals/\∀x c,X.env.cells.lookup x=some c->c≠b
 bs:∀b o,X.base.get? b=some o->X.s₀.heap.get? b=some o/\X.H₀ b=none
 bsz:X.base.objs.size<=X.s₀.heap.objs.size
 noex:∀b o,X.base.get? b=some o->b∉X.ex
 exfs:∀b∈X.ex,b∉X.fs
 funs:X.s₀.heap.FunFrames X.base X.outer
 frf:∀b∈X.fs,X.H₀ b=none
structure Inv(X:Cx)(B:Sb)(W:List (Option V))(H:Hp)(s:J'):Prop where
 ok:X.Ok
 os:s.os=X.s₀.os
 bare:AllBare s.gens
 base:Un X.fs X.ex X.H₀ H X.s₀.heap s.heap
 loc:∃m,s.heap.Ns X.env.locals m/\∀(i:Nat)(x:Str)(v:V),X.N[i]?=some x->W[i]?=some (some v)->SM X.env.scope x->∃u,RelV v u/\Look X.env s.heap m x u
 cell:∀x c,X.env.cells.lookup x=some c->∃v,s.heap.IsCell c v
 free:H X.env.locals=none
 freeC:∀x c,X.env.cells.lookup x=some c->H c=none
 pin:∀p∈X.pn++B,s.heap.get? p.1=some p.2/\H p.1=none/\p.1≠X.env.locals/\p.1∉X.fs/\∀v,p.2.data≠ .cell v
 hok:QU X.prog X.w H s.heap
 len:W.length=X.N.length
section
variable{W:List (Option V)}
def Cx.Ok.nofr(ok:X.Ok){o:Obj}(e:X.base.get? b=some o):b∉X.fs:=λhb=>by
 have:=(ok.funs.mem hb).1;rw[e]at this;cases this
def Inv.bs(I:Inv X B W H s):∀b o,X.base.get? b=some o->s.heap.get? b=some o/\H b=none:=λb o e=>
 {I.base.keep b o (I.ok.bs b o e).1 (I.ok.bs b o e).2 (I.ok.nofr e)<|I.ok.noex b o e,I.base.free b o (I.ok.bs b o e).1 (I.ok.bs b o e).2<|I.ok.noex b o e}
def Inv.bk(I:Inv X B W H s):∀b o,X.base.get? b=some o->s.heap.get? b=some o:=λb o e=>(I.bs b o e).1
def Inv.mod(I:Inv X B W H s):Mod X.K X.mg X.base:=I.ok.mod
def Inv.kIn(I:Inv X B W H s):X.K.In s.heap:=I.ok.mod.kin.keeps I.bk
def Inv.lt(I:Inv X B W H s):X.env.locals<s.heap.objs.size:=by let{_,z,_}:=I.loc;exact z.lt
def Inv.sz(I:Inv X B W H s):X.s₀.heap.objs.size<=s.heap.objs.size:=Zl I.ok.above (ZH I.lt)
def Inv.nofs(I:Inv X B W H s)(h:s.heap.objs.size<=a):a∉X.fs:=λhb=>by
 let{_,o,z,_}:=I.ok.funs.mem hb;exact WN (Zr (WS z)<|Zl I.sz h)<|XD _
def Inv.cne(I:Inv X B W H s):∀x c,X.env.cells.lookup x=some c->c≠X.env.locals:=λx c e z=>by
 let{v,o,U,hd}:=I.cell x c e;let{m,{o',es,ep,G,O,_},_}:=I.loc;rw[z,G]at U;cases U;rw[O]at hd;cases hd
def Inv.funs(I:Inv X B W H s):s.heap.FunFrames X.base X.outer:=by
 have all:∀(l:Sq),(∀b∈R4 l,b∈X.fs)->X.s₀.heap.FunFrames X.base l->s.heap.FunFrames X.base l:=by
  intro l
  induction l with
  |nil=>intro _ _;trivial
  |cons env r O=>
   intro hs hl;let{hk,{L,o,hf,U,Y,hd},Z}:=hl;have G:L∈X.fs:=hs L (by unfold R4;rw[VX,hf];exact Z4);let{sl,e}:=I.base.slot L o Y (I.ok.frf L G) G λz=>I.ok.exfs L z G;exact{hk,{L,_,hf,U,e,hd},O (λb hb=>hs b<|by unfold R4;rw[VX,hf];exact Z7 _ hb) Z}
 exact all X.outer (λ_ hb=>hb) I.ok.funs
def Inv.stack(I:Inv X B W H s):s.heap.FunFrames X.base X.stack:=by
 rcases I.ok.stk with e|⟨e,hf⟩
 .rw[e];exact I.funs
 .rw[e];let{m,z,_}:=I.loc;refine .cons (by rw[I.ok.kind];decide) hf z ?_ I.funs;exact Yg<|Zl I.ok.bsz I.ok.above
def Inv.stkSub(I:Inv X B W H s):∀b∈R4 X.stack,b∈X.env.locals::X.fs:=λb hb=>by
 rcases I.ok.stk with e|⟨e,hf⟩
 .rw[e]at hb;exact Z7 _ hb
 .rw[e]at hb;unfold R4 at hb;rw[VX,hf]at hb;exact hb
def Inv.stkFree(I:Inv X B W H s):∀b∈R4 X.stack,H b=none:=λb hb=>by
 rcases Zb.mp (I.stkSub b hb)with e|hb
 .rw[e];exact I.free
 .let{_,o,G,_}:=I.ok.funs.mem hb;exact I.base.free b o G (I.ok.frf b hb) λz=>I.ok.exfs b z hb
def Inv.step(I:Inv X B W H s)
  (G:∀b∈ch,(b∈X.ex\/X.s₀.heap.objs.size<=b)/\b≠X.env.locals/\(∀x c,X.env.cells.lookup x=some c->c≠b)/\∀p∈X.pn++B,p.1≠b)
  (keep:∀b o,b≠X.env.locals->b∉X.fs->b∉ch->s.heap.get? b=some o->H b=none->h'.get? b=some o)
  (slot:∀b o,b≠X.env.locals->b∈X.fs->b∉ch->s.heap.get? b=some o->H b=none->∃sl,h'.get? b=some {o with slots:=sl}) (free:∀b o,b∉ch->s.heap.get? b=some o->H b=none->H' b=none)
  (there:∀b o,b∉ch->s.heap.get? b=some o->∃o',h'.get? b=some o')
  (tups:∀b xs,H b=some (.tup xs)->H' b=some (.tup xs)) (frzs:∀b o u,H b=some (.frz o u)->H' b=some (.frz o u)) (tbls:∀b ps,H b=some (.tbl ps)->∃more,H' b=some (.tbl<|ps++more))
  (ns:∀m,s.heap.Ns X.env.locals m->h'.Ns X.env.locals m) (hok:QU X.prog X.w H' h') (hg:AllBare g'):
  Inv X B W H' {s with heap:=h',gens:=g',drawn:=d',toks:=t'}:=by
 have a0:∀b o,X.s₀.heap.get? b=some o->b≠X.env.locals:=λb o e=>ZG (Zr (WS e) I.ok.above);have Y:∀b o,X.s₀.heap.get? b=some o->b∉X.ex->b∉ch:=λb o e hx hb=>by
  rcases(G b hb).1 with z|z
  .exact hx z
  .exact WN (Zr (WS e) z)<|XD _
 have O:∀x c,X.env.cells.lookup x=some c->∀v,s.heap.IsCell c v->h'.IsCell c v:=λx c e v ⟨o,ho,hd⟩=>by
  have U:c∉ch:=λz=>(G c z).2.2.1 x c e M;by_cases hc:c∈X.fs
  .let{sl,q}:=slot c o (I.cne x c e) hc U ho (I.freeC x c e);exact{_,q,hd}
  .exact{o,keep c o (I.cne x c e) hc U ho<|I.freeC x c e,hd}
 refine{I.ok,I.os,hg,{λb o e n hb hx=>?_,λb o e n hb hx=>?_,λb o e n hx=>?_,λb o e hx=>?_,λb xs e=>tups b xs<|I.base.tups b xs e,λb o xs e=>frzs b o xs<|I.base.frzs b o xs e,λb ps e=>?_},?_,λx c e=>?_,?_,λx c e=>?_,λp hp=>?_,hok,I.len}
 .exact keep b o (a0 b o e) hb (Y b o e hx) (I.base.keep b o e n hb hx)<|I.base.free b o e n hx
 .let{sl,Z}:=I.base.slot b o e n hb hx;let{a1,e2}:=slot b _ (a0 b o e) hb (Y b o e hx) Z (I.base.free b o e n hx);exact⟨a1,e2⟩
 .let{o',Z}:=I.base.there b o e hx;exact free b o' (Y b o e hx) Z<|I.base.free b o e n hx
 .let{o',Z}:=I.base.there b o e hx;exact there b o' (Y b o e hx) Z
 .let{m1,Z}:=I.base.tbls b ps e;let{m2,e2}:=tbls b _ Z;exact{m1++m2,by rw[e2,Array.append_assoc]}
 .let{m,hn,hl}:=I.loc;refine{m,ns m hn,λi x v Z e2 e3=>?_};let{u,r,l}:=hl i x v Z e2 e3;refine{u,r,?_};rcases l with l|⟨k,c,e,z⟩
  .exact .inl l
  .exact .inr {k,c,e,O x c e _ z}
 .let{v,z}:=I.cell x c e;exact{v,O x c e v z}
 .let{m,{o,_,_,ho,_},_}:=I.loc;exact free _ o (λz=>(G _ z).2.1 rfl) ho I.free
 .let{v,o,ho,hd}:=I.cell x c e;exact free c o (λz=>(G c z).2.2.1 x c e M) ho<|I.freeC x c e
 .let{e,n,ne,nf,d}:=I.pin p hp;have U:p.1∉ch:=λz=>(G p.1 z).2.2.2 p hp M;exact{keep p.1 p.2 ne nf U e n,free p.1 p.2 U e n,ne,nf,d}
def Inv.un(I:Inv X B W H s)(u:Un X.fs [] H H' s.heap h')(hok:QU X.prog X.w H' h'):Inv X B W H' {s with heap:=h',toks:=t'}:=by
 let{m,{o,es,ep,Y,r},_}:=id I.loc;let{sl,Z}:=u.any Y I.free (by simp);exact I.step (g':=s.gens) (d':=s.drawn) (ch:=[]) (λ_ z=>nomatch z) (λb o _ hb _ e n=>u.keep b o e n hb<|by simp) (λb o _ hb _ e n=>u.slot b o e n hb<|by simp) (λb o _ e n=>u.free b o e n<|by simp) (λb o _ e=>u.there b o e<|by simp) u.tups u.frzs u.tbls (λm' hm=>by
  let{o',O,U,G,r'}:=hm;rw[Y]at G;cases G;exact{_,O,U,Z,r'}) hok I.bare
def Inv.call(I:Inv X B W H s)(u:Un (R4 X.stack) ch H H' s.heap h')(hok:QU X.prog X.w H' h')(hg:AllBare g')
  (G:∀b∈ch,(b∈X.ex\/X.s₀.heap.objs.size<=b)/\b≠X.env.locals/\(∀x c,X.env.cells.lookup x=some c->c≠b)/\∀p∈X.pn++B,p.1≠b):
  Inv X B W H' {s with heap:=h',gens:=g',drawn:=d',toks:=t'}:=by
 let{m,{o,es,ep,ho,r},_}:=id I.loc;let{sl,U}:=u.any ho I.free λz=>(G _ z).2.1 rfl;exact I.step (ch:=ch) G (λb o U hb hc e n=>u.keep b o e n (λz=>(Zb.mp<|I.stkSub b z).elim U hb) hc) (λb o _ _ hc e n=>u.any e n hc) (λb o hc e n=>u.free b o e n hc) (λb o hc e=>u.there b o e hc) u.tups u.frzs u.tbls (λm' hm=>by
  let{o',Y,Z,O,r'}:=hm;rw[ho]at O;cases O;exact{_,Y,Z,U,r'}) hok hg
def Inv.turned(I:Inv X B W H s)(k:∀b o,b≠it->s.heap.get? b=some o->h'.get? b=some o)(U:H it=none)(O:it≠X.env.locals)
  (h1:it∈X.ex\/X.s₀.heap.objs.size<=it) (h2:∀x c,X.env.cells.lookup x=some c->c≠it) (Y:∀p∈X.pn++B,p.1≠it):Inv X B W H {s with heap:=h',toks:=t'}:=by
 have G:∀b u,H b=some u->b≠it:=λb u e z=>by rw[z,U]at e;cases e
 refine I.step (g':=s.gens) (d':=s.drawn) (ch:=[it]) (λb hb=>?_) (λb o _ _ hc e _=>k b o (λz=>hc<|by simp[z]) e) (λb o _ _ hc e _=>{o.slots,k b o (λz=>hc<|by simp[z]) e}) (λ_ _ _ _ n=>n)
  (λb o hc e=>{o,k b o (λz=>hc<|by simp[z]) e}) (λ_ _ e=>e) (λ_ _ _ e=>e) (λb ps e=>{#[],by rw[e];simp}) (λm Z=>?_) (λb u e=>?_) I.bare
 .have e:b=it:=by simpa using hb
  subst e;exact⟨h1,O,h2,Y⟩
 .let{o,es,ep,ho,r}:=Z;exact{o,es,ep,k _ o (Ne.symm O) ho,r}
 .refine(I.hok b u e).stay (λc v hc q=>k c v ?_ q) (λ_ q=>q) λ_ _ q=>q;rcases hc with z|z
  .rw[z];exact G b u e
  .exact G c _ z
def Inv.tok(I:Inv X B W H s)(t:Nat):Inv X B W H {s with toks:=t}:=I.un (h':=s.heap) (t':=t) Un.refl I.hok
def Inv.kept(I:Inv X B W H s)(k:∀b u,s.heap.get? b=some u->h'.get? b=some u):Inv X B W H {s with heap:=h',toks:=t'}:=I.un (Un.kept k) (I.hok.kept k)
def Inv.laid{o:HO}(I:Inv X B W H s)(k:∀b u,s.heap.get? b=some u->h'.get? b=some u)(z:s.heap.objs.size<=a)(new:PJ X.prog X.w (upd H a o) h' a o):
  Inv X B W (upd H a o) {s with heap:=h',toks:=t'}:=I.un (Un.laid k z<|I.hok.fresh z) (I.hok.laid k z new)
def Inv.write{x e:G'}{o:HO}(I:Inv X B W H s)(G:Mut (H x))(he:e=x\/H e=some (.own x))(k:∀b u,b≠e->s.heap.get? b=some u->h'.get? b=some u)(z:∃u,h'.get? e=some u)
  (new:PJ X.prog X.w (upd H x o) h' x o):Inv X B W (upd H x o) {s with heap:=h',toks:=t'}:=I.un (Un.write G he k z) (I.hok.write G he k z new)
def Inv.pins_of{G:Sb}(I:Inv X B W H s)(h:∀p∈G,s.heap.get? p.1=some p.2/\H p.1=none/\p.1≠X.env.locals/\p.1∉X.fs/\∀v,p.2.data≠ .cell v):Inv X G W H s:=
 {I.ok,I.os,I.bare,I.base,I.loc,I.cell,I.free,I.freeC,λp O=>(Q6.mp O).elim (λz=>I.pin p<|Xh _ z)<|h p,I.hok,I.len}
def CN(hN:N.Nodup)(a:N[i]?=some x)(b:N[j]?=some x):i=j:=by
 let{h1,z}:=Q3.mp a;let{h2,e2}:=Q3.mp b;exact(List.getElem_inj hN).mp<|z.trans e2.symm
abbrev _root_.Te:=Unit->Shared->Prop
def Ad{Q:Te}(I:Inv X B W H s)(hN:X.N.Nodup)(hi:X.N[i]?=some x)(hx:Loc X.env.scope x)(r:RelV v u)
  (h:∀s',Inv X B (W.set i<|some v) H s'->(∃a,Heap.SameBut a s.heap s'.heap/\(a=X.env.locals\/X.env.cells.lookup x=some a))->Q Unit.unit s') (hf:X.fn x=true\/X.env.scope.names.lookup x=some .local:=by ac_rfl):wpAny M' A (storeName X.env x u) Q E s:=by
 let{m,hn,hl}:=id I.loc;have a1:(X.env.scope.kind== .class||(X.env.scope.kind== .module&&X.env.locals !=X.env.globals))=false:=by rw[I.ok.kind];rfl
 have Y:i<W.length:=by rw[I.len];exact(Q3.mp hi).1
 have cne:=I.cne;have G:∀{a:G'}{h':Heap},(∃o,s.heap.get? a=some o/\H a=none)->Heap.SameBut a s.heap h'->QU X.prog X.w H h':=λ{a h'} ha hs b ob e=>by
  let{_,_,U}:=ha;refine(I.hok b ob e).stay (λc w' hc q=>(hs.2 c ?_).trans q) (λ_ q=>q) λ_ _ q=>q;rintro rfl;rcases hc with rfl|hc
  .rw[U]at e;cases e
  .rw[U]at hc;cases hc
 rcases hx with hk|hk
 .refine wpAny_storeName_local hk hn (λh' a9 hs=>?_) a1;let{oL,_,_,aa,_}:=id hn;refine h _ {I.ok,I.os,I.bare,{λb o e n hb hx=>?_,λb o e n hb hx=>?_,I.base.free,λb o e hx=>?_,I.base.tups,I.base.frzs,I.base.tbls},{_,a9,λj y v' O e2 e3=>?_},λy c e=>?_,I.free,I.freeC,λp hp=>?_,G ⟨oL,aa,I.free⟩ hs,by simpa using I.len} {_,hs,.inl M}
  .exact(hs.2 b<|ZG<|Zr (WS e) I.ok.above).trans<|I.base.keep b o e n hb hx
  .let{sl,O}:=I.base.slot b o e n hb hx;exact{sl,(hs.2 b<|ZG<|Zr (WS e) I.ok.above).trans O}
  .let{o',O}:=I.base.there b o e hx;exact{o',(hs.2 b<|ZG<|Zr (WS e) I.ok.above).trans O}
  .by_cases Z:j=i
   .subst Z;rw[hi]at O;cases O;rw[V5 Y]at e2;cases e2;exact{u,r,.inl {hk,by simp}}
   .rw[VS (Ne.symm Z)]at e2;let{u',r',q}:=hl j y v' O e2 e3;refine{u',r',?_};rcases q with⟨k,e⟩|⟨k,c,e,z⟩
    .refine .inl {k,?_};have:y≠x:=λe=>Z (CN hN O<|e▸hi);simp[this,e]
    .exact .inr {k,c,e,z.sameBut hs<|cne y c e}
  .let{w',z}:=I.cell y c e;exact{w',z.sameBut hs<|cne y c e}
  .let{e,n,ne,nf,d}:=I.pin p hp;exact{(hs.2 p.1 ne).trans e,n,ne,nf,d}
 .have a0:X.fn x=true:=by
   rcases hf with z|z
   .exact z
   .rw[z]at hk;cases hk
  let{c,hc}:=I.ok.has x (.inl hk);let{w',z}:=I.cell x c hc;refine wpAny_storeName_cell I.ok.kind hk hc z<|λh' a2 hs=>?_;let{oc,a3,a4}:=id z;refine h {s with heap:=h'} {I.ok,I.os,I.bare,{λb o e n hb hx=>?_,λb o e n hb hx=>?_,I.base.free,λb o e hx=>?_,I.base.tups,I.base.frzs,I.base.tbls},{m,hn.sameBut hs<|Ne.symm<|cne x c hc,λj y v' O e2 e3=>?_},λy c' e=>?_,I.free,I.freeC,λp hp=>?_,G {oc,a3,I.freeC x c hc} hs,by simpa using I.len} {c,hs,.inr hc}
  .exact(hs.2 b<|ZG<|Zr (WS e)<|I.ok.cab x c a0 hc).trans<|I.base.keep b o e n hb hx
  .let{sl,O}:=I.base.slot b o e n hb hx;exact{sl,(hs.2 b<|ZG<|Zr (WS e)<|I.ok.cab x c a0 hc).trans O}
  .let{o',O}:=I.base.there b o e hx;exact{o',(hs.2 b<|ZG<|Zr (WS e)<|I.ok.cab x c a0 hc).trans O}
  .by_cases Z:j=i
   .subst Z;rw[hi]at O;cases O;rw[V5 Y]at e2;cases e2;exact{u,r,.inr {.inl hk,c,hc,a2}}
   .rw[VS (Ne.symm Z)]at e2;let{u',r',q}:=hl j y v' O e2 e3;refine{u',r',?_};rcases q with q|⟨k,c',e,z'⟩
    .exact .inl q
    .refine .inr {k,c',e,z'.sameBut hs ?_};rintro rfl;exact Z<|CN hN O (I.ok.inj _ _ _ e hc▸hi)
  .by_cases a5:c'=c
   .subst a5;exact{_,a2}
   .let{w2,z2}:=I.cell y c' e;exact{w2,z2.sameBut hs a5}
  .let{e,n,ne,nf,d}:=I.pin p hp;refine{(hs.2 p.1 ?_).trans e,n,ne,nf,d};intro q;rw[q,a3]at e;have q':oc=p.2:=WL e;exact d w'<|by rwa[<-q']
def wL{Q:Te}(I:Inv X B W H s)(hN:X.N.Nodup)(hi:X.N[i]?=some x)(hx:Loc X.env.scope x)(r:RelV v u)
  (h:∀s',Inv X B (W.set i<|some v) H s'->Q Unit.unit s') (hf:X.fn x=true\/X.env.scope.names.lookup x=some .local:=by ac_rfl):wpAny M' A (storeName X.env x u) Q E s:=
 Ad I hN hi hx r (λs' z _=>h s' z) hf
def Inv.call'(I:Inv X B W H s)(G:s'.os=s.os)(u:Un (R4 X.stack) ch H H' s.heap s'.heap)(hok:QU X.prog X.w H' s'.heap)(O:AllBare s'.gens)
  (z:∀b∈ch,(b∈X.ex\/X.s₀.heap.objs.size<=b)/\b≠X.env.locals/\(∀x c,X.env.cells.lookup x=some c->c≠b)/\∀p∈X.pn++B,p.1≠b):Inv X B W H' s':=by
 let{h',g',d',t',o'}:=s';have e:o'=s.os:=G;subst e;exact I.call (g':=g') (t':=t') (d':=d') u hok O z
end
abbrev XK:=Value->Option Addr->Hp->Prop
abbrev St:=List (Option V)
abbrev VK:=V->Hp->Prop
abbrev TE:=St->Hp->VK->Prop
abbrev TT:=St->Hp->(Bool->Hp->Prop)->Prop
abbrev TA:=St->Hp->(List V->Hp->Prop)->Prop
structure nZ where
 nx:St->Hp->Prop
 rt:VK
 bk:St->Hp->Prop:=λ_ _=>False
 ct:St->Hp->Prop:=λ_ _=>False
abbrev TS:=nZ->St->Hp->Prop
def EP(X:Cx)(B:Sb)(W:St)(Q:VK)(u:P5)(s':J'):Prop:=∃v H',Inv X B W H' s'/\RelV v u/\Q v H'
def TP(X:Cx)(B:Sb)(W:St)(Q:Bool->Hp->Prop)(b:Bool)(s':J'):Prop:=∃H',Inv X B W H' s'/\Q b H'
def AP(X:Cx)(B:Sb)(W:St)(Q:List V->Hp->Prop)(us:Sa)(s':J'):Prop:=∃vs H',Inv X B W H' s'/\P0 vs us/\Q vs H'
def SP(X:Cx)(B:Sb)(D:nZ)(f:Flow)(s':J'):Prop:=
 match f with
 | .next=>∃σ' H',Inv X B σ' H' s'/\D.nx σ' H'
 | .brk=>∃σ' H',Inv X B σ' H' s'/\D.bk σ' H'
 | .cont=>∃σ' H',Inv X B σ' H' s'/\D.ct σ' H'
 | .ret u=>∃v σ' H',Inv X B σ' H' s'/\RelV v u/\D.rt v H'
abbrev FB(X:Cx){a}:=@wpAny a (model X.prog X.w) X.A
def PE(X:Cx)(e:Expr)(t:TE):Prop:=
 ∀(B:Sb)(s:J')(W:St)(H:Hp)(Q:VK),Inv X B W H s->t W H Q->FB X (eval e X.env) (EP X B W Q) X.xe s
def PT(X:Cx)(e:Expr)(t:TT):Prop:=
 ∀(B:Sb)(s:J')(W:St)(H:Hp)(Q:Bool->Hp->Prop),Inv X B W H s->t W H Q->FB X (isTrue e X.env<|eval e X.env) (TP X B W Q) X.xe s
def PW(X:Cx)(e:Expr)(t:TT):Prop:=
 ∀(whole:Sem Value)(B:Sb)(s:J')(W:St)(H:Hp)(Q:Bool->Hp->Prop),Inv X B W H s->t W H Q->FB X (isTrue e X.env whole) (TP X B W Q) X.xe s
def PW.pt{t:TT}(h:PW X e t):PT X e t:=h _
def PA(X:Cx)(es:Sy)(t:TA):Prop:=
 ∀(pos:Pos)(B:Sb)(s:J')(W:St)(H:Hp)(Q:List V->Hp->Prop),Inv X B W H s->t W H Q->FB X (spliced<|backTo pos<|starEach es X.env) (AP X B W Q) X.xe s
def PS(X:Cx)(st:Stmt)(t:TS):Prop:=
 ∀(B:Sb)(s:J')(W:St)(H:Hp)(D:nZ),Inv X B W H s->t D W H->FB X (exec st X.env) (SP X B D) X.xe s
def Qb(X:Cx)(st:List Stmt)(t:TS):Prop:=
 ∀(B:Sb)(s:J')(W:St)(H:Hp)(D:nZ),Inv X B W H s->t D W H->FB X (execs st X.env) (SP X B D) X.xe s
def PK{α:Type}{t:Sem α}{Q Q':α->Shared->Prop}(h:wpAny M' A t Q E s)(z:∀a s,Q a s->Q' a s):wpAny M' A t Q' E s:=Y6 h z λ_ _ x=>x
section
inductive M3(i:Nat)(W:St)(H:Hp)(Q:VK):Prop
 |mk(v:_)(_:W[i]?=some (some v))(_:Q v H)
def tC(v:V):TE:=λ_ H Q=>Q v H
def Nv{i:Nat}(hN:X.N[i]?=some x)(O:SM X.env.scope x)(hd:(x==(hW:Str))=false:=by decide)(G:(x==("__classdict__":Str))=false:=by decide):PE X (.Name x pos) (M3 i):=by
 intro B s W H Q I h;let{v,e,h}:=h;let{m,U,hl}:=I.loc;let{u,r,l}:=hl i x v hN e O;have fin:EP X B W Q u s:=⟨v,H,I,r,h⟩;rcases l with⟨hk,Y⟩|⟨hk,c,hc,z⟩
 .exact wpAny_Name (wpAny_loadName_local I.ok.kind hk U Y fin) hd
 .rcases hk with hk|hk
  .exact wpAny_Name (wpAny_loadName_cell I.ok.kind hk hc z fin) hd
  .exact wpAny_Name (wpAny_loadName_free I.ok.kind hk hc z fin G) hd
def ae{i j pos}:PE X (.Constant (.int i) j pos) (tC<|.int i):=λ_ _ _ H _ I h=>wpAny_Constant_int {.int i,H,I.tok _,{_,M},h}
def lh{b j pos}:PE X (.Constant (.bool b) j pos) (tC<|.bl b):=λ_ _ _ H _ I h=>Constant_bool {.bl b,H,I,M,h}
def bc{j pos}:PE X (.Constant .none j pos) (tC .non):=λ_ _ _ H _ I h=>Constant_none {.non,H,I,M,h}
def fN{x j pos}:PE X (.Constant (.str x) j pos) (tC<|.str x):=λ_ _ _ H _ I h=>Calls.Constant_str {.str x,H,I.tok _,{_,M},h}
def Gl(X:Cx)(x:Str):Prop:=X.env.kindOf x=some .globalImplicit
def mR{W:St}{H:Hp}{Q:Sg}(I:Inv X B W H s)(z:Gl X x)(G:X.mg x=some u)(h:Q u s)
  (hd:(x==(hW:Str))=false:=by decide):FB X (eval (.Name x pos) X.env) Q E s:=
 Calls.Name_function_global I.ok.kind z (Calls.loadGlobal_global (by rw[I.ok.glob];exact I.mod.glob.keeps I.bk) G h) hd
def rX{W:St}{H:Hp}{Q:Sg}(I:Inv X B W H s)(z:Gl X x)(G:X.mg x=none)(O:bootBuiltins x=some u)(h:Q u s)
  (U:x≠"__name__":=by decide) (hd:(x==(hW:Str))=false:=by decide):FB X (eval (.Name x pos) X.env) Q E s:=by
 let{Y,h1,h2}:=I.mod.blt;exact Calls.Name_function_global I.ok.kind z (Calls.loadGlobal_builtin (by rw[I.ok.glob];exact I.mod.glob.keeps I.bk) G (by rw[I.ok.blt];exact h1.keeps I.bk) ((h2 x U).trans O) h) hd
def dn{v:V}(z:Gl X x)(G:X.mg x=some u)(r:RelV v u)(hd:(x==(hW:Str))=false:=by decide):PE X (.Name x pos) (tC v):=
 λ_ _ _ H _ I h=>mR I z G ⟨v,H,I,r,h⟩ hd
def wA{v:V}(z:Gl X x)(G:X.mg x=none)(O:bootBuiltins x=some u)(r:RelV v u)(U:x≠"__name__":=by decide)(hd:(x==(hW:Str))=false:=by decide):PE X (.Name x pos) (tC v):=
 λ_ _ _ H _ I h=>rX I z G O ⟨v,H,I,r,h⟩ U hd
variable{a b:Expr}{tb:TE}
def PC(X:Cx)(op:CmpOp)(a b:Expr)(t:TE):Prop:=
 ∀(B:Sb)(s:J')(W:St)(H:Hp)(Q:VK),Inv X B W H s->t W H Q->
  FB X (eval a X.env) (λv s₁=>FB X (eval b X.env) (λu s₂=>FB X (compareOp op v u) (EP X B W Q) X.xe s₂) X.xe s₁) X.xe s
inductive tBR(Q:Bool->Hp->Prop)(x:V)(H1:Hp):Prop
 |mk(c:_)(_:x= .bl c)(_:Q c H1)
def tB(t:TE):TT:=λW H Q=>t W H λx H1=>tBR Q x H1
def Il(h:PC X op a b t)(h1:behindInMarks op b=false:=by first|exact nobehind _ (_) (_)|rfl):PE X (.Compare a [op] [b] pos) t:=λB s W H Q I hw=>wpAny_Compare1 (h B s W H Q I hw) h1
def Ei(h:PC X op a b t)(h1:behindInMarks op b=false:=by first|exact nobehind _ (_) (_)|rfl):PT X (.Compare a [op] [b] pos) (tB t):=by
 intro B s W H Q I hw;refine wpAny_isTrue_Compare1 (PK (h B s W H _ I hw) λv s1 h1=>PK h1 λu U h2=>PK h2 λc s3 z=>?_) h1;let{x,H1,G,r1,O}:=z;let{d,rfl,q}:=O;cases r1;exact Y5 ⟨H1,G,q⟩
def bF(h:PE X e t)(he:∀z,isTrue e X.env z=(do let v<-z;standAt e.pos;holding [v] (truthy v)):=by subst_eqs):PT X e (tB t):=by
 intro B s W H Q I hw;refine isTrue_plain (PK (h B s W H _ I hw) λv s1 G=>?_)<|he _;let{x,H1,O,r1,U}:=G;let{d,rfl,q}:=U;cases r1;exact Y5 ⟨H1,O,q⟩
variable{tA tB':TT}{rest:Sy}
def tAnd(t u:TT):TT:=λW H Q=>t W H λc H1=>if c=true then u W H1 Q else Q false H1
def tOr(t u:TT):TT:=λW H Q=>t W H λc H1=>if c=true then Q true H1 else u W H1 Q
def tNot(t:TT):TT:=λW H Q=>t W H λc H1=>Q (!c) H1
def dh(ha:PT X a tA):PW X (.BoolOp .And [a] pos) tA:=by
 intro wh B s W H Q I h;refine isTrue_and<|PK (ha B s W H Q I h) λc s1 e=>?_;cases c with
 |true=>exact isTrue_and_nil e
 |false=>exact e
def jc(ha:PT X a tA):PW X (.BoolOp .Or [a] pos) tA:=by
 intro wh B s W H Q I h;refine isTrue_or<|PK (ha B s W H Q I h) λc s1 e=>?_;cases c with
 |false=>exact isTrue_or_nil e
 |true=>exact e
def eV(ha:PT X a tA)(hb:PW X (.BoolOp .And (b::rest) pos) tB'):PW X (.BoolOp .And (a::b::rest) pos) (tAnd tA tB'):=by
 intro wh B s W H Q I h;refine isTrue_and<|PK (ha B s W H _ I h) λc s1 zz=>?_;let{H1,z,G}:=zz;cases c with
 |true=>exact hb wh B s1 W H1 Q z G
 |false=>exact⟨H1,z,G⟩
def jJ(ha:PT X a tA)(hb:PW X (.BoolOp .Or (b::rest) pos) tB'):PW X (.BoolOp .Or (a::b::rest) pos) (tOr tA tB'):=by
 intro wh B s W H Q I h;refine isTrue_or<|PK (ha B s W H _ I h) λc s1 zz=>?_;let{H1,z,G}:=zz;cases c with
 |true=>exact⟨H1,z,G⟩
 |false=>exact hb wh B s1 W H1 Q z G
def eY(ha:PT X a tA):PT X (.UnaryOp .Not a pos) (tNot tA):=by
 intro B s W H Q I h;exact isTrue_not<|ha B s W H (λc H1=>Q (!c) H1) I h
def OK(ta tb:TE):TE:=λW H Q=>ta W H λx H1=>∃c,x= .bl c/\if c=true then tb W H1 Q else Q (.bl false) H1
def tOrV(ta tb:TE):TE:=λW H Q=>ta W H λx H1=>∃c,x= .bl c/\if c=true then Q (.bl true) H1 else tb W H1 Q
def OE(ta:TE):TE:=λW H Q=>ta W H λx H1=>∃c,x= .bl c/\Q (.bl<|!c) H1
def c7{op}(h:PE X a t):PE X (.BoolOp op [a] pos) t:=λB s W H Q I hw=>BoolOp_one (h B s W H Q I hw)
def fO(ha:PE X a ta)(hb:PE X (.BoolOp .And (b::rest) pos) tb):PE X (.BoolOp .And (a::b::rest) pos) (OK ta tb):=by
 intro B s W H Q I h;refine BoolOp_and<|PK (ha B s W H _ I h) λv s1 G=>?_;let{x,H1,O,r1,z}:=G;let{c,rfl,z}:=z;cases r1;refine Y5 ?_;cases c with
 |true=>exact hb B s1 W H1 Q O z
 |false=>exact{.bl false,H1,O,M,z}
def CG(ha:PE X a ta)(hb:PE X (.BoolOp .Or (b::rest) pos) tb):PE X (.BoolOp .Or (a::b::rest) pos) (tOrV ta tb):=by
 intro B s W H Q I h;refine BoolOp_or<|PK (ha B s W H _ I h) λv s1 G=>?_;let{x,H1,O,r1,z}:=G;let{c,rfl,z}:=z;cases r1;refine Y5 ?_;cases c with
 |false=>exact hb B s1 W H1 Q O z
 |true=>exact{.bl true,H1,O,M,z}
def BA(ha:PE X a ta):PE X (.UnaryOp .Not a pos) (OE ta):=by
 intro B s W H Q I h;refine UnaryOp_<|PK (ha B s W H _ I h) λv s1 z=>?_;let{x,H1,O,r1,G}:=z;let{c,rfl,G}:=G;cases r1;exact not_of<|Y5 {.bl<|!c,H1,O,M,G}
end
def Kv(K:FA)(H:Hp)(a:G')(xs:P7):Prop:=
 Rd H a (.lst xs)\/
  ∃(o:Obj)(its:So)(n:Nat),K.lookup a=some o/\o.cls= .type gs/\o.dict=none/\o.data= .seq its n/\its.size<=sizeLine/\P0 xs its.toList
def QO(K:FA)(H:Hp)(a:G')(xs:P7):Prop:=
 Rd H a (.tup xs)\/
  ∃(o:Obj)(its:So)(n:Nat),K.lookup a=some o/\o.cls= .type pq/\o.data= .seq its n/\its.size<=sizeLine/\P0 xs its.toList
noncomputable def absV:Value->Option V
 | .none=>some .non
 | .bool b=>some (.bl b)
 | .int i _=>some (.int i)
 | .str x _=>some (.str x)
 | .bytes b _=>some (.byt b)
 | .float b _=>some (.flt b)
 | .ref a=>some (.ref a)
 | .type n=>some (.ty n)
 |_=>none
def RelV.abs{x:V}(r:RelV x u):absV u=some x:=by
 cases x with
 |non=>cases r;rfl
 |bl _=>cases r;rfl
 |int _=>let{t,rfl}:=r;rfl
 |str _=>let{t,rfl}:=r;rfl
 |byt _=>let{t,rfl}:=r;rfl
 |flt _=>let{t,rfl}:=r;rfl
 |ref _=>cases r;rfl
 |ty _=>cases r;rfl
def RelV.inj{x:V}(r:RelV x u)(q:RelV y u):x=y:=WL (r.abs.symm.trans q.abs)
def P0.inj{ys:P7}(h:P0 xs us)(h':P0 ys us):xs=ys:=by
 induction h generalizing ys with
 |nil=>cases h';rfl
 |cons r t z=>cases h' with
  |cons G t'=>rw[r.inj G,z t']
section
variable{ys:P7}
def Kv.of(h:H a=some (.lst xs)):Kv K H a xs:= .inl (.inl h)
def QO.of(h:H a=some (.tup xs)):QO K H a xs:= .inl (.inl h)
def Inv.list(I:Inv X B W H s)(h:Kv X.K H a xs):∃its:List Value,P0 xs its/\PlainL s.heap a its.toArray/\xs.length<=sizeLine:=by
 rcases h with h|⟨o,its,n,hk,hc,hd,hs,hz,r⟩
 .let{z,its,n,r,e}:=h.ok I.hok;exact{its,r,{_,n,e,M,M,M},z}
 .refine{its.toList,r,{o,n,I.kIn a o hk,hc,hd,by simpa using hs},?_};have e:=r.length;simp only[Z3]at e;lia
def Inv.tuple(I:Inv X B W H s)(h:QO X.K H a xs):∃its:List Value,P0 xs its/\IsTup s.heap a its.toArray/\xs.length<=sizeLine:=by
 rcases h with h|⟨o,its,n,hk,hc,hs,hz,r⟩
 .let{z,its,r,p}:=h.ok I.hok;exact⟨its,r,p,z⟩
 .refine{its.toList,r,{o,I.kIn a o hk,hc,n,by simpa using hs},?_};have e:=r.length;simp only[Z3]at e;lia
def Inv.list_inj(I:Inv X B W H s)(h:Kv X.K H a xs)(h':Kv X.K H a ys):xs=ys:=by
 let{its,r,{o,n,e,_,_,d},_}:=I.list h;let{its',G,{o',n',z,_,_,d'},_}:=I.list h';rw[e]at z;cases z;rw[d]at d';injection d' with d1 _;have:its=its':=by simpa using Y2 Array.toList d1
 subst this;exact r.inj G
end
abbrev Cx.wish(X:Cx)(E:Sg):Cx:={X with xe:=E}
abbrev Cx.nox(X:Cx):Cx:=X.wish λ_ _=>False
def Cx.Ok.wish(ok:X.Ok)(E:Sg):(X.wish E).Ok:=
 ⟨ok.mod,ok.kind,ok.glob,ok.blt,ok.above,ok.inj,ok.has,ok.cab,ok.hd,ok.frames,ok.stk,ok.exf,ok.bs,ok.bsz,ok.noex,ok.exfs,ok.funs,ok.frf⟩
def Cx.Ok.unwish(ok:(X.wish E).Ok):X.Ok:=
 ⟨ok.mod,ok.kind,ok.glob,ok.blt,ok.above,ok.inj,ok.has,ok.cab,ok.hd,ok.frames,ok.stk,ok.exf,ok.bs,ok.bsz,ok.noex,ok.exfs,ok.funs,ok.frf⟩
def Inv.wish(I:Inv X B W H s)(E:Sg):Inv (X.wish E) B W H s:={I.ok.wish E,I.os,I.bare,I.base,I.loc,I.cell,I.free,I.freeC,I.pin,I.hok,I.len}
def Inv.unwish(I:Inv (X.wish E) B W H s):Inv X B W H s:=⟨I.ok.unwish,I.os,I.bare,I.base,I.loc,I.cell,I.free,I.freeC,I.pin,I.hok,I.len⟩
def SP.unwish{D:nZ}{f:Flow}(h:SP (X.wish E) B D f s'):SP X B D f s':=by
 cases f with
 |next=>let{z,H',I,q}:=h;exact⟨z,H',I.unwish,q⟩
 |brk=>let{z,H',I,q}:=h;exact⟨z,H',I.unwish,q⟩
 |cont=>let{z,H',I,q}:=h;exact⟨z,H',I.unwish,q⟩
 |ret u=>let{v,z,H',I,r,q}:=h;exact⟨v,z,H',I.unwish,r,q⟩
def Qb.nox{st:List Stmt}{t:TS}(h:Qb X.nox st t):Qb X st t:=λB s W H D I hw=>
 Y6 (h B s W H D (I.wish _) hw) (λ_ _ q=>q.unwish) λ_ _ z=>False.elim z
section
variable{st:Stmt}{rest:List Stmt}{t u:TS}
def sI:TS:=λD W H=>D.nx W H
def Bd(t u:TS):TS:=λD W H=>t {D with nx:=u D} W H
def aF:Qb X [] sI:=λ_ _ W H _ I h=>wpAny_execs_nil ⟨W,H,I,h⟩
def oH(h1:PS X st t)(h2:Qb X rest u):Qb X (st::rest) (Bd t u):=by
 intro B s W H D I h;refine wpAny_execs_cons<|PK (h1 B s W H {D with nx:=u D} I h) λf s1 q=>?_;cases f with
 |next=>
  let{z,H',G,q}:=q;exact h2 B s1 z H' D G q
 |ret v=>exact q
 |brk=>exact q
 |cont=>exact q
def aA(h1:PS X st t):Qb X [st] t:=by
 intro B s W H D I h;refine wpAny_execs_cons<|PK (h1 B s W H D I h) λf s1 q=>?_;cases f with
 |next=>exact wpAny_execs_nil q
 |ret v=>exact q
 |brk=>exact q
 |cont=>exact q
def Nd:TS:=λD W H=>D.bk W H
def Ii:PS X (.Break pos) Nd:=λ_ _ W H _ I h=>wpAny_Break ⟨W,H,I,h⟩
def Inv.quiet(I:Inv X B W H s):interactive X.env=false:=by simp[interactive,I.ok.kind]
def OG(te:TE):TS:=λD W H=>te W H λ_ H1=>D.nx W H1
def aM(he:PE X e te)(hs:swapsWith e none pos.line X.env=pure false:=by rfl):PS X (.Expr e pos) (OG te):=by
 intro B s W H D I h;exact wpAny_Expr_any (PK (he B s W H _ I h) λv s1 zz=>by let{x,H1,z,r1,G}:=zz;exact⟨W,H1,z,G⟩) I.quiet hs
def tRet(te:TE):TS:=λD W H=>te W H D.rt
def aD(he:PE X e te):PS X (.Return (some e) pos) (tRet te):=by
 intro B s W H D I h;exact wpAny_Return_some<|PK (he B s W H _ I h) λv s1 zz=>by let{x,H1,z,r1,G}:=zz;exact⟨x,W,H1,z,r1,G⟩
def OC:TS:=λD _ H=>D.rt .non H
def p7:PS X (.Return none pos) OC:=λ_ _ W H _ I h=>wpAny_Return_none {.non,W,H,I,M,h}
def tIfS(c:TT)(t u:TS):TS:=λD W H=>c W H λb H1=>if b=true then t D W H1 else u D W H1
def aO{a b:List Stmt}(hc:PT X c tc)(ha:Qb X a t)(hb:Qb X b u):PS X (.If c a b pos) (tIfS tc t u):=by
 intro B s W H D I h;refine wpAny_If<|PK (hc B s W H _ I h) λd s1 zz=>?_;let{H1,z,G}:=zz;cases d with
 |true=>exact ha B s1 W H1 D z G
 |false=>exact hb B s1 W H1 D z G
end
abbrev TG:=V->St->Hp->(St->Hp->Prop)->Prop
abbrev TGs:=List V->St->Hp->(St->Hp->Prop)->Prop
abbrev _root_.SZ:=St->Hp->Prop
def PG(X:Cx)(target:Expr)(t:TG):Prop:=
 ∀(B:Sb)(s:J')(W:St)(H:Hp)(v:V)(u:P5)(Q:SZ),Inv X B W H s->RelV v u->t v W H Q->
  FB X (assign target X.env u) (λ_ s'=>∃σ' H',Inv X B σ' H' s'/\Q σ' H') X.xe s
def PGs(X:Cx)(ts:Sy)(t:TGs):Prop:=
 ∀(B:Sb)(s:J')(W:St)(H:Hp)(vs:P7)(us:Sa)(Q:SZ),Inv X B W H s->P0 vs us->t vs W H Q->
  FB X (assignInOrder ((assignEach ts X.env).map (·.2)) us) (λ_ s'=>∃σ' H',Inv X B σ' H' s'/\Q σ' H') X.xe s
abbrev Of:=V->V->V->Hp->(Hp->Prop)->Prop
def PSet(X:Cx)(t:Of):Prop:=
 ∀(B:Sb)(s:J')(W:St)(H:Hp)(o i v:V)(ov iv u:P5)(Q:Hp->Prop),Inv X B W H s->RelV o ov->RelV i iv->RelV v u->t o i v H Q->
  FB X (setItem ov iv u) (λ_ s'=>∃H',Inv X B W H' s'/\Q H') X.xe s
abbrev TIp:=V->V->Hp->VK->Prop
def PIp(X:Cx)(op:Operator)(t:TIp):Prop:=
 ∀(B:Sb)(s:J')(W:St)(H:Hp)(x y:V)(v u:P5)(Q:VK),Inv X B W H s->RelV x v->RelV y u->t x y H Q->
  FB X (inplaceOp op v u) (EP X B W Q) X.xe s
abbrev dA(i:Nat):TG:=λv W H Q=>Q (W.set i<|some v) H
def E4(hN:X.N.Nodup)(hi:X.N[i]?=some x)(hx:Loc X.env.scope x)(hf:X.fn x=true\/X.env.scope.names.lookup x=some .local:=by ac_rfl):PG X (.Name x pos) (dA i):=by
 intro B s W H v u Q I r h;exact wpAny_assign_Name<|wL I hN hi hx r (λs' z=>{_,H,z,h}) hf
def gNil:TGs:=λvs W H Q=>vs=[]/\Q W H
inductive Pn(t:TG)(u:TGs)(vs:P7)(W:St)(H:Hp)(Q:SZ):Prop
 |mk(v r:_)(_:vs=v::r)(_:t v W H λσ' H'=>u r σ' H' Q)
def Bx:PGs X [] gNil:=by
 intro B s W H vs us Q I r h;let{e,h}:=h;subst e;cases r;exact assignInOrder_nil ⟨W,H,I,h⟩
def je{t:TG}{u:TGs}(h1:PG X e t)(h2:PGs X es u)
  (hs:(assignEach (e::es) X.env).map (·.2)=assign e X.env::(assignEach es X.env).map (·.2):=by rfl):PGs X (e::es) (Pn t u):=by
 intro B s W H vs us Q I r h;let{v,vr,O,h}:=h;subst O;cases r with
 |cons r U=>
  rw[hs];refine assignInOrder_cons<|PK (h1 B s W H _ _ _ I r h) λ_ s1 z=>?_;let{G,H1,Y,Z}:=z;exact h2 B s1 G H1 _ _ Q Y U Z
inductive gTup(K:FA)(n:Nat)(t:TGs)(v:V)(W:St)(H:Hp)(Q:SZ):Prop
 |mk(a xs:_)(_:v= .ref a)(_:QO K H a xs)(_:xs.length=n)(_:t xs W H Q)
def El{k:Nat}{t:TGs}(hc:X.calm=true)(h:PGs X es t)
  (G:(assignEach es X.env).length=n:=by rfl) (z:(assignEach es X.env).findIdx? (·.1)=none:=by rfl):PG X (.Tuple es k pos) (gTup X.K n t):=by
 intro B s W H v u Q I r hw;let{a,xs,O,hq,hl,hw}:=hw;subst O;cases r;let{its,rv,U,hz}:=I.tuple hq;refine assign_Tuple_tuple (I.ok.hd hc) U (by simp[G,<-hl,rv.length]) z λh' hx=>?_;have Y:Inv X B W H {s with heap:=h'}:=I.kept (t':=s.toks) λb o e=>hx b o (ZG<|WS e) e;exact h B _ W H xs _ Q Y (by simpa using rv) hw
def gSub(to ti:TE)(t:Of):TG:=λv W H Q=>to W H λo H1=>ti W H1 λi H2=>t o i v H2 λH3=>Q W H3
def By{o i:Expr}{to U:TE}{t:Of}(Y:PE X o to)(hi:PE X i U)(hs:PSet X t)
  (ha:∀v,assign (.Subscript o i pos) X.env v=(do
   let G<-holding [v] (eval o X.env)
   let O<-holding [v,G] (eval i X.env)
   standAt pos
   holding [v,G,O] (setItem G O v)
   release [v,G,O] []):=by subst_eqs):PG X (.Subscript o i pos) (gSub to U t):=by
 intro B s W H v u Q I r h;rw[ha];refine WO<|Yh (PK (Y B s W H _ I h) λG s1 z=>?_);let{x,H1,Z,r1,q1}:=z;refine WO<|Yh (PK (hi B s1 W H1 _ Z q1) λO s2 z=>?_);let{y,H2,I2,r2,q2}:=z;refine WO<|wpAny_standAt (WO<|Yh<|PK (hs B s2 W H2 x y v G O u _ I2 r1 r2 r q2) λ_ s3 z=>?_);let{H3,I3,q3}:=z;exact wpAny_release ⟨W,H3,I3,q3⟩
def HM(te:TE)(g:TG):TS:=λD W H=>te W H λx H1=>g x W H1 D.nx
def xB{g:TG}(he:PE X e te)(G:PG X tg g)(hs:swapsWithSole [tg] e pos.line X.env=pure false:=by rfl)(hw:swappedStores [tg] e X.env=pure none:=by rfl)
  (h1:(assignEach [tg] X.env).map (·.2)=[assign tg X.env]:=by rfl):PS X (.Assign [tg] e pos) (HM te g):=by
 intro B s W H D I h;refine wpAny_Assign_stores (PK (he B s W H _ I h) λv s1 z=>?_) hs hw;let{x,H1,O,r1,U}:=z;rw[h1];exact PK (G B s1 W H1 x v _ O r1 U) λ_ Y q=>q
def oK(hN:X.N.Nodup)(hi:X.N[i]?=some x)(hx:Loc X.env.scope x)(he:PE X e te)(hs:swapsWith e (some<|.Name x pos') pos.line X.env=pure false:=by rfl)(hf:X.fn x=true\/X.env.scope.names.lookup x=some .local:=by ac_rfl):
  PS X (.Assign [.Name x pos'] e pos) (HM te<|dA i):=by
 intro B s W H D I h;refine wpAny_Assign_Name (PK (he B s W H _ I h) λv s1 z=>?_) hs;let{y,H1,G,r1,O}:=z;exact wL G hN hi hx r1 (λY U=>{_,H1,U,O}) hf
inductive tAug(i:Nat)(te:TE)(ti:TIp)(D:nZ)(W:St)(H:Hp):Prop
 |mk(x:_)(_:W[i]?=some (some x))(_:te W H λy H1=>ti x y H1 λz H2=>D.nx (W.set i<|some z) H2)
def Ej{op:Operator}{Z:TIp}(hN:X.N.Nodup)(hi:X.N[i]?=some x)(hx:Loc X.env.scope x)(he:PE X e te)(ho:PIp X op Z)(hf:X.fn x=true\/X.env.scope.names.lookup x=some .local:=by ac_rfl):
  PS X (.AugAssign (.Name x pos') op e pos) (tAug i te Z):=by
 intro B s W H D I h;let{v,e1,h}:=h;let{m,hn,hl}:=I.loc;have Y:SM X.env.scope x:=by rcases hx with k|k;exact .inl k;exact .inr<|.inl k
 let{u,r,l}:=hl i x v hi e1 Y;refine wpAny_AugAssign_Name ?_;have go:FB X (eval e X.env) (λw s₂=>FB X (inplaceOp op u w) (λr U=>FB X (storeName X.env x r) (λ_=>SP X B D .next) X.xe U) X.xe s₂) X.xe s:=by
  refine PK (he B s W H _ I h) λw s1 G=>?_;let{y,H1,I1,r1,q1}:=G;refine PK (ho B s1 W H1 v y u w _ I1 r r1 q1) λz s2 G=>?_;let{zv,H2,I2,r2,q2}:=G;exact wL I2 hN hi hx r2 (λs3 I3=>{_,H2,I3,q2}) hf
 rcases l with⟨hk,hm⟩|⟨hk,c,hc,O⟩
 .exact wpAny_loadName_local I.ok.kind hk hn hm go
 .rcases hk with hk|hk
  .exact wpAny_loadName_cell I.ok.kind hk hc O go
  .rcases hx with k|k
   .have:X.env.scope.names.lookup x=some .free:=hk;rw[k]at this;cases this
   .have:X.env.scope.names.lookup x=some .free:=hk;rw[k]at this;cases this
inductive ipI(f:Int->Int->Int)(x y:V)(H:Hp)(Q:VK):Prop
 |mk(i j:_)(_:x= .int i)(_:y= .int j)(_:Q (.int<|f i j) H)
def Ji:PIp X .Add (ipI λi j=>i+j):=by
 intro B s W H x y v u Q I r1 z h;let{i,j,G,e2,q}:=h;subst G;subst e2;let{t,rfl}:=r1;let{t',rfl}:=z;exact iadd_int {.int _,H,I.tok _,{_,M},q}
def NS:PIp X .Sub (ipI λi j=>i-j):=by
 intro B s W H x y v u Q I r1 z h;let{i,j,G,e2,q}:=h;subst G;subst e2;let{t,rfl}:=r1;let{t',rfl}:=z;exact isub_int {.int _,H,I.tok _,{_,M},q}
def HH(c:TT)(tb:TS):TS:=λD W H=>∃Dr:Nat->St->Hp->Prop,(∃m,Dr m W H)/\∀m W H,Dr m W H->
 c W H λb H1=>if b=true then ∃N:St->Hp->Prop,(∀σ' H',N σ' H'->∃m',m'<m/\Dr m' σ' H')/\tb {D with nx:=N,ct:=N,bk:=D.nx} W H1 else D.nx W H1
def oJ(hp:PassesOwn (model X.prog X.w) X.A X.env X.xe)(hc:PT X c tc)(hb:Qb X body tb):PS X (.While c body [] pos) (HH tc tb):=by
 intro B s W H D I h;let{Dr,{m0,w0},turn}:=h;refine wpAny_While<|codeAny_whileLoop (λn s'=>∃O H',Inv X B O H' s'/\Dr n O H') ?_ m0 ⟨W,H,I,w0⟩;rintro n s1 ⟨G,H1,I1,w1⟩;refine Yd hp<|PK (hc B s1 G H1 _ I1<|turn n G H1 w1) λb s2 zz=>?_;let{H2,I2,U}:=zz;cases b with
 |true=>
  let{N,hN,U}:=U;rw[WJ M];refine Yd hp<|PK (hb B s2 G H2 _ I2 U) λf s3 q3=>?_;cases f with
  |next=>
   let{z,H3,Y,Z}:=q3;let{m',hm,w3}:=hN z H3 Z;exact⟨m',hm,z,H3,Y,w3⟩
  |cont=>
   let{z,H3,Y,Z}:=q3;let{m',hm,w3}:=hN z H3 Z;exact⟨m',hm,z,H3,Y,w3⟩
  |brk=>exact q3
  |ret v=>exact q3
 |false=>
  rw[WI Z1];exact wpAny_execs_nil ⟨G,H2,I2,U⟩
set_option genInjectivity false in
structure It where
 go:Nat->Hp->Prop
 yld:Nat->Hp->V->Hp->Prop
 stop:Nat->Hp->Prop
def pX(X:Cx)(B:Sb)(H:Hp)(b:G'):Prop:=
 H b=none/\b≠X.env.locals/\b∉X.fs/\(b∈X.ex\/X.s₀.heap.objs.size<=b)/\(∀x c,X.env.cells.lookup x=some c->c≠b)/\∀p∈X.pn++B,p.1≠b
def Inv.fpOk(I:Inv X B W H s)(hb:s.heap.objs.size<=b)(G:H' b=none):pX X B H' b:=by
 refine{G,VF<|Zr I.lt hb,I.nofs hb,.inr<|Zl I.sz hb,λx c e z=>?_,λp O z=>?_}
 .let{v,q}:=I.cell x c e;exact WN (Zr q.lt<|by rwa[z])<|XD _
 .exact WN (Zr (WS (I.pin p O).1)<|by rwa[z]) (XD _)
structure Dx(P:Se)(w:Sf)(K:FA)(tg:Expr)(J:It)(fp:Si)(it:G')(tn:Nat->Heap->Prop):Prop where
 mem:it∈fp
 obj:∀i h,tn i h->∀b∈fp,∃o,h.get? b=some o/\∀v,o.data≠ .cell v
 keep:∀i h h',tn i h->(∀b∈fp,∀o,h.get? b=some o->h'.get? b=some o)->tn i h'
 item:∀(X:Cx),X.prog=P->X.w=w->X.K=K->X.calm=true->∀(i:Nat)(B:Sb)(s:J')(W:St)(H:Hp)(E:Sg),Inv X B W H s->(∀b∈fp,pX X B H b)->tn i s.heap->J.go i H->
  wpAny (model P w) X.A (pyNext<|.ref it) (λr s1=>∃u,r=some u/\
   wpAny (model P w) X.A (letOwnedTupleGo tg (.ref it) u) (λ_ s2=>∃x H',Inv X B W H' s2/\RelV x u/\J.yld i H x H'/\tn (i+1) s2.heap/\∀b∈fp,H' b=none) E s1) E s
 done:∀(X:Cx),X.prog=P->X.w=w->X.K=K->X.calm=true->∀(i:Nat)(B:Sb)(s:J')(W:St)(H:Hp)(E:Sg),Inv X B W H s->(∀b∈fp,pX X B H b)->tn i s.heap->J.stop i H->
  wpAny (model P w) X.A (pyNext<|.ref it) (λr s1=>r=none/\Inv X B W H s1) E s
 self:∀(A:Sj)(i:Nat)(s:J')(Q:Sg)(E:Sg),tn i s.heap->Q (.ref it) s->wpAny (model P w) A (pyIter<|.ref it) Q E s
abbrev TI:=St->Hp->(It->Hp->Prop)->Prop
def PIE(X:Cx)(B:Sb)(W:St)(tg:Expr)(R:It->Hp->Prop)(itv:P5)(s2:J'):Prop:=
 ∃(it:G')(fp:Si)(tn:Nat->Heap->Prop)(J:It)(H':Hp),itv= .ref it/\Inv X B W H' s2/\Dx X.prog X.w X.K tg J fp it tn/\tn 0 s2.heap/\(∀b∈fp,pX X B H' b)/\R J H'
def PI(X:Cx)(tg iter:Expr)(wi:TI):Prop:=
 ∀(B:Sb)(s:J')(W:St)(H:Hp)(R:It->Hp->Prop),Inv X B W H s->wi W H R->
  FB X (eval iter X.env) (λv s1=>FB X (pyIter v) (PIE X B W tg R) X.xe s1) X.xe s
def AB{o:Obj}{n:String}{vs:So}{Q:Te}(G:s.heap.get? it=some o)(hc:o.cls= .type n)(hd:o.data= .fields vs)
  (I:["enumerate","zip","dict_itemiterator","dict_reverseitemiterator","odict_iterator","itertools.zip_longest","itertools.pairwise"].contains n=false) (z:Q Unit.unit s):wpAny M' A (letOwnedTupleGo tg (.ref it) u) Q E s:=by
 unfold letOwnedTupleGo;cases tg<;>first
  |exact WV z
  |(cases u<;>first
    |exact WV z
    |(refine WO<|wpAny_load G ?_
      rw[hc,hd];show wpAny M' A (if(["enumerate","zip","dict_itemiterator","dict_reverseitemiterator","odict_iterator","itertools.zip_longest","itertools.pairwise"].contains n&&vs[0]?==some (rawInt _))=true then _ else _) Q E s;rw[WI (by intro h;rw[I,XH]at h;cases h)];exact WV z))
def RV(K:FA)(a:G'):It:=
 {λi H=>∃xs x,Kv K H a xs/\xs[i]?=some x,λi H x H'=>H'=H/\∀xs,Kv K H a xs->xs[i]?=some x,λi H=>∃xs,Kv K H a xs/\xs.length<=i}
def Rc(lo:Int)(n:Nat):It:={λi _=>i<n,λi H x H'=>H'=H/\x= .int (lo+i),λi _=>n<=i}
def FX(a it:G'):Dx P w K tg (RV K a) [it] it (λi h=>h.IsListIter it a i) where
 mem:=by simp
 obj:=λi h st b hb=>by
  have e:b=it:=by simpa using hb
  subst e;let{o,e,c,d}:=st;exact{o,e,λv z=>by rw[d]at z;cases z}
 keep:=λi h h' st k=>st.at λo e=>k it (by simp) o e
 item:=by
  intro X G hw hK hc i B s W H E I hf st O;subst G hw hK;let{xs,x,hq,hx}:=O;let{its,rv,p,hz}:=I.list hq;let{u,hu,ru}:=rv.get hx;let{U,Y,f2,Z,f4,f5}:=hf it (by simp);refine wpAny_pyNext_list_item st p.isList (x:=u) (by simpa using hu) λh' st' sb=>?_;have I1:Inv X B W H {s with heap:=h'}:=I.turned (t':=s.toks) (λb o hb e=>(sb.2 b hb).trans e) U Y Z f4 f5;let{o,e,c,d}:=id st';exact{u,M,AB (s:={s with heap:=h'}) e c d (_) {x,H,I1,ru,{M,λys hy=>by rwa[I.list_inj hy hq]},st',λb hb=>(hf b hb).1}}
 done:=by
  intro X G hw hK hc i B s W H E I hf st O;subst G hw hK;let{xs,hq,hx}:=O;let{its,rv,p,hz}:=I.list hq;let{U,Y,f2,Z,f4,f5}:=hf it (by simp);have hl:=rv.length;exact wpAny_pyNext_list_end (I.ok.hd hc) st p.isList (by simp;lia) λh' eb=>{M,I.turned (t':=s.toks) (λb o hb e=>eb b o hb e) U Y Z f4 f5}
 self:=λ_ _ _ _ _ st h=>wpAny_pyIter_listiter st h
def DZ(it:G')(lo:Int)(n:Nat):Dx P w K tg (Rc lo n) [it] it (λi h=>IsRangeIter h it (lo+(i:Nat)*1) ((n:Int)-(i:Nat)) 1) where
 mem:=by simp
 obj:=λi h st b hb=>by
  have e:b=it:=by simpa using hb
  subst e;exact{_,st,λv z=>by
   have z':Data.fields _=Data.cell v:=z;cases z'}
 keep:=λi h h' st k=>k it (by simp) _ st
 item:=by
  intro X G hw hK hc i B s W H E I hf st O;subst G hw hK;let{U,Y,f2,Z,f4,f5}:=hf it (by simp);have Dr:=Walks.range (prog:=X.prog) (w:=X.w) (I.ok.hd hc) it lo 1 n;refine Dr.item i s _ _ O st λv h' tk hv st' kk=>?_;let{t,rfl}:=hv;have I1:Inv X B W H {s with heap:=h',toks:=tk}:=I.turned (λb o hb e=>kk b o (by simpa using hb) e) U Y Z f4 f5;refine{_,M,AB (s:={s with heap:=h',toks:=tk}) (n:="range_iterator") st' M M (_) {.int<|lo+i,H,I1,{t,?_},⟨M,M⟩,st',λb hb=>(hf b hb).1}};rw[Int.mul_one]
 done:=by
  intro X G hw hK hc i B s W H E I hf st O;subst G hw hK;let{U,Y,f2,Z,f4,f5}:=hf it (by simp);exact wpAny_pyNext_range_end (I.ok.hd hc) st (by have:n<=i:=O;lia) λh' eb=>{M,I.turned (t':=s.toks) (λb o hb e=>eb b o hb e) U Y Z f4 f5}
 self:=λ_ _ _ _ _ st h=>wpAny_pyIter_rangeiter st h
inductive NV(K:FA)(R:It->Hp->Prop)(x:V)(H1:Hp):Prop
 |mk(a:_)(_:x= .ref a)(_:(∃xs,Kv K H1 a xs))(_:R (RV K a) H1)
def Pg(K:FA)(tl:TE):TI:=λW H R=>tl W H λx H1=>NV K R x H1
def dj{l:Expr}{tl:TE}(hl:PE X l tl):PI X tg l (Pg X.K tl):=by
 intro B s W H R I h;refine PK (hl B s W H _ I h) λv s1 G=>?_;let{x,H1,z,r1,O}:=G;let{a,e,{xs,hq},q}:=O;subst e;cases r1;let{its,rv,p,hz}:=z.list hq;refine wpAny_pyIter_list p.isList ?_;refine{s1.heap.objs.size,[s1.heap.objs.size],_,_,H1,M,z.kept (t':=s1.toks) λb o e=>WK _ e,FX a _,{_,WT _ M,M,M},λb hb=>?_,q};have e:b=s1.heap.objs.size:=by simpa using hb
 subst e;exact z.fpOk (Q5 _)<|z.hok.fresh (Q5 _)
def CD{R:It->Hp->Prop}{hi:Int}{t u v:Tok}{tk:Nat}(I:Inv X B W H s)(h1: -(2^62)<=lo)(h2:lo<2^62)(G: -(2^62)<=hi)(O:hi<2^62)
  (q:R (Rc lo (hi-lo).toNat) H):FB X (pyIter<|.ref s.heap.objs.size) (PIE X B W tg R) E {s with heap:=s.heap.push {cls:= .type oq,data:= .fields #[.int lo t,.int hi u,.int 1 v]},toks:=tk}:=by
 refine wpAny_pyIter_range (IsRange.new ..) (small_one h1 h2 G O) ?_;have z:Inv X B W H {s with heap:=s.heap.push {cls:= .type oq,data:= .fields #[.int lo t,.int hi u,.int 1 v]},toks:=tk}:=I.kept λb o e=>WK _ e;refine{(s.heap.push {cls:= .type oq,data:= .fields #[.int lo t,.int hi u,.int 1 v]}).objs.size,[(s.heap.push {cls:= .type oq,data:= .fields #[.int lo t,.int hi u,.int 1 v]}).objs.size],_,_,H,M,
  z.kept (t':=tk) λb o e=>WK _ e,DZ _ lo (hi-lo).toNat,?_,λb hb=>?_,q}
 .have U:lo+((0:Nat):Int)*1=lo:=by simp
  have e2:(((hi-lo).toNat:Nat):Int)-((0:Nat):Int)=Builtin.Range.rangeSize lo hi 1:=by rw[rangeSize_one];split<;>lia
  show IsRangeIter _ _ (lo+((0:Nat):Int)*1) ((((hi-lo).toNat:Nat):Int)-((0:Nat):Int)) 1;rw[U,e2];exact WT _ M
 .have e:b=(s.heap.push {cls:= .type oq,data:= .fields #[.int lo t,.int hi u,.int 1 v]}).objs.size:=by simpa using hb
  subst e;exact z.fpOk (Q5 _) (z.hok.fresh<|Q5 _)
inductive NU(R:It->Hp->Prop)(vs:P7)(H1:Hp):Prop
 |mk(j:Int)(_:vs=[.int j])(_: -(2^62)<=j)(_:j<2^62)(_:R (Rc 0 j.toNat) H1)
def Pf(ta:TA):TI:=λW H R=>ta W H λvs H1=>NU R vs H1
def Pe(ta:TA):TI:=λW H R=>ta W H λvs H1=>∃i j:Int,vs=[.int i,.int j]/\(-(2^62)<=i/\i<2^62/\-(2^62)<=j/\j<2^62)/\R (Rc i (j-i).toNat) H1
def iQ{a:Expr}{ta:TA}(O:Gl X oq)(U:X.mg oq=none)(ha:PA X [a] ta)(hs:starEach [a] X.env=[(false,eval a X.env)]:=by rfl):PI X tg (.Call (.Name oq p) [a] [] pos) (Pf ta):=by
 intro B s W H R I h;refine Call_<|rX I O U boot_range (PyProof.Rows.callWith_type1 (PK (ha pos B s W H _ I h) λus s1 z=>?_) hs M);let{vs,H1,Y,r1,G}:=z;let{j,e,G,Z,q}:=G;subst e;cases r1 with
 |cons r rr=>
  cases rr;let{t,rfl}:=r;exact call_range_1<|CD Y () () G Z (by simpa using q)
def Gm{a b:Expr}{ta:TA}(Y:Gl X oq)(Z:X.mg oq=none)(ha:PA X [a,b] ta)(hs:starEach [a,b] X.env=[(false,eval a X.env),(false,eval b X.env)]:=by rfl)(z:starEach [b] X.env=[(false,eval b X.env)]:=by rfl):
  PI X tg (.Call (.Name oq p) [a,b] [] pos) (Pe ta):=by
 intro B s W H R I h;refine Call_<|rX I Y Z boot_range (PyProof.Rows.callWith_type1 (PK (ha pos B s W H _ I h) λus s1 G=>?_) (by rw[hs,z])<|by rw[z];rfl);let{vs,H1,I1,r1,O}:=G;let{i,j,e,{O,q2,q3,q4},q}:=O;subst e;cases r1 with
 |cons r U=>
  cases U with
  |cons r' U=>
   cases U;let{t,rfl}:=r;let{t',rfl}:=r';exact call_range_2<|CD I1 O q2 q3 q4 q
def tFor(wi:TI)(g:TG)(tb:TS):TS:=λD W H=>wi W H λJ H1=>∃Dr:Nat->Nat->St->Hp->Prop,(∃m,Dr 0 m W H1)/\∀i m W H,Dr i m W H->
 (J.stop i H/\D.nx W H)\/(J.go i H/\∃N:St->Hp->Prop,(∀σ' H',N σ' H'->∃m',m'<m/\Dr (i+1) m' σ' H')/\∀x H',J.yld i H x H'->g x W H' λσ2 H2=>tb {D with nx:=N,ct:=N,bk:=D.nx} σ2 H2)
def xC(fp:Si)(h:Heap):List (Addr×Obj):=fp.filterMap λb=>(h.get? b).map λo=>(b,o)
def mN{o:Obj}(hb:b∈fp)(e:h.get? b=some o):(b,o)∈xC fp h:=List.mem_filterMap.mpr {b,hb,by rw[e];rfl}
def Gq{p:Addr×Obj}(z:p∈xC fp h):p.1∈fp/\h.get? p.1=some p.2:=by
 let{b,hb,e}:=List.mem_filterMap.mp z;cases q:h.get? b with
 |none=>rw[q]at e;cases e
 |some o=>
  rw[q]at e;have G:(b,o)=p:=WL e;subst G;exact⟨hb,q⟩
def Inv.pinned(I:Inv X B W H s)(hf:∀b∈fp,pX X B H b)(O:∀b∈fp,∃o,s.heap.get? b=some o/\∀v,o.data≠ .cell v):Inv X (B++xC fp s.heap) W H s:=
 I.pins_of λp U=>(Q6.mp U).elim (λz=>I.pin p<|Zq _ z) λz=>by
  let{hb,e}:=Gq z;let{Y,Z,f2,_}:=hf p.1 hb;let{o,G,d}:=O p.1 hb;rw[e]at G;cases G;exact⟨e,Y,Z,f2,d⟩
def Inv.unpinned{pl:Sb}(I:Inv X (B++pl) W H s):Inv X B W H s:=I.pins_of λp z=>I.pin p (Zq _<|Xh _ z)
def d9{iter:Expr}{wi:TI}{g:TG}(hp:PassesOwn (model X.prog X.w) X.A X.env X.xe)(hc:X.calm=true)(hi:PI X tg iter wi)(hg:PG X tg g)(hb:Qb X body tb)
  (hs:∀x,foldedSetIterable iter X.env x=pure x:=by subst_eqs):PS X (.For tg iter body [] pos) (tFor wi g tb):=by
 intro B s W H D I h;refine wpAny_For (PK (hi B s W H _ I h) λv s1 h1=>PK h1 λah s2 h2=>?_) hs;let{it,fp,tn,J,H2,e,I2,T,st2,f2,Dr,{m0,w0},turn}:=h2;subst e;have G:∀{H':Hp},(∀b∈fp,H' b=none)->∀b∈fp,pX X B H' b:=λhn b hb=>{hn b hb,(f2 b hb).2};refine codeAny_forLoop_any (λn s'=>∃i O H',Inv X B O H' s'/\tn i s'.heap/\(∀b∈fp,H' b=none)/\Dr i n O H') ?_ m0 {0,W,H2,I2,st2,λb hb=>(f2 b hb).1,w0};rintro n s3 ⟨i,U,H3,I3,a2,a3,w3⟩;rcases turn i n U H3 w3 with⟨a4,qn⟩|⟨go,N,hN,step⟩
 .refine Yd hp<|PK (T.done X M M M hc i B s3 U H3 X.xe I3 (G a3) a2 a4) λr s4 zz=>?_;let{hr,I4}:=zz;subst hr;exact wpAny_execs_nil ⟨U,H3,I4,qn⟩
 .refine Yd hp<|PK (T.item X M M M hc i B s3 U H3 X.xe I3 (G a3) a2 go) λr s4 zz=>?_;let{u,hr,h4}:=zz;subst hr;refine Yd hp<|PK h4 λ_ s5 a0=>?_;let{x,H5,I5,r5,y5,a1,a5}:=a0;have a9:=I5.pinned (G a5) (T.obj _ _ a1);refine Yd hp<|PK (hg _ s5 U H5 x u _ a9 r5<|step x H5 y5) λ_ s6 a0=>?_;let{aa,H6,I6,q6}:=a0;refine Yd hp<|PK (hb _ s6 aa H6 _ I6 q6) λf s7 Z=>?_;have again:∀{z:St}{H7:Hp},Inv X (B++xC fp s5.heap) z H7 s7->N z H7->∃m,m<n/\∃i O H',Inv X B O H' s7/\tn i s7.heap/\(∀b∈fp,H' b=none)/\Dr i m O H':=λ{z H7} Y n7=>by
   let{m',hm,w7}:=hN z H7 n7;refine{m',hm,i+1,z,H7,Y.unpinned,T.keep _ _ _ a1 λb hb o e=>(Y.pin (b,o)<|Zq _<|Zq _<|mN hb e).1,λb hb=>?_,w7};let{o,e,d}:=T.obj _ _ a1 b hb;exact(Y.pin (b,o)<|Zq _<|Zq _<|mN hb e).2.1
  cases f with
  |next=>let{z,H7,Y,n7}:=Z;exact again Y n7
  |cont=>let{z,H7,Y,n7}:=Z;exact again Y n7
  |brk=>let{z,H7,Y,Z}:=Z;exact⟨z,H7,Y.unpinned,Z⟩
  |ret v=>let{x7,z,H7,Y,r7,Z}:=Z;exact⟨x7,z,H7,Y.unpinned,r7,Z⟩
abbrev _root_.Ta:=Nat->St->Hp->Prop
def Ju{g:TG}{D:nZ}(Pv:Ta)(O:Pv 0 W H)(hl:∀i W H,i<=xs.length->Pv i W H->Kv K H a xs)
  (hs:∀i x W H,xs[i]?=some x->Pv i W H->g x W H λz H2=>tb {D with nx:=Pv (i+1),ct:=Pv (i+1),bk:=D.nx} z H2) (hd:∀W H,Pv xs.length W H->D.nx W H):
  ∃Dr:Nat->Nat->St->Hp->Prop,(∃m,Dr 0 m W H)/\∀i m W H,Dr i m W H->
   ((RV K a).stop i H/\D.nx W H)\/((RV K a).go i H/\∃N:St->Hp->Prop,(∀G H',N G H'->∃m',m'<m/\Dr (i+1) m' G H')/\∀x H',(RV K a).yld i H x H'->g x W H' λz H2=>tb {D with nx:=N,ct:=N,bk:=D.nx} z H2):=by
 refine{λi m W H=>m=xs.length-i/\i<=xs.length/\Pv i W H,{xs.length,by simp,Za _,O},?_};rintro i m W H ⟨rfl,hi,p⟩;have q:=hl i W H hi p;by_cases I:i<xs.length
 .refine .inr {{xs,xs[i],q,by simp[I]},Pv<|i+1,λG H' U=>{xs.length-(i+1),(),M,I,U},λx H' y=>?_};let{e,y}:=y;subst e;exact hs i x W _ (y xs q) p
 .have e:i=xs.length:=();subst e;exact .inl {{xs,q,Q5 _},hd W H p}
def AD{g:TG}{D:nZ}(Pv:Ta)(O:Pv 0 W H)
  (hs:∀i W H,i<n->Pv i W H->g (.int<|lo+i) W H λz H2=>tb {D with nx:=Pv (i+1),ct:=Pv (i+1),bk:=D.nx} z H2) (hd:∀W H,Pv n W H->D.nx W H):
  ∃Dr:Nat->Nat->St->Hp->Prop,(∃m,Dr 0 m W H)/\∀i m W H,Dr i m W H->
   ((Rc lo n).stop i H/\D.nx W H)\/((Rc lo n).go i H/\∃N:St->Hp->Prop,(∀G H',N G H'->∃m',m'<m/\Dr (i+1) m' G H')/\∀x H',(Rc lo n).yld i H x H'->g x W H' λz H2=>tb {D with nx:=N,ct:=N,bk:=D.nx} z H2):=by
 refine{λi m W H=>m=n-i/\i<=n/\Pv i W H,{n,by simp,Za _,O},?_};rintro i m W H ⟨rfl,hi,p⟩;by_cases I:i<n
 .refine .inr {I,Pv<|i+1,λG H' U=>{n-(i+1),(),M,I,U},λx H' y=>?_};let{e,y}:=y;subst e y;exact hs i W _ I p
 .have e:i=n:=();subst e;exact .inl {Q5 _,hd W H p}
abbrev R2:=V->V->Hp->VK->Prop
abbrev _root_.Tg:=Value->Value->Sem Value
def Qm(X:Cx)(f:Tg)(r:R2):Prop:=
 ∀(B:Sb)(s:J')(W:St)(H:Hp)(x y:V)(v u:P5)(Q:VK),Inv X B W H s->RelV x v->RelV y u->r x y H Q->
  FB X (f v u) (EP X B W Q) X.xe s
def UnR(X:Cx)(f:Value->Sem Value)(r:V->Hp->VK->Prop):Prop:=
 ∀(B:Sb)(s:J')(W:St)(H:Hp)(x:V)(v:P5)(Q:VK),Inv X B W H s->RelV x v->r x H Q->
  FB X (f v) (EP X B W Q) X.xe s
def iF(X:Cx)(f:P5)(r:List V->Hp->VK->Prop):Prop:=
 ∀(B:Sb)(s:J')(W:St)(H:Hp)(xs:P7)(us:Sa)(Q:VK),Inv X B W H s->P0 xs us->r xs H Q->
  FB X (call f us) (EP X B W Q) X.xe s
def tOp(r:R2)(ta tb:TE):TE:=λW H Q=>ta W H λx H1=>tb W H1 λy H2=>r x y H2 Q
def tUn(r:V->Hp->VK->Prop)(ta:TE):TE:=λW H Q=>ta W H λx H1=>r x H1 Q
inductive rI(C:Int->Int->Prop)(g:Int->Int->V)(x y:V)(H:Hp)(Q:VK):Prop
 |mk(i j:_)(_:x= .int i)(_:y= .int j)(_:C i j)(_:Q (g i j) H)
inductive Rt(g:Int->Int->V)(x y:V)(H:Hp)(Q:VK):Prop
 |mk(i j:_)(_:x= .int i)(_:y= .int j)(_:Q (g i j) H)
inductive rU(g:Int->V)(x:V)(H:Hp)(Q:VK):Prop
 |mk(i:_)(_:x= .int i)(_:Q (g i) H)
section
variable{a b:Expr}{tb tc:TE}
def Oa(ha:PE X a ta)(hb:PE X b tb){R:V->V->Hp->Prop}(I:Inv X B W H s)
  (h:ta W H λx H1=>tb W H1 λy H2=>R x y H2) {f:Tg}
  (hf:∀v u G x y H2,Inv X B W H2 G->RelV x v->RelV y u->R x y H2->FB X (f v u) Q X.xe G):
  FB X (eval a X.env) (λv s₁=>FB X (eval b X.env) (λu s₂=>FB X (f v u) Q X.xe s₂) X.xe s₁) X.xe s:=by
 refine PK (ha B s W H _ I h) λv s1 z=>?_;let{x,H1,O,r1,U}:=z;refine PK (hb B s1 W H1 _ O U) λu G z=>?_;let{y,H2,Y,Z,q2}:=z;exact hf v u G x y H2 Y r1 Z q2
def ao{op:Operator}(z:Qm X (binaryOp op) r)(ha:PE X a ta)(hb:PE X b tb):PE X (.BinOp a op b pos) (tOp r ta tb):=by
 intro B s W H Q I h;exact wpAny_BinOp<|Oa ha hb I h λv u G x y H2 O U Y q=>z B G W H2 x y v u Q O U Y q
def Ij{op:UnaryOp}{r:V->Hp->VK->Prop}(z:UnR X (unaryOp op) r)(ha:PE X a ta):PE X (.UnaryOp op a pos) (tUn r ta):=by
 intro B s W H Q I h;exact UnaryOp_<|PK (ha B s W H _ I h) λv s1 zz=>by let{x,H1,G,r1,O}:=zz;exact z B s1 W H1 x v Q G r1 O
def opI{f:Tg}{C:Int->Int->Prop} 
  (rule:∀(i j:Int)(t u:Tok)(s:J')(Q:Sg)(E:Sg),C i j->Q (.int (g i j) s.toks) {s with toks:=s.toks+1}->FB X (f (.int i t)<|.int j u) Q E s):
  Qm X f (rI C λi j=> .int<|g i j):=by
 intro B s W H x y v u Q I z G h;let{i,j,rfl,rfl,hc,q}:=h;let{t,rfl}:=z;let{t',rfl}:=G;exact rule i j t t' s _ _ hc {.int<|g i j,H,I.tok _,{_,M},q}
def NA{f:Tg} 
  (rule:∀(i j:Int)(t u:Tok)(s:J')(Q:Sg)(E:Sg),Q (.int (g i j) s.toks) {s with toks:=s.toks+1}->FB X (f (.int i t)<|.int j u) Q E s):
  Qm X f (Rt λi j=> .int<|g i j):=by
 intro B s W H x y v u Q I z G h;let{i,j,rfl,rfl,q}:=h;let{t,rfl}:=z;let{t',rfl}:=G;exact rule i j t t' s _ _ {.int<|g i j,H,I.tok _,{_,M},q}
def Lj{f:Tg}{g:Int->Int->Bool}
  (rule:∀(i j:Int)(t u:Tok)(s:J')(Q:Sg)(E:Sg),Q (.bool<|g i j) s->FB X (f (.int i t)<|.int j u) Q E s):
  Qm X f (Rt λi j=> .bl<|g i j):=by
 intro B s W H x y v u Q I z G h;let{i,j,rfl,rfl,q}:=h;let{t,rfl}:=z;let{t',rfl}:=G;exact rule i j t t' s _ _ {.bl<|g i j,H,I,M,q}
def CDiv(i j:Int):Prop:=0<j/\j<1073741824
def CPow(i j:Int):Prop:=0<=j/\j<=1000000/\i.natAbs<2^64
def SD(i j:Int):Prop:=(-(2^64)<i/\i<2^64)\/(-(2^64)<j/\j<2^64)
def SD.ok{i j:Int}(h:SD i j):IntMulOk i j:=by
 rcases h with⟨h1,h2⟩|⟨h1,h2⟩
 .exact .of_left<|intBits_le_64 h1 h2
 .exact .of_right<|intBits_le_64 h1 h2
def bx:Qm X (binaryOp .Add) (Rt λi j=> .int<|i+j):=NA λ_ _ _ _ _ _ _ q=>add_int q
def jf:Qm X (binaryOp .Sub) (Rt λi j=> .int<|i-j):=NA λ_ _ _ _ _ _ _ q=>sub_int q
def cT:Qm X (binaryOp .Mult) (rI SD λi j=> .int<|i*j):=opI λ_ _ _ _ _ _ _ hc q=>mul_int q hc.ok
def aP:Qm X (binaryOp .FloorDiv) (rI CDiv λi j=> .int<|i/j):=opI λi j _ _ _ _ _ hc q=>by
 have h1:(0:Int)<j:=hc.1;have h2:j<1073741824:=hc.2;exact floordiv_int () (by rw[WA i ()];exact q)<|.inl (PyProof.noPylong_small ())
def aQ:Qm X (binaryOp .Mod) (rI (λ_ j=>0<j) λi j=> .int<|i%j):=opI λi j _ _ _ _ _ hc q=>by
 have h1:(0:Int)<j:=hc;exact mod_int' ()<|by rw[Int.fmod_eq_emod_of_nonneg i ()];exact q
def kx:Qm X (binaryOp .Pow) (rI CPow λi j=> .int<|i^j.toNat):=opI λ_ _ _ _ _ _ _ hc q=>pow_int_small hc.1 hc.2.1 hc.2.2 q
def uT:Qm X (binaryOp .BitAnd) (Rt λi j=> .int<|Builtin.bitAnd i j):=NA λ_ _ _ _ _ _ _ q=>and_int q
def unI{f:Value->Sem Value}{g:Int->Int}
  (rule:∀(i:Int)(t:Tok)(s:J')(Q:Sg)(E:Sg),Q (.int (g i) s.toks) {s with toks:=s.toks+1}->FB X (f<|.int i t) Q E s):
  UnR X f (rU λi=> .int<|g i):=by
 intro B s W H x v Q I z h;let{i,rfl,q}:=h;let{t,rfl}:=z;exact rule i t s _ _ {.int<|g i,H,I.tok _,{_,M},q}
def DY:UnR X (unaryOp .USub) (rU λi=> .int<|-i):=unI λ_ _ _ _ _ q=>neg_int q
end
noncomputable def scal:V->V->Bool
 | .non,.non=>true| .non,.int _=>true| .int _,.non=>true| .non,.bl _=>true| .bl _,.non=>true| .non,.str _=>true| .str _,.non=>true
 | .int _,.int _=>true| .bl _,.bl _=>true| .str _,.str _=>true| .byt _,.byt _=>true
 | .int _,.str _=>true| .str _,.int _=>true| .bl _,.str _=>true| .str _,.bl _=>true
 |_,_=>false
def rEq:R2:=λx y H Q=>scal x y=true/\Q (.bl<|decide (x=y)) H
def rNe:R2:=λx y H Q=>scal x y=true/\Q (.bl<|!decide (x=y)) H
def Fx{i j:Int}:decide (V.int i=V.int j)=(i==j):=by
 rw[VL];simp
def JJ{i j:Bool}:decide (V.bl i=V.bl j)=(i==j):=by
 rw[VL];simp
def Fw{i j:Str}:decide (V.str i=V.str j)=(i==j):=by
 rw[VL];simp
def Fy{i j:Array UInt8}:decide (V.byt i=V.byt j)=(i.toList==j.toList):=by
 rw[VL];cases i;cases j;simp
section
variable{a b:Expr}{tb tc:TE}
def bB{Q:VK}{k k':Bool}(I:Inv X B W H s)(q:Q (.bl k) H)(e:k=k'):EP X B W Q (.bool k') s:=by
 subst e;exact{.bl k,H,I,M,q}
def bJ:Qm X (compareOp .Eq) rEq:=by
 intro B s W H x y v u Q I G z h;let{hs,q}:=h;cases x with
 |non=>
  cases G;cases y with
  |non=>cases z;exact PySem.EqNone.eq_none_none<|bB I q (by simp)
  |bl j=>cases z;exact PySem.EqNone.eq_none_bool<|bB I q (by simp)
  |int j=>let{t',rfl}:=z;exact PySem.EqNone.eq_none_int<|bB I q (by simp)
  |str j=>let{t',rfl}:=z;exact PySem.EqNone.eq_none_str<|bB I q (by simp)
  |_=>exact WN (show false=true from hs) Z1
 |bl i=>
  cases G;cases y with
  |non=>cases z;exact PySem.EqNone.eq_bool_none<|bB I q (by simp)
  |bl j=>cases z;exact eq_bool<|bB I q JJ
  |str j=>let{t',rfl}:=z;exact PySem.EqMixed.eq_bool_str<|bB I q (by simp)
  |_=>exact WN (show false=true from hs) Z1
 |int i=>
  let{t,rfl}:=G;cases y with
  |non=>cases z;exact PySem.EqNone.eq_int_none<|bB I q (by simp)
  |int j=>let{t',rfl}:=z;exact eq_int<|bB I q Fx
  |str j=>let{t',rfl}:=z;exact PySem.EqMixed.eq_int_str<|bB I q (by simp)
  |_=>exact WN (show false=true from hs) Z1
 |str i=>
  let{t,rfl}:=G;cases y with
  |non=>cases z;exact PySem.EqNone.eq_str_none<|bB I q (by simp)
  |bl j=>cases z;exact PySem.EqMixed.eq_str_bool<|bB I q (by simp)
  |int j=>let{t',rfl}:=z;exact PySem.EqMixed.eq_str_int<|bB I q (by simp)
  |str j=>let{t',rfl}:=z;exact eq_str<|bB I q Fw
  |_=>exact WN (show false=true from hs) Z1
 |byt i=>
  let{t,rfl}:=G;cases y with
  |byt j=>let{t',rfl}:=z;exact PySem.W.eq_bytes<|bB I q Fy
  |_=>exact WN (show false=true from hs) Z1
 |_=>cases y<;>exact WN (show false=true from hs) Z1
def Mx:Qm X (compareOp .NotEq) rNe:=by
 intro B s W H x y v u Q I G z h;let{hs,q}:=h;cases x with
 |non=>
  cases G;cases y with
  |non=>cases z;exact PySem.EqNone.ne_none_none<|bB I q (by simp)
  |bl j=>cases z;exact PySem.EqNone.ne_none_bool<|bB I q (by simp)
  |int j=>let{t',rfl}:=z;exact PySem.EqNone.ne_none_int<|bB I q (by simp)
  |str j=>let{t',rfl}:=z;exact PySem.EqNone.ne_none_str<|bB I q (by simp)
  |_=>exact WN (show false=true from hs) Z1
 |bl i=>
  cases G;cases y with
  |non=>cases z;exact PySem.EqNone.ne_bool_none<|bB I q (by simp)
  |bl j=>cases z;exact ne_bool<|bB I q (Y2 not JJ)
  |str j=>let{t',rfl}:=z;exact PySem.EqMixed.ne_bool_str<|bB I q (by simp)
  |_=>exact WN (show false=true from hs) Z1
 |int i=>
  let{t,rfl}:=G;cases y with
  |non=>cases z;exact PySem.EqNone.ne_int_none<|bB I q (by simp)
  |int j=>let{t',rfl}:=z;exact ne_int<|bB I q (Y2 not Fx)
  |str j=>let{t',rfl}:=z;exact PySem.EqMixed.ne_int_str<|bB I q (by simp)
  |_=>exact WN (show false=true from hs) Z1
 |str i=>
  let{t,rfl}:=G;cases y with
  |non=>cases z;exact PySem.EqNone.ne_str_none<|bB I q (by simp)
  |bl j=>cases z;exact PySem.EqMixed.ne_str_bool<|bB I q (by simp)
  |int j=>let{t',rfl}:=z;exact PySem.EqMixed.ne_str_int<|bB I q (by simp)
  |str j=>let{t',rfl}:=z;exact ne_str<|bB I q (Y2 not Fw)
  |_=>exact WN (show false=true from hs) Z1
 |byt i=>
  let{t,rfl}:=G;cases y with
  |byt j=>let{t',rfl}:=z;exact PySem.W.ne_bytes<|bB I q (Y2 not Fy)
  |_=>exact WN (show false=true from hs) Z1
 |_=>cases y<;>exact WN (show false=true from hs) Z1
def dW:Qm X (compareOp .Lt) (Rt λi j=> .bl<|decide (i<j)):=Lj λ_ _ _ _ _ _ _ q=>lt_int q
def oM:Qm X (compareOp .LtE) (Rt λi j=> .bl<|decide (i<=j)):=Lj λ_ _ _ _ _ _ _ q=>le_int q
def Al:Qm X (compareOp .Gt) (Rt λi j=> .bl<|decide (j<i)):=Lj λ_ _ _ _ _ _ _ q=>gt_int q
def Am:Qm X (compareOp .GtE) (Rt λi j=> .bl<|decide (j<=i)):=Lj λ_ _ _ _ _ _ _ q=>ge_int q
def eh:Qm X (compareOp .Is) (λx y H Q=>y= .non/\Q (.bl<|decide (x= .non)) H):=by
 intro B s W H x y v u Q I z G h;let{rfl,q}:=h;cases G;refine is_none_gen<|bB I q ?_;cases x<;>first
  |(cases z;rfl)
  |(let{t,rfl}:=z;rfl)
def jM:Qm X (compareOp .IsNot) (λx y H Q=>y= .non/\Q (.bl<|!decide (x= .non)) H):=by
 intro B s W H x y v u Q I z G h;let{rfl,q}:=h;cases G;refine isnot_none_gen<|bB I q ?_;cases x<;>first
  |(cases z;rfl)
  |(let{t,rfl}:=z;rfl)
def au(b:Expr)(h:op≠ .In:=by decide)(h2:op≠ .NotIn:=by decide):behindInMarks op b=false:=by
 have z:(op==CmpOp.In)=false:=by cases op<;>first|rfl|exact WN M h
 have e2:(op==CmpOp.NotIn)=false:=by cases op<;>first|rfl|exact WN M h2
 cases b with
 |Set x k y=>
  show(k==0&&(op== .In||op== .NotIn)&&_)=false;rw[z,e2,Bool.or_false,Bool.and_false,XH]
 |_=>rfl
def bI(z:Qm X (compareOp op) r)(ha:PE X a ta)(hb:PE X b tb)(G:behindInMarks op b=false):PE X (.Compare a [op] [b] pos) (tOp r ta tb):=by
 intro B s W H Q I h;exact wpAny_Compare1 (Oa ha hb I h λv u O x y H2 U Y Z q=>z B O W H2 x y v u Q U Y Z q) G
inductive M7(Q:Bool->Hp->Prop)(x:V)(H':Hp):Prop
 |mk(k:_)(_:x= .bl k)(_:Q k H')
def Ml(t:TE):TT:=λW H Q=>t W H λx H'=>M7 Q x H'
def ay(G:Qm X (compareOp op) r)(ha:PE X a ta)(hb:PE X b tb)(O:behindInMarks op b=false):PT X (.Compare a [op] [b] pos) (Ml<|tOp r ta tb):=by
 intro B s W H Q I h;refine wpAny_isTrue_Compare1 (PK (ha B s W H _ I h) λv s1 zz=>?_) O;let{x,H1,U,r1,Y}:=zz;refine PK (hb B s1 W H1 _ U Y) λu Z zz=>?_;let{y,H2,I2,r2,q2}:=zz;refine PK (G B Z W H2 x y v u _ I2 r1 r2 q2) λc s3 zz=>?_;let{z,H3,I3,r3,k,e,q3}:=zz
 subst e;cases r3;exact Y5 ⟨H3,I3,q3⟩
def HL(r r':R2)(ta tb tc:TE):TE:=λW H Q=>ta W H λx H1=>tb W H1 λy H2=>r x y H2 λz H3=>∃k,z= .bl k/\
 (if k=true then tc W H3 λw' H4=>r' y w' H4 Q else Q (.bl false) H3)
def Im{G:CmpOp}{U:R2}(ho:Qm X (compareOp op) r)(O:Qm X (compareOp G) U)(ha:PE X a ta)(hb:PE X b tb)(hc:PE X c tc)
  (hm:lastMarks [op,G] [b,c]=false:=by with_unfolding_all rfl):PE X (.Compare a [op,G] [b,c] pos) (HL r U ta tb tc):=by
 intro B s W H Q I h;refine Compare_chain (PK (ha B s W H _ I h) λv s1 zz=>?_) hm;let{x,H1,I1,r1,q1}:=zz;refine chain_link (PK (hb B s1 W H1 _ I1 q1) λu s2 zz=>?_);let{y,H2,I2,Y,q2}:=zz;refine PK (ho B s2 W H2 x y v u _ I2 r1 Y q2) λd s3 zz=>?_;let{z,H3,Z,r3,k,e,q3}:=zz
 subst e;cases r3;refine Y5 ?_;cases k with
 |false=>exact ite_ff {.bl false,H3,Z,M,q3}
 |true=>exact ite_tt<|chain_last (PK (hc B s3 W H3 _ Z q3) λw' s4 zz=>by let{z',H4,I4,r4,q4}:=zz;exact O B s4 W H4 y z' u w' Q I4 Y r4 q4)
def Ie{G:CmpOp}{Y:R2}(ho:Qm X (compareOp op) r)(O:Qm X (compareOp G) Y)(ha:PE X a ta)(hb:PE X b tb)(hc:PE X c tc)
  (hm:lastMarks [op,G] [b,c]=false:=by with_unfolding_all rfl):PT X (.Compare a [op,G] [b,c] pos) (Ml<|HL r Y ta tb tc):=by
 intro B s W H Q I h;refine isTrue_chain (PK (ha B s W H _ I h) λv s1 zz=>?_) hm;let{x,H1,I1,r1,q1}:=zz;refine test_link (PK (hb B s1 W H1 _ I1 q1) λu s2 zz=>?_);let{y,H2,I2,Z,q2}:=zz;refine PK (ho B s2 W H2 x y v u _ I2 r1 Z q2) λd s3 zz=>?_;let{z,H3,I3,r3,k,e,q3}:=zz
 subst e;cases r3;refine Y5 ?_;cases k with
 |false=>
  let{k',e',q'}:=q3;cases e';exact ite_ff ⟨H3,I3,q'⟩
 |true=>
  refine ite_tt<|test_last (PK (hc B s3 W H3 _ I3 q3) λw' s4 zz=>?_);let{z',H4,I4,r4,q4}:=zz;refine PK (O B s4 W H4 y z' u w' _ I4 Z r4 q4) λd' s5 U=>?_;let{z2,H5,I5,r5,k2,e2,q5}:=U;subst e2;cases r5;exact Y5 ⟨H5,I5,q5⟩
def yb:(sizeLine:Nat)<2^63:=by rw[sizeLine_eq];decide
def qw{x:V}(r:P0 [x] us):∃u,us=[u]/\RelV x u:=by
 cases r with
 |cons r1 z=>cases z;exact{_,M,r1}
def vq{x:V}(r:P0 [x,y] us):∃u w',us=[u,w']/\RelV x u/\RelV y w':=by
 cases r with
 |cons r1 z=>
  cases z with
  |cons G I=>cases I;exact{_,_,M,r1,G}
def qh(hc:X.calm=true):iF X (.builtin "max") (λxs H Q=>∃i j,xs=[.int i,.int j]/\Q (.int<|if j>i then j else i) H):=by
 intro B s W H xs us Q I r h;let{i,j,rfl,q}:=h;let{u,w',rfl,{t,rfl},{t',rfl}}:=vq r;refine max_two_ints (I.ok.hd hc) λh' tk k=>{_,H,I.kept k,?_,q};by_cases z:j>i
 .rw[WJ z,WJ z];exact{_,M}
 .rw[WI z,WI z];exact{_,M}
def lI(hc:X.calm=true):iF X (.builtin "min") (λxs H Q=>∃i j,xs=[.int i,.int j]/\Q (.int<|if j<i then j else i) H):=by
 intro B s W H xs us Q I r h;let{i,j,rfl,q}:=h;let{u,w',rfl,{t,rfl},{t',rfl}}:=vq r;refine min_two_ints (I.ok.hd hc) λh' tk k=>{_,H,I.kept k,?_,q};by_cases z:j<i
 .rw[WJ z,WJ z];exact{_,M}
 .rw[WI z,WI z];exact{_,M}
end
structure RT(h:Heap)(x dx C:G')(mA:Sl):Prop where
 obj:h.get? x=some (PySem.W.instObj C dx)
 ns:h.Ns1 dx mA
 ne:dx≠x
set_option tactic.hygienic true in
def GD{mA:Sl}(n:h.Ns1 dx mA):∃od,h.get? dx=some od/\∀name,PySem.W.lookIn name od=some (mA name):=by
 let{o,es,ep,I,hd,hk,_,O}:=n;refine{o,I,λname=>?_};have e:=O name;unfold nsFind findBy at e;rw[<-Array.find?_toList]at e;unfold PySem.W.lookIn;rw[hd];dsimp only;split
 .rename_i y q
  rw[q]at e;exact Y2 some e
 .rename_i q
  rw[q]at e;have a:es.toList.any (·.refKey)=false:=by
   rw[List.any_eq_false];intro y hy;let{z,t,G}:=hk y (Array.mem_toList_iff.mp hy);simp[DictEntry.refKey,G]
  have a':¬es.toList.any (·.refKey)=true:=by rw[a];exact Z1
  rw[WI a'];exact Y2 some e
def RT.look{x:G'}{mA:Sl}(I:RT h x dx C mA):∃od,PySem.W.InstAt h x (PySem.W.instObj C dx) C (some od)/\∀name,PySem.W.lookIn name od=some (mA name):=
 let⟨od,ho,hl⟩:=GD I.ns
 {od,⟨I.obj,M,M,ho⟩,hl}
section
variable{x:G'}{mA:Sl}{v:P5}
def LH{z:Bool}(X:K.In s.heap)(I:RT s.heap x dx C mA)(O:PySem.W.plainGet K C name=true)(U:PySem.W.hasDictIn K C=true)
  (ha:PySem.W.findIn K (.ref C) name=some none) (Y:mA name=some v) (G:PySem.W.handedIn v=true) (h:Q v {s with toks:=s.toks+1}):
  wpAny (model prog w) A (getAttr (.ref x) name z) Q E s:=by
 let{od,J,hl}:=I.look;exact PySem.W.get_value X J (VY O).1 (PySem.W.findObj_own U ha M<|by rw[hl,Y]) G h
def Jp{pl:Sem Bool}{Q:Value×List Value->Shared->Prop}(X:K.In s.heap)(I:RT s.heap x dx C mA)(z:PySem.W.plainGet K C name=true)
  (hf:PySem.W.findIn K (.ref C) name=some (some<|.ref f)) (G:PySem.W.isFn K (.ref f)=true) (O:mA name=none) (h:Q (.ref f,[.ref x]) s):
  wpAny (model prog w) A (getMethod (.ref x) name pl) Q E s:=by
 let{od,J,hl}:=I.look;exact PySem.W.method_fn X J (VY z).1 (VY z).2 hf (WW.mp G) (by show(PySem.W.lookIn name od).map (·.isSome)=some false;rw[hl,O];rfl) h
def KW{ns:Sh}{Q:Te}(X:K.In s.heap)(I:RT s.heap x dx C mA)
  (hs:PySem.W.findIn K (.ref C) "__setattr__"=some (some<|.builtin "object.__setattr__")) (hp:PySem.W.plainOver K C=true) (ht:PySem.W.takerIn K C name=some none) (hh:PySem.W.hasDictIn K C=true)
  (hw:PySem.Within mA ns) (hsz:ns.length<=sizeLine)
  (h:∀h',RT h' x dx C (λy=>if y=name then some v else mA y)->Heap.SameBut dx s.heap h'->Q Unit.unit {s with heap:=h',toks:=s.toks+2}):
  wpAny (model prog w) A (setAttr (.ref x) name v) Q E s:=by
 let{od,J,hl}:=I.look;refine PySem.W.set_plain X J hs<|PySem.W.osa_open (s:={s with toks:=s.toks+1}) (r:=none) X J hp ht λb=>?_;let{cd,hc,O}:=PySem.W.any_some hh;have hx:s.heap.get? x=some {.ref C,some dx,.plain, #[]}:=I.obj;refine WO<|WV (WO<|WO<|wpAny_loadPart hx<|WO<|PySem.W.Looks.here (s:={s with toks:=s.toks+1}) (PySem.W.looks_clsIn X hc) ?_);rw[O];refine WV (a:=some dx)<|WO (WV<|WO ?_);refine wpAny_nsSet1 (s:={s with toks:=s.toks+1}) I.ns λh' z G=>?_;let{oD,a0,a1,U,Y,Z}:=z.count (PySem.Within.cons name v hw);refine WO<|wpAny_lookBehind U (by rw[Y];exact pastItsLine_dict<|Zl Z<|by rw[Zh];lia) ?_;exact WV<|h _ {(G.2 _<|Ne.symm I.ne).trans I.obj,z,I.ne} G
def IK{vs:Sa}(X:K.In s.heap)(z:PySem.W.makesIn K C=true)
  (hi:PySem.W.findIn K (.ref C) i3=some (some<|.ref f)) (hf:PySem.W.typeIn K (.ref f)=some (.type "function"))
  (h:codeAny (model prog w) (A.under<|.builtin pF {.ref C::vs,kw}) (.call (.ref f) {.ref (s.heap.objs.size+1)::vs,kw}) (PySem.W.InitBack (s.heap.objs.size+1) R)
   {s with heap:=(s.heap.push PySem.W.emptyDict).push (PySem.W.instObj C s.heap.objs.size)}):
  codeAny (model prog w) A (.call (.ref C) ⟨vs,kw⟩) R s:=by
 let{G,g,d,t,os}:=s;exact PySem.W.make_core (PySem.W.makes_of X z) (PySem.W.looks_findIn X hi) (λself=>PySem.W.bind_fn X self hf) (.inl M) h
end
def bN(f:Str)(v:V):List (Str×V)->List (Str×V)
 | []=> [(f,v)]
 |(g,x)::r=>if g=f then(g,v)::r else(g,x)::bN f v r
theorem bD(f g:Str)(v:V):∀fs:List (Str×V),(bN f v fs).lookup g=if g=f then some v else fs.lookup g
 | []=>by
  show List.lookup g [(f,v)]=_;by_cases h:g=f
  .have hb:(g==f)=true:=WW.mpr h;simp only[List.lookup,hb,WJ h]
  .have hb:(g==f)=false:=WZ.mpr h;simp only[List.lookup,hb,WI h]
 |(k,x)::r=>by
  have z:=bD f g v r;rw[show bN f v ((k,x)::r)=(if k=f then(k,v)::r else(k,x)::bN f v r) from rfl];by_cases hk:k=f
  .rw[WJ hk];by_cases h:g=k
   .have hb:(g==k)=true:=WW.mpr h;simp only[List.lookup,hb,WJ (h.trans hk)]
   .have hb:(g==k)=false:=WZ.mpr h;simp only[List.lookup,hb,WI (λe:g=f=>h<|e.trans hk.symm)]
  .rw[WI hk];by_cases h:g=k
   .have hb:(g==k)=true:=WW.mpr h;simp only[List.lookup,hb,WI (λe:g=f=>hk<|h.symm.trans e)]
   .have hb:(g==k)=false:=WZ.mpr h;simp only[List.lookup,hb];exact z
theorem vc(f:Str)(v:V):∀fs:List (Str×V),f∈(bN f v fs).map (·.1)/\∀g,g∈fs.map (·.1)->g∈(bN f v fs).map (·.1)
 | []=>{by simp[bN],λg h=>by simp at h}
 |(k,x)::r=>by
  let{z,G}:=vc f v r;rw[show bN f v ((k,x)::r)=(if k=f then(k,v)::r else(k,x)::bN f v r) from rfl];by_cases hk:k=f
  .rw[WJ hk];subst hk;exact{by simp,λg h=>by simpa using h}
  .rw[WI hk];refine{?_,λg h=>?_}
   .rw[Zk];exact Z7 _ z
   .rw[Zk]at h⊢;rcases Zb.mp h with e|e
    .exact Zb.mpr<|.inl e
    .exact Z7 _<|G g e
theorem vA(f:Str)(v:V):∀fs:List (Str×V),(bN f v fs).length<=fs.length+1
 | []=>by simp[bN]
 |(k,x)::r=>by
  have z:=vA f v r;rw[show bN f v ((k,x)::r)=(if k=f then(k,v)::r else(k,x)::bN f v r) from rfl];by_cases hk:k=f
  .rw[WJ hk,Zh,Zh];lia
  .rw[WI hk,Zh,Zh];lia
def Qc.some_of(r:Qc (some v) o):∃u,o=some u/\RelV v u:=by
 cases o with
 |none=>exact(show False from r).elim
 |some u=>exact⟨u,M,r⟩
def Qc.none_of(r:Qc none o):o=none:=by
 cases o with
 |none=>rfl
 |some u=>exact(show False from r).elim
def GM(r:RelV v u):PySem.W.handedIn u=true:=by
 cases v with
 |non=>cases (show u=Value.none from r);rfl
 |bl b=>cases (show u=Value.bool b from r);rfl
 |int i=>let{t,e}:=(show ∃t,u=Value.int i t from r);cases e;rfl
 |str x=>let{t,e}:=(show ∃t,u=Value.str x t from r);cases e;rfl
 |byt b=>let{t,e}:=(show ∃t,u=Value.bytes b t from r);cases e;rfl
 |flt b=>let{t,e}:=(show ∃t,u=Value.float b t from r);cases e;rfl
 |ref a=>cases (show u=Value.ref a from r);rfl
 |ty n=>cases (show u=Value.type n from r);rfl
section
variable{fs fs':Sn}
def QV(hok:QU P w H h)(e:H a=some (.ins C dx fs)):∃mA,RT h a dx C mA/\(∀f,Qc (fs.lookup f) (mA f))/\PySem.Within mA (fs.map (·.1))/\fs.length<=1000/\H dx=some (.own a):=by
 let{d,z,ne,ob,mA,n,r,q}:=(show PJ P w H h a (.ins C dx fs) from hok a _ e);exact{mA,⟨ob,n,ne⟩,r,q,z,d}
end
structure Qv(K:FA)(C:G'):Prop where
 pg:PySem.W.plainGet K C Str.empty=true
 hd:PySem.W.hasDictIn K C=true
 po:PySem.W.plainOver K C=true
 sa:PySem.W.findIn K (.ref C) "__setattr__"=some (some<|.builtin "object.__setattr__")
def Qv.get(c:Qv K C)(f:Str):PySem.W.plainGet K C f=true:=c.pg
def Ku(K:FA)(C:G')(f:Str):Prop:=PySem.W.findIn K (.ref C) f=some none
def Ku.taker{f:Str}(n:Ku K C f):PySem.W.takerIn K C f=some none:=by
 unfold PySem.W.takerIn;rw[show PySem.W.findIn K (.ref C) f=some none from n];rfl
structure bO(K:FA)(C:G')(m:Str)(f:G'):Prop where
 at_:PySem.W.findIn K (.ref C) m=some (some<|.ref f)
 fn:PySem.W.isFn K (.ref f)=true
 kp:PySem.W.keepIn K (.ref f)=true
section
variable{fs:Sn}{f:Str}
def yj{b:Bool}(I:Inv X B W H s)(e:H a=some (.ins C dx fs))(c:Qv X.K C)(n:Ku X.K C f)(l:fs.lookup f=some v)
  (h:∀u s',Inv X B W H s'->RelV v u->Q u s'):wpAny (model X.prog X.w) A (getAttr (.ref a) f b) Q E s:=by
 let{mA,O,r,_,_,_}:=QV I.hok e;let{u,hu,z}:=Qc.some_of (v:=v) (o:=mA f) (by rw[<-l];exact r f);exact LH I.kIn O (c.get f) c.hd n hu (GM z)<|h u _ (I.tok _) z
def jo{g:G'}{pl:Sem Bool}{Q:Value×List Value->Shared->Prop}(I:Inv X B W H s)(e:H a=some (.ins C dx fs))(c:Qv X.K C)(k:bO X.K C m g)(l:fs.lookup m=none)
  (h:Q (.ref g,[.ref a]) s):wpAny (model X.prog X.w) A (getMethod (.ref a) m pl) Q E s:=by
 let{mA,O,r,_,_,_}:=QV I.hok e;have z:mA m=none:=Qc.none_of (by rw[<-l];exact r m);exact Jp I.kIn O (c.get m) k.at_ k.fn z h
def w9{Q:Te}(I:Inv X B W H s)(e:H a=some (.ins C dx fs))(c:Qv X.K C)(n:Ku X.K C f)(hl:fs.length<1000)(Y:RelV y u)
  (h:∀s',Inv X B W (upd H a<|.ins C dx<|bN f y fs) s'->Q Unit.unit s'):wpAny (model X.prog X.w) A (setAttr (.ref a) f u) Q E s:=by
 let{mA,O,r,wi,_,U}:=QV I.hok e;have hz:(fs.map (·.1)).length<=sizeLine:=by rw[Q1,sizeLine_eq];lia
 refine KW I.kIn O c.sa c.po n.taker c.hd wi hz λh' G Z=>h _ ?_;have hd:∃o,h'.get? dx=some o:=by let{o,_,_,e',_}:=G.ns;exact⟨o,e'⟩
 refine I.write (x:=a) (e:=dx) (by rw[e];exact Y1) (.inr U) (λb q hb z=>(Z.2 b hb).trans z) hd ?_;refine{by rwa[af O.ne],?_,O.ne,G.obj,_,G.ns,λg=>?_,λg hg=>?_}
 .have:=vA f y fs;lia
 .show Qc ((bN f y fs).lookup g) (if g=f then some u else mA g);rw[bD];by_cases q:g=f
  .rwa[WJ q,WJ q]
  .rw[WI q,WI q];exact r g
 .by_cases q:g=f
  .rw[q];exact(vc f y fs).1
  .refine(vc f y fs).2 g<|wi g λz=>hg ?_;show(if g=f then some u else mA g)=none;rwa[WI q]
def Inv.made(I:Inv X B W H s):Inv X B W (upd (upd H s.heap.objs.size<|.own<|s.heap.objs.size+1) (s.heap.objs.size+1)<|.ins C s.heap.objs.size [])
  {s with heap:=(s.heap.push PySem.W.emptyDict).push (PySem.W.instObj C s.heap.objs.size)}:=by
 have z:(s.heap.push PySem.W.emptyDict).get? s.heap.objs.size=some PySem.W.emptyDict:=WT s.heap M;have e2:((s.heap.push PySem.W.emptyDict).push<|PySem.W.instObj C s.heap.objs.size).get? (s.heap.objs.size+1)=some (PySem.W.instObj C s.heap.objs.size):=by
  have:=WT (s.heap.push PySem.W.emptyDict) (o:=PySem.W.instObj C s.heap.objs.size) M;rwa [Heap.size_push]at this
 have G:(s.heap.push PySem.W.emptyDict).Ns s.heap.objs.size (λ_=>none):={PySem.W.emptyDict, #[],_,z,M,(λe he=>WN he<|by simp),λ_=>M};have O:=I.laid (a:=s.heap.objs.size) (o:= .own<|s.heap.objs.size+1) (h':=s.heap.push PySem.W.emptyDict) (t':=s.toks) (λb u q=>WK _ q) (Q5 _) {_,z};refine O.laid (a:=s.heap.objs.size+1) (o:= .ins C s.heap.objs.size []) (t':=s.toks) (λb u q=>WK _ q) (ZT<|Heap.size_push _ _) ?_;have ne:s.heap.objs.size≠s.heap.objs.size+1:=ZG (XI _);refine{by rw[af ne,ag],Za _,ne,e2,λ_=>none,(Heap.Ns1.of_empty G).at λo q=>WK _ q,λ_=>Y1,λy hy=>WN M hy}
def LZ{env:Env}{f:Str}(hb:attributeBase e f env (eval e env)=eval e env)
  (h:wpAny (model prog w) A (eval e env) (λo s₁=>wpAny (model prog w) A (getAttr o f true) Q E s₁) E s):wpAny (model prog w) A (eval (.Attribute e f pos) env) Q E s:=
 Attribute_any_ h (by rw[arm_eval_Attribute,hb])
end
inductive OF(K:FA)(f:Str)(Q:VK)(x:V)(H1:Hp):Prop
 |mk(a C dx fs v:_)(_:x= .ref a)(_:H1 a=some (.ins C dx fs))(_:Qv K C)(_:Ku K C f)(_:fs.lookup f=some v)(_:Q v H1)
def tFld(K:FA)(ta:TE)(f:Str):TE:=λW H Q=>ta W H λx H1=>OF K f Q x H1
inductive ON(K:FA)(f:Str)(D:nZ)(W:St)(y x:V)(H2:Hp):Prop
 |mk(a C dx fs:_)(_:x= .ref a)(_:H2 a=some (.ins C dx fs))(_:Qv K C)(_:Ku K C f)(_:fs.length<1000)(_:D.nx W (upd H2 a<|.ins C dx<|bN f y fs))
def sFld(K:FA)(ta tv:TE)(f:Str):TS:=λD W H=>tv W H λy H1=>ta W H1 λx H2=>ON K f D W y x H2
def Om(X:Cx)(op:Operator)(rd:V->V->Hp->VK->Prop):Prop:=
 ∀(B:Sb)(s:J')(W:St)(H:Hp)(x y:V)(u v:P5)(Q:VK),Inv X B W H s->RelV x u->RelV y v->rd x y H Q->FB X (inplaceOp op u v) (EP X B W Q) X.xe s
inductive HX(K:FA)(tv:TE)(rd:V->V->Hp->VK->Prop)(f:Str)(D:nZ)(W:St)(x:V)(H1:Hp):Prop
 |mk(a C dx fs v:_)(_:x= .ref a)(_:H1 a=some (.ins C dx fs))(_:Qv K C)(_:Ku K C f)(_:fs.lookup f=some v)(_:tv W H1 λy H2=>rd v y H2 λz H3=>∃dx' fs',H3 a=some (.ins C dx' fs')/\fs'.length<1000/\D.nx W (upd H3 a<|.ins C dx'<|bN f z fs'))
def KY(K:FA)(ta tv:TE)(rd:V->V->Hp->VK->Prop)(f:Str):TS:=λD W H=>ta W H λx H1=>HX K tv rd f D W x H1
section
variable{o value:Expr}{f:Str}{tpos:Pos}{tv:TE}
def ar(he:PE X e ta)(hb:attributeBase e f X.env (eval e X.env)=eval e X.env):PE X (.Attribute e f pos) (tFld X.K ta f):=by
 intro B s W H Q I h;refine LZ hb<|PK (he B s W H _ I h) λu s1 z=>?_;let{x,H1,G,O,a,C,dx,fs,v,ex,ea,c,n,l,q}:=z;subst ex;obtain rfl:u=Value.ref a:=O;exact yj G ea c n l λZ s2 U Y=>⟨v,H1,U,Y,q⟩
def bp(ha:PE X o ta)(G:PE X value tv)(hs:swapsWith value (some<|.Attribute o f pos') pos.line X.env=pure false):PS X (.Assign [.Attribute o f pos'] value pos) (sFld X.K ta tv f):=by
 intro B s W H D I h;refine plainObj_wpAny_Assign_Attribute (PK (G B s W H _ I h) λu s1 zz=>?_) hs;let{y,H1,O,U,q}:=zz;refine PK (ha B s1 W H1 _ O q) λY s2 z=>?_;let{x,H2,Z,rx,a,C,dx,fs,ex,ea,c,n,l,q2}:=z;subst ex;obtain rfl:Y=Value.ref a:=rx;exact w9 Z ea c n l U λs3 I3=>{W,_,I3,q2}
def iP{op:Operator}(ha:PE X o ta)(U:PE X value tv)(O:Om X op rd):PS X (.AugAssign (.Attribute o f tpos) op value pos) (KY X.K ta tv rd f):=by
 intro B s W H D I h;refine wpAny_AugAssign_AttributeAny<|PK (ha B s W H _ I h) λY s1 G=>?_;let{x,H1,Z,rx,a,C,dx,fs,v,ex,ea,c,n,l,q}:=G;subst ex;obtain rfl:Y=Value.ref a:=rx;refine yj Z ea c n l λu s2 I2 ru=>PK (U B s2 W H1 _ I2 q) λw3 s3 zz=>?_;let{y,H2,I3,ry,q3}:=zz;refine PK (O B s3 W H2 v y u w3 _ I3 ru ry q3) λw4 s4 G=>?_;let{z,H3,I4,rz,a0,fs',ea',l',q4}:=G;exact w9 I4 ea' c n l' rz λs5 I5=>{W,_,I5,q4}
inductive rAdd(x y:V)(H:Hp)(Q:VK):Prop
 |mk(i j:_)(_:x= .int i)(_:y= .int j)(_:Q (.int<|i+j) H)
inductive rSub(x y:V)(H:Hp)(Q:VK):Prop
 |mk(i j:_)(_:x= .int i)(_:y= .int j)(_:Q (.int<|i-j) H)
def yg:Om X .Add rAdd:=by
 rintro B s W H x y u v Q I z G ⟨i,j,rfl,rfl,q⟩;let{t,rfl}:=(show ∃t,u=Value.int i t from z);let{t',rfl}:=(show ∃t',v=Value.int j t' from G);exact PyProof.Rows.iadd_int {.int<|i+j,H,I.tok _,{_,M},q}
def NT:Om X .Sub rSub:=by
 rintro B s W H x y u v Q I z G ⟨i,j,rfl,rfl,q⟩;let{t,rfl}:=(show ∃t,u=Value.int i t from z);let{t',rfl}:=(show ∃t',v=Value.int j t' from G);exact PyProof.Rows.isub_int {.int<|i-j,H,I.tok _,{_,M},q}
end
section
variable{c:P5}{b:Bool}
inductive QG(K:FA)(H:Hp):V->Value->Prop where
 |non:QG K H .non (.type "NoneType")
 |bl(x:Bool):QG K H (.bl x) (.type "bool")
 |int(i:Int):QG K H (.int i) (.type "int")
 |str(x:Str):QG K H (.str x) (.type "str")
 |flt(x:UInt64):QG K H (.flt x) (.type "float")
 |lst{a:G'}{xs:P7}(e:H a=some (.lst xs)):QG K H (.ref a) (.type gs)
 |frz{a:G'}{o:Obj}{xs:P7}(e:H a=some (.frz o<|.lst xs)):QG K H (.ref a) (.type gs)
 |tup{a:G'}{xs:P7}(e:H a=some (.tup xs)):QG K H (.ref a) (.type pq)
 |dK{a:G'}{kvs:Sm}(e:H a=some (.dK kvs)):QG K H (.ref a) (.type "dict")
 |dT{a:G'}{kvs:SY}(e:H a=some (.dT kvs)):QG K H (.ref a) (.type "dict")
 |ins{a C dx:G'}{fs:Sn}(e:H a=some (.ins C dx fs))(cl:Qv K C)(ha:PySem.W.findIn K (.ref C) "__class__"=some (some<|.builtin pE))
   (hn:PySem.W.specialIn K (.builtin pE) "__get__"=some (some<|.builtin "getset_descriptor.__get__")) (htk:PySem.W.takesIn K (.builtin pE)=some true)
   (hm:PySem.W.mroIn K C (.type "object")=some true):QG K H (.ref a) (.ref C)
def AA{x:V}{t:P5}(I:Inv X B W H s)(G:RelV x u)(ty:QG X.K H x t)(e:PySem.W.kitOne X.K t c=some b)(h:∀tk,Q (.bool b) {s with toks:=tk}):
  wpAny (model X.prog X.w) A (call (.builtin "isinstance") [u,c]) Q E s:=by
 cases ty with
 |non=>cases (show u=Value.none from G);exact ZZ PySem.W.kitx_none I.kIn Y1 e (λz=>nomatch z) h
 |bl y=>cases (show u=Value.bool y from G);exact ZZ PySem.W.kitx_bool I.kIn Y1 e (λz=>nomatch z) h
 |int i=>let{t,q}:=(show ∃t,u=Value.int i t from G);cases q;exact ZZ PySem.W.kitx_int I.kIn Y1 e (λz=>nomatch z) h
 |str y=>let{t,q}:=(show ∃t,u=Value.str y t from G);cases q;exact ZZ PySem.W.kitx_str I.kIn Y1 e (λz=>nomatch z) h
 |flt y=>let{t,q}:=(show ∃t,u=Value.float y t from G);cases q;exact ZZ PySem.W.kitx_float I.kIn Y1 e (λz=>nomatch z) h
 | @lst a xs ea=>
  cases (show u=Value.ref a from G);let{_,_,n,_,h1}:=(show PJ X.prog X.w H s.heap a (.lst xs) from I.hok a _ ea);exact ZZ PySem.W.kitx_list I.kIn {_,h1,M} e (λz=>nomatch z) h
 | @frz a ob xs ea=>
  cases (show u=Value.ref a from G);let{_,_,_,n,_,h1}:=(show PJ X.prog X.w H s.heap a (.frz ob<|.lst xs) from I.hok a _ ea);exact ZZ PySem.W.kitx_list I.kIn {_,h1,M} e (λz=>nomatch z) h
 | @tup a xs ea=>
  cases (show u=Value.ref a from G);let{_,_,_,p}:=(show PJ X.prog X.w H s.heap a (.tup xs) from I.hok a _ ea);let{o,h1,h2,_}:=p;exact ZZ PySem.W.kitx_tuple I.kIn ⟨o,h1,h2⟩ e (λz=>nomatch z) h
 | @dK a kvs ea=>
  cases (show u=Value.ref a from G);let{_,_,vs,_,p}:=(show PJ X.prog X.w H s.heap a (.dK kvs) from I.hok a _ ea);let{o,es,ep,h1,h2,_}:=p;exact ZZ PySem.W.kitx_dict I.kIn ⟨o,h1,h2.1⟩ e (λz=>nomatch z) h
 | @dT a kvs ea=>
  cases (show u=Value.ref a from G);let{_,_,xs,_,o,es,ep,h1,h2,_}:=(show PJ X.prog X.w H s.heap a (.dT kvs) from I.hok a _ ea);exact ZZ PySem.W.kitx_dict I.kIn ⟨o,h1,h2.1⟩ e (λz=>nomatch z) h
 | @ins a C dx fs ea cl ha Y U Z=>
  cases (show u=Value.ref a from G);let{mA,O,_}:=QV I.hok ea;let{od,J,_}:=O.look;exact ZZ (PySem.W.kitx_own (cl.get _) cl.hd ha Y U Z) I.kIn J e (λz=>nomatch z) h
end
structure PZ(k:Nat)(A:Sj):Prop where
 hd:A.handled=none
 dp:A.depth+3*k+5<recursionLimit
 un:A.units+16*k+200<cLine
def PZ.mono{k:Nat}(r:PZ k A)(h:j<=k):PZ j A:={r.hd,by have:=r.dp;lia,by have:=r.un;lia}
def PZ.deeper{k:Nat}(r:PZ (k+1) A)(env:Env):PZ k (A.deeper env):=
 {r.hd,by have:=r.dp;show A.depth+1+3*k+5<_;lia,by have:=r.un;show A.units+3+16*k+200<_;lia}
def Ew:(A.under<|.builtin pF {.ref C::us,kw}).depth=A.depth+1:=by
 first|rfl|simp[Around.under,Code.weight,Code.isCreation,Code.isGuard,Code.isCaller,Code.frames,Code.isFrame,guardIds]
def Ev:(A.under<|.builtin pF {.ref C::us,kw}).units=A.units+1:=by
 first|rfl|simp[Around.under,Code.cUnits,Code.frames,Code.isFrame]
def PZ.make{k:Nat}(r:PZ (k+1) A)(C:G')(us:Sa)(kw:Td):PZ k (A.under<|.builtin pF {.ref C::us,kw}):=
 {r.hd,by have:=r.dp;rw[Ew];lia,by have:=r.un;rw[Ev];lia}
def PZ.depth{k:Nat}(r:PZ k A):A.depth<recursionLimit:=by have:=r.dp;lia
def PZ.units{k:Nat}(r:PZ k A):A.units+64<cLine:=by have:=r.un;lia
def HI:TA:=λ_ H Q=>Q [] H
def Mo(ta:TE)(tr:TA):TA:=λW H Q=>ta W H λx H1=>tr W H1 λxs H2=>Q (x::xs) H2
section
variable{t:TA}
def ai:PA X [] HI:=λ_ _ _ _ H Q I h=>Calls.spliced_nil {[],H,I,.nil,h}
def ac(ha:PE X e te)(G:PA X es t)(hs:starEach (e::es) X.env=(false,eval e X.env)::starEach es X.env:=by rfl):PA X (e::es) (Mo te t):=by
 intro pos B s W H Q I h;rw[hs];show wpAny _ _ (spliced ((false,eval e X.env)::backTo pos (starEach es X.env))) _ _ s;refine Calls.spliced_cons<|PK (ha B s W H _ I h) λu s1 z=>?_;let{x,H1,O,r1,U}:=z;exact PK (G pos B s1 W H1 _ O U) λus s2 zz=>by let{xs,H2,Y,Z,q2}:=zz;exact{x::xs,H2,Y,.cons r1 Z,q2}
def tTup(t:TA):TE:=λW H Q=>t W H λxs H1=>xs.length<=sizeLine/\∀p,H1 p=none->Q (.ref p) (upd H1 p<|.tup xs)
def tLst(t:TA):TE:=λW H Q=>t W H λxs H1=>xs.length<=sizeLine/\∀p,H1 p=none->Q (.ref p) (upd H1 p<|.lst xs)
def bY{x1}(h:PA X es t):PE X (.Tuple es x1 pos) (tTup t):=by
 intro B s W H Q I hq;refine wpAny_Tuple_spliced<|PK (h pos B s W H _ I hq) λus s1 zz=>?_;let{xs,H1,G,r,z,q}:=zz;refine{by rwa[<-r.length],?_};have hf:H1 s1.heap.objs.size=none:=G.hok.fresh (Q5 _);refine{.ref s1.heap.objs.size,upd H1 s1.heap.objs.size<|.tup xs,G.laid (t':=s1.toks) (λb u e=>WK _ e) (Q5 _) ?_,M,q _ hf};exact{z,us,r,{_,WT _ M,M,_,M}}
def cu(h:PA X es t):PE X (.List es pos) (tLst t):=by
 intro B s W H Q I hq;refine wpAny_List_spliced<|PK (h pos B s W H _ I hq) λus s1 zz=>?_;let{xs,H1,G,r,z,q}:=zz;refine{by rwa[<-r.length],?_};have hf:H1 s1.heap.objs.size=none:=G.hok.fresh (Q5 _);refine{.ref s1.heap.objs.size,upd H1 s1.heap.objs.size<|.lst xs,G.laid (t':=s1.toks) (λb u e=>WK _ e) (Q5 _) ?_,M,q _ hf};exact{z,us,0,r,WT _ M}
end
abbrev Sp:=List V->Hp->VK->XK->Prop
abbrev CXT:=List Env->Hp->Shared->XK->Value->Shared->Prop
structure RS(P:Se)(w:Sf)(K:FA)(mg:Sl)(base:Heap)(A:Sj)(outer:Sq)(s:J')(H:Hp):Prop where
 frames:A.frames=some outer
 mod:Mod K mg base
 bs:∀b o,base.get? b=some o->s.heap.get? b=some o/\H b=none
 bsz:base.objs.size<=s.heap.objs.size
 funs:s.heap.FunFrames base outer
 frf:∀b∈R4 outer,H b=none
 hok:QU P w H s.heap
 bare:AllBare s.gens
def CE(outer:Sq)(P:Se)(w:Sf)(H:Hp)(s:J')(Q:VK)(u:P5)(s':J'):Prop:=
 ∃v H',s'.os=s.os/\AllBare s'.gens/\Un (R4 outer) [] H H' s.heap s'.heap/\QU P w H' s'.heap/\RelV v u/\Q v H'
def CR(CX:CXT)(outer:Sq)(P:Se)(w:Sf)(H:Hp)(s:J')(Q:VK)(E:XK)(r:Result)(s':J'):Prop:=
 match r with
 | .ok (.ret u)=>CE outer P w H s Q u s'
 | .ok _=>False
 | .error e=>CX outer H s E e s'
structure Ck(P:Se)(w:Sf)(K:FA)(mg:Sl)(base:Heap)(CX:CXT)(k:Nat)(f:G')(fd:Ss)(ps:Sh)(sp:Sp):Prop where
 len:∀vs H Q E,sp vs H Q E->vs.length=ps.length
 run:∀(A:Sj)(outer:Sq)(s:J')(H:Hp)(args:Args)(us:Sa)(vs:P7)(Q:VK)(E:XK),PZ k A->RS P w K mg base A outer s H->BindsTo s fd args (ps.zip us)->P0 vs us->sp vs H Q E->
  codeAny (model P w) A (.call (.ref f) args) (CR CX outer P w H s Q E) s
def Ck.mono{mg:Sl}{k:Nat}(F:Ck P w K mg base CX j f fd ps sp)(h:j<=k):
  Ck P w K mg base CX k f fd ps sp:={F.len,λA outer s H args us vs Q E z=>F.run A outer s H args us vs Q E<|z.mono h}
def RS.make{mg:Sl}(e:RS P w K mg base A outer s H)(C:G')(us:Sa)(kw:Td):
  RS P w K mg base (A.under<|.builtin pF {.ref C::us,kw}) outer s H:={by first|exact e.frames|(simpa[Around.under,Code.envs,Code.isFrame,pushEnvs]using e.frames),e.mod,e.bs,e.bsz,e.funs,e.frf,e.hok,e.bare}
def Inv.env0(I:Inv X B W H s):RS X.prog X.w X.K X.mg X.base X.A X.stack s H:=
 {I.ok.frames,I.ok.mod,I.bs,Zl I.ok.bsz I.sz,I.stack,I.stkFree,I.hok,I.bare}
def Inv.after{Q:VK}(I:Inv X B W H s)(h:CE X.stack X.prog X.w H s Q u s'):EP X B W Q u s':=by
 let{v,H',os,bare,un,hok,r,q}:=h;let{O,g,d,t,G}:=s';obtain rfl:G=s.os:=os;exact{v,H',I.call (h':=O) (g':=g) (d':=d) (t':=t) (ch:=[]) un hok bare<|λb z=>WN z (by simp),r,q}
def Mp(sp:Sp)(dvs:P7)(E:XK)(t:TA):TE:=λW H Q=>t W H λvs H1=>sp (vs++dvs) H1 Q E
inductive M9(C:G')(m:Str)(sp:Sp)(dvs:P7)(E:XK)(t:TA)(W:St)(Q:VK)(x:V)(H1:Hp):Prop
 |mk(a dx fs:_)(_:x= .ref a)(_:H1 a=some (.ins C dx fs))(_:fs.lookup m=none)(_:t W H1 λvs H2=>sp (x::(vs++dvs)) H2 Q E)
def Mm(C:G')(m:Str)(sp:Sp)(dvs:P7)(E:XK)(ta:TE)(t:TA):TE:=λW H Q=>ta W H λx H1=>M9 C m sp dvs E t W Q x H1
def Mn(C:G')(sp:Sp)(dvs:P7)(E:XK)(t:TA):TE:=λW H Q=>t W H λvs H1=>∀x dx,H1 x=none->H1 dx=none->dx≠x->
 sp (.ref x::(vs++dvs)) (upd (upd H1 dx<|.own x) x<|.ins C dx []) (λv H2=>v= .non/\Q (.ref x) H2) E
def Binds(K:FA)(fd:Ss)(ps:Sh)(ds:Sa):Prop:=
 ∀(s:J')(us:Sa),K.In s.heap->(us++ds).length=ps.length->BindsTo s fd {us,[]} (ps.zip<|us++ds)
def Binds.all(h:∀us:List Value,us.length=ps.length->bindArgs fd {us,[]}=pure (ps.zip us)):Binds K fd ps []:=λs us _ hl=>by
 rw[ZL]at hl⊢;exact .of_eq<|h us hl
def kX(CX:CXT)(X:Cx)(E:XK):Prop:=∀(B:Sb)(W:St)(H:Hp)(s:J')(e:P5)(s':J'),Inv X B W H s->CX X.stack H s E e s'->X.xe e s'
section
variable{k:Nat}{dvs:P7}{ds:Sa}{E:XK}{apos:Pos}{o:Expr}{t:TA}
def xz{Q:VK}(F:Ck X.prog X.w X.K X.mg X.base CX k f fd ps sp)(G:PZ k X.A)(hb:Binds X.K fd ps ds)(hd:P0 dvs ds)(hx:kX CX X E)
  (I:Inv X B W H s) (r:P0 vs us) (h:sp (vs++dvs) H Q E):FB X (call (.ref f) us) (EP X B W Q) X.xe s:=by
 have z:P0 (vs++dvs) (us++ds):=r.append hd;have hl:(us++ds).length=ps.length:=by rw[<-z.length];exact F.len _ _ _ _ h
 refine wpAny_call<|codeAny_mono (F.run X.A X.stack s H {us,[]} (us++ds) (vs++dvs) Q E G I.env0 (hb s us I.kIn hl) z h) λr s' hq=>?_;cases r with
 |error e=>exact hx B W H s e s' I hq
 |ok fl=>
  cases fl with
  |ret u=>exact I.after hq
  |next=>exact False.elim hq
  |brk=>exact False.elim hq
  |cont=>exact False.elim hq
def aJ(F:Ck X.prog X.w X.K X.mg X.base CX k f fd ps sp)(U:PZ k X.A)(Y:Gl X x)(Z:X.mg x=some (.ref f))(hk:PySem.W.keepIn X.K (.ref f)=true)(hb:Binds X.K fd ps ds)(hd:P0 dvs ds)(hx:kX CX X E)
  (ha:PA X (e::es) t) (z:(x==(hW:Str))=false:=by decide) (he:starEach (e::es) X.env=(false,eval e X.env)::starEach es X.env:=by rfl) (G:(backTo pos<|starEach es X.env).any (·.1)=false:=by rfl):
  PE X (.Call (.Name x p) (e::es) [] pos) (Mp sp dvs E t):=by
 intro B s W H Q I h;refine Yc<|mR I Y Z ?_ z;refine Xw (h₀:=X.base) I.ok.mod.kin hk (PK (ha pos B s W H _ I h) λus s1 zz=>?_) he G;let{vs,H1,O,r,q}:=zz;refine{O.kIn,?_};exact xz F U hb hd hx O r q
def aT{pl:Sem Bool}(he:PE X o ta)(c:Qv X.K C)(U:bO X.K C m f)(F:Ck X.prog X.w X.K X.mg X.base CX k f fd ps sp)(hr:PZ k X.A)(hb:Binds X.K fd ps ds)(hd:P0 dvs ds)(hx:kX CX X E)(ha:PA X (e::es) t)
  (z:starEach (e::es) X.env=(false,eval e X.env)::starEach es X.env:=by rfl) (G:(backTo pos<|starEach es X.env).any (·.1)=false:=by rfl)
  (ht:eval (.Call (.Attribute o m apos) (e::es) [] pos) X.env=(do
   let ov<-eval o X.env
   standAt apos.atName
   let(f,first)<-holding [ov] (getMethod ov m pl)
   callWith pos f first (backTo pos<|starEach (e::es) X.env) (backToKw pos<|keywordEach [] X.env)):=by rfl):
  PE X (.Call (.Attribute o m apos) (e::es) [] pos) (Mm C m sp dvs E ta t):=by
 intro B s W H Q I h;refine Xy (pl:=pl) (PK (he B s W H _ I h) λu s1 O=>?_) ht;let{x,H1,Y,rx,a,dx,fs,ex,ea,l,q}:=O;subst ex;obtain rfl:u=Value.ref a:=rx;refine jo Y ea c U l ?_;refine Xw (first:=[.ref a]) (h₀:=X.base) I.ok.mod.kin U.kp (PK (ha pos B s1 W H1 _ Y q) λus s2 zz=>?_) z G;let{vs,H2,Z,r,q2}:=zz;refine{Z.kIn,?_};exact xz (us:= .ref a::us) (vs:= .ref a::vs) F hr hb hd hx Z (.cons M r) q2
def bq{pl:Sem Bool}(he:PE X o ta)(c:Qv X.K C)(O:bO X.K C m f)(F:Ck X.prog X.w X.K X.mg X.base CX k f fd ps sp)(U:PZ k X.A)(hb:Binds X.K fd ps ds)(hd:P0 dvs ds)(hx:kX CX X E)
  (Y:eval (.Call (.Attribute o m apos) [] [] pos) X.env=(do
   let ov<-eval o X.env
   standAt apos.atName
   let(f,first)<-holding [ov] (getMethod ov m pl)
   callWith pos f first (backTo pos<|starEach [] X.env) (backToKw pos<|keywordEach [] X.env)):=by rfl):
  PE X (.Call (.Attribute o m apos) [] [] pos) (Mm C m sp dvs E ta HI):=by
 intro B s W H Q I h;refine Xy (pl:=pl) (PK (he B s W H _ I h) λu s1 z=>?_) Y;let{x,H1,G,Z,a,dx,fs,ex,ea,l,q}:=z;subst ex;obtain rfl:u=Value.ref a:=Z;refine jo G ea c O l ?_;exact VZ (first:=[.ref a]) G.kIn O.kp (xz (us:=[.ref a]) (vs:=[.ref a]) F U hb hd hx G (.cons M .nil) q)
structure Mk(K:FA)(C f:G'):Prop where
 makes:PySem.W.makesIn K C=true
 init:PySem.W.findIn K (.ref C) i3=some (some<|.ref f)
 fn:PySem.W.isFn K (.ref f)=true
 kp:PySem.W.keepIn K (.ref C)=true
def CA{Q:VK}(M':Mk X.K C f)(F:Ck X.prog X.w X.K X.mg X.base CX k f fd ps sp)(U:PZ (k+1) X.A)(hb:Binds X.K fd ps ds)(hd:P0 dvs ds)
  (hx:kX CX X E) (I:Inv X B W H s) (r:P0 vs us)
  (h:∀x dx,H x=none->H dx=none->dx≠x->sp (.ref x::(vs++dvs)) (upd (upd H dx<|.own x) x<|.ins C dx []) (λv H2=>v= .non/\Q (.ref x) H2) E):
  FB X (call (.ref C) us) (EP X B W Q) X.xe s:=by
 have hq:=h (s.heap.objs.size+1) s.heap.objs.size (I.hok.fresh<|Xc _) (I.hok.fresh<|Q5 _) (ZG<|XI _);have G:=Inv.made (C:=C) I;have O:P0 (V.ref (s.heap.objs.size+1)::(vs++dvs)) (Value.ref (s.heap.objs.size+1)::(us++ds)):= .cons M (r.append hd);have hl:(Value.ref (s.heap.objs.size+1)::us++ds).length=ps.length:=by
  have e:=O.length;rw[F.len _ _ _ _ hq]at e;exact e.symm
 refine wpAny_call (IK (f:=f) I.kIn M'.makes M'.init (WW.mp M'.fn) (codeAny_mono (F.run _ X.stack _ _ {Value.ref (s.heap.objs.size+1)::us,[]} (Value.ref (s.heap.objs.size+1)::(us++ds)) _ _ E (U.make C us [])
  (G.env0.make C us []) (hb _ (Value.ref (s.heap.objs.size+1)::us) G.kIn hl) O hq) λr s' z=>?_))
 cases r with
 |error e=>exact hx B W _ _ e s' G z
 |ok fl=>
  cases fl with
  |ret u=>
   let{v,H',Y,rv,Z,q3}:=G.after z;subst Z;exact{rv,{V.ref<|s.heap.objs.size+1,H',Y,M,q3}}
  |next=>exact False.elim z
  |brk=>exact False.elim z
  |cont=>exact False.elim z
def gN(M':Mk X.K C f)(F:Ck X.prog X.w X.K X.mg X.base CX k f fd ps sp)(U:PZ (k+1) X.A)(Y:Gl X x)(Z:X.mg x=some (.ref C))(hb:Binds X.K fd ps ds)(hd:P0 dvs ds)(hx:kX CX X E)
  (ha:PA X (e::es) t) (z:(x==(hW:Str))=false:=by decide) (he:starEach (e::es) X.env=(false,eval e X.env)::starEach es X.env:=by rfl) (G:(backTo pos<|starEach es X.env).any (·.1)=false:=by rfl):
  PE X (.Call (.Name x p) (e::es) [] pos) (Mn C sp dvs E t):=by
 intro B s W H Q I h;refine Yc<|mR I Y Z ?_ z;refine Xw (h₀:=X.base) I.ok.mod.kin M'.kp (PK (ha pos B s W H _ I h) λus s1 zz=>?_) he G;let{vs,H1,O,r,q}:=zz;refine{O.kIn,?_};exact CA M' F U hb hd hx O r q
def tD(M':Mk X.K C f)(F:Ck X.prog X.w X.K X.mg X.base CX k f fd ps sp)(G:PZ (k+1) X.A)(O:Gl X x)(U:X.mg x=some (.ref C))(hb:Binds X.K fd ps ds)(hd:P0 dvs ds)(hx:kX CX X E)
  (z:(x==(hW:Str))=false:=by decide):PE X (.Call (.Name x p) [] [] pos) (Mn C sp dvs E HI):=by
 intro B s W H Q I h;refine Yc<|mR I O U ?_ z;exact VZ I.kIn M'.kp<|CA (us:=[]) M' F G hb hd hx I .nil h
end
structure aq(N P:Sh)(sc:Scope):Prop where
 kind:sc.kind= .function
 co:sc.isCoroutine=false
 gen:sc.isGenerator=false
 nd:N.Nodup
 pre:N.take P.length=P
 par:∀x∈P,sc.names.lookup x=some .local\/sc.names.lookup x=some .cell
 nofree:∀y∈sc.names,y.2≠ .free
theorem AO{kindOf:Str->Option NameKind}{x:Str}:∀{z:Td}{m:Sl},(∀v,(x,v)∉z)->bindL kindOf z m x=m x
 | [],_,_=>rfl
 |(n,v)::r,m,h=>by
  unfold bindL;rw[AO λw hw=>h w (Z7 _ hw)];split
  .have:x≠n:=by rintro rfl;exact h v Z4
   simp[this]
  .rfl
theorem AR{kindOf:Str->Option NameKind}{x:Str}:∀{z:Td}{m:Sl},(∀v,(x,v)∉z)->bindC kindOf z m x=m x
 | [],_,_=>rfl
 |(n,v)::r,m,h=>by
  unfold bindC;rw[AR λw hw=>h w (Z7 _ hw)];split
  .rfl
  .have:x≠n:=by rintro rfl;exact h v Z4
   simp[this]
theorem AQ{kindOf:Str->Option NameKind}{x:Str}{v:P5}:∀{P:Sh}{vs:Sa}{i:Nat}{m:Sl},P.Nodup->P[i]?=some x->vs[i]?=some v->kindOf x=some .local->
  bindL kindOf (P.zip vs) m x=some v
 | [],_,_,_,_,h,_,_=>by simp at h
 |_::_,[],_,_,_,_,h,_=>by simp at h
 |p::P,w::vs,0,m,nd,h1,h2,hk=>by
  simp at h1 h2;subst h1;subst h2;show bindL kindOf ((p,w)::P.zip vs) m p=_;unfold bindL;rw[AO λv z=>(ZM.mp nd).1 (Wv z).1,WJ hk];simp
 |p::P,w::vs,i+1,m,nd,h1,h2,hk=>by
  show bindL kindOf ((p,w)::P.zip vs) m x=_;unfold bindL;exact AQ (i:=i) (ZM.mp nd).2 (by simpa using h1) (by simpa using h2) hk
theorem AS{kindOf:Str->Option NameKind}{x:Str}{v:P5}:∀{P:Sh}{vs:Sa}{i:Nat}{m:Sl},P.Nodup->P[i]?=some x->vs[i]?=some v->kindOf x≠some .local->
  bindC kindOf (P.zip vs) m x=some v
 | [],_,_,_,_,h,_,_=>by simp at h
 |_::_,[],_,_,_,_,h,_=>by simp at h
 |p::P,w::vs,0,m,nd,h1,h2,hk=>by
  simp at h1 h2;subst h1;subst h2;show bindC kindOf ((p,w)::P.zip vs) m p=_;unfold bindC;rw[AR λv z=>(ZM.mp nd).1 (Wv z).1,WI hk];simp
 |p::P,w::vs,i+1,m,nd,h1,h2,hk=>by
  show bindC kindOf ((p,w)::P.zip vs) m x=_;unfold bindC;exact AS (i:=i) (ZM.mp nd).2 (by simpa using h1) (by simpa using h2) hk
def start(N:Sh)(vs:P7):St:=vs.map some++List.replicate (N.length-vs.length) none
def vn(CX:CXT)(P:Se)(w:Sf)(K:FA)(mg:Sl)(base:Heap)(N:Sh)(qual:Str)(scope:Scope)(f:G')(cd:P5)(A:Sj)(outer:Sq)(s:J')(H:Hp)(E:XK):Cx where
 prog:=P
 w:=w
 K:=K
 mg:=mg
 base:=base
 A:=A.deeper (envOfC qual scope s.heap.objs.size f cd)
 N:=N
 s₀:=s
 H₀:=H
 env:=envOfC qual scope s.heap.objs.size f cd
 outer:=outer
 stack:=envOfC qual scope s.heap.objs.size f cd::outer
 ex:=[]
 calm:=true
 fn:=λ_=>true
 pn:=[]
 xe:=λe s'=>wpAny (model P w) (A.deeper<|envOfC qual scope s.heap.objs.size f cd) (leaving (envOfC qual scope s.heap.objs.size f cd) e) (λ_ s''=>CX outer H s E e s'') (λe' s''=>CX outer H s E e' s'') s'
def Dq{sc:Scope}(h:sc.names.lookup x=some .cell):∃c,(cellsFrom n sc.names []).lookup x=some c:=by
 have q:=PySem.W.cellsFrom_some sc.names n [] (.inl h);exact XY.mp q
def GJ{mg:Sl}{cd:P5}{s1:J'}{E:XK} 
  (S:aq N ps scope) (hd:A.handled=none) (e0:RS P w K mg base A outer s H) (hl:vs.length=ps.length) (r:P0 vs us)
  (x:InCallC s s.heap.objs.size (bindL (envOfC qual scope s.heap.objs.size f cd).kindOf (ps.zip us) λ_=>none) (cellsFrom (s.heap.objs.size+1) scope.names []) (bindC (envOfC qual scope s.heap.objs.size f cd).kindOf (ps.zip us) λ_=>none) s1):
  Inv (vn CX P w K mg base N qual scope f cd A outer s H E) [] (start N vs) H s1:=by
 have U:ps.length<=N.length:=by have:=Y2 List.length S.pre;rw[Q7]at this;lia
 let{h1,tk,rfl,hk}:=x.done;have G:∀b:Addr,b∉(vn CX P w K mg base N qual scope f cd A outer s H E).ex:=λb z=>WN (show b∈([]:Si) from z) (by simp);refine{{e0.mod,S.kind,M,M,Q5 _,λy z c h1 h2=>?_,λy hy=>?_,λy c _ h=>?_,λ_=>hd,Around.frames_deeper e0.frames,.inr ⟨M,M⟩,λb z=>WN z<|G b,e0.bs,e0.bsz,λb _ _=>G b,λb z=>WN z<|G b,e0.funs,e0.frf},
  rfl,e0.bare,Un.kept hk,{_,x.toInCall.ns,λi y v h1 h2 Y=>?_},λy c h=>{_,x.cell y c h},e0.hok.fresh<|Q5 _,λy c h=>?_,λp I=>WN (show p∈([]:Sb) from I) (by simp),e0.hok.kept hk,?_}
 .exact name_of_addr x.apart (PySem.mem_of_lookup h1)<|PySem.mem_of_lookup h2
 .have hy:scope.names.lookup y=some .cell\/scope.names.lookup y=some .free:=hy;rcases hy with hy|hy
  .exact Dq hy
  .exact WN M<|S.nofree _ (PySem.mem_of_lookup hy)
 .exact ZH<|x.above y c (PySem.mem_of_lookup h)
 .have hi:i<vs.length:=by
   unfold start at h2;by_cases hi:i<vs.length
   .exact hi
   .rw[ZN (by simpa using hi)]at h2;rw[List.getElem?_replicate]at h2;split at h2<;>cases h2
  have ha:vs[i]?=some v:=by
   unfold start at h2;rw[ZP (by simpa using hi),Zf]at h2;cases e:vs[i]? with
   |none=>rw[e]at h2;cases h2
   |some a=>rw[e]at h2;cases h2;rfl
  let{u,hu,rv}:=r.get ha;have I:ps[i]?=some y:=by
   rwa[<-S.pre,Vz ()]
  have O:ps.Nodup:=by rw[<-S.pre];exact S.nd.sublist<|Vv _ _
  refine{u,rv,?_};rcases S.par y (Q2 I)with k|k
  .exact .inl {k,AQ O I hu k}
  .let{c,e}:=Dq (n:=s.heap.objs.size+1) k;refine .inr {.inl k,c,e,?_};have q:=x.cell y c e;rw[AS O I hu (by show scope.names.lookup y≠_;rw[k];decide)]at q;exact q
 .exact e0.hok.fresh<|ZH (x.above y c<|PySem.mem_of_lookup h)
 .unfold start;show _=N.length;rw[Q8,Q1,Xz];lia
abbrev _root_.Tf:=Array (Option Value)
def Fq{mg:Sl}{k:Nat}{G:Arguments}{dV kV Z pm z ct oc:P5}{an od:Sk}
  {a1:Tf} (lk:K.lookup f=some {oc,od,.func<|PySem.W.fnOf name qual G body scope dV kV Z pm an z ct,a1}) (a2:PySem.W.codeIn K z qual=true) (S:aq N ps scope)
  (len:∀vs H Q E,sp vs H Q E->vs.length=ps.length)
  (U:∀(A:Sj)(outer:Sq)(s:J')(H:Hp)(vs:P7)(Q:VK)(E:XK),PZ k (A.deeper<|envOfC qual scope s.heap.objs.size f z)->sp vs H Q E->
   ∃t,Qb (vn CX P w K mg base N qual scope f z A outer s H E) body t/\t {nx:=λ_ H'=>Q .non H',rt:=Q} (start N vs) H):
  Ck P w K mg base CX (k+1) f (PySem.W.fnOf name qual G body scope dV kV Z pm an z ct) ps sp:=by
 refine{len,λA outer s H args us vs Q E hr e0 hb r a0=>?_};have hl:=len _ _ _ _ a0;have KX:K.In s.heap:=e0.mod.kin.keeps λb o e=>(e0.bs b o e).1;have a3:s.heap.NoLimit:=e0.mod.nolimit.keeps λb o e=>(e0.bs b o e).1;have Y:∀y∈ps.zip us,scope.names.lookup y.1=some .local\/(scope.names.lookup y.1=some .cell/\((cellsFrom (s.heap.objs.size+1) scope.names []).lookup y.1).isSome=true):=λ⟨n,v⟩ hy=>by
  rcases S.par n (Wv hy).1 with q|q
  .exact .inl q
  .exact .inr {q,PySem.W.cellsFrom_some _ _ _<|.inl q}
 refine codeAny_call_function hr.depth (KX _ _ lk) M S.co S.gen M (PySem.W.codeRec_of KX a2)<|hb _ _ _ _ ?_;refine wpAny_newFunctionEnv_cells S.kind Y λenv he s1 x=>?_;subst he;refine{a3.keeps x.toInCall.keep,codeAny_func ?_};let{t,ht,hq}:=U A outer s H vs Q E (hr.deeper _) a0;have I:Inv (vn CX P w K mg base N qual scope f z A outer s H E) [] (start N vs) H s1:=GJ S hr.hd e0 hl r x;refine Y6 (ht [] s1 (start N vs) H _ I hq) (λfl s' hs=>?_) λe s' hs=>hs;have fin:∀{O:St}{H':Hp}{v:V}{u:P5},Inv (vn CX P w K mg base N qual scope f z A outer s H E) [] O H' s'->RelV v u->Q v H'->CE outer P w H s Q u s':=
  λ{O H' v u} J rv q=>⟨v,H',J.os,J.bare,J.base,J.hok,rv,q⟩
 cases fl with
 |ret u=>
  let{v,O,H',J,rv,q}:=hs;exact fin J rv q
 |next=>
  let{O,H',J,q}:=hs;exact fin (v:=V.non) (u:=Value.none) J M q
 |brk=>
  let{_,_,_,q}:=hs;exact False.elim q
 |cont=>
  let{_,_,_,q}:=hs;exact False.elim q
section
variable{t:TA}{id T:String}{r:List V->Hp->VK->Prop}
def tCB(r:List V->Hp->VK->Prop)(t:TA):TE:=λW H Q=>t W H λvs H1=>r vs H1 Q
def aI(hc:iF X (.builtin id) r)(O:Gl X x)(U:X.mg x=none)(Y:bootBuiltins x=some (.builtin id))(ha:PA X (e::es) t)(Z:x≠"__name__":=by decide)(z:(x==(hW:Str))=false:=by decide)
  (he:starEach (e::es) X.env=(false,eval e X.env)::starEach es X.env:=by rfl) (G:(backTo pos<|starEach es X.env).any (·.1)=false:=by rfl):PE X (.Call (.Name x p) (e::es) [] pos) (tCB r t):=by
 intro B s W H Q I h;refine Yc<|rX I O U Y ?_ Z z;exact PyProof.Rows.callWith_builtin1 (PK (ha pos B s W H _ I h) λus s1 zz=>by let{vs,H1,I1,r1,q1}:=zz;exact hc B s1 W H1 vs us Q I1 r1 q1) he G
def gx(hc:iF X (.type T) r)(O:Gl X x)(U:X.mg x=none)(Y:bootBuiltins x=some (.type T))(ha:PA X (e::es) t)(Z:x≠"__name__":=by decide)(z:(x==(hW:Str))=false:=by decide)
  (he:starEach (e::es) X.env=(false,eval e X.env)::starEach es X.env:=by rfl) (G:(backTo pos<|starEach es X.env).any (·.1)=false:=by rfl):PE X (.Call (.Name x p) (e::es) [] pos) (tCB r t):=by
 intro B s W H Q I h;refine Yc<|rX I O U Y ?_ Z z;exact PyProof.Rows.callWith_type1 (PK (ha pos B s W H _ I h) λus s1 zz=>by let{vs,H1,I1,r1,q1}:=zz;exact hc B s1 W H1 vs us Q I1 r1 q1) he G
end
end L2
namespace HT
open PySem PyProof.Rows
variable{E:Sg}
noncomputable def lexLt:List Int->List Int->Bool
 | [],[]=>false
 | [],_::_=>true
 |_::_,[]=>false
 |x::xs,y::ys=>if x=y then lexLt xs ys else decide (x<y)
abbrev _root_.O':=List Int
def lexLt_cons(x y:Int)(xs ys:O'):lexLt (x::xs) (y::ys)=if x=y then lexLt xs ys else decide (x<y):=rfl
def lexLt_nil_nil:lexLt [] []=false:=rfl
def lexLt_nil_cons(y:Int)(ys:O'):lexLt [] (y::ys)=true:=rfl
def lexLt_cons_nil(x:Int)(xs:O'):lexLt (x::xs) []=false:=rfl
section
variable{prog:Se}{w:Sf}{A:Sj}{s:J'}
noncomputable def sIx(n d:Nat):Option Int->Nat
 |none=>d
 |some v=>if v<0 then(v+(n:Int)).toNat else min v.toNat n
end
end HT
namespace L2
open PySem PySem.Spec PyProof.Rows
abbrev _root_.Su:=Option V
abbrev _root_.Tb:=List (Key×Value)
variable{a b:G'}{A:Sj}{X:Cx}{e:Expr}{h':Heap}{H H':Hp}{i:Int}{B:Sb}{kvs:Sm}{vs:Tb}{xs:P7}{its its':Sa}{j n t':Nat}{o:Su}{pos:Pos}{P:Se}{s:J'}{W:St}{T:String}{α:Type}{x y:V}{r u v:P5}{E Q:Sg}{w:Sf}
abbrev TO:=St->Hp->(Option Int->Hp->Prop)->Prop
def PO(X:Cx)(e:Option Expr)(t:TO):Prop:=
 ∀(B:Sb)(s:J')(W:St)(H:Hp)(Q:Option Int->Hp->Prop),Inv X B W H s->t W H Q->
  FB X (evalPart e X.env) (λu s'=>∃o H',Inv X B W H' s'/\IsPart u o/\Q o H') X.xe s
def KP:TO:=λ_ H Q=>Q none H
inductive M8(Q:Option Int->Hp->Prop)(x:V)(H1:Hp):Prop
 |mk(i:_)(_:x= .int i)(_:Q (some i) H1)
def OD(t:TE):TO:=λW H Q=>t W H λx H1=>M8 Q x H1
def yf{ns:O'}:∀{us:Sa},P0 (ns.map V.int) us->IntsAre us ns:=by
 induction ns with
 |nil=>intro us r;rw[List.map_nil]at r;cases r;exact .nil
 |cons n ns z=>
  intro us r;rw[Zk]at r;cases r with
  |cons r1 G=>
   let{t,e}:=r1;subst e;exact .cons n t<|z G
section
variable{te:TE}{lo hi:Option Expr}{tl th:TO}{p2:Pos}
def iG:PO X none KP:=by
 intro B s W H Q I h;rw[evalPart_none];exact WV {none,H,I,.none,h}
def fL(h:PE X e te):PO X (some e) (OD te):=by
 intro B s W H Q I hw;rw[evalPart_some];refine PK (h B s W H _ I hw) λu s1 z=>?_;let{x,H1,G,r1,O}:=z;let{i,rfl,q}:=O;let{t,rfl}:=r1;exact{some i,H1,G,.int i t,q}
abbrev _root_.Sz:=Option Int
def SlR(X:Cx)(r:V->Option Int->Option Int->Hp->VK->Prop):Prop:=
 ∀(B:Sb)(s:J')(W:St)(H:Hp)(x:V)(v vl vu:P5)(lo hi:Sz)(sl:G')(Q:VK),Inv X B W H s->RelV x v->s.heap.IsSliceOf sl vl vu .none->IsPart vl lo->IsPart vu hi->r x lo hi H Q->
  ∃T id,typeLookup (.type T) "__getitem__"=pure (some<|.builtin id)/\s.TypeIs v T/\FB X (getItem v<|.ref sl) (EP X B W Q) X.xe s
def tSl(r:V->Option Int->Option Int->Hp->VK->Prop)(te:TE)(tl th:TO):TE:=λW H Q=>te W H λx H1=>tl W H1 λl H2=>th W H2 λu H3=>r x l u H3 Q
def eK{r:V->Option Int->Option Int->Hp->VK->Prop}(U:SlR X r)(he:PE X e te)(hl:PO X lo tl)(hu:PO X hi th):PE X (.Subscript e (.Slice lo hi none p2) pos) (tSl r te tl th):=by
 intro B s W H Q I h;refine Subscript_<|PK (he B s W H _ I h) λv s1 z=>?_;let{x,H1,Y,r1,Z}:=z;refine wpAny_Slice<|PK (hl B s1 W H1 _ Y Z) λG s2 zz=>?_;let{l,H2,I2,pl,q2}:=zz;refine PK (hu B s2 W H2 _ I2 q2) λO s3 z=>?_;let{u,H3,I3,pu,q3}:=z;rw[evalPart_none];refine WV ?_;have I4:Inv X B W H3 {s3 with heap:=s3.heap.push {cls:= .type "slice",data:= .fields #[G,O,.none]}}:=I3.kept (t':=s3.toks) λb ob q=>WK _ q;let{T,id,hT,ht,hg}:=U B {s3 with heap:=s3.heap.push {cls:= .type "slice",data:= .fields #[G,O,.none]}} W H3 x v G O l u s3.heap.objs.size Q I4 r1 (Heap.IsSliceOf.new ..) pl pu q3;show FB X (subscriptTail e (.Slice lo hi none p2) v<|.ref s3.heap.objs.size) (EP X B W Q) X.xe {s3 with heap:=s3.heap.push {cls:= .type "slice",data:= .fields #[G,O,.none]}};exact tail_any (ops:=[.ref s3.heap.objs.size,v]) ht hT hg (by with_unfolding_all rfl)
def qt(xs:P7)(lo hi:Sz):List V:=(xs.drop<|HT.sIx xs.length 0 lo).take (HT.sIx xs.length xs.length hi-HT.sIx xs.length 0 lo)
def Do(xs:P7)(lo hi:Sz):(qt xs lo hi).length<=xs.length:=by
 unfold qt;rw[Q7,Zw];lia
end
noncomputable def RW(n:Nat)(i:Int):Option Nat:=if 0<=i then(if i<n then some i.toNat else none)else if-(n:Int)<=i then some (i+n).toNat else none
def RM{α:Type}(xs:List α)(i:Int):Option α:=(RW xs.length i).bind λj=>xs[j]?
def Fm(h:RW n i=some j):seqIndex? i n=some j/\j<n/\-(n:Int)<=i/\i<n:=by
 unfold RW at h;by_cases z:0<=i
 .rw[WJ z]at h;by_cases h1:i<n
  .rw[WJ h1]at h;have e:i.toNat=j:=WL h;exact{by rw[seqIndex_of z h1,e],(),(),h1}
  .rw[WI h1]at h;cases h
 .rw[WI z]at h;by_cases h1: -(n:Int)<=i
  .rw[WJ h1]at h;have e:(i+n).toNat=j:=WL h;exact{by rw[seqIndex_neg () h1,e],(),h1,()}
  .rw[WI h1]at h;cases h
def FI{xs:List α}{v:α}(h:RM xs i=some v):∃j,seqIndex? i xs.length=some j/\xs[j]?=some v/\j<xs.length/\-(xs.length:Int)<=i/\i<xs.length:=by
 unfold RM at h;cases e:RW xs.length i with
 |none=>rw[e]at h;cases h
 |some j=>
  rw[e]at h;let{h1,h2,z,G}:=Fm e;exact⟨j,h1,h,h2,z,G⟩
def qj{xs:List α}{v:α}(h:xs[j]?=some v):RM xs (j:Int)=some v:=by
 have z:j<xs.length:=(Q3.mp h).1;have e:RW xs.length (j:Int)=some j:=by
  unfold RW;rw[WJ (),WJ ()];simp
 unfold RM;rwa[e]
def L3(b:Expr):Prop:=∀o i,subscripted b false o i=operate [o,i] (getItem o i)
def IxR(X:Cx)(r:R2):Prop:=
 ∀(value slice:Expr)(B:Sb)(s:J')(W:St)(H:Hp)(x y:V)(v u:P5)(Q:VK),Inv X B W H s->RelV x v->RelV y u->r x y H Q->
  subscripted slice false v u=operate [v,u] (getItem v u)->FB X (subscriptTail value slice v u) (EP X B W Q) X.xe s
def S9(X:Cx)(id:String)(r:V->List V->Hp->VK->Prop):Prop:=
 ∀(B:Sb)(s:J')(W:St)(H:Hp)(x:V)(xs:P7)(v:P5)(us:Sa)(Q:VK),Inv X B W H s->RelV x v->P0 xs us->r x xs H Q->
  FB X (call (.builtin id) (v::us)) (EP X B W Q) X.xe s
section
variable{a b:Expr}{ta tb:TE}
def aS{r:R2}(z:IxR X r)(ha:PE X a ta)(hb:PE X b tb)(hs:L3 b):PE X (.Subscript a b pos) (tOp r ta tb):=by
 intro B s W H Q I h;exact Subscript_ (Oa ha hb I h λv u G x y H2 O U Y q=>z a b B G W H2 x y v u Q O U Y q<|hs _ _)
inductive rIxL(K:FA)(x y:V)(H:Hp)(Q:VK):Prop
 |mk(p xs i v:_)(_:x= .ref p)(_:y= .int i)(_:Kv K H p xs)(_:RM xs i=some v)(_:Q v H)
inductive rIxT(K:FA)(x y:V)(H:Hp)(Q:VK):Prop
 |mk(p xs i v:_)(_:x= .ref p)(_:y= .int i)(_:QO K H p xs)(_:RM xs i=some v)(_:Q v H)
def aU:IxR X (rIxL X.K):=by
 intro value G B s W H x y v u Q I rx ry h hs;let{p,xs,i,z,rfl,rfl,hq,he,q}:=h;cases rx;let{t,rfl}:=ry;let{its,r,pl,hz}:=I.list hq;let{j,h1,h2,h3,h4,h5}:=FI he;let{w,Y,O}:=r.get h2;have hl:=r.length;have hn:=yb;have fin:EP X B W Q w s:=⟨z,H,I,O,q⟩;by_cases Z:0<=i
 .have U:i.toNat=j:=by
   rw[seqIndex_of Z h5]at h1;exact WL h1
  exact item_listR pl.isList Z () (by rw[U];simpa using Y) fin hs
 .have U:(i+(its.toArray.size:Int)).toNat=j:=by
   rw[seqIndex_neg () h4]at h1;rw[Z8,<-hl];exact WL h1
  exact subscriptTail_builtinR (x:=w) pl.isList.typeIs slot_list_getitem.lookup
   (wpAny_getItem_list_neg (Q:=λr s'=>r=w/\EP X B W Q r s') pl.isList () (by rw[Z8]<;>lia) () (by rw[U];simpa using Y) ⟨M,fin⟩) hs
def bG:IxR X (rIxT X.K):=by
 intro value G B s W H x y v u Q I U Y h hs;let{p,xs,i,z,rfl,rfl,hq,he,q}:=h;cases U;let{t,rfl}:=Y;let{its,r,pl,hz}:=I.tuple hq;let{j,h1,h2,h3,h4,h5}:=FI he;let{w,Z,O}:=r.get h2;have hl:=r.length;have hn:=yb;have fin:EP X B W Q w s:=⟨z,H,I,O,q⟩;exact subscriptTail_builtinR (x:=w) pl.typeIs slot_tuple_getitem.lookup
  (getItem_tuple (j:=j) (Q:=λr s'=>r=w/\EP X B W Q r s') pl () () (by rwa[Z8,<-hl]) (by simpa using Z) ⟨M,fin⟩) hs
def Eu(its:Sa)(n j:Nat)(u:P5):Obj.mapSeq (·.setIfInBounds j u) {cls:= .type gs,data:= .seq its.toArray n}={cls:= .type gs,data:= .seq (its.set j u).toArray n}:=by
 simp[Obj.mapSeq]
def Inv.lst{B:Sb}{W:St}{H:Hp}{s:J'}{p:G'}{xs:P7}(I:Inv X B W H s)(h:H p=some (.lst xs)):
  ∃(its:Sa)(n:Nat),P0 xs its/\s.heap.get? p=some {cls:= .type gs,data:= .seq its.toArray n}/\xs.length<=sizeLine:=by
 let{z,its,n,r,e}:=I.hok p _ h;exact⟨its,n,r,e,z⟩
def Inv.lstUpd{p:G'}{ys:P7}{n':Nat}{f:Obj->Obj}(I:Inv X B W H s)(h:H p=some (.lst xs))
  (z:s.heap.get? p=some {cls:= .type gs,data:= .seq its.toArray n}) (hf:f {cls:= .type gs,data:= .seq its.toArray n}={cls:= .type gs,data:= .seq its'.toArray n'}) (r:P0 ys its') (hz:ys.length<=sizeLine) (t:Nat):
  Inv X B W (upd H p<|.lst ys) {s with heap:=s.heap.update p f,toks:=t}:=by
 have e:(s.heap.update p f).get? p=some {cls:= .type gs,data:= .seq its'.toArray n'}:=by
  rw[Heap.get?_update_self f z (by rw[hf]<;>rfl),hf]
 refine I.write (x:=p) (e:=p) (by rw[h];trivial) (.inl M) (λb u hb q=>(Y0 _ _<|Ne.symm hb).trans q) {_,e} ?_;exact⟨hz,its',n',r,e⟩
inductive OT(o i v:V)(H:Hp)(Q:Hp->Prop):Prop
 |mk(p xs k j:_)(_:o= .ref p)(_:i= .int k)(_:H p=some (.lst xs))(_:RW xs.length k=some j)(_:Q (upd H p<|.lst<|xs.set j v))
def sQ:PSet X OT:=by
 intro B s W H o i v ov iv u Q I ro ri rv h;let{p,xs,k,j,rfl,rfl,G,hj,q}:=h;cases ro;let{t,rfl}:=ri;let{its,n,r,z,hz}:=I.lst G;let{h1,h2,O,U}:=Fm hj;have hl:=r.length;have hn:=yb;have Y:Inv X B W (upd H p<|.lst<|xs.set j v) {s with heap:=s.heap.update p (Obj.mapSeq (·.setIfInBounds j u))}:=
  I.lstUpd G z (Eu its n j u) (r.set rv j) (by rwa[ZD]) s.toks
 by_cases Z:0<=k
 .have hk:k.toNat=j:=by
   rw[seqIndex_of Z U]at h1;exact WL h1
  exact PySem.W.ki_setAt z Z () (by rwa[Z8,<-hl])<|by rw[hk];exact{_,Y,q}
 .have hk:(k+(its.toArray.size:Int)).toNat=j:=by
   rw[seqIndex_neg () O]at h1;rw[Z8,<-hl];exact WL h1
  exact PySem.W.ki_setBack z () (by rwa[Z8,<-hl]) ()<|by rw[hk];exact{_,Y,q}
def Bl(lo hi:Sz)(n:Nat):(sliceBounds lo hi none n).1=((HT.sIx n 0 lo:Nat):Int)/\(sliceBounds lo hi none n).2.1=((HT.sIx n n hi:Nat):Int)/\(sliceBounds lo hi none n).2.2=1:=by
 refine{?_,?_,M}
 .cases lo with
  |none=>simp[sliceBounds,HT.sIx]
  |some i=>
   simp only[sliceBounds,HT.sIx,Option.getD_none,show(1:Int)>0 by decide,if_true];by_cases h:i<0
   .simp only[h,if_true]<;>lia
   .simp only[h,if_false]<;>lia
 .cases hi with
  |none=>simp[sliceBounds,HT.sIx]
  |some i=>
   simp only[sliceBounds,HT.sIx,Option.getD_none,show(1:Int)>0 by decide,if_true];by_cases h:i<0
   .simp only[h,if_true]<;>lia
   .simp only[h,if_false]<;>lia
def zf(its:Sa)(lo hi:Sz):slicePick its.toArray lo hi none=((its.drop<|HT.sIx its.length 0 lo).take<|HT.sIx its.length its.length hi-HT.sIx its.length 0 lo).toArray:=by
 let{h1,h2,z}:=Bl lo hi its.toArray.size;unfold slicePick;rw[h1,h2,z];simp only[sliceRange_one,pick_run,Z8]<;>rfl
inductive rSlL(K:FA)(x:V)(lo hi:Sz)(H:Hp)(Q:VK):Prop
 |mk(a xs:_)(_:x= .ref a)(_:Kv K H a xs)(_:∀p,H p=none->Q (.ref p) (upd H p<|.lst<|qt xs lo hi))
def gK:SlR X (rSlL X.K):=by
 intro B s W H x v Y Z lo hi sl Q I O hs pl U h;let{a,xs,rfl,hx,q}:=h;cases O;let{its,r,G,hz}:=I.list hx;have z:=r.length;refine{gs,_,slot_list_getitem.lookup,G.isList.typeIs,?_};refine wpAny_getItem_list_slice G.isList hs pl U .none (by simp) ?_ (by rw[Z8]<;>lia);rw[zf,<-z];refine{.ref s.heap.objs.size,_,I.laid (t':=s.toks) (o:= .lst<|qt xs lo hi) (λb ob q=>WK _ q) (Q5 _) ?_,M,q _<|I.hok.fresh (Q5 _)};exact{Zl (Do xs lo hi) hz,_,0,(r.drop<|HT.sIx xs.length 0 lo).take<|HT.sIx xs.length xs.length hi-HT.sIx xs.length 0 lo,WT _ M}
noncomputable def tY:V->Bool
 | .non=>true
 | .bl _=>true
 | .int _=>true
 | .str _=>true
 |_=>false
noncomputable def Rr:V->V->Bool
 | .non,.non=>true
 | .bl a,.bl b=>a==b
 | .bl a,.int b=>(if a then 1 else 0)==b
 | .int a,.bl b=>a==(if b then 1 else 0)
 | .int a,.int b=>a==b
 | .str a,.str b=>a==b
 |_,_=>false
def N6(G:RelV y u)(z:RelV x v)(O:tY y=true)(I:tY x=true):SeqAt.EqAt A s u v (Rr y x):=by
 cases y with
 |non=>
  cases G;cases x with
  |non=>cases z;exact SeqAt.EqAt.same _
  |bl b=>cases z;exact SeqAt.EqAt.none_bool b
  |int b=>let{t,rfl}:=z;exact SeqAt.EqAt.none_int b t
  |str b=>let{t,rfl}:=z;exact SeqAt.EqAt.none_str b t
  |_=>exact WN (show false=true from I) Z1
 |bl a=>
  cases G;cases x with
  |non=>cases z;exact SeqAt.EqAt.bool_none a
  |bl b=>cases z;exact SeqAt.EqAt.bool_bool a b
  |int b=>let{t,rfl}:=z;exact SeqAt.EqAt.bool_int a b t
  |str b=>let{t,rfl}:=z;exact SeqAt.EqAt.bool_str a b t
  |_=>exact WN (show false=true from I) Z1
 |int a=>
  let{t',rfl}:=G;cases x with
  |non=>cases z;exact SeqAt.EqAt.int_none a t'
  |bl b=>cases z;exact SeqAt.EqAt.int_bool a t' b
  |int b=>let{t,rfl}:=z;exact SeqAt.EqAt.int_int a t' b t
  |str b=>let{t,rfl}:=z;exact SeqAt.EqAt.int_str a t' b t
  |_=>exact WN (show false=true from I) Z1
 |str a=>
  let{t',rfl}:=G;cases x with
  |non=>cases z;exact SeqAt.EqAt.str_none a t'
  |bl b=>cases z;exact SeqAt.EqAt.str_bool a t' b
  |int b=>let{t,rfl}:=z;exact SeqAt.EqAt.str_int a t' b t
  |str b=>let{t,rfl}:=z;exact SeqAt.EqAt.str_str a t' b t
  |_=>exact WN (show false=true from I) Z1
 |_=>exact WN (show false=true from O) Z1
def Rv(x:V)(u:P5):Bool:=match u with
 | .none=>Rr .non x
 | .bool b=>Rr (.bl b) x
 | .int i _=>Rr (.int i) x
 | .str z _=>Rr (.str z) x
 |_=>false
def JA(r:RelV y u)(f:tY y=true):Rv x u=Rr y x:=by
 cases y with
 |non=>cases r;rfl
 |bl b=>cases r;rfl
 |int i=>let{t,rfl}:=r;rfl
 |str z=>let{t,rfl}:=r;rfl
 |_=>exact WN (show false=true from f) Z1
def FJ{us:Sa}(h:P0 xs us)(f:xs.all tY=true):us.any (Rv x)=xs.any λy=>Rr y x:=by
 induction h with
 |nil=>rfl
 |cons r t z=>
  rw[List.all_cons,Zs]at f;rw[Vh,Vh,JA r f.1,z f.2]
def CY(z:RelV x v)(G:tY x=true):∀{xs:P7}{us:Sa},P0 xs us->xs.all tY=true->∀u∈us,SeqAt.EqAt A s u v (Rv x u):=λ{xs us} h=>by
 induction h with
 |nil=>exact λ_ u hu=>by cases hu
 |cons r t I=>
  intro f O hu;rw[List.all_cons,Zs]at f;rcases Zb.mp hu with rfl|hu
  .rw[JA r f.1];exact N6 r z f.1 G
  .exact I f.2 O hu
def inV(x:V)(xs:P7):Bool:=xs.any λy=>Rr y x
inductive rIn(K:FA)(neg:Bool)(x y:V)(H:Hp)(Q:VK):Prop
 |mk(p xs:_)(_:y= .ref p)(_:(Kv K H p xs\/QO K H p xs))(_:tY x=true)(_:xs.all tY=true)(_:Q (.bl<|if neg then !inV x xs else inV x xs) H)
def Go:Qm X (compareOp .In) (rIn X.K false):=by
 intro B s W H x y v u Q I z O h;let{p,xs,rfl,hq,G,fs,q}:=h;cases O;rcases hq with hq|hq
 .let{its,r,pl,hz}:=I.list hq;refine SeqAt.in_listAt (Rv x) pl.isList (λw hw=>CY z G r fs w<|by simpa using hw) {.bl _,H,I,M,?_};rw[show its.toArray.any (Rv x)=its.any (Rv x) by simp,FJ r fs];exact q
 .let{its,r,pl,hz}:=I.tuple hq;refine SeqAt.in_tupleAt (Rv x) pl (λw hw=>CY z G r fs w<|by simpa using hw) {.bl _,H,I,M,?_};rw[show its.toArray.any (Rv x)=its.any (Rv x) by simp,FJ r fs];exact q
def aE:iF X (.builtin "len") (λxs H Q=>∃p ys,xs=[.ref p]/\(Kv X.K H p ys\/QO X.K H p ys)/\Q (.int ys.length) H):=by
 intro B s W H xs us Q I r h;let{p,ys,rfl,hq,q}:=h;let{u,rfl,O}:=qw r;cases O;have U:=yb;rcases hq with hq|hq
 .let{its,G,pl,hz}:=I.list hq;have z:=G.length;exact Calls.call_len_list pl.isList (by simp only[Z8]<;>lia) {.int ys.length,H,I.tok _,{s.toks+1,by rw[Z8,z]},q}
 .let{its,G,pl,hz}:=I.tuple hq;have z:=G.length;exact len_tuple pl (by simp only[Z8]<;>lia) {.int ys.length,H,I.tok _,{s.toks+1,by rw[Z8,z]},q}
def BV:iF X (.type gs) (λxs H Q=>∃p ys,xs=[.ref p]/\(Kv X.K H p ys\/QO X.K H p ys)/\∀l,H l=none->Q (.ref l) (upd H l<|.lst ys)):=by
 intro B s W H xs us Q I r h;let{p,ys,rfl,hq,q}:=h;let{u,rfl,Z}:=qw r;cases Z;have fin:∀(its:Sa),P0 ys its->ys.length<=sizeLine->∀(h':Heap)(z:Nat),(∀b o',s.heap.get? b=some o'->h'.get? b=some o')->
   h'.get? s.heap.objs.size=some {cls:= .type gs,dict:=none,data:= .seq its.toArray z,slots:= #[]}->EP X B W Q (.ref s.heap.objs.size) {s with heap:=h'}:=λits G hz h' z O e=>
  {.ref s.heap.objs.size,_,I.laid (t':=s.toks) O (Q5 _) (show PJ X.prog X.w _ h' _ (.lst ys) from⟨hz,its,z,G,e⟩),M,q _<|I.hok.fresh (Q5 _)}
 rcases hq with hq|hq
 .let{its,G,pl,hz}:=I.list hq;have U:=G.length;let{o,Y,hc,n,hd}:=pl.isList;exact call_list_seq p (.inl M) Y hc hd (λh' z O e=>fin its G hz h' z O e)<|by simp only[Z8]<;>lia
 .let{its,G,pl,hz}:=I.tuple hq;have U:=G.length;let{o,Y,hc,n,hd}:=pl;exact call_list_seq p (.inr M) Y hc hd (λh' z O e=>fin its G hz h' z O e)<|by simp only[Z8]<;>lia
def tyV(K:FA)(T:String)(x:V)(H:Hp):Prop:=match x with
 | .str _=>T="str"
 | .int _=>T="int"
 | .ref p=>(T=gs/\∃xs,Kv K H p xs)\/(T=pq/\∃o,K.lookup p=some o/\o.cls= .type pq/\o.dict=none)\/
   (T="dict"/\((∃kvs,H p=some (.dK kvs))\/∃kvs,H p=some (.dT kvs)))\/(T="set"/\∃S n,H p=some (.set S n))
 |_=>False
def HA(I:Inv X B W H s)(r:RelV x v)(ty:tyV X.K T x H):
  s.TypeIs v T/\∀a,v= .ref a->∃ob,s.heap.get? a=some ob/\ob.dict=none:=by
 cases x with
 |str z=>
  let{t,rfl}:=r;cases (show T="str" from ty);exact{typeIs_str s z t,λ_ e=>nomatch e}
 |int i=>
  let{t,rfl}:=r;cases (show T="int" from ty);exact{typeIs_int s i t,λ_ e=>nomatch e}
 |ref p=>
  cases r;rcases ty with⟨rfl,xs,hq⟩|⟨rfl,o,hk,hc,hd⟩|⟨rfl,hk⟩|⟨rfl,S,n,hk⟩
  .let{its,_,pl,_}:=I.list hq;refine{pl.isList.typeIs,λa e=>?_};cases e;let{o,n,e,c,hd,_}:=pl;exact⟨o,e,hd⟩
  .refine{{o,I.kIn p o hk,hc},λa e=>?_};cases e;exact{o,I.kIn _ o hk,hd}
  .have z:∃o,s.heap.get? p=some o/\o.ExactDict:=by
    rcases hk with⟨kvs,hk⟩|⟨kvs,hk⟩
    .let{_,_,_,_,o,_,_,e,ex,_}:=I.hok p _ hk;exact⟨o,e,ex⟩
    .let{_,_,_,_,o,_,_,e,ex,_}:=I.hok p _ hk;exact⟨o,e,ex⟩
   let{o,e,ex}:=z;refine{⟨o,e,ex.1⟩,λa e2=>?_};cases e2;exact⟨o,e,ex.2.1⟩
  .let{o,_,_,_,e,ex,_}:=I.hok p _ hk;refine{⟨o,e,ex.1⟩,λa e2=>?_};cases e2;exact⟨o,e,ex.2.1⟩
 |_=>exact False.elim ty
def tBM0(K:FA)(T:String)(r:V->List V->Hp->VK->Prop)(to:TE):TE:=λW H Q=>to W H λx H1=>tyV K T x H1/\r x [] H1 Q
def tBM(K:FA)(T:String)(r:V->List V->Hp->VK->Prop)(to:TE)(t:TA):TE:=λW H Q=>to W H λx H1=>tyV K T x H1/\t W H1 λxs H2=>r x xs H2 Q
variable{o:Expr}{es:Sy}{to:TE}{t:TA}{name:Str}{apos cpos:Pos}{id:String}{r:V->List V->Hp->VK->Prop}
def xD(pa:PlainAttrs T)(slot:Slot T name id)(O:typeOf (.builtin id)=pure (.type "method_descriptor"))(Z:S9 X id r)(ho:PE X o to)
  (z:attributeBase o name X.env (eval o X.env)=eval o X.env:=by rfl) (G:(apos.endLine==cpos.line)=true:=by rfl):PE X (.Call (.Attribute o name apos) [] [] cpos) (tBM0 X.K T r to):=by
 intro B s W H Q I h;refine wpAny_Call_method0_late z G<|PK (ho B s W H _ I h) λv s1 U=>?_;let{x,H1,Y,r1,ty,q1}:=U;let{h1,h2}:=HA Y r1 ty;exact{T,id,pa,slot,O,h1,h2,Calls.callWith_builtin M<|PySem.evalArgs_none (Z B s1 W H1 x [] v [] Q Y r1 .nil q1)}
def dH(pa:PlainAttrs T)(slot:Slot T name id)(Y:typeOf (.builtin id)=pure (.type "method_descriptor"))(hm:S9 X id r)(ho:PE X o to)(ha:PA X (e::es) t)
  (G:attributeBase o name X.env (eval o X.env)=eval o X.env:=by rfl)
  (U:((backTo cpos<|starEach (e::es) X.env).all (λx=>!x.1)&&(backToKw cpos<|keywordEach [] X.env).all (λx=>x.1.isSome)
   &&decide ((e::es).length+([]:List Keyword).length+(if([]:List Keyword).isEmpty then 0 else 1)<30))=true:=by rfl)
  (O:(apos.endLine==cpos.line)=true:=by rfl) (hs:starEach (e::es) X.env=(false,eval e X.env)::starEach es X.env:=by rfl) (z:(backTo cpos<|starEach es X.env).any (·.1)=false:=by rfl):
  PE X (.Call (.Attribute o name apos) (e::es) [] cpos) (tBM X.K T r to t):=by
 intro B s W H Q I h;refine wpAny_Call_method_late G U O M<|PK (ho B s W H _ I h) λv s1 Z=>?_;let{x,H1,I1,r1,ty,q1}:=Z;let{h1,h2}:=HA I1 r1 ty;refine{T,id,pa,slot,Y,h1,h2,?_};have hA:=ha cpos B s1 W H1 _ I1 q1;rw[hs]at hA⊢;refine Calls.callWith_builtin (by show(false||(backTo cpos<|starEach es X.env).any (·.1))=false;rw[z]<;>rfl)<|Calls.evalArgs_plain ?_;exact PK hA λus s2 zz=>by let{vs,H2,I2,r2,q2}:=zz;exact hm B s2 W H2 x vs v us Q I2 r1 r2 q2
end
def MtM(X:Cx)(id:String)(r:V->List V->Hp->VK->Prop):Prop:=
 ∀(B:Sb)(s:J')(W:St)(H:Hp)(x:V)(xs:P7)(v:P5)(us:Sa)(Q:VK),Inv X B W H s->RelV x v->P0 xs us->r x xs H Q->
  FB X (call (.builtin id) (v::us)) (EP X B W Q) X.xe s
def P0.one:∀{x:V}{us:Sa},P0 [x] us->∃u,us=[u]/\RelV x u
 :=λh=>by
  cases h with
  |cons r h=>cases h;exact{_,M,r}
def P0.two:∀{x y:V}{us:Sa},P0 [x,y] us->∃u v,us=[u,v]/\RelV x u/\RelV y v
 :=λh=>by
  cases h with
  |cons r h=>cases h with
   |cons q h=>cases h;exact{_,_,M,r,q}
theorem P0.eraseIdx:∀{xs:P7}{us:Sa}(i:Nat),P0 xs us->P0 (xs.eraseIdx i) (us.eraseIdx i)
 |_,_,_,.nil=> .nil
 |_,_,0,.cons _ t=>t
 |_,_,i+1,.cons r t=> .cons r (P0.eraseIdx i t)
theorem vb{α:Type}:∀(l:List α)(i:Nat),(l.eraseIdx i).length<=l.length
 | [],_=>Q5 _
 |_::_,0=>Xc _
 |_::r,i+1=>Nat.succ_le_succ (vb r i)
section
variable{l:G'}{ys zs:P7}
def Inv.lset{f:Array Value->Array Value}(I:Inv X B W H s)(z:H l=some (.lst xs))
  (e:s.heap.get? l=some {cls:= .type gs,data:= .seq its.toArray n}) (hf:f its.toArray=its'.toArray) (G:P0 ys its') (hz:ys.length<=sizeLine):
  Inv X B W (upd H l<|.lst ys) {s with heap:=s.heap.update l (Obj.mapSeq f),toks:=t'}:=by
 have q:=PySem.IsL.update e f;rw[hf]at q;refine I.write (x:=l) (e:=l) (by rw[z];exact trivial) (.inl M) (λb' u hb hu=>(Y0 s.heap (Obj.mapSeq f)<|Ne.symm hb).trans hu) {_,q} ?_;exact{hz,its',_,G,q}
def Inv.lnew(I:Inv X B W H s)(z:P0 ys its)(hz:ys.length<=sizeLine):
  Inv X B W (upd H s.heap.objs.size<|.lst ys) {s with heap:=s.heap.push {cls:= .type gs,data:= .seq its.toArray},toks:=t'}:=
 I.laid (λ_ _ q=>WK _ q) (Q5 _) {hz,its,0,z,WT _ M}
def Inv.fresh(I:Inv X B W H s):H s.heap.objs.size=none:=I.hok.fresh (Q5 _)
def Inv.lstM(I:Inv X B W H s)(G:H l=some (.lst xs)):xs.length<=sizeLine/\∃(its:Sa)(n:Nat),P0 xs its/\xs.length=its.length/\s.heap.get? l=some {cls:= .type gs,data:= .seq its.toArray n}:=by
 let{z,its,n,r,e}:=I.hok l _ G;exact⟨z,its,n,r,r.length,e⟩
def Ir(h:n<=sizeLine):Builtin.List.listTooLong n=false:=by
 unfold Builtin.List.listTooLong;exact WU ()
end
inductive Lb(x:V)(vs:P7)(H:Hp)(Q:VK):Prop
 |mk(l xs y:_)(_:x= .ref l)(_:vs=[y])(_:H l=some (.lst xs))(_:xs.length<sizeLine)(_:Q .non (upd H l<|.lst<|xs++ [y]))
def dS:MtM X "list.append" Lb:=by
 intro B s W H x vs v us Q I O rv h;let{l,xs,y,rfl,rfl,G,hz,q}:=h;cases O;let{u,rfl,U}:=rv.one;let{z,its,n,r,hl,e}:=I.lstM G;refine call_meets F.slot_list_append {_,e,M} F.entry_list_append (F.args_list_append_2 _ _) (PySem.list_append l its.toArray n u<|by rw[Z8];lia) {e,?_};refine{.non,_,I.lset (its':=its++ [u]) G e (by simp) (r.append<|.cons U .nil) ?_,M,q};rw[Q8,ZS];lia
inductive La(x:V)(vs:P7)(H:Hp)(Q:VK):Prop
 |mk(l b xs zs:_)(_:x= .ref l)(_:vs=[.ref b])(_:H l=some (.lst xs))(_:H b=some (.lst zs))(_:xs.length+zs.length<=sizeLine)(_:Q .non (upd H l<|.lst<|xs++zs))
def qa:MtM X "list.extend" La:=by
 intro B s W H x vs v us Q I Y rv h;let{l,b,xs,zs,rfl,rfl,U,Z,hz,q}:=h;cases Y;let{u,rfl,ru}:=rv.one;cases ru;let{z,its,n,r,hl,e}:=I.lstM U;let{z2,G,n2,r2,a0,e2}:=I.lstM Z;have hsz:its.toArray.size+G.toArray.size<=sizeLine:=by rw[Z8,Z8];lia
 have O:¬(!its.toArray.isEmpty&&Builtin.List.listTooLong (its.toArray.size+G.toArray.size))=true:=by
  rw[Ir hsz,Bool.and_false];exact Z1
 refine call_meets F.slot_list_extend {_,e,M} F.entry_list_extend (F.args_list_extend_2 _ _)
  (AutoSeq1.list_extend_list_list_0 l its.toArray n b G.toArray n2 O (by rw[Z8];lia) ()) {e,e2,?_}
 refine{.non,_,I.lset (its':=its++G) U e (by simp) (r.append r2) ?_,M,q};rw[Q8];lia
inductive Nn(x:V)(vs:P7)(H:Hp)(Q:VK):Prop
 |mk(l xs i k y:_)(_:x= .ref l)(_:vs=[.int i])(_:H l=some (.lst xs))(_: -(2^63)<=i)(_:i<2^63)(_:seqIndex? i xs.length=some k)(_:xs[k]?=some y)(_:Q y (upd H l<|.lst<|xs.eraseIdx k))
def CO:MtM X "list.pop" Nn:=by
 intro B s W H x vs v us Q I U rv h;let{l,xs,i,k,y,rfl,rfl,O,h1,h2,hk,hy,q}:=h;cases U;let{u,rfl,Y}:=rv.one;let{t,rfl}:=Y;let{z,its,n,r,hl,e}:=I.lstM O;let{w,hw,G}:=r.get hy;refine call_meets F.slot_list_pop {_,e,M} F.entry_list_pop (F.args_list_pop_2 _ _)
  (MeetsSeq.list_pop_at l its.toArray n i t k w (fitsIndex_both h1 h2) (by rwa[Z8,<-hl]) (by rwa[<-Zz])<|by rw[Z8];lia) {e,?_}
 refine{y,_,I.lset (its':=its.eraseIdx k) O e ?_ (r.eraseIdx k) ?_,G,q}
 .show its.toArray.eraseIdxIfInBounds k=(its.eraseIdx k).toArray;rw[Wn]
 .have:=vb xs k;lia
inductive rCat(x y:V)(H:Hp)(Q:VK):Prop
 |mk(l b xs zs:_)(_:x= .ref l)(_:y= .ref b)(_:H l=some (.lst xs))(_:H b=some (.lst zs))(_:xs.length+zs.length<=sizeLine)(_:∀p,H p=none->Q (.ref p) (upd H p<|.lst<|xs++zs))
def Nz:Qm X (binaryOp .Add) rCat:=by
 intro B s W H x y v u Q I O U h;let{l,b,xs,zs,rfl,rfl,Y,Z,hz,q}:=h;cases O;cases U;let{z,its,n,r,hl,e}:=I.lstM Y;let{z2,G,n2,r2,a0,e2}:=I.lstM Z;refine PySem.P.add_list e e2 ?_ (by rw[Z8,Z8];lia);have ea:its.toArray++G.toArray=(its++G).toArray:=by simp
 rw[ea];exact{.ref _,_,I.lnew (t':=s.toks) (r.append r2) (by rw[Q8];lia),M,q _ I.fresh}
section
variable{κ:Type}[DecidableEq κ]
noncomputable def aH(kvs:List (κ×V))(k:κ):Option V:=(kvs.find? λkv=>decide (kv.1=k)).map (·.2)
noncomputable def bu(kvs:List (κ×V))(k:κ)(v:V):List (κ×V):=
 if(kvs.any λkv=>decide (kv.1=k))=true then kvs.map (λkv=>if kv.1=k then(kv.1,v)else kv)else kvs++ [(k,v)]
noncomputable def bQ(kvs:List (κ×V))(k:κ):List (κ×V):=kvs.filter λkv=>decide (kv.1≠k)
def kZ{k:κ}:aH ([]:List (κ×V)) k=none:=rfl
def bE{p:κ×V}{r:List (κ×V)}{k:κ}(e:p.1=k):aH (p::r) k=some p.2:=by simp[aH,V2,e]
def bz{p:κ×V}{r:List (κ×V)}{k:κ}(e:¬p.1=k):aH (p::r) k=aH r k:=by simp[aH,V2,e]
theorem dE(k:κ):∀kvs:List (κ×V),(kvs.any λkv=>decide (kv.1=k))=(aH kvs k).isSome
 | []=>rfl
 |p::r=>by
  rw[Vh];by_cases e:p.1=k
  .simp only[bE e,WR e,Bool.true_or,Option.isSome_some]
  .rw[bz e,WU e,Bool.false_or];exact dE k r
theorem Cl(k j:κ)(y:V):∀kvs:List (κ×V),aH (kvs.map λkv=>if kv.1=k then(kv.1,y)else kv) j=(aH kvs j).map λx=>if j=k then y else x
 | []=>rfl
 |p::r=>by
  have G:=Cl k j y r;rw[Zk];by_cases h:p.1=k
  .rw[WJ h];by_cases e:p.1=j
   .rw[bE (p:=(p.1,y)) e,bE e,VM,WJ (e.symm.trans h)]
   .rw[bz (p:=(p.1,y)) e,bz e,G]
  .rw[WI h];by_cases e:p.1=j
   .rw[bE (p:=p) e,bE e,VM,WI (λz=>h<|e.trans z)]
   .rw[bz (p:=p) e,bz e,G]
theorem Aa(k j:κ)(y:V):∀kvs:List (κ×V),aH kvs k=none->aH (kvs++ [(k,y)]) j=if j=k then some y else aH kvs j
 | [],_=>by
  by_cases e:k=j
  .rw[WJ e.symm];exact bE (p:=(k,y)) e
  .rw[WI (λz=>e z.symm)];exact bz (p:=(k,y)) e
 |p::r,hn=>by
  rw[List.cons_append];have hk:¬p.1=k:=λz=>by rw[bE z]at hn;cases hn
  rw[bz hk]at hn;have G:=Aa k j y r hn;by_cases e:p.1=j
  .rw[bE e,bE e,WI (λz=>hk<|e.trans z)]
  .rw[bz e,bz e,G]
def eI(kvs:List (κ×V))(k j:κ)(y:V):aH (bu kvs k y) j=if j=k then some y else aH kvs j:=by
 unfold bu;by_cases a:(kvs.any λkv=>decide (kv.1=k))=true
 .rw[WJ a,Cl];rw[dE]at a;by_cases e:j=k
  .let{x,hx}:=XY.mp a;rw[WJ e,e,hx,VM,WJ M]
  .rw[WI e];cases aH kvs j with
   |none=>rfl
   |some x=>rw[VM,WI e]
 .rw[WI a];refine Aa k j y kvs ?_;rw[dE]at a;cases q:aH kvs k with
  |none=>rfl
  |some x=>rw[q]at a;exact(a M).elim
def cy(kvs:List (κ×V))(k:κ)(v:V):(bu kvs k v).length<=kvs.length+1:=by
 unfold bu;split
 .rw[Q1];lia
 .rw[Q8,Zh,Vn];lia
def tm{kvs:List (κ×V)}{k:κ}(v:V)(h:aH kvs k=none):bu kvs k v=kvs++ [(k,v)]:=by
 unfold bu;rw[dE,h];exact WI (_)
def Qc.isSome_eq{u:Option Value}(r:Qc o u):o.isSome=u.isSome:=by
 cases o with
 |none=>cases u with
  |none=>rfl
  |some _=>exact(show False from r).elim
 |some _=>cases u with
  |none=>exact(show False from r).elim
  |some _=>rfl
def KV.val{kvs:List (κ×V)}{vs:List (κ×Value)}(r:KV kvs vs)(k:κ):Qc (aH kvs k) (valueAt vs k):=by
 unfold KV at r
 induction r with
 |nil=>exact Y1
 | @cons p q ps qs h t I=>
  let{h1,h2}:=h;by_cases e:p.1=k
  .have G:q.1=k:=h1.symm.trans e;have b:valueAt (q::qs) k=some q.2:=by simp[valueAt,V2,G]
   rwa[bE e,b]
  .have G:¬q.1=k:=λz=>e (h1.trans z);have b:valueAt (q::qs) k=valueAt qs k:=by simp[valueAt,V2,G]
   rw[bz e,b];exact I
def KV.any{kvs:List (κ×V)}{vs:List (κ×Value)}(r:KV kvs vs)(k:κ):(kvs.any λkv=>decide (kv.1=k))=vs.any λkv=>decide (kv.1=k):=by
 unfold KV at r
 induction r with
 |nil=>rfl
 |cons h t z=>rw[Vh,Vh,z,h.1]
def KV.repl{kvs:List (κ×V)}{vs:List (κ×Value)}(r:KV kvs vs)(k:κ)(G:RelV y u):
  KV (kvs.map λkv=>if kv.1=k then(kv.1,y)else kv) (vs.map λkv=>if kv.1=k then(kv.1,u)else kv):=by
 unfold KV at r⊢
 induction r with
 |nil=>exact .nil
 | @cons p q ps qs h t I=>
  rw[Zk,Zk];refine .cons ?_ I;let{h1,h2}:=h;by_cases e:p.1=k
  .rw[WJ e,WJ (h1.symm.trans e)];exact⟨h1,G⟩
  .rw[WI e,WI (λz=>e<|h1.trans z)];exact⟨h1,h2⟩
def KV.put{kvs:List (κ×V)}{vs:List (κ×Value)}(r:KV kvs vs)(k:κ)(z:RelV y u):KV (bu kvs k y) (stored vs k u):=by
 unfold bu stored;rw[r.any k];by_cases e:(vs.any λkv=>decide (kv.1=k))=true
 .rw[WJ e,WJ e];exact r.repl k z
 .rw[WI e,WI e];exact Paired.snoc r ⟨M,z⟩
def KV.drop{kvs:List (κ×V)}{vs:List (κ×Value)}(r:KV kvs vs)(k:κ):KV (bQ kvs k) (without vs k):=by
 unfold KV at r⊢;unfold bQ without
 induction r with
 |nil=>exact .nil
 | @cons p q ps qs h t G=>
  let{h1,h2}:=h;rw[Vf,Vf];by_cases e:p.1=k
  .have a:¬decide (p.1≠k)=true:=by simp[e]
   have b:¬decide (q.1≠k)=true:=by simp[h1.symm.trans e]
   rwa[WI a,WI b]
  .have I:¬q.1=k:=λz=>e (h1.trans z);have a:decide (p.1≠k)=true:=by simp[e]
   have b:decide (q.1≠k)=true:=by simp[I]
   rw[WJ a,WJ b];exact .cons ⟨h1,h2⟩ G
def KV.length{kvs:List (κ×V)}{vs:List (κ×Value)}(r:KV kvs vs):kvs.length=vs.length:=Paired.length r
def Dk(kvs:List (κ×V))(k:κ):(bQ kvs k).length<=kvs.length:=Zd _ _
end
def tR{k:Key}(r:RelV (kV k) u):(bj P w).is k u=true:=by
 cases k with
 |inl i=>let{t,e}:=(show ∃t,u=Value.int i t from r);subst e;exact CV P w i t
 |inr x=>let{t,e}:=(show ∃t,u=Value.str x t from r);subst e;exact CU P w x t
theorem Az{P:Se}{w:Sf}:∀{ks:List Key}{us:Sa},P0 (ks.map kV) us->ItemsAre (bj P w) ks us
 | [],_,r=>by rw[List.map_nil]at r;cases r;exact .nil
 |k::ks,_,r=>by
  rw[Zk]at r;cases r with
  |cons h t=>exact .cons (tR h)<|Az t
abbrev KT(H:Hp):List (List Key×V)->List (List Key×Addr×Value)->Prop:=Paired λp q=>p.1=q.1/\H q.2.1=some (.tup<|p.1.map kV)/\RelV p.2 q.2.2
abbrev _root_.Th:=List (List Key×Addr×Value)
def KT.val{kvs:SY}{xs:Th}(r:KT H kvs xs)(k:List Key):Qc (aH kvs k) ((atKey xs k).map (·.2)):=by
 induction r with
 |nil=>exact Y1
 | @cons p q ps qs h t I=>
  let{h1,_,h2}:=h;by_cases e:p.1=k
  .have G:q.1=k:=h1.symm.trans e;have b:atKey (q::qs) k=some q.2:=by simp[atKey,V2,G]
   rwa[bE e,b]
  .have G:¬q.1=k:=λz=>e (h1.trans z);have b:atKey (q::qs) k=atKey qs k:=by simp[atKey,V2,G]
   rw[bz e,b];exact I
def KT.repl{kvs:SY}{xs:Th}(r:KT H kvs xs)(k:List Key)(G:RelV y u):
  KT H (kvs.map λkv=>if kv.1=k then(kv.1,y)else kv) (xs.map<|putAt k u):=by
 induction r with
 |nil=>exact .nil
 | @cons p q ps qs h t I=>
  rw[Zk,Zk];refine .cons ?_ I;let{h1,h2,O}:=h;unfold putAt;by_cases e:p.1=k
  .rw[WJ e,WJ (h1.symm.trans e)];exact⟨h1,h2,G⟩
  .rw[WI e,WI (λz=>e<|h1.trans z)];exact⟨h1,h2,O⟩
def KT.put{kvs:SY}{xs:Th}(r:KT H kvs xs)(k:List Key)(hb:H b=some (.tup<|k.map kV))(z:RelV y u):
  KT H (bu kvs k y) (storedH xs k b u):=by
 have e:(kvs.any λkv=>decide (kv.1=k))=(atKey xs k).isSome:=by
  rw[dE,(r.val k).isSome_eq,Wd]
 unfold bu storedH;rw[e];by_cases q:(atKey xs k).isSome=true
 .rw[WJ q,WJ q];exact r.repl k z
 .rw[WI q,WI q];exact Paired.snoc r ⟨M,hb,z⟩
def KT.keeps{kvs:SY}{xs:Th}(r:KT H kvs xs)(G:∀b ys,H b=some (.tup ys)->H' b=some (.tup ys)):KT H' kvs xs:=
 Paired.mapP r λ_ _ z=>{z.1,G _ _ z.2.1,z.2.2}
section
variable{h:Heap}
def Ms{u:HO}(ok:QU P w H h)(e:Rd H a u):PJ P w H h a u:=e.ok ok
def yr(ok:QU P w H h)(e:Rd H a (.dK kvs)):kvs.length<=sizeLine/\(a==sysModules)=false/\∃vs,KV kvs vs/\h.DictOf (bj P w) a vs:=
 show PJ P w H h a (.dK kvs) from Ms ok e
def jp(ok:QU P w H h)(e:H a=some (.dK kvs)):kvs.length<=sizeLine/\(a==sysModules)=false/\∃vs,KV kvs vs/\h.DictOf (bj P w) a vs:=yr ok (.inl e)
def yc{ks:List Key}(ok:QU P w H h)(e:H a=some (.tup<|ks.map kV)):(tupleKind<|bj P w).is h ks a:=by
 let{_,its,r,o,h1,h2,n,z}:=(show PJ P w H h a (.tup<|ks.map kV) from ok a _ e);exact{o,its.toArray,n,h1,h2,z,by simpa using Az r}
def Dh{kvs:SY}(ok:QU P w H h)(e:Rd H a (.dT kvs)):kvs.length<=sizeLine/\(a==sysModules)=false/\
  ∃xs,KT H kvs xs/\h.DictOfH (tupleKind<|bj P w) a xs:=by
 let{z,y,xs,r,o,es,ep,h1,h2,G,I,O}:=(show PJ P w H h a (.dT kvs) from Ms ok e);refine{z,y,xs,r,o,es,ep,h1,h2,G,I,λx hx=>?_,O};have all:∀{l:SY}{m:Th},KT H l m->∀x∈m,(tupleKind<|bj P w).is h x.1 x.2.1:=by
  intro l m q
  induction q with
  |nil=>intro x hx;exact nomatch hx
  | @cons p q ps qs hq t U=>
   intro x hx;rcases Zb.mp hx with e|hx
   .subst e;exact yc ok<|by rw[<-hq.1];exact hq.2.1
   .exact U x hx
 exact all r x hx
def Po{kvs:SY}(ok:QU P w H h)(e:H a=some (.dT kvs)):kvs.length<=sizeLine/\(a==sysModules)=false/\
  ∃xs,KT H kvs xs/\h.DictOfH (tupleKind<|bj P w) a xs:=Dh ok (.inl e)
end
def Qh(H:Hp)(a:G')(y:V)(r:Su):Prop:=
 (∃kvs k,Rd H a (.dK kvs)/\y=kV k/\r=aH kvs k)\/∃kvs k b,Rd H a (.dT kvs)/\y= .ref b/\H b=some (.tup<|k.map kV)/\r=aH kvs k
def Qs(H:Hp)(a:G')(y v:V)(H':Hp):Prop:=
 (∃kvs k,H a=some (.dK kvs)/\y=kV k/\kvs.length<sizeLine/\H'=upd H a (.dK<|bu kvs k v))\/
 ∃kvs k b,H a=some (.dT kvs)/\y= .ref b/\H b=some (.tup<|k.map kV)/\kvs.length<sizeLine/\H'=upd H a (.dT<|bu kvs k v)
def Qh.k{k:Key}(e:H a=some (.dK kvs)):Qh H a (kV k) (aH kvs k):= .inl {kvs,k,.inl e,M,M}
def Qs.k{k:Key}{v:V}(e:H a=some (.dK kvs))(hl:kvs.length<sizeLine):Qs H a (kV k) v (upd H a<|.dK<|bu kvs k v):= .inl ⟨kvs,k,e,M,hl,M⟩
section
variable{v:V}
def Inv.big(I:Inv X B W H s):sysModules<s.heap.objs.size:=by
 have h:mainGlobals<s.heap.objs.size:=(I.mod.glob.keeps I.bk).lt;exact Nat.lt_trans (_) h
def GU(hu:A.units+1<cLine)(I:Inv X B W H s)(g:Qh H a y (some v))(Z:RelV y u)(h:∀w' s',Inv X B W H s'->RelV v w'->Q w' s'):
  wpAny (model X.prog X.w) A (getItem (.ref a) u) Q E s:=by
 rcases g with⟨kvs,k,e,U,l⟩|⟨kvs,k,b,e,U,eb,l⟩
 .subst U;let{z,hd,vs,G,dd}:=yr I.hok e;let{w',hw,O}:=Qc.some_of (v:=v) (o:=valueAt vs k) (by rw[l];exact G.val k);exact wpAny_getItem_of (tR Z) dd.mapOf hw<|h w' _ (I.tok _) O
 .subst U;cases (show u=Value.ref b from Z);let{z,hd,xs,G,dd}:=Dh I.hok e;let{w',hw,O}:=Qc.some_of (v:=v) (o:=(atKey xs k).map (·.2)) (by rw[l];exact G.val k);let{p,hp,Y}:=Xq.mp hw;refine wpAny_getItem_heap (tupleKind_room_in1 hu) (yc I.hok eb) dd hp ?_;rw[Y];exact h w' _ (I.tok _) O
def d_in(hu:A.units+1<cLine)(I:Inv X B W H s)(g:Qh H a y o)(U:RelV y u)(h:∀s',Inv X B W H s'->Q (.bool o.isSome) s'):
  wpAny (model X.prog X.w) A (compareOp .In u<|.ref a) Q E s:=by
 rcases g with⟨kvs,k,e,O,l⟩|⟨kvs,k,b,e,O,Y,l⟩
 .subst O;let{z,hd,vs,G,dd}:=yr I.hok e;refine wpAny_in_of (tR U) hd dd.mapOf ?_;rw[<-(G.val k).isSome_eq,<-l];exact h _<|I.tok _
 .subst O;cases (show u=Value.ref b from U);let{z,hd,xs,G,dd}:=Dh I.hok e;refine wpAny_in_heap (tupleKind_room_in1 hu) (yc I.hok Y) hd dd ?_;have q:=(G.val k).isSome_eq;rw[Wd]at q;rw[<-q,<-l];exact h _<|I.tok _
def LO(hu:A.units+1<cLine)(I:Inv X B W H s)(g:Qh H a y o)(U:RelV y u)(h:∀s',Inv X B W H s'->Q (.bool<|!o.isSome) s'):
  wpAny (model X.prog X.w) A (compareOp .NotIn u<|.ref a) Q E s:=by
 rcases g with⟨kvs,k,e,O,l⟩|⟨kvs,k,b,e,O,Y,l⟩
 .subst O;let{z,hd,vs,G,dd}:=yr I.hok e;refine wpAny_notIn_of (tR U) hd dd.mapOf ?_;rw[<-(G.val k).isSome_eq,<-l];exact h _<|I.tok _
 .subst O;cases (show u=Value.ref b from U);let{z,hd,xs,G,dd}:=Dh I.hok e;refine wpAny_notIn_heap (tupleKind_room_in1 hu) (yc I.hok Y) hd dd ?_;have q:=(G.val k).isSome_eq;rw[Wd]at q;rw[<-q,<-l];exact h _<|I.tok _
def tZ{ob:HO}(I:Inv X B W H s)(G:Mut (H a))(hs:Heap.SameBut a s.heap h')(he:∃q,h'.get? a=some q)(new:PJ X.prog X.w (upd H a ob) h' a ob):
  Inv X B W (upd H a ob) {s with heap:=h',toks:=t'}:=
 I.write (x:=a) (e:=a) G (.inl M) (λb q hb z=>(hs.2 b hb).trans z) he new
def BU(z:kvs.length<=sizeLine)(hd:(a==sysModules)=false)(G:KV kvs vs)(dd:h'.DictOf (bj P w) a vs):
  PJ P w H' h' a (.dK kvs):=⟨z,hd,vs,G,dd⟩
def GT{Q:Te}(hu:A.units+1<cLine)(I:Inv X B W H s)(g:Qs H a y v H')(Y:RelV y u)(rv:RelV v r)(h:∀s',Inv X B W H' s'->Q Unit.unit s'):
  wpAny (model X.prog X.w) A (setItem (.ref a) u r) Q E s:=by
 rcases g with⟨kvs,k,e,O,l,U⟩|⟨kvs,k,b,e,O,Z,l,U⟩
 .subst O U;let{z,hd,vs,G,dd}:=jp I.hok e;have hz:vs.length<=sizeLine:=by rwa[<-G.length]
  have hl:(bu kvs k v).length<=sizeLine:=by have:=cy kvs k v;lia
  refine wpAny_setItem_pairs (hsz:=hz) (tR Y) dd λh' dd' hs=>h _ ?_;have he:∃q,h'.get? a=some q:=by let{q,_,_,hq,_}:=dd';exact⟨q,hq⟩
  exact tZ I (by rw[e];exact Y1) hs he<|BU hl hd (G.put k rv) dd'
 .subst O U;cases (show u=Value.ref b from Y);let{z,hd,xs,G,dd}:=Po I.hok e;have hz:xs.length<=sizeLine:=by rwa[<-Paired.length G]
  have hl:(bu kvs k v).length<=sizeLine:=by have:=cy kvs k v;lia
  refine wpAny_setItem_heap (hsz:=hz) (tupleKind_room_in1 hu) (yc I.hok Z) dd λh' dd' hs=>h _ ?_;let{q,es,ep,hq,h2,h3,h4,_,h5}:=dd';refine tZ I (by rw[e];exact Y1) hs ⟨q,hq⟩ {hl,hd,_,(G.put k Z rv).keeps λc ys ec=>?_,q,es,ep,hq,h2,h3,h4,h5};rwa[af (cX ec e<|λz=>nomatch z)]
end
section
variable{k:Key}
def ME{v:V}{more:Sa}(I:Inv X B W H s)(e:H a=some (.dK kvs))(O:RelV (kV k) u)(l:aH kvs k=some v)(Y:more=[]\/∃x,more=[x])
  (h:∀w' s',Inv X B W (upd H a<|.dK<|bQ kvs k) s'->RelV v w'->Q w' s'):wpAny (model X.prog X.w) A (call (.builtin "dict.pop") (.ref a::u::more)) Q E s:=by
 let{z,hd,vs,G,dd}:=jp I.hok e;let{w',hw,U}:=Qc.some_of (v:=v) (o:=valueAt vs k) (by rw[<-l];exact G.val k);have Z:(keyPart u).isSome=true:=by
  cases k with
  |inl i=>let{t,q}:=(show ∃t,u=Value.int i t from O);subst q;rfl
  |inr x=>let{t,q}:=(show ∃t,u=Value.str x t from O);subst q;rfl
 have ha:argsOk "dict.pop" {.ref a::u::more,[]}:=by
  rcases Y with q|⟨x,q⟩
  .subst q;exact PySem.F.args_dict_pop_2 _ _
  .subst q;exact PySem.F.args_dict_pop_3 _ _ _
 refine Yk XA dd.typeIs PySem.F.entry_dict_pop ha (meets_dict_pop_there (bj X.prog X.w) a (tR O) more Y Z)
  {vs,w',dd,by rwa[<-G.length],hw,λh' dd' hs=>h w' _ ?_ U}
 have he:∃q,h'.get? a=some q:=by let{q,_,_,hq,_}:=dd';exact⟨q,hq⟩
 exact tZ I (by rw[e];exact Y1) hs he<|BU (Zl (Dk kvs k) z) hd (G.drop k) dd'
def N8(I:Inv X B W H s)(e:H a=some (.dK kvs))(G:RelV (kV k) u)(l:aH kvs k=none)(h:∀s',Inv X B W H s'->Q r s'):
  wpAny (model X.prog X.w) A (call (.builtin "dict.pop") [.ref a,u,r]) Q E s:=by
 let{z,hd,vs,O,dd}:=jp I.hok e;have U:valueAt vs k=none:=Qc.none_of (by rw[<-l];exact O.val k);have Y:(keyPart u).isSome=true:=by
  cases k with
  |inl i=>let{t,q}:=(show ∃t,u=Value.int i t from G);subst q;rfl
  |inr x=>let{t,q}:=(show ∃t,u=Value.str x t from G);subst q;rfl
 exact Yk XA dd.typeIs PySem.F.entry_dict_pop (PySem.F.args_dict_pop_3 _ _ _) (meets_dict_pop_default (bj X.prog X.w) a (tR G) hd Y r) {vs,dd,U,h _<|I.tok _}
def Pp(I:Inv X B W H s)(e:Rd H a (.dK kvs))(h:∀t s',Inv X B W H s'->Q (.int kvs.length t) s'):wpAny (model X.prog X.w) A (call (.builtin "len") [.ref a]) Q E s:=by
 let{z,hd,vs,G,dd}:=yr I.hok e;refine call_len_dict hd dd (by rw[<-G.length];rw[sizeLine_eq]at z;lia) ?_;rw[<-G.length];exact h _ _<|I.tok _
end
def NoSl(i:Expr):Prop:=∀ov iv,subscripted i false ov iv=operate [ov,iv] (getItem ov iv)
def KU{prog:Se}{env:Env}{value z:Expr}{id:String} 
  (hl:typeLookup (.type T) "__getitem__"=pure (some<|.builtin id)) (hs:NoSl z)
  (h:wpAny (model prog w) A (eval value env) (λo s₁=>wpAny (model prog w) A (eval z env) (λi s₂=>s₂.TypeIs o T/\wpAny (model prog w) A (getItem o i) Q E s₂) E s₁) E s):
  wpAny (model prog w) A (eval (.Subscript value z pos) env) Q E s:=by
 refine Subscript_<|Y6 h (λo s₁ h₁=>Y6 h₁ (λi s₂ G=>?_) λ_ _ x=>x) λ_ _ x=>x;let{U,G}:=G;unfold subscriptTail;refine WO ?_;rw[getitemInPython_of_ne U.not_modules];refine WO<|wpAny_specialOf U hl ?_;have fin:wpAny (model prog w) A (subscripted z false o i) (λr I=>wpAny (model prog w) A (letTemporaryGo value o r>>=λ_=>pure r) Q E I) E s₂:=by
  rw[hs o i];exact wpAny_operating (Y6 G (λr I O=>WO<|wpAny_letTemporaryGo<|WV O) λ_ _ x=>x)
 first
  |exact WV<|WO fin
  |exact WO<|WV (WO fin)
  |exact WO fin
def Dl(I:Inv X B W H s)(g:Qh H a y o):s.TypeIs (.ref a) "dict":=by
 rcases g with⟨kvs,k,e,_,_⟩|⟨kvs,k,b,e,_,_,_⟩
 .let{_,_,vs,_,dd}:=yr I.hok e;exact dd.typeIs
 .let{_,_,xs,_,dd}:=Dh I.hok e;exact dd.typeIs
inductive Nc(Q:VK)(x y:V)(H2:Hp):Prop
 |mk(a v:_)(_:x= .ref a)(_:Qh H2 a y (some v))(_:Q v H2)
def OI(td ty:TE):TE:=λW H Q=>td W H λx H1=>ty W H1 λy H2=>Nc Q x y H2
inductive OH(Q:VK)(y x:V)(H2:Hp):Prop
 |mk(a o:_)(_:x= .ref a)(_:Qh H2 a y o)(_:Q (.bl o.isSome) H2)
def tDIn(ty td:TE):TE:=λW H Q=>ty W H λy H1=>td W H1 λx H2=>OH Q y x H2
def KR(ty td:TE):TE:=λW H Q=>ty W H λy H1=>td W H1 λx H2=>∃a o,x= .ref a/\Qh H2 a y o/\Q (.bl<|!o.isSome) H2
inductive Nl(D:nZ)(W:St)(v x y:V)(H3:Hp):Prop
 |mk(a H4:_)(_:x= .ref a)(_:Qs H3 a y v H4)(_:D.nx W H4)
def OO(td ty tv:TE):TS:=λD W H=>tv W H λv H1=>td W H1 λx H2=>ty W H2 λy H3=>Nl D W v x y H3
section
variable{o i value:Expr}{pos' tpos:Pos}{td ty tv:TE}
def BB(hu:X.A.units+1<cLine)(U:PE X o td)(hi:PE X i ty)(hs:NoSl i):PE X (.Subscript o i pos) (OI td ty):=by
 intro B s W H Q I h;refine KU PySem.F.slot_dict_getitem.lookup hs<|PK (U B s W H _ I h) λu s1 zz=>?_;let{x,H1,Y,Z,q1}:=zz;refine PK (hi B s1 W H1 _ Y q1) λiv s2 z=>?_;let{y,H2,O,ry,a,v,ex,g,q2}:=z;subst ex;obtain rfl:u=Value.ref a:=Z;exact{Dl O g,GU hu O g ry λw' s3 I3 G=>⟨v,H2,I3,G,q2⟩}
def Em(hu:X.A.units+1<cLine)(hi:PE X i ty)(G:PE X o td):PC X .In i o (tDIn ty td):=by
 intro B s W H Q I h;refine PK (hi B s W H _ I h) λiv s1 zz=>?_;let{y,H1,O,U,Y}:=zz;refine PK (G B s1 W H1 _ O Y) λu s2 z=>?_;let{x,H2,Z,rx,a,ov,ex,g,q2}:=z;subst ex;obtain rfl:u=Value.ref a:=rx;exact d_in hu Z g U λs3 I3=>{.bl ov.isSome,H2,I3,M,q2}
def Ai(hu:X.A.units+1<cLine)(hi:PE X i ty)(G:PE X o td):PC X .NotIn i o (KR ty td):=by
 intro B s W H Q I h;refine PK (hi B s W H _ I h) λiv s1 zz=>?_;let{y,H1,O,U,Y}:=zz;refine PK (G B s1 W H1 _ O Y) λu s2 z=>?_;let{x,H2,Z,rx,a,ov,ex,g,q2}:=z;subst ex;obtain rfl:u=Value.ref a:=rx;exact LO hu Z g U λs3 I3=>{.bl<|!ov.isSome,H2,I3,M,q2}
def jK(hu:X.A.units+1<cLine)(G:PE X o td)(hi:PE X i ty)(O:PE X value tv)(hs:swapsWith value (some<|.Subscript o i pos') pos.line X.env=pure false):
  PS X (.Assign [.Subscript o i pos'] value pos) (OO td ty tv):=by
 intro B s W H D I h;refine wpAny_Assign_Subscript (PK (O B s W H _ I h) λr s1 zz=>?_) hs;let{v,H1,U,rv,Y}:=zz;refine PK (G B s1 W H1 _ U Y) λu Z zz=>?_;let{x,H2,I2,rx,q2}:=zz;refine PK (hi B Z W H2 _ I2 q2) λiv s3 z=>?_;let{y,H3,I3,ry,a,H4,ex,g,q3}:=z;subst ex;obtain rfl:u=Value.ref a:=rx;exact GT hu I3 g ry rv λs4 I4=>⟨W,H4,I4,q3⟩
end
def yt(h:Heap)(hb:sysModules<h.objs.size):PJ P w H (h.push {cls:= .type "dict",data:= .dict #[]}) h.objs.size (.dK []):=
 {Za _,WZ.mpr<|Ne.symm<|ZG hb,[],.nil,Heap.DictOf.new h}
def Nb:TE:=λ_ H Q=>∀p,H p=none->Q (.ref p) (upd H p<|.dK [])
def eO:PE X (.Dict [] [] pos) Nb:=λB s W H Q I h=>
 wpAny_Dict_empty {.ref s.heap.objs.size,_,I.laid (a:=s.heap.objs.size) (o:= .dK []) (t':=s.toks) (λ_ _ q=>WK _ q) (Q5 _)<|yt s.heap I.big,M,h _<|I.hok.fresh (Q5 _)}
end L2
namespace Att
open PySem PySem.W PySem.Calls PyProof.Rows
variable{h:Heap}{n:Nat}{l:OpenLaw}{P:Params}{YP:World->Heap->Prop}
def wt:∀(ns:O')(vs:Sa),WellAll P h vs (ns.map WData.int)->IntsAre vs ns:=by
 intro ns
 induction ns with
 |nil=>
  intro vs w;rw[List.map_nil]at w;cases w;exact .nil
 |cons n ns z=>
  intro vs w;rw[Zk]at w;cases w with
  |cons a b=>
   cases a;exact .cons _ _<|z _ b
def Gd(hn:l.most=some n){args:List WData}{z:Sa}
  (G:l.row.toRowW.claim.pre args=true) (Z:WellAll P h z args):
  ∃a vs ns,z=[Value.ref a]/\args=[WData.list (ns.map WData.int)]/\h.get? a=some {cls:= .type gs,data:= .seq vs.toArray}/\IntsAre vs ns/\ns.length<=n:=by
 have a0:WShape.hasAll [] args [.list .int]=true:=(pre_splitW G).1;have hc:l.pre.holds [] {args:=args}=true:=(pre_splitW G).2;let{d,r,rfl,h1,h2}:=hasAllW_cons a0;obtain rfl:=hasAllW_nil h2;let{xs,rfl,h3}:=hasW_list h1;let{ns,rfl}:=items_int h3;have I:ns.length<=n:=by
  unfold OpenLaw.pre at hc;have U:(WTm.not<|.lt (.lit<|.int (n:Int))<|.len<|.arg 0).holds [] {args:=[.list (ns.map .int)]}=true:=by
   have U:=(holds_andW hc).1;rw[hn]at U;exact U
  have Y:=condW_of U (w_not<|w_lt w_lit<|w_len_list<|w_arg M);rw[Q1]at Y;refine Nat.le_of_not_lt λq=>?_;have q':(n:Int)<((ns.length:Nat):Int):=()
  first
   |(rw[WR q']at Y;exact WN Y (_))
   |(simp at Y;lia)
 cases Z with
 |cons w1 w2=>
  cases w2;cases w1 with
  |list ho O=>exact{_,_,ns,M,M,ho,wt ns _ O,I}
def Gj(l:OpenLaw)(args:List WData):l.row.toRowW.claim.post args (.bool true) args=true:=
 postW_of (r:=l.row.toRowW) (X:=(true==true))
  (show WShape.has [] (.bool true) .bool=true by first|rfl|decide|simp[WShape.has,WShape.arms,WShape.armsAll])
  (show(WTm.eq .res<|.lit<|.bool true).value [] {args:=args,res:=some (.bool true),after:=args}=some (.bool<|true==true) from w_eq_bool (w_res M) w_lit) M
def attach_call{q:Se}{loose:Sh}{XP:(Str->Option Value)->Heap->Prop}{d:DefRec}
  (hn:l.most=some n) (a1:d.params.defaults=[])
  (call:∀(w:Sf)(s₀ s₁:J')(mg mb:Sl)(O:G')(o:Obj)(pm cd z:P5)(a:G')(vs:Sa)(ns:O'),
   Ground q loose [] XP w s₀ mg mb s₁.heap->YP w s₁.heap->
   s₁.heap.get? O=some o->o.data= .func (docDef d.name d.params d.body d.scope pm cd z)->s₁.heap.CodeRec cd d.name->mg d.name=some (.ref O)->
   s₁.heap.get? a=some {cls:= .type gs,data:= .seq vs.toArray}->IntsAre vs ns->ns.length<=n->s₁.gens= #[]->
   codeAny (model l.prog w) callerA (.call (.ref O) {[.ref a],[]}) (λr s'=>r= .ok (.ret<|.bool true)/\OldK s₁.heap s'.heap/\s'.os=s₁.os/\AllBare s'.gens) s₁):
  WalkO q loose XP YP l.row.toRowW d [] (λf vs=>PySem.call f vs):=by
 intro w s₀ s₁ mg mb G Y O o pm cd z dV kV ho hd a2 hD a3 hg args a5 as U a9 aa a4 ah;obtain rfl:dV= .none:=Dflts.none hD a1;obtain rfl:kV= .none:=Dflts.noKw hD;let{a,vs,ns,rfl,rfl,Z,I,a0}:=Gd hn U a4;refine enter_call<|codeAny_mono (call w s₀ s₁ mg mb O o pm cd z a vs ns G Y ho (fd_plain hd) a2 a3 Z I a0 hg) λr s' hq=>?_;let{rfl,h2,h3,h4}:=hq;exact{.inl {.bool true,.bool true,[],M,λ_=>M,.bool true,Gj l _,λ_=>{Y4,λ_ hm=>(nomatch hm)}},h2,h3,h4}
end Att
namespace L2
open PySem PySem.Spec PyProof.Rows
variable{a f:G'}{X:Cx}{fd:Ss}{base:Heap}{H:Hp}{ns:O'}{N:Sh}{vs:Sa}{n:Nat}{P:Se}{A JZ c:Prop}{K:FA}{sp:Sp}{W:St}{st:Stmt}{qual x:Str}{nx:SZ}{g:TG}{tb:TS}{Φ:TS->Prop}{F:TS->TS->TS}{rt:VK}{w:Sf}{YP:World->Heap->Prop}
def FT(h:IntsAre vs ns):P0 (ns.map V.int) vs:=by
 induction h with
 |nil=>exact .nil
 |cons n t h z=>exact .cons ⟨t,M⟩ z
def Ol(H:Hp):Prop:=∀b,H b=none\/∃o xs,H b=some (.frz o<|.lst xs)
def Ja{mg mb:Sl}{CX:CXT}{k:Nat}{fa:G'}{s₁:J'} 
  (KX:K.In s₁.heap) (Y:s₁.heap.Ns mainGlobals mg) (hb:s₁.heap.Ns builtinsNs mb) (a3:∀x:Str,x≠"__name__"->mb x=bootBuiltins x) (Z:s₁.heap.NoLimit) (hg:s₁.gens= #[])
  (ha:s₁.heap.get? a=some {cls:= .type gs,data:= .seq vs.toArray}) (hi:IntsAre vs ns) (hl:ns.length<=sizeLine) (hr:PZ k callerA)
  (F:∀base:Heap,K.In base->base.Ns mainGlobals mg->Ck P w K mg base CX k fa fd [x] sp) (U:∀(s:J')(u:P5),BindsTo s fd {[u],[]} [(x,u)])
  (a4:∀H:Hp,Ol H->Kv K H a (ns.map V.int)->sp [.ref a] H (λv _=>v= .bl true) λ_ _ _=>False)
  (a5:∀H e s',CX [] H s₁ (λ_ _ _=>False) e s'->False):
  codeAny (model P w) callerA (.call (.ref fa) {[.ref a],[]}) (λr s'=>r= .ok (.ret<|.bool true)/\OldK s₁.heap s'.heap/\s'.os=s₁.os/\AllBare s'.gens) s₁:=by
 have rv:=FT hi;have a0:=hi.length;have O:∀H:Hp,Ol H->Kv K H a (ns.map V.int)->QU P w H s₁.heap->(∀b,H b≠none->b=a)->(H a≠none->K.lookup a=none)->
   codeAny (model P w) callerA (.call (.ref fa) {[.ref a],[]}) (λr s'=>r= .ok (.ret<|.bool true)/\OldK s₁.heap s'.heap/\s'.os=s₁.os/\AllBare s'.gens) s₁:=by
  intro H hO hS hok hA hK;have G:∀{b:G'}{o:Obj},s₁.heap.get? b=some o->H b=none->(BO s₁.heap H).get? b=some o:=λe n=>Jl e n;have a9:∀{b:G'}{o:Obj}{es:Array DictEntry}{ep:Nat},s₁.heap.get? b=some o->o.data= .dict es ep->H b=none:=λ{b o es ep} e d=>by
   cases q:H b with
   |none=>rfl
   |some u=>
    have e':b=a:=hA b (by rw[q];simp);subst e';rw[ha]at e;cases e;have d':Data.seq vs.toArray _=Data.dict es ep:=d;cases d'
  have I:∀{b:G'}{m:Sl},s₁.heap.Ns b m->(BO s₁.heap H).Ns b m:=λ{b m} ⟨o,es,ep,e,d,r⟩=>{o,es,ep,G e<|a9 e d,d,r};have a1:K.In (BO s₁.heap H):=λb o e=>G (KX b o e) (by
   cases q:H b with
   |none=>rfl
   |some u=>
    have e':b=a:=hA b (by rw[q];simp);subst e';rw[hK (by rw[q];simp)]at e;cases e)
  have hM:Mod K mg (BO s₁.heap H):={a1,I Y,{mb,I hb,a3},let⟨mc,h1,h2⟩:=Z;{mc,I h1,h2}};have e0:RS P w K mg (BO s₁.heap H) callerA [] s₁ H:={M,hM,λb o e=>Ll e,ZT<|GL _ _,trivial,λb hb=>WN (show b∈([]:Si) from hb) (by simp),hok,.of_eq hg};refine codeAny_mono ((F _ a1<|I Y).run callerA [] s₁ H {[.ref a],[]} [.ref a] [.ref a] _ _ hr e0 (U s₁<|.ref a) (.cons M .nil)<|a4 H hO hS) λr s' h=>?_;cases r with
  |error e=>exact(a5 H e s' h).elim
  |ok fl=>
   cases fl with
   |next=>exact False.elim h
   |brk=>exact False.elim h
   |cont=>exact False.elim h
   |ret u=>
    let{v,H',os,bare,un,a2,r',q}:=h;have q':v= .bl true:=q;subst q';obtain rfl:u=Value.bool true:=r';refine{M,OldK.of_keep λb o e=>?_,os,bare};cases q:H b with
    |none=>exact un.keep b o e q (by intro z;exact WN (show b∈([]:Si) from z)<|by simp)<|by simp
    |some u=>
     rcases hO b with z|⟨ob,xs,z⟩
     .rw[q]at z;cases z
     .have z2:=un.frzs b ob _ z;let{e1,_}:=hok b _ z;let{e2,_}:=a2 b _ z2;rw[e]at e1;cases e1;exact e2
 cases hk:K.lookup a with
 |some o=>
  have e:=KX a o hk;rw[ha]at e;cases e;refine O (λ_=>none) (λ_=> .inl M) (.inr {_,vs.toArray,_,hk,M,M,M,by rwa[Z8,a0],by simpa using rv}) (λb u z=>by have z':(none:Option HO)=some u:=z;cases z') (λb z=>WN M z) λz=>WN M z
 |none=>
  refine O (λb=>if b=a then some (.frz {cls:= .type gs,data:= .seq vs.toArray} (.lst<|ns.map V.int))else none) (λb=>?_) (.inl<|.inr {{cls:= .type gs,data:= .seq vs.toArray},WJ M}) (λb u z=>?_) (λb z=>?_) λ_=>hk
  .by_cases hb:b=a
   .exact .inr {_,_,WJ hb}
   .exact .inl<|WI hb
  .by_cases hb:b=a
   .have z':=(WJ hb).symm.trans z;cases z';subst hb;exact{ha,by rwa[Q1],vs,_,rv,ha}
   .have z':=(WI hb).symm.trans z;cases z'
  .by_cases hb:b=a
   .exact hb
   .exact WN (WI hb) z
def walk_of{l:PySem.W.OpenLaw}{k:Nat}{q:Se}{loose:Sh}{XP:(Str->Option Value)->Heap->Prop}{d:DefRec}{K:Params->FA}{CX:World->CXT}{sp:World->Sp} 
  (hn:l.most=some n) (Z:n<=sizeLine) (a0:d.params.defaults=[]) (hr:PZ k callerA)
  (hY:∀(w:World)(h:Heap),YP w h->(K w.params).In h)
  (F:∀(w:Sf)(mg:Sl)(U:G')(h:Heap),(K w.params).In h->h.Ns mainGlobals mg->mg d.name=some (.ref U)->
   ∃fd:FuncData,(∀(s:J')(u:P5),BindsTo s fd {[u],[]} [(x,u)])/\
    ∀base:Heap,(K w.params).In base->base.Ns mainGlobals mg->Ck l.prog w (K w.params) mg base (CX w) k U fd [x] (sp w))
  (a1:∀(w:Sf)(H:Hp)(a:G')(ns:O'),ns.length<=n->Ol H->Kv (K w.params) H a (ns.map V.int)->sp w [.ref a] H (λv _=>v= .bl true) λ_ _ _=>False)
  (a2:∀(w:Sf)(H:Hp)(s:J')(e:P5)(s':J'),CX w [] H s (λ_ _ _=>False) e s'->False):
  PySem.W.WalkO q loose XP YP l.row.toRowW d [] (λf vs=>PySem.call f vs):=by
 refine Att.attach_call hn a0 λw s₀ s₁ mg mb U o pm cd a4 a vs ns G Y ho hd a5 a3 O I z hg=>?_;have KX:=hY w _ Y;let{fd,hb,hF}:=F w mg U _ KX G.T.g a3;exact Ja KX G.T.g G.T.b G.T.builtins G.T.nolimit hg O I (Zl z Z) hr hF hb (λH hO hS=>a1 w H a ns z hO hS) λH e s'=>a2 w H s₁ e s'
abbrev PP:CXT:=λ_ _ _ _ _ _=>False
abbrev E0:XK:=λ_ _ _=>False
def az:kX PP X E0:=λ_ _ _ _ _ _ _ h=>h.elim
structure PU(K:FA)(x qual:Str)(st:Stmt)(f:G')(fd:Ss):Prop where
 ex:∃(oc:P5)(od:Sk)(kV doc pm:P5)(an:Sk)(cdv ct:P5)(osl:Tf),
  fd=PySem.W.fnOf x qual (iK st) (dB st) (ak st) .none kV doc pm an cdv ct/\K.lookup f=some {oc,od,.func fd,osl}/\PySem.W.codeIn K cdv qual=true
 kp:PySem.W.keepIn K (.ref f)=true
section
variable{mg:Sl}
def PU.ok{ps:Sh}{k:Nat}(F:PU K x qual st f fd)(S:aq N ps (ak st))(len:∀vs H Q E,sp vs H Q E->vs.length=ps.length)
  (G:∀(z:P5)(A:Sj)(outer:Sq)(s:J')(H:Hp)(vs:P7)(Q:VK)(E:XK),PZ k (A.deeper<|envOfC qual (ak st) s.heap.objs.size f z)->sp vs H Q E->
   ∃t,Qb (vn PP P w K mg base N qual (ak st) f z A outer s H E).nox (dB st) t/\t {nx:=λ_ H'=>Q .non H',rt:=Q} (start N vs) H):Ck P w K mg base PP (k+1) f fd ps sp:=by
 let{oc,od,kV,U,pm,an,z,ct,Y,rfl,lk,I}:=F.ex;refine Fq lk I S len λA outer s H vs Q E Z O=>?_;let{t,h,q}:=G z A outer s H vs Q E Z O;exact⟨t,h.nox,q⟩
def N0{Y:P5}{od O:Sk}{I:Tf}{kV G U z ct:P5}(l:K.lookup f=some {Y,od,.func<|PySem.W.fnOf x qual (iK st) (dB st) (ak st) .none kV G U O z ct,I})
  (c:PySem.W.codeIn K z qual=true) (k:PySem.W.keepIn K (.ref f)=true):PU K x qual st f (PySem.W.fnOf x qual (iK st) (dB st) (ak st) .none kV G U O z ct):={⟨Y,od,kV,G,U,O,z,ct,I,M,l,c⟩,k}
end
def iz{A:Sj}{k:Nat}(z:PZ k A):A.units+1<cLine:=Vq (XX (by decide:1<=64) _) z.units
def cv(h:n<=1000):n<sizeLine:=Vq h (_)
def pv(i:Nat){x:Str}{pos:Pos}(hN:X.N[i]?=some x:=by rfl)(G:SM X.env.scope x:=by and_intros)(hd:(x==(hW:Str))=false:=by decide)
  (z:(x==("__classdict__":Str))=false:=by decide):PE X (.Name x pos) (M3 i):=Nv hN G hd z
def cm(h:JZ):if false=true then A else JZ:=by
 rwa[WI Z1]
def b8(h:A):if true=true then A else JZ:=by
 rwa[WJ M]
def bL[Decidable c](h1:c->A)(h2:¬c->JZ):if c then A else JZ:=by
 by_cases h:c
 .rw[WJ h];exact h1 h
 .rw[WI h];exact h2 h
def pf[Decidable c](hc:c)(h:JZ):if(!decide c)=true then A else JZ:=by
 rw[WR hc];exact cm h
def G3(H H':Hp):Prop:=∀b o,H b=some o->H' b=some o
def G3.refl(H:Hp):G3 H H:=λ_ _ h=>h
def G3.trans{H1 H2:Hp}(a:G3 H H1)(b:G3 H1 H2):G3 H H2:=λc o h=>b c o (a c o h)
def GW:iF X (.builtin "len") (λxs H Q=>∃a kvs,xs=[V.ref a]/\H a=some (.dK kvs)/\Q (.int kvs.length) H):=by
 intro B s W H xs us Q I r h;let{a,kvs,rfl,ha,q}:=h;let{u,rfl,z}:=qw r;cases z;exact Pp I (.inl ha) λt s' G=>{.int kvs.length,H,G,⟨t,M⟩,q}
section
variable{κ:Type}[DecidableEq κ]
def Hy{kvs:List (κ×V)}{k:κ}(h:aH kvs k=none):¬k∈kvs.map (·.1):=by
 intro m;let{p,z,e}:=Z5.mp m;have q:(kvs.any λkv=>decide (kv.1=k))=true:=VC.mpr {p,z,WR e};rw[dE,h]at q;exact WN q<|by simp
def wx{kvs:List (κ×V)}{k:κ}{v:V}(h:aH kvs k=some v):k∈kvs.map (·.1):=by
 have q:(kvs.any λkv=>decide (kv.1=k))=true:=by
  rw[dE,h]
  all_goals rfl
 let{p,z,e}:=VC.mp q;exact Z5.mpr {p,z,WP e}
theorem E9:∀{l:List κ}{k:κ},l.Nodup->¬k∈l->(l++ [k]).Nodup
 | [],k,_,_=>by simp
 |a::r,k,h,hk=>by
  let{h1,h2}:=ZM.mp h;show(a::(r++ [k])).Nodup;refine ZM.mpr {λm=>?_,E9 h2 λm=>hk<|Zb.mpr (Or.inr m)};rcases Q6.mp m with q|q
  .exact h1 q
  .exact hk<|Zb.mpr (Or.inl (Q9.mp q).symm)
def Ln{kvs:List (κ×V)}{k:κ}(v:V)(z:(kvs.map (·.1)).Nodup)(h:aH kvs k=none):((bu kvs k v).map (·.1)).Nodup:=by
 rw[tm v h,Z6];exact E9 z<|Hy h
def vf{p:κ×V}{r:List (κ×V)}{k:κ}(e:p.1=k):bQ (p::r) k=bQ r k:=by
 unfold bQ;rw[Vf,WI (by simp[e])]
def qf{p:κ×V}{r:List (κ×V)}{k:κ}(e:¬p.1=k):bQ (p::r) k=p::bQ r k:=by
 unfold bQ;rw[Vf,WJ (by simp[e])]
theorem Dj:∀{kvs:List (κ×V)}{k:κ},¬k∈kvs.map (·.1)->bQ kvs k=kvs
 | [],_,_=>rfl
 |p::r,k,h=>by
  have h':¬k∈r.map (·.1):=λm=>by
   let{q,hq,e}:=Z5.mp m;exact h<|Z5.mpr {q,Zb.mpr<|Or.inr hq,e}
  rw[qf λe=>h (Z5.mpr {p,Zb.mpr<|Or.inl M,e}),Dj h']
def AI{kvs:List (κ×V)}{k:κ}{p:κ×V}(h:p∈bQ kvs k):p∈kvs:=(Zj.mp h).1
theorem tI:∀{kvs:List (κ×V)}{k:κ},(kvs.map (·.1)).Nodup->((bQ kvs k).map (·.1)).Nodup
 | [],_,_=>ZY
 |p::r,k,h=>by
  have h:(p.1::r.map (·.1)).Nodup:=h;let{h1,h2}:=ZM.mp h;by_cases e:p.1=k
  .rw[vf e];exact tI h2
  .rw[qf e];show(p.1::(bQ r k).map (·.1)).Nodup;refine ZM.mpr {λm=>h1 ?_,tI h2};let{q,hq,z}:=Z5.mp m;exact Z5.mpr {q,AI hq,z}
theorem AJ:∀{kvs:List (κ×V)}{k:κ},(kvs.map (·.1)).Nodup->k∈kvs.map (·.1)->(bQ kvs k).length+1=kvs.length
 | [],_,_,m=>by simp at m
 |p::r,k,h,m=>by
  have h:(p.1::r.map (·.1)).Nodup:=h;have m:k=p.1\/k∈r.map (·.1):=Zb.mp m;let{h1,h2}:=ZM.mp h;by_cases e:p.1=k
  .subst e;rw[vf M,Dj h1]
   all_goals rfl
  .have m':k∈r.map (·.1):=m.resolve_left λz=>e z.symm;have q:=AJ h2 m';rw[qf e,Zh,Zh];lia
end
def bi:bootBuiltins "len"=some (.builtin "len"):=by decide+kernel
def cG:bootBuiltins "isinstance"=some (.builtin "isinstance"):=by decide+kernel
def sw:bootBuiltins "min"=some (.builtin "min"):=by decide+kernel
def GX:bootBuiltins "sorted"=some (.builtin "sorted"):=by decide+kernel
def JO:bootBuiltins "int"=some (.type "int"):=by decide+kernel
def FC:bootBuiltins "bool"=some (.type "bool"):=by decide+kernel
def BX:bootBuiltins "max"=some (.builtin "max"):=by decide+kernel
def BY:bootBuiltins gs=some (.type gs):=by decide+kernel
def wF:bootBuiltins "dict"=some (.type "dict"):=by decide+kernel
def Je:PySem.W.kitOne K (.type "int") (.type "int")=some true:=by kernel_rfl
def Jf:PySem.W.kitOne K (.type "int") (.type "bool")=some false:=by kernel_rfl
def NL:PySem.W.kitOne K (.type "bool") (.type "int")=some true:=by kernel_rfl
def NM:PySem.W.kitOne K (.type "bool") (.type "bool")=some true:=by kernel_rfl
def NK:PySem.W.kitOne K (.type "NoneType") (.type "int")=some false:=by kernel_rfl
def NJ:PySem.W.kitOne K (.type "str") (.type "int")=some false:=by kernel_rfl
def nY[Decidable c](hc:c)(h:A):if decide c=true then A else JZ:=by
 rw[WR hc];exact b8 h
def a6[Decidable c](hc:¬c)(h:JZ):if decide c=true then A else JZ:=by
 rw[WU hc];exact cm h
def vd[Decidable c](hc:¬c)(h:A):if(!decide c)=true then A else JZ:=by
 rw[WU hc];exact b8 h
def iR{xs:P7}(Pv:Ta)(I:Pv 0 W H)(hl:∀i W H,i<=xs.length->Pv i W H->Kv K H a xs)
  (hs:∀i x W H,xs[i]?=some x->Pv i W H->g x W H λz H2=>tb {Pv<|i+1,rt,nx,Pv<|i+1} z H2) (hd:∀W H,Pv xs.length W H->nx W H):
  ∃Dr:Nat->Nat->St->Hp->Prop,(∃m,Dr 0 m W H)/\∀i m W H,Dr i m W H->
   ((RV K a).stop i H/\nx W H)\/((RV K a).go i H/\∃N:St->Hp->Prop,(∀G H',N G H'->∃m',m'<m/\Dr (i+1) m' G H')/\∀x H',(RV K a).yld i H x H'->g x W H' λz H2=>tb ⟨N,rt,nx,N⟩ z H2):=
 Ju (D:={nx,rt,λ_ _=>False,λ_ _=>False}) Pv I hl hs hd
def rZ{lo:Int}(Pv:Ta)(I:Pv 0 W H)
  (hs:∀i W H,i<n->Pv i W H->g (.int<|lo+i) W H λz H2=>tb {Pv<|i+1,rt,nx,Pv<|i+1} z H2) (hd:∀W H,Pv n W H->nx W H):
  ∃Dr:Nat->Nat->St->Hp->Prop,(∃m,Dr 0 m W H)/\∀i m W H,Dr i m W H->
   ((Rc lo n).stop i H/\nx W H)\/((Rc lo n).go i H/\∃N:St->Hp->Prop,(∀G H',N G H'->∃m',m'<m/\Dr (i+1) m' G H')/\∀x H',(Rc lo n).yld i H x H'->g x W H' λz H2=>tb ⟨N,rt,nx,N⟩ z H2):=
 AD (D:={nx,rt,λ_ _=>False,λ_ _=>False}) Pv I hs hd
def ua{k:Int}(G:0<=k)(h:k<(ns.length:Int)):RM (ns.map V.int) k=some (.int<|ns.getD k.toNat 0):=by
 let{j,rfl}:=X9 G;refine qj ?_;have z:j<ns.length:=();rw[Zf,Q4 z,Zx,Ze,Q4 z];rfl
def JM{k:Int}(h:¬k<(ns.length:Int)):ns.getD k.toNat 0=0:=by
 rw[Ze,XS ()];rfl
def jR:iF X (.builtin "isinstance") (λxs H Q=>∃x n t b,xs=[x,.ty n]/\QG X.K H x t/\PySem.W.kitOne X.K t (.type n)=some b/\Q (.bl b) H):=by
 intro B s W H xs us Q I r h;let{x,n,t,b,rfl,ty,e,q}:=h;let{u,w',rfl,G,z}:=vq r;cases (show w'=Value.type n from z);exact AA I G ty e λtk=>{.bl b,H,I.tok _,M,q}
def Ak:Qm X (compareOp .IsNot) (λx y H Q=>∃a b,x= .bl a/\y= .bl b/\Q (.bl<|a !=b) H):=by
 intro B s W H x y v u Q I z G h;let{a,b,rfl,rfl,q}:=h;cases z;cases G;exact isnot_bool<|bB I q M
def PV{P:Sh}{sc:Scope}(a:sc.kind= .function:=by rfl)(b:sc.isCoroutine=false:=by rfl)(c:sc.isGenerator=false:=by rfl)(d:N.Nodup:=by decide+kernel)(e:N.take P.length=P:=by rfl)(f:∀x∈P,sc.names.lookup x=some .local\/sc.names.lookup x=some .cell:=by decide+kernel)(g:∀y∈sc.names,y.2≠ .free:=by decide+kernel):aq N P sc:=⟨a,b,c,d,e,f,g⟩
def PZ.mo{j k:Nat}{A:Sj}(r:PZ k A)(h:j<=k:=by decide):PZ j A:=r.mono h
def PU.okl{mg:Sl}{ps:Sh}{k:Nat}(F:PU K x qual st f fd)(S:aq N ps (ak st))
  (G:∀{z:P5}{A:Sj}{outer:Sq}(s:J')(H:Hp)(vs:P7)(Q:VK)(E:XK),PZ k (A.deeper<|envOfC qual (ak st) s.heap.objs.size f z)->sp vs H Q E->
   N.Nodup->let X:=(vn PP P w K mg base N qual (ak st) f z A outer s H E).nox
   ∃t,Qb X (dB st) t/\t {nx:=λ_ H'=>Q .non H',rt:=Q} (start N vs) H)
  (len:∀vs H Q E,sp vs H Q E->vs.length=ps.length:=by intro _ _ _ _ h;repeat (first|(let{rfl,_}:=h;exact M)|let{_,h}:=h)):Ck P w K mg base PP (k+1) f fd ps sp:=F.ok S len λz A outer s H vs Q E I h=>G s H vs Q E I h S.nd
section
variable{pos:Pos}
abbrev Ca{X:Cx}:= @pv X 0
abbrev M2{X:Cx}:= @pv X 1
abbrev P8{X:Cx}:= @pv X 2
abbrev PR{X:Cx}:= @pv X 3
abbrev QI{X:Cx}:= @pv X 4
abbrev RC{X:Cx}:= @pv X 5
abbrev RO{X:Cx}:= @pv X 6
abbrev Rp{X:Cx}:= @pv X 7
abbrev SV{X:Cx}:= @pv X 8
abbrev pv9{X:Cx}:= @pv X 9
def RB(i:Nat)(hN:X.N.Nodup:=by assumption)(hi:X.N[i]?=some x:=by rfl)(hx:Loc X.env.scope x:=by exact Or.inl M)(hf:X.fn x=true\/X.env.scope.names.lookup x=some .local:=by ac_rfl):PG X (.Name x pos) (dA i):=E4 hN hi hx hf
def PN(i:Nat){e:Expr}{te:TE}{pos':Pos}(he:PE X e te)(hN:X.N.Nodup:=by assumption)(hi:X.N[i]?=some x:=by rfl)(hx:Loc X.env.scope x:=by exact Or.inl M)(hs:swapsWith e (some<|.Name x pos') pos.line X.env=pure false:=by rfl)(hf:X.fn x=true\/X.env.scope.names.lookup x=some .local:=by ac_rfl):PS X (.Assign [.Name x pos'] e pos) (HM te<|dA i):=oK hN hi hx he hs hf
end
section
variable{rest A JZ:List Stmt}{t:TS}
def aB(h:PS X st t)(k:Φ t):∃v,Qb X [st] v/\Φ v:={_,aA h,k}
def aj(h:PS X st t)(k:∃u,Qb X rest u/\(let JZ:=u;Φ (Bd t JZ))):∃v,Qb X (st::rest) v/\Φ v:=by
 let{u,hu,k}:=k;exact{_,oH h hu,k}
def lu{F:TS->TS}(z:∀{x},Qb X A x->PS X st (F x))(k:∃a,Qb X A a/\(let b:=a;Φ (F b))):∃v,Qb X [st] v/\Φ v:=by
 let{a,ha,k}:=k;exact{_,aA<|z ha,k}
def bU{F:TS->TS}(z:∀{x},Qb X A x->PS X st (F x))(k:∃a,Qb X A a/\(let b:=a;∃u,Qb X rest u/\(let JZ:=u;Φ (Bd (F b) JZ)))):∃v,Qb X (st::rest) v/\Φ v:=by
 let{a,ha,u,hu,k}:=k;exact{_,oH (z ha) hu,k}
def E8(z:∀{x y},Qb X A x->Qb X JZ y->PS X st (F x y))(k:∃a,Qb X A a/\(let b:=a;∃c,Qb X JZ c/\(let d:=c;Φ (F b d)))):∃v,Qb X [st] v/\Φ v:=by
 let{a,ha,c,hc,k}:=k;exact{_,aA<|z ha hc,k}
def Iu(z:∀{x y},Qb X A x->Qb X JZ y->PS X st (F x y))(k:∃a,Qb X A a/\(let b:=a;∃c,Qb X JZ c/\(let d:=c;∃u,Qb X rest u/\(let JZ:=u;Φ (Bd (F b d) JZ))))):∃v,Qb X (st::rest) v/\Φ v:=by
 let{a,ha,c,hc,u,hu,k}:=k;exact{_,oH (z ha hc) hu,k}
end
end L2
namespace SW
variable{m n:Int}{a b:Nat}
noncomputable def rv:Nat->Nat->Nat
 |0,_=>0
 |k+1,n=>(n%2)*2^k+rv k (n/2)
theorem EY:∀(k n:Nat),rv k n<2^k
 |0,_=>by simp[rv]
 |k+1,n=>by
  have h:=EY k (n/2);have m:n%2<2:=Nat.mod_lt _ (_);have e:rv (k+1) n=(n%2)*2^k+rv k (n/2):=M;have p:2^(k+1)=2*2^k:=by rw[V6,V7]
  rw[e,p];rcases Nat.mod_two_eq_zero_or_one n with z|z<;>rw[z]<;>lia
theorem Bv:∀(k n:Nat),rv (k+1) n=rv k n*2+(n/2^k)%2
 |0,n=>by simp[rv]
 |k+1,n=>by
  have h:=Bv k (n/2);have z:rv (k+2) n=(n%2)*2^(k+1)+rv (k+1) (n/2):=M;have e2:rv (k+1) n=(n%2)*2^k+rv k (n/2):=M;have d:n/2/2^k=n/2^(k+1):=by
   rw[VG,V6,V7]
  rw[z,e2,h,d,V6];rw[Wt,Nat.mul_assoc];lia
theorem Eh:∀(k n:Nat),rv k (n%2^k)=rv k n
 |0,_=>rfl
 |k+1,n=>by
  have p:2^(k+1)=2*2^k:=by rw[V6,V7]
  have z:n%2^(k+1)%2=n%2:=by
   rw[p];exact Nat.mod_mul_right_mod n 2<|2^k
  have e2:n%2^(k+1)/2=n/2%2^k:=by
   rw[p];exact Nat.mod_mul_right_div_self n 2 (2^k)
  show(n%2^(k+1)%2)*2^k+rv k (n%2^(k+1)/2)=(n%2)*2^k+rv k (n/2);rw[z,e2,Eh k (n/2)]
theorem EX:∀k,rv k 0=0
 |0=>rfl
 |k+1=>by show(0%2)*2^k+rv k (0/2)=0;rw[Nat.zero_div,EX k];simp
theorem sY:∀(a b n:Nat),rv (a+b) n=rv a n*2^b+rv b (n/2^a)
 |0,b,n=>by simp[rv]
 |a+1,b,n=>by
  have h:=sY a b (n/2);have e:a+1+b=(a+b)+1:=();have d:n/2/2^a=n/2^(a+1):=by
   rw[VG,V6,V7]
  rw[e];show(n%2)*2^(a+b)+rv (a+b) (n/2)=((n%2)*2^a+rv a (n/2))*2^b+_;rw[h,d,Wt,Nat.mul_assoc,<-Nat.pow_add];lia
theorem HY:∀(k n:Nat),rv k (rv k n)=n%2^k
 |0,n=>by simp[rv,Nat.mod_one]
 |k+1,n=>by
  have e:rv (k+1) n=rv k n*2+(n/2^k)%2:=Bv k n;have z:(rv k n*2+(n/2^k)%2)%2=(n/2^k)%2:=();have e2:(rv k n*2+(n/2^k)%2)/2=rv k n:=();rw[e];show(rv k n*2+(n/2^k)%2)%2*2^k+rv k ((rv k n*2+(n/2^k)%2)/2)=n%2^(k+1);rw[z,e2,HY k n,V6,Nat.mod_mul,V7 (2^k)];lia
def Nm{n:Nat}:rv (a+b) n/2^b=rv a n:=by
 have l:=EY b (n/2^a);rw[sY a b n,V7,Nat.mul_add_div (Nat.two_pow_pos b),Nat.div_eq_of_lt l,V8]
def KZ{s:Nat}(h:s<2^a):rv (a+b) s=rv a s*2^b:=by
 rw[sY a b s,Nat.div_eq_of_lt h,EX,V8]
@[irreducible] def tz(n:Int):Int:=((rv 16 n.toNat:Nat):Int)
@[irreducible] def rz(a:Nat)(n:Int):Int:=((rv a n.toNat:Nat):Int)
def uB(n:Int):0<=tz n:=by unfold tz;exact Wa _
def Mh(n:Int):tz n<65536:=by
 have h:=EY 16 n.toNat;have e:(2:Nat)^16=65536:=by decide
 unfold tz;lia
def ET(z:0<=n)(h1:n<65536):tz (tz n)=n:=by
 have h:=HY 16 n.toNat;have e:(2:Nat)^16=65536:=by decide
 unfold tz;rw[Zx,h,e];lia
def MW(z:0<=n)(h1:n<65536)(k0:0<=m)(k1:m<65536)(e:tz n=tz m):n=m:=by
 rw[<-ET z h1,<-ET k0 k1,e]
def FV(i:Nat)(m:Nat):((rv i m:Nat):Int)*2+((m/2^i:Nat):Int)%2=((rv (i+1) m:Nat):Int):=by
 rw[Bv];lia
def FW(i:Nat)(m:Nat):((m/2^i:Nat):Int)/2=((m/2^(i+1):Nat):Int):=by
 have d:m/2^i/2=m/2^(i+1):=by rw[VG,V6]
 rw[<-d];lia
def Gg(a:Nat)(n:Int):0<=rz a n:=by unfold rz;exact Wa _
def OQ(a:Nat)(n:Int):rz a n<2^a:=by
 have h:=EY a n.toNat;unfold rz;have c:((rv a n.toNat:Nat):Int)<((2^a:Nat):Int):=by exact_mod_cast h
 simpa using c
def OP(a:Nat)(G:0<=n)(h1:n<2^a):rz a (rz a n)=n:=by
 let{m,rfl}:=X9 G;have h:=HY a m;have z:m<2^a:=by exact_mod_cast h1
 unfold rz;rw[Zx,Zx,h,Nat.mod_eq_of_lt z]
def KN(z:a+b=16){s:Int}(I:0<=s)(h1:s<2^a):tz s=rz a s*2^b:=by
 let{m,rfl}:=X9 I;have G:m<2^a:=by exact_mod_cast h1
 have h:=KZ (b:=b) G;rw[z]at h;unfold tz rz;rw[Zx,h];simp
def MV(z:a+b=16)(G:0<=m):tz m/2^b=rz a (m%2^a):=by
 let{n,rfl}:=X9 G;have h:=Nm (a:=a) (b:=b) (n:=n);rw[z]at h;have e:((n:Int)%2^a).toNat=n%2^a:=by
  have c:((n:Int)%2^a)=((n%2^a:Nat):Int):=by simp
  rw[c,Zx]
 unfold tz rz;rw[Zx,e,Eh,<-h];simp
structure Row(S:Int)(a b:Nat):Prop where
 ab:a+b=16
 lo:2<=a
 hi:a<=9
 eq:S=2^a
section
variable{S:Int}(R:Row S a b)
include R
theorem Row.mul:S*2^b=65536:=by
 rw[R.eq,<-Int.pow_add,R.ab];decide
theorem Row.wpos:(0:Int)<2^b:=Int.pow_pos (_)
theorem Row.pos:0<S:=by rw[R.eq];exact Int.pow_pos (_)
theorem Row.width:65536/S=2^b:=by
 rw[<-R.mul,Int.mul_ediv_cancel_left _ (ZU R.pos)]
theorem Row.wpos':0<65536/S:=by rw[R.width];exact R.wpos
theorem Row.slot{s:Int}(G:0<=s)(h1:s<S):tz s=2^b*rz a s/\0<=rz a s/\rz a s<S/\rz a (rz a s)=s:=by
 have z:s<2^a:=by rwa[<-R.eq]
 refine{by rw[KN R.ab G z,We],Gg _ _,by rw[R.eq];exact OQ _ _,OP _ G z}
theorem Row.top(z:0<=m):2^b*rz a (m%S)<=tz m/\tz m<2^b*rz a (m%S)+2^b:=by
 have d:=MV R.ab z;rw[<-R.eq]at d;have e:=VO (tz m) (2^b);have p:=Z2 (tz m) (ZU R.wpos);have q:=Z0 (tz m) R.wpos;rw[d]at e;lia
theorem Row.mod0(m:Int):0<=m%S:=Z2 _ (ZU R.pos)
theorem Row.mod1(m:Int):m%S<S:=Z0 _ R.pos
theorem Row.between{Dr x y p:Int}(z:0<Dr)(G:Dr*x<=p)(h1:p<Dr*x+Dr)(k0:Dr*y<=p)(k1:p<Dr*y+Dr):x=y:=by
 rcases Int.lt_trichotomy x y with h|h|h
 .have:Dr*(x+1)<=Dr*y:=Wu () (VH z);rw[Int.mul_add]at this;lia
 .exact h
 .have:Dr*(y+1)<=Dr*x:=Wu () (VH z);rw[Int.mul_add]at this;lia
theorem Row.st_has(z:0<=m):tz (m%S)<=tz m/\tz m<tz (m%S)+65536/S:=by
 let{e,_}:=R.slot (R.mod0 m) (R.mod1 m);have t:=R.top z;rw[R.width,e];exact t
end
def rO{k:Nat}(h:k<=6):Row (4*2^k) (k+2) (14-k):=by
 refine{(),(),(),?_};rw[Int.pow_add];lia
end SW
namespace L2
open PySem PySem.Spec PyProof.Rows
abbrev _root_.K':=Addr->Prop
variable{C T f:G'}{old:K'}{A:Sj}{g:Array GenState}{vs:So}{ab:Bool}{d:Drawn}{base h:Heap}{φ:Heap->Prop}{H:Hp}{l:Si}{outer:Sq}{N sn:Sh}{bm sub us:Sa}{M':Model}{t:Nat}{dd od:Sk}{col:Option Bool}{os:OsState}{P prog:Se}{K:FA}{R:Result->Shared->Prop}{s s':J'}{qual:Str}{Q:Te}{e:P5}{E Dr:Sg}{w:Sf}
abbrev br(C:G')(od:Sk)(vs:So):Obj:={cls:= .ref C,dict:=od,data:= .fields vs}
def RP(h:Heap)(e:G')(vs:So)(T:G')(fl:P5):Prop:=
 vs[1]?=some (.ref T)/\T≠e/\∃oT ts,h.get? T=some oT/\oT.data= .fields ts/\ts[3]?=some fl
structure QP(l:Si)(e:G')(old:K')(h h':Heap):Prop where
 keep:∀b o,h.get? b=some o->b∉l->b≠e->¬old b->h'.get? b=some o
 slot:∀b o,h.get? b=some o->b∈l->b≠e->¬old b->∃sl,h'.get? b=some {o with slots:=sl}
 there:∀b o,h.get? b=some o->∃o',h'.get? b=some o'
section
variable{env:Env}{L e:G'}
def N4(hl:s.heap.FunFrames base (env::outer))(he:s.heap.get? e=some (br C od vs)):e∉R4 (env::outer):=λz=>by
 let{_,o,G,I}:=hl.mem z;cases he.symm.trans G;exact I vs M
def xR{G:P5}{Z:Bool}(a0:A.frames=some (env::outer))(hl:s.heap.FunFrames base (env::outer))(hf:env.frame=some L)(he:s.heap.get? e=some (br C od vs))(hsz:1<vs.size)
  (q:∀h' T I,QP (R4 (env::outer)) e (λ_=>False) s.heap h'->h'.get? e=some (br C od I)->(I.size=vs.size/\I[2]?=vs[2]?)->s.heap.objs.size<=T->RP h' e I T (rawInt L)->Q Unit.unit {s with heap:=h'}):
  wpAny M' A (do let a<-frameOf env;let pl<-entryPlaceOf L Z;let b<-EntryCells.newEntry G a .none (rawInt L) .none pl;setField (.ref e) 1 b) Q E s:=by
 have nf:e∉(env::outer).filterMap (·.frame):=N4 hl he;refine WO<|wpAny_frameOf_fun a0 hl hf λh1 O=>?_;refine WO<|wpAny_entryPlaceOf λpl ip=>?_;unfold EntryCells.newEntry newFields;refine WO<|wpAny_newObj_type ?_ (ip.sizeOk5 _ _ _ _ _);have e1:h1.get? e=some (br C od vs):=(O.2.1 e nf).trans he;have big:3<([G,Value.ref L,.none,rawInt L,.none]++(if pl.isEmpty then List.replicate 6 Value.none else pl)).toArray.size:=by
  simp only[Z8,Q8,Zh,Vn];lia
 have U:([G,Value.ref L,.none,rawInt L,.none]++(if pl.isEmpty then List.replicate 6 Value.none else pl)).toArray[3]?=some (rawInt L):=by simp
 generalize ([G,Value.ref L,.none,rawInt L,.none]++(if pl.isEmpty then List.replicate 6 Value.none else pl)).toArray=ts at big U;generalize eo:({cls:= .type "traceback",dict:=none,data:= .fields ts}:Obj)=oT;have e2:(h1.push oT).get? e=some (br C od vs):=WK _ e1;have ne:h1.objs.size≠e:=VF (WS e1);refine wpAny_setField e2 M hsz<|q _ h1.objs.size (vs.setIfInBounds 1<|.ref h1.objs.size) {λb o Y g2 g3 _=>?_,λb o Y _ g3 _=>?_,λb o Y=>?_} ?_ {Array.size_setIfInBounds,by simp} (ZT O.1.symm) {by simp[hsz],ne,oT,ts,?_,by rw[<-eo],U}
 .rw[Y0 _ _ (Ne.symm g3)];exact WK _<|(O.2.1 b g2).trans Y
 .let{sl,r}:=O.2.2 b o Y;exact{sl,(Y0 _ _<|Ne.symm g3).trans<|WK _ r}
 .by_cases z:b=e
  .subst z;exact{_,Heap.get?_update_self _ e2 M}
  .let{sl,r}:=O.2.2 b o Y;exact{_,(Y0 _ _<|Ne.symm z).trans<|WK _ r}
 .exact Heap.get?_update_self _ e2 M
 .rw[Y0 _ _ (Ne.symm ne),<-eo];exact WT h1 M
def Eo(G:A.frames=some (env::outer))(hl:s.heap.FunFrames base (env::outer))(hf:env.frame=some L)(he:s.heap.get? e=some (br C od vs))(h1:vs[1]?=some .none)
  (q:∀h' T z,QP (R4 (env::outer)) e (λ_=>False) s.heap h'->h'.get? e=some (br C od z)->(z.size=vs.size/\z[2]?=vs[2]?)->s.heap.objs.size<=T->RP h' e z T (rawInt L)->Q Unit.unit {s with heap:=h'}):
  wpAny M' A (noteFrame (.ref e) env) Q E s:=by
 unfold noteFrame;simp only[hf];refine WO<|wpAny_field he M h1 ?_;rw[WI (_)];exact xR G hl hf he (XU.mp h1).1 q
def Gr(Z:A.frames=some (env::outer))(hl:s.heap.FunFrames base (env::outer))(hf:env.frame=some L)(he:s.heap.get? e=some (br C od vs))(tr:RP s.heap e vs T .none)
  (q:∀h' T' G,QP (R4 (env::outer)) e (· =T) s.heap h'->h'.get? e=some (br C od G)->(G.size=vs.size/\G[2]?=vs[2]?)->s.heap.objs.size<=T'->RP h' e G T' (rawInt L)->Q Unit.unit {s with heap:=h'}):
  wpAny M' A (noteFrame (.ref e) env) Q E s:=by
 let{h1,ne,oT,ts,Y,hd,h3}:=tr;unfold noteFrame;simp only[hf];refine WO<|wpAny_field he M h1 ?_;rw[WJ (show(Value.ref T !=Value.none)=true by simp)];refine WO<|wpAny_field Y hd h3 ?_;rw[WI (show ¬(Value.none==rawInt L)=true by simp[rawInt])];have I:∀b,b≠T->(s.heap.update T (Obj.mapFields (·.setIfInBounds 3 Value.none))).get? b=s.heap.get? b:=λb z=>Y0 _ _ (Ne.symm z);have nofr:∀b o,s.heap.get? b=some o->(∀ws,o.data≠ .fields ws)->b≠T:=λb o O U z=>by
  subst z;cases Y.symm.trans O;exact U ts hd
 refine WO<|wpAny_setField Y hd (XU.mp h3).1 ?_;refine xR Z (hl.of_keeps λb o O U=>{o,(I b<|nofr b o O U).trans O,M}) hf ((I e<|Ne.symm ne).trans he) (XU.mp h1).1 λh' T' G n O U g3 g4=>?_;refine q h' T' G {λb o k1 k2 k3 k4=>n.keep b o ((I b k4).trans k1) k2 k3 id,λb o k1 k2 k3 k4=>n.slot b o ((I b k4).trans k1) k2 k3 id,λb o k1=>?_} O U (by rw[Heap.size_after_update]at g3;exact g3) g4;by_cases z:b=T
 .subst z;exact n.there b _<|Heap.get?_update_self _ Y (Obj.isFreed_of_fields<|Obj.data_mapFields hd _)
 .exact n.there b o<|(I b z).trans k1
def r9{l:Si}{fl:P5}(he:s.heap.get? e=some (br C od vs))(tr:RP s.heap e vs T fl)
  (q:∀h',(∀b o,b≠T->s.heap.get? b=some o->h'.get? b=some o)->h'.get? e=some (br C od vs)->(∃o,h'.get? T=some o)->h'.objs.size=s.heap.objs.size->RP h' e vs T .none->Q Unit.unit {s with heap:=h'}):
  wpAny M' A (setFlight (.ref e) none) Q E s:=by
 let{h1,ne,U,ts,I,hd,O}:=tr;have big:3<ts.size:=(XU.mp O).1;unfold setFlight;refine WO<|wpAny_field he M h1 ?_;rw[WJ (show(Value.ref T !=Value.none)=true by simp)];have G:∀b,b≠T->(s.heap.update T (Obj.mapFields (·.setIfInBounds 3 ((none:Sk).elim Value.none λf=>rawInt f)))).get? b=s.heap.get? b:=λb z=>Y0 _ _ (Ne.symm z);have new:=Heap.get?_update_self (Obj.mapFields (·.setIfInBounds 3 ((none:Sk).elim Value.none λf=>rawInt f))) I (Obj.isFreed_of_fields<|Obj.data_mapFields hd _);exact wpAny_setField I hd big<|q _ (λb o z g=>(G b z).trans g) ((G e<|Ne.symm ne).trans he) {_,new} (Heap.size_after_update ..) {h1,ne,_,_,new,Obj.data_mapFields hd _,by simp[big]}
end
def XN(e C:G')(od:Sk):HO:= .ext λh=>∃t,h.get? e=some (br C od #[.ref t,.none,.none,.none,.bool false,.none])
noncomputable def XO(e C:G')(od:Sk):HO:= .ext λh=>∃vs,h.get? e=some (br C od vs)/\1<vs.size
section
variable{h':Heap}{e:G'}
def Mg{t:G'}(k:h.get? e=some (br C od #[.ref t,.none,.none,.none,.bool false,.none])):PJ P w H h e (XN e C od):=
 {⟨t,k⟩,{_,k},λ_ _ zz st=>by let{t,k}:=zz;exact{t,st _ k}}
def Mf(k:h.get? e=some (br C od vs))(z:1<vs.size):PJ P w H h e (XO e C od):=
 {⟨vs,k,z⟩,{_,k},λ_ _ zz st=>by let{vs,k,z}:=zz;exact{vs,st _ k,z}}
def OA(ok:QU P w H h)(q:H e=some (XN e C od)):∃t,h.get? e=some (br C od #[.ref t,.none,.none,.none,.bool false,.none]):=(ok e _ q).1
def Oz(ok:QU P w H h)(q:H e=some (XO e C od)):∃vs,h.get? e=some (br C od vs)/\1<vs.size:=(ok e _ q).1
def QP.hok(n:QP l e old h h')(ok:QU P w H h)(hl:∀b∈l,H b=none)(I:∀b,old b->H b=none)(he:H e=some (.ext φ))
  (new:h'.get? e=some (br C od vs)) (z:1<vs.size):QU P w (upd H e<|XO e C od) h':=λb u q=>by
 by_cases hb:b=e
 .subst hb;rw[ag]at q;cases q;exact Mf new z
 .rw[af hb]at q;have G:∀c v,H c=some v->c≠e->∀o,h.get? c=some o->h'.get? c=some o:=λc v r ne o g=>
   n.keep c o g (λm=>by rw[hl c m]at r;cases r) ne λm=>by rw[I c m]at r;cases r
  refine(ok b u q).stay (λc v hc r=>?_) (λc r=>?_) λc xs r=>?_
  .rcases hc with rfl|hc
   .exact G _ _ q hb v r
   .exact G _ _ hc (λm=>by rw[m,he]at hc;cases hc) v r
  .rwa[af (λm=>by rw[m,he]at r;cases r)]
  .rwa[af (λm=>by rw[m,he]at r;cases r)]
def QP.un{ch:Si}{o':HO}(n:QP l e old h h')(hc:∀b,old b->b∈ch)(he:H e=some (.ext φ)):Un l ch H (upd H e o') h h':=by
 have ne:∀b,H b=none->b≠e:=λb r z=>by rw[z,he]at r;cases r
 refine{λb o g r m k=>n.keep b o g m (ne b r) λz=>k<|hc b z,λb o g r m k=>n.slot b o g m (ne b r) λz=>k<|hc b z,λb o _ r _=>by rwa[af (ne b r)],λb o g _=>n.there b o g,λb xs r=>?_,λb o u r=>?_,λb ps r=>{#[],?_}}
 .rwa[af (λm=>by rw[m,he]at r;cases r)]
 .rwa[af (λm=>by rw[m,he]at r;cases r)]
 .rw[af (λm=>by rw[m,he]at r;cases r),r];simp
end
def RX(P:Se)(w:Sf):CXT:=λouter H s E e s'=>∃(ea C:G')(od:Sk)(vs:So)(T:G')(H':Hp),
 e= .ref ea/\s'.os=s.os/\AllBare s'.gens/\Un (R4 outer) [] H H' s.heap s'.heap/\QU P w H' s'.heap/\H' ea=some (XO ea C od)/\s'.heap.get? ea=some (br C od vs)/\1<vs.size/\
 RP s'.heap ea vs T .none/\H' T=none/\s.heap.objs.size<=T/\E (.ref ea) od H'
def Hz{a:G'}{o:HO}(h:H a=some o):upd H a o=H:=by
 funext b;by_cases z:b=a
 .subst z;rw[ag,h]
 .rw[af z]
def FL(X:Cx)(E:St->XK)(e:P5)(s:J'):Prop:=∃(B:Sb)(W:St)(H:Hp)(ea C:G')(od:Sk)(vs:So)(φ:Heap->Prop),
 e= .ref ea/\Inv X B W H s/\H ea=some (.ext φ)/\s.heap.get? ea=some (br C od vs)/\1<vs.size/\(vs[1]?=some .none\/∃T,RP s.heap ea vs T .none/\pX X B H T)/\E W (.ref ea) od (upd H ea<|XO ea C od)
section
variable{X:Cx}{B:Sb}{W:St}
def En{ea:G'}(I:Inv X B W H s)(O:X.stack=X.env::X.outer)(hf:X.env.frame=some X.env.locals)(hA:A.frames=some X.stack)
  (hx:H ea=some (.ext φ)) (hr:s.heap.get? ea=some (br C od vs)) (hz:1<vs.size) (ht:vs[1]?=some .none\/(∃T,RP s.heap ea vs T .none/\pX X B H T)\/∃T,RP s.heap ea vs T (rawInt X.env.locals)/\pX X B H T)
  (q:∀s' G T,Inv X B W (upd H ea<|XO ea C od) s'->s'.heap.get? ea=some (br C od G)->1<G.size->RP s'.heap ea G T .none->pX X B (upd H ea<|XO ea C od) T->G[2]?=vs[2]?->Q Unit.unit s'):
  wpAny M' A (noteFrame (.ref ea) X.env) (λ_ s1=>wpAny M' A (setFlight (.ref ea) none) Q Dr s1) Dr s:=by
 rw[O]at hA;have hl:s.heap.FunFrames X.base (X.env::X.outer):=O▸I.stack;have U:∀b∈R4 (X.env::X.outer),H b=none:=O▸I.stkFree;have fin:∀(old:K')(ch:Si)(h1:Heap)(T':G')(G:So),(∀b,old b↔b∈ch)->(∀b∈ch,pX X B H b)->QP (R4 (X.env::X.outer)) ea old s.heap h1->h1.get? ea=some (br C od G)->(G.size=vs.size/\G[2]?=vs[2]?)->
   s.heap.objs.size<=T'->RP h1 ea G T' (rawInt X.env.locals)->wpAny M' A (setFlight (.ref ea) none) Q Dr {s with heap:=h1}:=by
  intro old ch h1 T' G a0 a1 n g1 Y Z g4;refine r9 (l:=[]) (s:={s with heap:=h1}) g1 g4 λh2 k1 k2 k3 k4 k5=>?_;have nT:∀b o,s.heap.get? b=some o->b≠T':=λb o g z=>WN (WS g) (WB.mpr<|z▸Z);have n2:QP (R4 (X.env::X.outer)) ea old s.heap h2:={λb o r1 r2 r3 r4=>k1 b o (nT b o r1)<|n.keep b o r1 r2 r3 r4,λb o r1 r2 r3 r4=>by
    let{sl,r}:=n.slot b o r1 r2 r3 r4;exact{sl,k1 b _ (nT b o r1) r},λb o r1=>by
    let{o',r}:=n.there b o r1;exact{o',k1 b _ (nT b o r1) r}}
  have a2:QU X.prog X.w (upd H ea<|XO ea C od) h2:=n2.hok I.hok U (λb z=>(a1 b<|(a0 b).mp z).1) hx k2 (Y.1▸hz);have a3:Un (R4 X.stack) ch H (upd H ea<|XO ea C od) s.heap h2:=by
   rw[O];exact n2.un (λb z=>(a0 b).mp z) hx
  have I2:Inv X B W (upd H ea<|XO ea C od) {s with heap:=h2}:=I.call' (s':={s with heap:=h2}) M a3 a2 I.bare λb hb=>by
   let{z1,z2,z3,z4,z5,z6}:=a1 b hb;exact⟨z4,z2,z5,z6⟩
  refine q _ G T' I2 k2 (Y.1▸hz) k5 (I.fpOk Z ?_) Y.2;have neT:T'≠ea:=Ne.symm (nT ea _ hr);rw[af neT];exact I.hok.fresh Z
 rcases ht with h1|⟨T,tr,fp⟩|⟨T,tr,fp⟩
 .exact Eo hA hl hf hr h1 λh1 T' G n g1 Y Z g4=>fin (λ_=>False) [] h1 T' G (λb=>by simp) (λb z=>nomatch z) n g1 Y Z g4
 .exact Gr hA hl hf hr tr λh1 T' G n g1 Y Z g4=>fin (· =T) [T] h1 T' G (λb=>by simp) (λb z=>by rwa[Q9.mp z]) n g1 Y Z g4
 .let{h1,ne,oT,ts,hT,hd,h3}:=id tr;refine wpAny_noteFrame_inFlight hf hr M h1 hT hd h3 ?_;refine r9 (l:=[]) hr tr λh' k1 k2 k3 k4 k5=>?_;have I1:Inv X B W H {s with heap:=h'}:=I.turned (t':=s.toks) (it:=T) k1 fp.1 fp.2.1 fp.2.2.2.1 fp.2.2.2.2.1 fp.2.2.2.2.2;have I2:Inv X B W (upd H ea<|XO ea C od) {s with heap:=h'}:=I1.write (x:=ea) (e:=ea) (t':=s.toks) (by rw[hx];exact Y1) (.inl M) (λ_ _ _ e=>e) {_,k2} (Mf k2 hz);exact q _ vs T I2 k2 hz k5 {by rw[af ne];exact fp.1,fp.2.1,fp.2.2.1,fp.2.2.2.1,fp.2.2.2.2.1,fp.2.2.2.2.2} M
def Ao{ea:G'}(I:Inv X B W H s)(O:X.stack=X.env::X.outer)(hf:X.env.frame=some X.env.locals)(U:A.frames=some X.stack)
  (hx:H ea=some (.ext φ)) (Y:s.heap.get? ea=some (br C od vs)) (hz:1<vs.size) (Z:vs[1]?=some .none\/∃T,RP s.heap ea vs T .none/\pX X B H T)
  (q:∀s' G T,Inv X B W (upd H ea<|XO ea C od) s'->s'.heap.get? ea=some (br C od G)->1<G.size->RP s'.heap ea G T .none->pX X B (upd H ea<|XO ea C od) T->Q Unit.unit s'):
  wpAny M' A (noteFrame (.ref ea) X.env) (λ_ s1=>wpAny M' A (setFlight (.ref ea) none) Q Dr s1) Dr s:=
 En I O hf U hx Y hz (Z.imp id .inl) λs' G T I' r z t f _=>q s' G T I' r z t f
def Inv.thrown{E:XK}(I:Inv X B W H s)(h:RX X.prog X.w X.stack H s E e s'):∃(ea C:G')(od:Sk)(vs:So)(H':Hp),e= .ref ea/\Inv X B W H' s'/\H' ea=some (XO ea C od)/\
  s'.heap.get? ea=some (br C od vs)/\1<vs.size/\(∃T,RP s'.heap ea vs T .none/\pX X B H' T)/\E (.ref ea) od H':=by
 let{ea,C,od,vs,T,H',rfl,os,bare,un,hok,hx,G,hz,tr,O,U,q}:=h;exact{ea,C,od,vs,H',M,I.call' os un hok bare λb z=>WN z (by simp),hx,G,hz,{T,tr,I.fpOk U O},q}
def Inv.flies{E:XK}{F:St->XK}(I:Inv X B W H s)(h:RX X.prog X.w X.stack H s E e s')(k:∀v od H',E v od H'->F W v od H'):FL X F e s':=by
 let{ea,C,od,vs,H',rfl,z,hx,G,hz,O,q}:=I.thrown h;exact{B,W,H',ea,C,od,vs,_,M,z,hx,G,hz,.inr O,by rw[Hz hx];exact k _ _ _ q}
end
section
variable{mg:Sl}{scope:Scope}{cd:P5}{E:XK}
def IV(h:FL (vn (RX P w) P w K mg base N qual scope f cd A outer s H E) (λ_=>E) e s'):(vn (RX P w) P w K mg base N qual scope f cd A outer s H E).xe e s':=by
 let{B,W,H1,ea,C,od,vs,φ,rfl,I,hx,Y,hz,Z,q}:=h;show wpAny _ _ (leaving _<|.ref ea) _ _ s';unfold leaving;refine WO<|Ao I M M I.ok.frames hx Y hz Z λs2 O T G r2 z2 t2 U=>?_;refine{ea,C,od,O,T,_,M,G.os,G.bare,G.base,G.hok,ag,r2,z2,t2,U.1,?_,q};rcases U.2.2.2.1 with z|z
 .exact WN (show T∈([]:Si) from z)<|by simp
 .exact z
def PU.okX{x:Str}{st:Stmt}{fd:Ss}{ps:Sh}{k:Nat}{sp:Sp}(F:PU K x qual st f fd)(S:aq N ps (ak st))(len:∀vs H Q E,sp vs H Q E->vs.length=ps.length)
  (G:∀(z:P5)(A:Sj)(outer:Sq)(s:J')(H:Hp)(vs:P7)(Q:VK)(E:XK),PZ k (A.deeper<|envOfC qual (ak st) s.heap.objs.size f z)->sp vs H Q E->
   ∃t,Qb (vn (RX P w) P w K mg base N qual (ak st) f z A outer s H E) (dB st) t/\t {nx:=λ_ H'=>Q .non H',rt:=Q} (start N vs) H):Ck P w K mg base (RX P w) (k+1) f fd ps sp:=by
 let{oc,od,kV,U,pm,an,z,ct,Y,rfl,lk,I}:=F.ex;exact Fq lk I S len λA outer s H vs Q E Z O=>G z A outer s H vs Q E Z O
end
abbrev Ri:List Value:=[.type "ValueError",.type "Exception",.type "BaseException",.type "object"]
def QE(bm:Sa):Prop:=∃ups:List Addr,bm=ups.map Value.ref++Ri
def QE.typ(JZ:QE bm)(T:String):bm.contains (.type T)=Ri.contains (.type T):=by
 let{z,rfl}:=JZ
 induction z with
 |nil=>rfl
 |cons a r G=>rw[Zk,List.cons_append,Xx,G];rfl
def QE.val(JZ:QE bm):bm.contains (.type "ValueError")=true:=(JZ.typ _).trans ∅
def QE.bas(JZ:QE bm):bm.contains (.type "BaseException")=true:=(JZ.typ _).trans ∅
def QE.att(JZ:QE bm):bm.contains (.type "AttributeError")=false:=(JZ.typ _).trans ∅
def QE.nam(JZ:QE bm):bm.contains (.type "NameError")=false:=(JZ.typ _).trans ∅
structure Qx(K:FA)(C:G')(bm:Sa):Prop where
 ob:∃nm q N bs sn sub ab col dd k0 k1 k2 k3 k5,K.lookup C=some (excClassObj nm q C N bs bm true sn sub ab col dd k0 k1 k2 k3 k5 jk)
 mro:QE bm
 kp:PySem.W.keepIn K (.ref C)=true
 ga:PySem.W.findIn K (.ref C) "__getattribute__"=some (some<|.builtin "BaseException.__getattribute__")
 gn:PySem.W.findIn K (.ref C) "__getattr__"=some none
 sa:PySem.W.findIn K (.ref C) "__setattr__"=some (some<|.builtin "object.__setattr__")
section
variable{nm q:Str}{N:G'}{bs:Sa}{k0 k1 k2 k3 k5:Option Value}
abbrev dR(C t:G'):Obj:=br C none #[.ref t,.none,.none,.none,.bool false,.none]
abbrev lU(us:Sa):Obj:={cls:= .type pq,data:= .seq us.toArray}
def LK{rest:Sa}(JZ:QE bm)(z:h.get? C=some (excClassObj nm q C N bs bm true sn sub ab col dd k0 k1 k2 k3 k5 jk))(hz:rest.length<=sizeLine)
  (hq:R (.ok<|.ret<|.ref<|h.objs.size+1) {(h.push<|lU rest).push<|dR C h.objs.size,g,d,t,os}):
  codeAny (model prog w) A (.call (.builtin jk) {.ref C::rest,[]}) R ⟨h,g,d,t,os⟩:=by
 have F:=Vr;have I:(Value.ref C::bm).contains (.type "ValueError")=true:=by rw[Xx,JZ.val,Wf]
 have O:(Value.ref C::bm).contains (.type "AttributeError")=false:=by rw[Xx,JZ.att];rfl
 have U:(Value.ref C::bm).contains (.type "NameError")=false:=by rw[Xx,JZ.nam];rfl
 have st:=F.noStar;have Y:=F.ends;refine codeAny_call_builtin_code (Code.quiet_builtin _ F.quiet) ?_;simp only[checkBuiltinCall,F.newKind,F.newSplit,F.newRow]
 repeat (first|refine wpAny_loadPart_at z ?_|(refine wpAny_isSubtype_exc z ?_;rw[I])|refine wpAny_staticBase_exc z ?_|refine wpAny_madeBy_exc z ?_|simp only[bne_self_eq_false,X0,if_false]|wp_step)
 refine codeAny_builtinAt F.entry ?_;unfold Builtin.«BaseException.__new__»;refine PySem.wpAt_bind ?_;show PySem.wpAt _ _ _ (stack>>=_) _ _ _;refine PySem.wpAt_bind (PySem.wpAt_stack λp G=>PySem.wpAt_of_wpAny ?_)
 wp_walk
 refine PySem.wpAt_of_wpAny ?_;rw[F.owner]
 repeat (first|with_reducible refine wpAny_madeHere_exc F.canon z ?_|with_reducible refine wpAny_loadPart_at z ?_|(with_reducible refine wpAny_isSubtype_exc z ?_;first|rw[I]|rw[O]|rw[U])|wp_step)
 show R _ _;rwa[Heap.size_push]
open PySem.W in
def Jx{I:P5}(X:K.In h)(Y:Qx K C bm)(hz:us.length<=sizeLine)(hi:findIn K (.ref C) i3=some (some I))(hf:∀self,Looks (model prog w) h (bindSpecial I self) (I,[self]))
  (hq:codeAny (model prog w) (A.under<|.builtin pF {.ref C::us,[]}) (.call I {.ref (h.objs.size+1)::us,[]}) (InitBack (h.objs.size+1) R) {(h.push<|lU us).push<|dR C h.objs.size,g,d,t,os}):
  codeAny (model prog w) A (.call (.ref C) {us,[]}) R ⟨h,g,d,t,os⟩:=by
 let{nm,q,N,bs,sn,sub,ab,col,dd,k0,k1,k2,k3,k5,hK}:=Y.ob;have G:=X _ _ hK;have JZ:=Y.mro;have U:(Value.ref C::bm).contains (.ref C)=true:=by simp
 have hl:=looks_findIn (M:=model prog w) X hi;have f1:=tc_lookup;have f2:=tc_bind (.ref C);have hT:(⟨h,g,d,t,os⟩:J').TypeIs (.ref C) "type":={_,G,M};refine codeAny_of_tree ?_;show wpAny _ _ (callAny (.ref C) _) _ _ _
 repeat (any_goals (first|assumption|with_reducible refine wpAny_loadPart_at G ?_|wp_step))
 refine{M,?_};refine codeAny_call_builtin_at (Code.quiet_builtin _ ∅) entry_typeCall (wpAny_check_type_call_sub G ?_)
 repeat (first|with_reducible refine wpAny_loadPart_at G ?_|with_reducible refine wpAny_madeBy_exc G ?_|wp_step)
 refine LK JZ G hz ?_;show wpAny _ (A.under<|.builtin pF {.ref C::us,[]}) _ _ _ {(h.push<|lU us).push<|dR C h.objs.size,g,d,t,os};have k:∀b o,h.get? b=some o->((h.push<|lU us).push<|dR C h.objs.size).get? b=some o:=λb o e=>WK _ (WK _ e);have he:((h.push<|lU us).push<|dR C h.objs.size).get? (h.objs.size+1)=some (dR C h.objs.size):=by heap_get
 have O:=k _ _ G;have Z:=hl.keeps k;have fb:=(hf<|.ref<|h.objs.size+1).keeps k;have t1:Looks (model prog w) ((h.push<|lU us).push<|dR C h.objs.size) (typeOf<|.ref<|h.objs.size+1) (.ref C):=(Looks.ld he).andThen .now;have s1:Looks (model prog w) ((h.push<|lU us).push<|dR C h.objs.size) (isSubtype (.ref C)<|.ref C) true:=λA' Q' E' s' kk z=>by
  let{hp,g',d',t',a0}:=s';exact wpAny_isSubtype_exc (kk _ _ O)<|by rwa[U]
 unfold isInstance callSpecial? specialOf
 repeat (first|simp only[U,Bool.not_true,X0,if_false]|with_reducible refine wpAny_call ?_|lk)
 refine codeAny_mono hq λr s' z=>?_;rcases r with e|(v|_|_|_)<;>first|exact z|exact z.elim|skip
 let{rfl,z}:=z;exact WV<|WV z
end
section
variable{nm q:Str}{N:G'}{bs:Sa}{k0 k1 k2 k3 k5:Option Value}
def Jy{e:G'}{t0:G'}(JZ:QE bm)(I:h.get? C=some (excClassObj nm q C N bs bm true sn sub ab col dd k0 k1 k2 k3 k5 jk))
  (he:h.get? e=some (br C od #[.ref t0,.none,.none,.none,.bool false,.none])) (hz:us.length<=sizeLine)
  (hq:∀h',(∀b o,b≠e->h.get? b=some o->h'.get? b=some o)->h'.get? e=some (br C od #[.ref h.objs.size,.none,.none,.none,.bool false,.none])->R (.ok<|.ret .none) ⟨h',g,d,t,os⟩):
  codeAny (model prog w) A (.call (.builtin "ValueError.__init__") {.ref e::us,[]}) R ⟨h,g,d,t,os⟩:=by
 have F:=Vr;have O:(Value.ref C::bm).contains (.type "ValueError")=true:=by rw[Xx,JZ.val,Wf]
 have st:=F.noStar;refine codeAny_call_builtin F.init.plain F.initEntry ?_;simp only[checkBuiltinCall,F.initKind,F.initSplit,F.initRow]
 repeat (first|with_reducible refine wpAny_loadPart_at he ?_|with_reducible refine wpAny_loadPart_at I ?_|(with_reducible refine wpAny_isSubtype_exc I ?_;rw[O])|wp_step)
 refine wpAny_onRaise ?_;rw[show ∀(a b:String)(n:Nat),Bind.check {.positional,"*","ValueError",.self,[{"args",.varPos,false}]} a b n (List.map (λx=>x.fst) ({pos:=Value.ref e::us}:Args).kw)=pure Unit.unit from λa b n=>check_star_args _ _ _ _ _ _];refine WV ?_
 wp_walk
 have G:(h.push<|lU us).get? e=some (br C od #[.ref t0,.none,.none,.none,.bool false,.none]):=WK _ he;refine hq _ (λb o z k=>?_) ?_
 .rw[Y0 _ _ (Ne.symm z)];exact WK _ k
 .exact Heap.get?_update_self _ G M
end
open PySem.W
variable{E:Sg}
section
variable{prog:Se}{w:Sf}{A:Sj}{s:J'}{K:FA}{e C:G'}{bm:Sa}
def Qx.cd(Y:Qx K C bm):∃cd,clsIn K C=some cd/\cd.mro= .ref C::bm/\cd.hasDict=true:=by
 let{nm,q,N,bs,sn,sub,ab,col,dd,k0,k1,k2,k3,k5,hK}:=Y.ob;exact{_,by unfold clsIn;rw[hK],M,M}
end
variable{E:Sg}
section
variable{prog:Se}{w:Sf}{A:Sj}{s:J'}{K:FA}{e C:G'}{bm:Sa}
structure XIs(K:FA)(C:G'):Prop where
 ha:findIn K (.ref C) "__class__"=some (some<|.builtin pE)
 hn:specialIn K (.builtin pE) "__get__"=some (some<|.builtin "getset_descriptor.__get__")
 tk:takesIn K (.builtin pE)=some true
 hm:mroIn K C (.type "object")=some true
end
def Pu(H:Hp)(e:G')(od:Sk)(C:G')(fs:Sn):Prop:=H e=some (XO e C od)/\((fs=[]/\od=none)\/∃dx,od=some dx/\H dx=some (.xd fs))
def Rs(H:Hp)(C:G')(fs:Sn)(E:XK):Prop:=∀(ea:G')(od:Sk)(H':Hp),Pu H' ea od C fs->G3 H H'->E (.ref ea) od H'
section
variable{X:Cx}{B:Sb}{W:St}{H:Hp}{s:J'}
def nB(K:FA)(hK:X.K=K):iF X (.builtin "isinstance") (λxs H Q=>∃x D t b,xs=[x,.ref D]/\QG K H x t/\kitOne K t (.ref D)=some b/\Q (.bl b) H):=by
 subst hK;intro B s W H xs us Q I r h;let{x,D,t,b,rfl,ty,e,q}:=h;let{u,w',rfl,G,z}:=vq r;cases (show w'=Value.ref D from z);exact AA I G ty e λtk=>{.bl b,H,I.tok _,M,q}
end
variable{C:G'}{φ:Heap->Prop}
section
variable{X:Cx}{B:Sb}{W:St}{H:Hp}{s:J'}
def Inv.madeX{us:Sa}(I:Inv X B W H s):Inv X B W (upd H (s.heap.objs.size+1)<|XN (s.heap.objs.size+1) C none) {s with heap:=(s.heap.push<|lU us).push (dR C s.heap.objs.size)}:=
 I.laid (t':=s.toks) (λb o e=>WK _<|WK _ e) (Xc _) (Mg (t:=s.heap.objs.size)<|by heap_get)
def EU(C:G')(t:TA):TE:=λW H Q=>t W H λvs H1=>vs.length<=1000/\∀e,H1 e=none->Q (.ref e) (upd H1 e<|XN e C none)
variable{CX:CXT}{k:Nat}{f:G'}{fd:Ss}{ps:Sh}{sp:Sp}{dvs:P7}{ds:Sa}{E:XK}{x m:Str}{p pos apos:Pos}{e o:Expr}{es:Sy}{ta:TE}{t:TA}{bm:Sa}
def Inv.rewrite{ea:G'}{od:Sk}{z:G'}{h':Heap}{tk:Nat}(I:Inv X B W H s)(hx:H ea=some (.ext φ))(k:∀b o,b≠ea->s.heap.get? b=some o->h'.get? b=some o)
  (new:h'.get? ea=some (br C od #[.ref z,.none,.none,.none,.bool false,.none])):Inv X B W (upd H ea<|XN ea C od) {s with heap:=h',toks:=tk}:=
 I.write (x:=ea) (e:=ea) (by rw[hx];exact Y1) (.inl M) k {_,new} (Mg new)
def p8(Y:Qx X.K C bm)(hi:findIn X.K (.ref C) i3=some (some<|.builtin "ValueError.__init__"))(hg:Gl X x)(hm:X.mg x=some (.ref C))
  (ha:PA X (e::es) t) (O:(x==(hW:Str))=false:=by decide) (he:starEach (e::es) X.env=(false,eval e X.env)::starEach es X.env:=by rfl) (U:(backTo pos<|starEach es X.env).any (·.1)=false:=by rfl):
  PE X (.Call (.Name x p) (e::es) [] pos) (EU C t):=by
 intro B s W H Q I h;refine Yc<|mR I hg hm ?_ O;refine Xw (h₀:=X.base) I.ok.mod.kin Y.kp (PK (ha pos B s W H _ I h) λus s1 zz=>?_) he U;let{vs,H1,G,r,hz,q}:=zz;refine{G.kIn,?_};have z:us.length<=sizeLine:=by rw[<-r.length];exact ZH<|cv hz
 have Z:=Inv.madeX (C:=C) (us:=us) G;have q2:=q (s1.heap.objs.size+1) (G.hok.fresh<|Xc _);let{nm,q',N,bs,sn,sub,ab,col,dd,k0,k1,k2,k3,k5,hK}:=Y.ob;have hC:=Z.kIn _ _ hK;let{h0,g0,d0,t0,o0}:=s1;refine wpAny_call<|Jx G.kIn Y z hi (λself=>Looks.of_pure<|Vr.init.bind self) ?_;refine Jy Y.mro hC (t0:=h0.objs.size) (by heap_get) z λh' k' n'=>{M,?_};have I3:=Z.rewrite (C:=C) (od:=none) (tk:=t0) ag k' n';rw[cR]at I3;exact{V.ref<|h0.objs.size+1,_,I3,M,q2}
end
variable{f:G'}{A:Sj}{Q:Flow->Shared->Prop}{H:Hp}{s:J'}{Dr:Sg}{E:XK}
structure J7(K:FA)(C:G')(m:Str)(v:P5):Prop where
 sp:specialIn K (.ref C) "__getattribute__"=some (some<|.builtin "type.__getattribute__")
 rd:readsIn K C (.type "type")=true
 at_:findCls K (.ref C) (.type "type") m=some (.val v)
section
variable{X:Cx}{B:Sb}{W:St}
variable{CX:CXT}{k:Nat}{C:G'}{fd:Ss}{ps:Sh}{sp:Sp}{dvs:P7}{ds:Sa}{x m:Str}{p pos apos:Pos}{e o:Expr}{es:Sy}{ta:TE}{t:TA}{bm:Sa}
def BC{pl:Sem Bool}(Y:Gl X x)(Z:X.mg x=some (.ref C))(hc:J7 X.K C m (.ref f))(hk:PySem.W.keepIn X.K (.ref f)=true)(F:Ck X.prog X.w X.K X.mg X.base CX k f fd ps sp)(hr:PZ k X.A)(hb:Binds X.K fd ps ds)(hd:P0 dvs ds)(hx:kX CX X E)(ha:PA X (e::es) t)
  (z:(x==(hW:Str))=false:=by decide)
  (G:starEach (e::es) X.env=(false,eval e X.env)::starEach es X.env:=by rfl) (O:(backTo pos<|starEach es X.env).any (·.1)=false:=by rfl)
  (ht:eval (.Call (.Attribute (.Name x p) m apos) (e::es) [] pos) X.env=(do
   let ov<-eval (.Name x p) X.env
   standAt apos.atName
   let(f,first)<-holding [ov] (getMethod ov m pl)
   callWith pos f first (backTo pos<|starEach (e::es) X.env) (backToKw pos<|keywordEach [] X.env)):=by rfl):
  PE X (.Call (.Attribute (.Name x p) m apos) (e::es) [] pos) (Mp sp dvs E t):=by
 intro B s W H Q I h;refine Xy (pl:=pl) (mR I Y Z ?_ z) ht;refine method_cls I.kIn hc.sp<|cls_value I.kIn hc.rd hc.at_ M ?_;refine Xw (first:=[]) (h₀:=X.base) I.ok.mod.kin hk (PK (ha pos B _ W H _ (I.tok _) h) λus s2 zz=>?_) G O;let{vs,H2,U,r,q2}:=zz;refine{U.kIn,?_};exact xz F hr hb hd hx U r q2
def Gi{env:Env}{y:Sem Value}{M':Model}(I:A.handled=none)
  (h:wpAny M' A y (λv s1=>∃ea C od t nm q N bs bm sn sub ab col dd k0 k1 k2 k3 k5,v= .ref ea/\s1.heap.get? C=some (excClassObj nm q C N bs bm true sn sub ab col dd k0 k1 k2 k3 k5 jk)/\QE bm/\
   s1.heap.get? ea=some (br C od #[.ref t,.none,.none,.none,.bool false,.none])/\Dr (.ref ea) s1) Dr s):wpAny M' A (raiseStmt env (some y) none) Q Dr s:=by
 unfold raiseStmt;refine WO<|Y6 h (λv s1 z=>?_) λ_ _ z=>z;let{ea,C,od,t,nm,q,N,bs,bm,sn,sub,ab,col,dd,k0,k1,k2,k3,k5,rfl,G,JZ,he,O}:=z;have U:(Value.ref C::bm).contains (.type "BaseException")=true:=by rw[Xx,JZ.bas,Wf]
 let{Y,g,d,tk,os}:=s1
 repeat (first|with_reducible refine wpAny_loadPart_at he ?_|with_reducible refine wpAny_loadPart_at G ?_|(with_reducible refine wpAny_isSubtype_exc G ?_;rw[U])|wp_step)
 exact wpAny_raiseNew_none I O
def J0(X:Cx)(E:XK):Prop:=∀e s,FL X (λ_=>E) e s->X.xe e s
def HW(K:FA)(te:TE)(E:XK):TS:=λ_ W H=>te W H λv H1=>∃ea C od bm,v= .ref ea/\H1 ea=some (XN ea C od)/\Qx K C bm/\E (.ref ea) od (upd H1 ea<|XO ea C od)
def tw{ex:Expr}{te:TE}{pos:Pos}(hc:X.calm=true)(hx:J0 X E)(he:PE X ex te):PS X (.Raise (some ex) none pos) (HW X.K te E):=by
 intro B s W H D I h;rw[arm_exec_Raise];refine WO<|wpAny_standAt (Gi (I.ok.hd hc)<|WO<|PK (he B s W H _ I h) λv s1 zz=>?_);let{y,H1,G,U,ea,C,od,bm,Z,O,Y,q}:=zz;refine WO<|wpAny_standAt<|WV ?_;subst Z;cases (show v=Value.ref ea from U);let{nm,q',N,bs,sn,sub,ab,col,dd,k0,k1,k2,k3,k5,hK}:=Y.ob;let{t,z}:=OA G.hok O;exact{ea,C,od,t,nm,q',N,bs,bm,sn,sub,ab,col,dd,k0,k1,k2,k3,k5,M,G.kIn _ _ hK,Y.mro,z,hx _ _ {B,W,H1,ea,C,od,_,_,M,G,O,z,(by show 1<6;decide),.inl M,q}}
end
def wy{P:Se}{w:Sf}{K:FA}{mg:Sl}{base:Heap}{N:Sh}{qual:Str}{scope:Scope}{cd:P5}{outer:Sq}:
  J0 (vn (RX P w) P w K mg base N qual scope f cd A outer s H E) E:=λ_ _ h=>IV h
variable{Q:Bool->Shared->Prop}{pn:Sb}{s:J'}{Dr:Sg}
section
variable{M':Model}{A:Sj}
variable{nm q nm' q':Str}{C N C' N':G'}{bs bm bs' bm':Sa}{sn sn':Sh}{sub sub':Sa}{ab ab':Bool}{col col':Option Bool}{dd dd':Sk}{k0 k1 k2 k3 k5 k0' k1' k2' k3' k5':Option Value}
def GQ{e:G'}{od:Sk}{vs:So}{b:Bool}(z:s.heap.get? C=some (excClassObj nm q C N bs bm true sn sub ab col dd k0 k1 k2 k3 k5 jk))
  (hD:s.heap.get? C'=some (excClassObj nm' q' C' N' bs' bm' true sn' sub' ab' col' dd' k0' k1' k2' k3' k5' jk)) (JZ:QE bm') (he:s.heap.get? e=some (br C od vs)) (hb:(Value.ref C::bm).contains (.ref C')=b)
  (hq:Q b s):wpAny M' A (excMatches (.ref e)<|.ref C') Q Dr s:=by
 have G:(Value.ref C'::bm').contains (.type "BaseException")=true:=by rw[Xx,JZ.bas,Wf]
 have f:=tc_notTuple;let{I,g,d,t,os}:=s;unfold excMatches
 repeat (first|with_reducible refine wpAny_loadPart_at he ?_|with_reducible refine wpAny_loadPart_at hD ?_|(with_reducible refine wpAny_isSubtype_exc hD ?_;rw[G])|(with_reducible refine wpAny_isSubtype_exc z ?_;rw[hb])|wp_step)
 cases b<;>(wp_walk;exact hq)
end
abbrev Cx.sui(X:Cx)(ea:G'):Cx:={X with A:=X.A.mark (some<|.ref ea),calm:=false,xe:=λ_ _=>False}
abbrev Cx.tr(X:Cx)(pn:Sb)(E:St->XK):Cx:={X with pn:=X.pn++pn,xe:=FL {X with pn:=X.pn++pn} E}
section
variable{X:Cx}{B:Sb}{W:St}{H:Hp}
def Cx.Ok.sui(ok:X.Ok)(ea:G'):(X.sui ea).Ok:=
 {ok.mod,ok.kind,ok.glob,ok.blt,ok.above,ok.inj,ok.has,ok.cab,λz=>WN z Z1,ok.frames,ok.stk,ok.exf,ok.bs,ok.bsz,ok.noex,ok.exfs,ok.funs,ok.frf}
def Inv.sui(I:Inv X B W H s)(ea:G'):Inv (X.sui ea) B W H s:={I.ok.sui ea,I.os,I.bare,I.base,I.loc,I.cell,I.free,I.freeC,I.pin,I.hok,I.len}
def Inv.back{ea:G'}(ok:X.Ok)(I:Inv (X.sui ea) B W H s):Inv X B W H s:=⟨ok,I.os,I.bare,I.base,I.loc,I.cell,I.free,I.freeC,I.pin,I.hok,I.len⟩
def Cx.Ok.tr(ok:X.Ok)(pn:Sb)(E:St->XK):(X.tr pn E).Ok:=
 ⟨ok.mod,ok.kind,ok.glob,ok.blt,ok.above,ok.inj,ok.has,ok.cab,ok.hd,ok.frames,ok.stk,ok.exf,ok.bs,ok.bsz,ok.noex,ok.exfs,ok.funs,ok.frf⟩
def Inv.tr(I:Inv X B W H s)(E:St->XK):Inv (X.tr B E) [] W H s:={I.ok.tr B E,I.os,I.bare,I.base,I.loc,I.cell,I.free,I.freeC,λp z=>I.pin p (by simpa using z),I.hok,I.len}
def Inv.untr(ok:X.Ok)(I:Inv {X with pn:=X.pn++pn} B W H s):Inv X pn W H s:=
 {ok,I.os,I.bare,I.base,I.loc,I.cell,I.free,I.freeC,λp z=>I.pin p<|Xh _ z,I.hok,I.len}
def Inv.untr'{E:St->XK}(ok:X.Ok)(I:Inv (X.tr pn E) B W H s):Inv X pn W H s:=
 {ok,I.os,I.bare,I.base,I.loc,I.cell,I.free,I.freeC,λp z=>I.pin p<|Xh _ z,I.hok,I.len}
end
variable{b:Bool}{Q:Flow->Shared->Prop}{hs:List ExceptHandler}{bm:Sa}
abbrev TH:=nZ->St->Hp->Addr->Addr->Option Addr->Prop
def PH(X:Cx)(hs:List ExceptHandler)(t:TH):Prop:=∀(B:Sb)(s:J')(W:St)(H:Hp)(D:nZ)(ea C:G')(od:Sk)(vs:So)(T:G'),Inv X B W H s->H ea=some (XO ea C od)->
 s.heap.get? ea=some (br C od vs)->RP s.heap ea vs T .none->pX X B H T->t D W H ea C od->FB X (handleBy (.ref ea) X.env hs) (SP X B D) X.xe s
def Pj:TH:=λ_ _ _ _ _ _=>False
inductive Pl(K:FA)(Dc:G')(ts:TS)(tr:TH)(D:nZ)(W:St)(H:Hp)(ea C:G')(od:Sk):Prop
 |mk(bm b:_)(_:Qx K C bm)(_:subIn K (.ref C) (.ref Dc)=some b)(_:if b=true then ts D W H else tr D W H ea C od)
section
variable{X:Cx}{x n:Str}{np pos:Pos}{b0:Stmt}{suite:List Stmt}{rest:List ExceptHandler}{i:Nat}{ts:TS}{tr:TH}{Dc:G'}{bm':Sa}
def Lg:PH X hs Pj:=λ_ _ _ _ _ _ _ _ _ _ _ _ _ _ _ h=>h.elim
def KS{K:FA}{C D:G'}(Y:Qx K C bm)(h:subIn K (.ref C) (.ref D)=some b):(Value.ref C::bm).contains (.ref D)=b:=by
 let{cd,hc,z,_}:=Y.cd;have h:mroIn K C (.ref D)=some b:=h;unfold mroIn at h;rw[hc,Option.bind_some,WI (by rw[z];exact Z1),z]at h;exact WL h
def Lf{name:Option Str}{B:Sb}{s:J'}{W:St}{H:Hp}{ea C:G'}{od:Sk}{vs:So}(I:Inv X B W H s)(U:s.heap.get? ea=some (br C od vs))(hg:Gl X x)(hm:X.mg x=some (.ref Dc))(Z:Qx X.K Dc bm')
  (Y:Qx X.K C bm) (hb:subIn X.K (.ref C) (.ref Dc)=some b) (z:(x==(hW:Str))=false)
  (h1:b=true->codeAny (model X.prog X.w) (X.A.mark<|some<|.ref ea) (.handlers (.ref ea) [.ExceptHandler none name (b0::suite) pos] X.env) (λr G=>match r with
     | .ok f=>(match name with
      |none=>Q f G
      |some n=>FB X (do bindName X.env n .none;unbindBehindTheSuite X.env n pos) (λ_ s3=>Q f s3) X.xe G)
     | .error x=>cameBackBy (model X.prog X.w) X.A X.env X.xe x G) s)
  (h2:b=false->FB X (handleBy (.ref ea) X.env rest) Q X.xe s):
  FB X (handleBy (.ref ea) X.env (.ExceptHandler (some<|.Name x np) name (b0::suite) pos::rest)) Q X.xe s:=by
 let{nm,q1,N,bs,sn,sub,ab,col,dd,k0,k1,k2,k3,k5,hK}:=Y.ob;let{nm',a0,N',bs',sn',sub',ab',col',dd',k0',k1',k2',k3',k5',O}:=Z.ob;refine wpAny_handleBy_cons (codeAny_handlers_test<|mR (X:=X.sui ea) (I.sui ea) hg hm ?_ z) (by intro q;cases q);refine GQ (I.kIn _ _ hK) (I.kIn _ _ O) Z.mro U (KS Y hb) ?_;cases b with
 |true=>exact h1 M
 |false=>exact h2 M
def Lh(hg:Gl X x)(hm:X.mg x=some (.ref Dc))(Z:Qx X.K Dc bm')(hs:∀ea,Qb (X.sui ea) (b0::suite) ts)(hr:PH X rest tr)(a1:(x==(hW:Str))=false:=by decide):
  PH X (.ExceptHandler (some<|.Name x np) none (b0::suite) pos::rest) (Pl X.K Dc ts tr):=by
 intro B s W H D ea C od vs T I hx O a0 G h;let{bm,b,Y,hb,h}:=h;refine Lf I O hg hm Z Y hb a1 (λz=>?_)<|λz=>?_
 .subst z;rw[WJ M]at h;refine codeAny_handlers_suite<|r9 (l:=[]) O a0 λh' g1 g2 g3 g4 g5=>?_;have I1:Inv X B W H {s with heap:=h'}:=I.turned (t':=s.toks) (it:=T) g1 G.1 G.2.1 G.2.2.2.1 G.2.2.2.2.1 G.2.2.2.2.2;refine Y6 (hs ea B _ _ H D (I1.sui ea) h) (λf s4 z=>?_) λ_ _ z=>z.elim;cases f with
  |next=>
   let{U,H',I',q}:=z;exact{_,H',I'.back I.ok,q}
  |brk=>
   let{U,H',I',q}:=z;exact{_,H',I'.back I.ok,q}
  |cont=>
   let{U,H',I',q}:=z;exact{_,H',I'.back I.ok,q}
  |ret u=>
   let{v,U,H',I',rv,q}:=z;exact{v,_,H',I'.back I.ok,rv,q}
 .subst z;rw[WI Z1]at h;exact hr B s W H D ea C od vs T I hx O a0 G h
def sTry(tb:(St->XK)->TS)(th:TH):TS:=λD W H=>tb (λσ1 v od H1=>∃ea C,v= .ref ea/\H1 ea=some (XO ea C od)/\th D σ1 H1 ea C od) D W H
def Nr{body:List Stmt}{h0:ExceptHandler}{tb:(St->XK)->TS}{th:TH}(Y:X.stack=X.env::X.outer)(hf:X.env.frame=some X.env.locals)(hb:∀pn E,Qb (X.tr pn E) body (tb E))(hh:PH X (h0::hs) th):
  PS X (.Try body (h0::hs) [] [] pos) (sTry tb th):=by
 intro B s W H D I h;refine wpAny_Try_except<|Y6 (hb B _ [] s W H D (I.tr _) h) (λf s1 z=>?_) λe s1 z=>?_
 .cases f with
  |next=>
   let{G,H',O,q}:=z;exact wpAny_execs_nil {G,H',O.untr' I.ok,q}
  |brk=>
   let{G,H',O,q}:=z;exact{G,H',O.untr' I.ok,q}
  |cont=>
   let{G,H',O,q}:=z;exact{G,H',O.untr' I.ok,q}
  |ret u=>
   let{v,G,H',O,rv,q}:=z;exact{v,G,H',O.untr' I.ok,rv,q}
 .let{Z,a0,H1,ea,C,od,vs,φ,rfl,I1,hx,hr,hz,ht,ea',C',e1,e2,q}:=z;obtain rfl:ea=ea':=Value.ref.inj e1;refine Ao (X:={X with pn:=X.pn++B}) I1 Y hf I1.ok.frames hx hr hz ht λs2 a1 T I2 r2 z2 t2 U=>?_;let{a2,r3,_}:=Oz I2.hok e2;obtain rfl:C=C':=by
   have z:=Y2 Obj.cls (WL<|r2.symm.trans r3);exact Value.ref.inj z
  exact hh B s2 a0 _ D ea C od a1 T (I2.untr I.ok) e2 r2 t2 {U.1,U.2.1,U.2.2.1,U.2.2.2.1,U.2.2.2.2.1,λp hp=>U.2.2.2.2.2 p<|Xh _ hp} q
end
variable{X:Cx}{E:St->XK}
def wG(CX:CXT)(X:Cx)(E:St->XK):Prop:=∀(B:Sb)(W:St)(H:Hp)(s:J')(e:P5)(s':J'),Inv X B W H s->CX X.stack H s (E W) e s'->X.xe e s'
def Io{pn:Sb}:wG (RX X.prog X.w) (X.tr pn E) E:=λB W H s e s' I h=>by
 have ok:Cx.Ok {X with pn:=X.pn++pn}:=⟨I.ok.mod,I.ok.kind,I.ok.glob,I.ok.blt,I.ok.above,I.ok.inj,I.ok.has,I.ok.cab,I.ok.hd,I.ok.frames,I.ok.stk,I.ok.exf,I.ok.bs,I.ok.bsz,I.ok.noex,I.ok.exfs,I.ok.funs,I.ok.frf⟩;have z:Inv {X with pn:=X.pn++pn} B W H s:=⟨ok,I.os,I.bare,I.base,I.loc,I.cell,I.free,I.freeC,I.pin,I.hok,I.len⟩;exact z.flies h λ_ _ _ q=>q
def HJ(C:G')(m:Str)(sp:Sp)(dvs:P7)(E:St->XK)(ta:TE)(t:TA):TE:=λW H Q=>ta W H λx H1=>∃a dx fs,x= .ref a/\H1 a=some (.ins C dx fs)/\fs.lookup m=none/\
 t W H1 λvs H2=>sp (x::(vs++dvs)) H2 Q (E W)
section
variable{CX:CXT}{k:Nat}{f C:G'}{fd:Ss}{ps:Sh}{sp:Sp}{dvs:P7}{ds:Sa}{x m:Str}{p pos apos:Pos}{e o:Expr}{es:Sy}{ta:TE}{t:TA}
def EZ{B:Sb}{W:St}{H:Hp}{s:J'}{Q:VK}{us:Sa}{vs:P7}(F:Ck X.prog X.w X.K X.mg X.base CX k f fd ps sp)(G:PZ k X.A)(hb:Binds X.K fd ps ds)(hd:P0 dvs ds)(hx:wG CX X E)
  (I:Inv X B W H s) (r:P0 vs us) (h:sp (vs++dvs) H Q (E W)):FB X (call (.ref f) us) (EP X B W Q) X.xe s:=by
 have z:P0 (vs++dvs) (us++ds):=r.append hd;have hl:(us++ds).length=ps.length:=by rw[<-z.length];exact F.len _ _ _ _ h
 refine wpAny_call<|codeAny_mono (F.run X.A X.stack s H {us,[]} (us++ds) (vs++dvs) Q (E W) G I.env0 (hb s us I.kIn hl) z h) λr s' hq=>?_;cases r with
 |error e=>exact hx B W H s e s' I hq
 |ok fl=>cases fl<;>first|exact I.after hq|exact False.elim hq
def Ik{pl:Sem Bool}(he:PE X o ta)(c:Qv X.K C)(U:bO X.K C m f)(F:Ck X.prog X.w X.K X.mg X.base CX k f fd ps sp)(hr:PZ k X.A)(hb:Binds X.K fd ps ds)(hd:P0 dvs ds)(hx:wG CX X E)(ha:PA X (e::es) t)
  (z:starEach (e::es) X.env=(false,eval e X.env)::starEach es X.env:=by rfl) (G:(backTo pos<|starEach es X.env).any (·.1)=false:=by rfl)
  (ht:eval (.Call (.Attribute o m apos) (e::es) [] pos) X.env=(do
   let ov<-eval o X.env
   standAt apos.atName
   let(f,first)<-holding [ov] (getMethod ov m pl)
   callWith pos f first (backTo pos<|starEach (e::es) X.env) (backToKw pos<|keywordEach [] X.env)):=by rfl):
  PE X (.Call (.Attribute o m apos) (e::es) [] pos) (HJ C m sp dvs E ta t):=by
 intro B s W H Q I h;refine Xy (pl:=pl) (PK (he B s W H _ I h) λu s1 O=>?_) ht;let{x,H1,Y,rx,a,dx,fs,ex,ea,l,q}:=O;subst ex;obtain rfl:u=Value.ref a:=rx;refine jo Y ea c U l ?_;refine Xw (first:=[.ref a]) (h₀:=X.base) I.ok.mod.kin U.kp (PK (ha pos B s1 W H1 _ Y q) λus s2 zz=>?_) z G;let{vs,H2,Z,r,q2}:=zz;refine{Z.kIn,?_};exact EZ (us:= .ref a::us) (vs:= .ref a::vs) F hr hb hd hx Z (.cons M r) q2
def Ah{pl:Sem Bool}(he:PE X o ta)(c:Qv X.K C)(O:bO X.K C m f)(F:Ck X.prog X.w X.K X.mg X.base CX k f fd ps sp)(U:PZ k X.A)(hb:Binds X.K fd ps ds)(hd:P0 dvs ds)(hx:wG CX X E)
  (Y:eval (.Call (.Attribute o m apos) [] [] pos) X.env=(do
   let ov<-eval o X.env
   standAt apos.atName
   let(f,first)<-holding [ov] (getMethod ov m pl)
   callWith pos f first (backTo pos<|starEach [] X.env) (backToKw pos<|keywordEach [] X.env)):=by rfl):
  PE X (.Call (.Attribute o m apos) [] [] pos) (HJ C m sp dvs E ta HI):=by
 intro B s W H Q I h;refine Xy (pl:=pl) (PK (he B s W H _ I h) λu s1 z=>?_) Y;let{x,H1,G,Z,a,dx,fs,ex,ea,l,q}:=z;subst ex;obtain rfl:u=Value.ref a:=Z;refine jo G ea c O l ?_;exact VZ (first:=[.ref a]) G.kIn O.kp<|EZ (us:=[.ref a]) (vs:=[.ref a]) F U hb hd hx G (.cons M .nil) q
end
variable{T:G'}{P:Se}{w:Sf}
def Ip{X:Cx}:kX (RX P w) X E0:=λ_ _ _ _ _ _ _ zz=>by let{_,_,_,_,_,_,_,_,_,_,_,_,_,_,_,_,_,z}:=zz;exact z.elim
def jF(K:FA)(fd:Ss)(ps:Sh)(dvs:P7):Prop:=∃ds,Binds K fd ps ds/\P0 dvs ds
structure Qr(K:FA)(x qual:Str)(st:Stmt)(f:G')(fd:Ss):Prop where
 ex:∃(oc:P5)(od:Sk)(dV kV doc pm:P5)(an:Sk)(cdv ct:P5)(osl:Tf),
  fd=fnOf x qual (iK st) (dB st) (ak st) dV kV doc pm an cdv ct/\K.lookup f=some {oc,od,.func fd,osl}/\codeIn K cdv qual=true
 kp:keepIn K (.ref f)=true
section
variable{K:FA}{mg:Sl}{base:Heap}{x qual:Str}{st:Stmt}{f:G'}{fd:Ss}{N ps:Sh}{k:Nat}{sp:Sp}
def Qr.ok(F:Qr K x qual st f fd)(S:aq N ps (ak st))(len:∀vs H Q E,sp vs H Q E->vs.length=ps.length)
  (G:∀(z:P5)(A:Sj)(outer:Sq)(s:J')(H:Hp)(vs:P7)(Q:VK)(E:XK),PZ k (A.deeper<|envOfC qual (ak st) s.heap.objs.size f z)->sp vs H Q E->
   ∃t,Qb (vn PP P w K mg base N qual (ak st) f z A outer s H E).nox (dB st) t/\t {nx:=λ_ H'=>Q .non H',rt:=Q} (start N vs) H):Ck P w K mg base PP (k+1) f fd ps sp:=by
 let{oc,od,dV,kV,U,pm,an,z,ct,Y,rfl,lk,I}:=F.ex;refine Fq lk I S len λA outer s H vs Q E Z O=>?_;let{t,h,q}:=G z A outer s H vs Q E Z O;exact⟨t,h.nox,q⟩
def Qr.okX(F:Qr K x qual st f fd)(S:aq N ps (ak st))(len:∀vs H Q E,sp vs H Q E->vs.length=ps.length)
  (G:∀(z:P5)(A:Sj)(outer:Sq)(s:J')(H:Hp)(vs:P7)(Q:VK)(E:XK),PZ k (A.deeper<|envOfC qual (ak st) s.heap.objs.size f z)->sp vs H Q E->
   ∃t,Qb (vn (RX P w) P w K mg base N qual (ak st) f z A outer s H E) (dB st) t/\t {nx:=λ_ H'=>Q .non H',rt:=Q} (start N vs) H):Ck P w K mg base (RX P w) (k+1) f fd ps sp:=by
 let{oc,od,dV,kV,U,pm,an,z,ct,Y,rfl,lk,I}:=F.ex;exact Fq lk I S len λA outer s H vs Q E Z O=>G z A outer s H vs Q E Z O
structure Oo(K:FA)(x qual:Str)(st:Stmt)(T f:G')(fd:Ss):Prop where
 toD:Qr K x qual st f fd
 ex:∃(kV doc pm:P5)(an:Sk)(cdv ct:P5),fd=fnOf x qual (iK st) (dB st) (ak st) (.ref T) kV doc pm an cdv ct
def Fp{Y:P5}{od O:Sk}{I:Tf}{kV G U z ct:P5}(l:K.lookup f=some {Y,od,.func<|fnOf x qual (iK st) (dB st) (ak st) (.ref T) kV G U O z ct,I})
  (c:codeIn K z qual=true) (k:keepIn K (.ref f)=true):Oo K x qual st T f (fnOf x qual (iK st) (dB st) (ak st) (.ref T) kV G U O z ct):={{{Y,od,_,kV,G,U,O,z,ct,I,M,l,c},k},⟨kV,G,U,O,z,ct,M⟩}
def db{dd:Sk}{items:So}{n:Nat}{U:Tf}{ds:Sa}(g:Nat)(Z:g+ds.length=ps.length)(F:Oo K x qual st T f fd)(Y:K.lookup T=some {.type pq,dd,.seq items n,U})
  (h:∀(kV z I:P5)(O:Sk)(G ct:P5)(us:Sa),us.length=g->∃k,bindArgs (fnOf x qual (iK st) (dB st) (ak st) (.ref T) kV z I O G ct) {us,[]}=seqItems? (.ref T)>>=k/\k (some items)=pure (ps.zip<|us++ds)):
  Binds K fd ps ds:=by
 let{kV,z,I,O,G,ct,rfl}:=F.ex;intro s us X hl;let{k,h1,h2}:=h kV z I O G ct us (by rw[Q8]at hl;lia);exact BindsTo.of_defaults M (X _ _ Y) M h1 h2
end
end L2
namespace L2
open PySem PySem.Spec PyProof.Rows
open SeqAt
section
variable{X:Cx}
def jL{st:Stmt}:PS X st (λ_ _ _=>False):=λ_ _ _ _ _ _ h=>h.elim
end
def Fl:V->Prop
 | .int _=>True| .str _=>True| .non=>True| .bl _=>True|_=>False
section
variable{X:Cx}{B:Sb}{W:St}{H:Hp}{s:J'}
def LJ{A:Sj}{x:V}{u v:P5}(h:Fl x)(r1:RelV x u)(z:RelV x v):EqAt A s u v true:=by
 cases x with
 |int n=>
  let{G,rfl}:=r1;let{I,rfl}:=z;have:=EqAt.int_int (A:=A) (s:=s) n G n I;rwa [Ye]at this
 |str n=>
  let{G,rfl}:=r1;let{I,rfl}:=z;have:=EqAt.str_str (A:=A) (s:=s) n G n I;rwa [Ye]at this
 |bl b=>
  cases (show u=Value.bool b from r1);cases (show v=Value.bool b from z);have:=EqAt.bool_bool (A:=A) (s:=s) b b;rwa [Ye]at this
 |non=>
  cases (show u=Value.none from r1);cases (show v=Value.none from z);exact EqAt.same _
 |_=>exact h.elim
end
end L2
namespace L2
open PySem PySem.Spec PyProof.Rows
variable{D:Addr->Sp->Prop}{X:Cx}{o:HO}{H:Hp}{kk:Nat}
def dU{x y:V}{A JZ:Prop}(e:x=y)(h:A):if decide (x=y)=true then A else JZ:=by
 rw[WR e];exact b8 h
def al{p:G'}(h:H p=none):G3 H (upd H p o):=λb u e=>by
 rwa[af (am e h)]
def Rg(P:Int->Prop):List V->Prop
 | []=>True
 | .int m::r=>P m/\Rg P r
 |_::_=>False
theorem Rg.ints{P:Int->Prop}:∀{L:P7},Rg P L->∃ns:List Int,L=ns.map V.int/\∀m∈ns,P m
 | [],_=>{[],M,λ_ z=>nomatch z}
 | .int m::r,h=>by
  let{ns,e,q}:=Rg.ints h.2;refine{m::ns,by rw[e];rfl,λx hx=>?_};rcases Zb.mp hx with rfl|hx
  .exact h.1
  .exact q x hx
def Ag{P:Int->Prop}{L:P7}{c n:Int}(h:Rg P L)(I:(L.length:Int)=n)(G:0<n):∃m,RM L (c%n)=some (.int m)/\P m:=by
 let{ns,e,q}:=h.ints;subst e;have a:=Z2 c (ZU G);have b:=Z0 c G;rw[Q1]at I;have z:(c%n).toNat<ns.length:=();refine{_,ua a (),q _ ?_};rw[Ze,Q4 z];exact Xu z
def b6{H':Hp}{l:G'}(s:G3 H H')(n:H l=none):G3 H (upd H' l o):=λb u e=>by
 rw[af (am e n)];exact s b u e
def Jc{K:FA}{C D:G'}{b:Bool}(h1:PySem.W.typeIn K (.ref D)=some (.type "type"))(h2:PySem.W.isClsIn K D=true)(I:PySem.W.subIn K (.ref C) (.ref D)=some b)(G:C=D->b=true):
  PySem.W.kitOne K (.ref C) (.ref D)=some b:=by
 unfold PySem.W.kitOne;by_cases z:((Value.ref C:P5)== .ref D)=true
 .rw[WJ z,G (Value.ref.inj<|WW.mp z)]
 .rw[WI z];show(if((PySem.W.clsIn K D).isSome&&PySem.W.typeIn K (.ref D)==some (.type "type"))=true then PySem.W.subIn K (.ref C) (.ref D)else none)=some b;have:(PySem.W.clsIn K D).isSome=true:=h2;rw[WJ (by rw[this,h1];simp),I]
def Pw(_ j:Int):Prop:=0<j/\j.natAbs.log2<9000
def CJ:Qm X (binaryOp .FloorDiv) (rI Pw λi j=> .int<|i/j):=opI λi j _ _ _ _ _ hc q=>by
 have h1:(0:Int)<j:=hc.1;exact floordiv_int () (by rw[WA i ()];exact q)<|.inl (PyProof.noPylong_of_log2 hc.2)
def PZ.u20{k:Nat}{A:Sj}(r:PZ k A):A.units+20<cLine:=by have:=r.un;lia
section
variable{k:Nat}{f C:G'}{fd:Ss}{ps:Sh}{sp:Sp}{dvs:P7}{ds:Sa}{E:XK}{x m:Str}{p pos apos:Pos}{e o:Expr}{es:Sy}{ta:TE}{t:TA}
def Kd(X:Cx)(kk:Nat)(m:Str)(C:G')(sp:Sp):Prop:=Qv X.K C/\∃f fd ps,bO X.K C m f/\Ck X.prog X.w X.K X.mg X.base PP kk f fd ps sp/\Binds X.K fd ps []
def D1(C:G')(sp:Sp):Addr->Sp->Prop:=λC' sp'=>C'=C/\sp'=sp
def DOr(D D':Addr->Sp->Prop):Addr->Sp->Prop:=λC sp=>D C sp\/D' C sp
def dJ(c:Qv X.K C)(z:bO X.K C m f)(F:Ck X.prog X.w X.K X.mg X.base PP k f fd ps sp)(hb:Binds X.K fd ps [])(hk:k<=kk):∀C' sp',D1 C sp C' sp'->Kd X kk m C' sp':=λC' sp' h=>by
 let{rfl,rfl}:=h;exact{c,f,fd,ps,z,F.mono hk,hb}
def mT{G:Addr->Sp->Prop}(h:∀C sp,D C sp->Kd X kk m C sp)(h':∀C sp,G C sp->Kd X kk m C sp):∀C sp,DOr D G C sp->Kd X kk m C sp:=λC sp z=>z.elim (h C sp) (h' C sp)
inductive KQ(D:Addr->Sp->Prop)(m:Str)(t:TA)(W:St)(Q:VK)(x:V)(H1:Hp):Prop
 |mk(a C dx fs sp:_)(_:x= .ref a)(_:H1 a=some (.ins C dx fs))(_:fs.lookup m=none)(_:D C sp)(_:t W H1 λvs H2=>sp (x::vs) H2 Q E0)
def Na(D:Addr->Sp->Prop)(m:Str)(ta:TE)(t:TA):TE:=λW H Q=>ta W H λx H1=>KQ D m t W Q x H1
def tx{pl:Sem Bool}(hD:∀C sp,D C sp->Kd X kk m C sp)(hr:PZ kk X.A)(he:PE X o ta)(ha:PA X (e::es) t)
  (z:starEach (e::es) X.env=(false,eval e X.env)::starEach es X.env:=by rfl) (G:(backTo pos<|starEach es X.env).any (·.1)=false:=by rfl)
  (ht:eval (.Call (.Attribute o m apos) (e::es) [] pos) X.env=(do
   let ov<-eval o X.env
   standAt apos.atName
   let(f,first)<-holding [ov] (getMethod ov m pl)
   callWith pos f first (backTo pos<|starEach (e::es) X.env) (backToKw pos<|keywordEach [] X.env)):=by rfl):
  PE X (.Call (.Attribute o m apos) (e::es) [] pos) (Na D m ta t):=by
 intro B s W H Q I h;refine Xy (pl:=pl) (PK (he B s W H _ I h) λu s1 O=>?_) ht;let{x,H1,U,rx,a,C,dx,fs,sp,ex,ea,l,d,q}:=O;subst ex;obtain rfl:u=Value.ref a:=rx;let{c,f,fd,ps,Y,F,hb}:=hD C sp d;refine jo U ea c Y l ?_;refine Xw (first:=[.ref a]) (h₀:=X.base) I.ok.mod.kin Y.kp (PK (ha pos B s1 W H1 _ U q) λus s2 zz=>?_) z G;let{vs,H2,Z,r,q2}:=zz;refine{Z.kIn,?_};exact xz (us:= .ref a::us) (vs:= .ref a::vs) (dvs:=[]) F hr hb .nil az Z (.cons M r)<|by rwa[ZL]
end
end L2
namespace Srt
open PySem PyProof.Rows
abbrev _root_.Sd:=Array Keyed
abbrev _root_.Sr:=Keyed->Keyed->Bool
variable{xs ys:Sd}{blt:Sr}{e hi i j lo n nrem:Nat}{st:SortSt}{γ:Type}{Q:Unit->SortSt->Prop}{E:Sg}
abbrev dk:Keyed:=(Value.none,Value.none)
noncomputable def g(xs:Sd)(i:Nat):Keyed:=xs[i]?.getD dk
theorem e7(h:i<xs.size):xs[i]?=some (g xs i):=by
 unfold g;rw[getElem?_pos xs i h];rfl
theorem tT(h:xs[i]?=ys[j]?):g xs i=g ys j:=by unfold g;rw[h]
theorem AC(h:i<xs.size):g xs i∈xs:=by
 have e:=e7 h;exact Array.mem_of_getElem? e
structure RI(blt:Sr):Prop where
 asym:∀x y,blt x y=true->blt y x=false
 tr:∀x y z,blt y x=false->blt z y=false->blt z x=false
section
variable(C:RI blt)
abbrev le(blt:Sr)(x y:Keyed):Prop:=blt y x=false
include C
theorem RI.trans{x y z:Keyed}(h1:le blt x y)(h2:le blt y z):le blt x z:=C.tr x y z h1 h2
theorem RI.of_lt{x y:Keyed}(h:blt x y=true):le blt x y:=C.asym _ _ h
end
def On(blt:Sr)(xs:Sd)(lo hi:Nat):Prop:=∀i j,lo<=i->i<j->j<hi->le blt (g xs i) (g xs j)
def Off(blt:Sr)(xs:Sd)(lo hi:Nat):Prop:=∀i j,lo<=i->i<j->j<hi->le blt (g xs j) (g xs i)
theorem On.one:On blt xs lo (lo+1):=λi j h1 h2 z=>by lia
theorem Off.one:Off blt xs lo (lo+1):=λi j h1 h2 z=>by omega
theorem On.congr(h:On blt xs lo hi)(e:∀k,lo<=k->k<hi->g ys k=g xs k):On blt ys lo hi:=λi j h1 h2 z=>by
 rw[e i h1 (),e j () z];exact h i j h1 h2 z
theorem On.sub{z hi':Nat}(h:On blt xs lo hi)(h1:lo<=z)(h2:hi'<=hi):On blt xs z hi':=λi j a b c=>h i j () b ()
section
variable(C:RI blt)
include C
theorem On.snoc(h:On blt xs lo (lo+n))(G:1<=n)(e:le blt (g xs<|lo+n-1) (g xs<|lo+n)):On blt xs lo (lo+(n+1)):=λi j h1 h2 I=>by
 by_cases z:j<lo+n
 .exact h i j h1 h2 z
 .have ej:j=lo+n:=();subst ej;by_cases y:i=lo+n-1
  .subst y;exact e
  .exact C.trans (h i (lo+n-1) h1 () ()) e
theorem Off.snoc(h:Off blt xs lo (lo+n))(G:1<=n)(e:le blt (g xs<|lo+n) (g xs<|lo+n-1)):Off blt xs lo (lo+(n+1)):=λi j h1 h2 I=>by
 by_cases z:j<lo+n
 .exact h i j h1 h2 z
 .have ej:j=lo+n:=();subst ej;by_cases y:i=lo+n-1
  .subst y;exact e
  .exact C.trans e<|h i (lo+n-1) h1 () ()
end
theorem Jr(z:j<=xs.size)(k:Nat):g (mirror xs i j<|(j-i)/2) k=if i<=k/\k<j then g xs (i+j-1-k)else g xs k:=by
 have e:=getElem?_mirror_all (i:=i) z k;by_cases h1:i<=k/\k<j
 .rw[WJ h1]at e⊢;exact tT e
 .rw[WI h1]at e⊢;exact tT e
theorem Js{src d:Nat}(hs:src<xs.size)(hd:d<=src)(k:Nat):g (bubble xs src d) k=if k=src-d then g xs src else if src-d<k/\k<=src then g xs (k-1)else g xs k:=by
 have e:=getElem?_bubble hs d hd k;by_cases h1:k=src-d
 .rw[WJ h1]at e⊢;exact tT e
 .rw[WI h1]at e⊢;by_cases h2:src-d<k/\k<=src
  .rw[WJ h2]at e⊢;exact tT e
  .rw[WI h2]at e⊢;exact tT e
section
variable{prog:Se}{w:Sf}{A:Sj}{s:J'}{a₀:Sd}{κ:SortKind}
def Dy(prog:Se)(w:Sf)(A:Sj)(E:Sg)(s:J')(a₀:Sd)(κ:SortKind)(blt:Sr):Prop:=
 ∀(x y:Keyed)(st:SortSt)(Q:Option Bool->SortSt->Prop),x∈a₀->y∈a₀->kindOf st=κ->Q (some<|blt x y) st->wpS (model prog w) A E s (lt' x y) Q st
structure QB(a₀:Sd)(κ:SortKind)(st:SortSt):Prop where
 kind:kindOf st=κ
 fine:failedOf st=none
 perm:(arrOf st).Perm a₀
theorem QB.size(JZ:QB a₀ κ st):(arrOf st).size=a₀.size:=JZ.perm.size_eq
theorem QB.mem(JZ:QB a₀ κ st)(h:i<a₀.size):g (arrOf st) i∈a₀:=(JZ.perm.mem_iff).mp (AC<|by rwa[JZ.size])
variable(L:Dy prog w A E s a₀ κ blt)
include L
theorem sG{Q:Option Bool->SortSt->Prop}(JZ:QB a₀ κ st)(hi:i<a₀.size)(z:j<a₀.size)(h:Q (some<|blt (g (arrOf st) i)<|g (arrOf st) j) st):
  wpS (model prog w) A E s (ltAt' i j) Q st:=by
 rw[ltAt'_eq];refine WM<|Yl ?_;show wpS _ _ _ _ (do let x<-elem' (arrOf st) i;let y<-elem' (arrOf st) j;lt' x y) Q st;rw[elem'_eq,elem'_eq,e7 (by rwa[JZ.size]),e7 (by rwa[JZ.size])];refine WM<|WQ (WM<|WQ ?_);exact L _ _ st Q (JZ.mem hi) (JZ.mem z) JZ.kind h
omit L in
theorem Hx{α:Type}{m m':StateT SortSt Sem α}{Q:α->SortSt->Prop}(e:m=m')(h:wpS (model prog w) A E s m' Q st):wpS (model prog w) A E s m Q st:=by rwa[e]
abbrev R7(lo:Nat)(xs ys:Sd):Prop:=∀k,k<lo->g ys k=g xs k
theorem iT(JZ:QB a₀ κ st)(z:j<=a₀.size)
  (h:∀st',QB a₀ κ st'->pendingOf st'=pendingOf st->(∀k,g (arrOf st') k=if i<=k/\k<j then g (arrOf st) (i+j-1-k)else g (arrOf st) k)->Q Unit.unit st'):
  wpS (model prog w) A E s (reverseSlice' i j) Q st:=by
 rw[reverseSlice'_eq];refine Yb<|h _ {JZ.kind,JZ.fine,(mirror_perm _ _ _ _).trans JZ.perm} M λk=>?_;exact Jr (by rwa[JZ.size]) k
theorem Hw{a:Nat}{f:Nat->Option γ×Nat->StateT SortSt Sem (ForInStep<|Option γ×Nat)}{Q:Option γ×Nat->SortSt->Prop}(C:RI blt)(JZ:QB a₀ κ st)(ha:1<=a)(G:a<=nrem)(hz:lo+nrem<=a₀.size)(hs:On blt (arrOf st) lo (lo+a))
  (hf:∀(i n:Nat)(R:ForInStep (Option γ×Nat)->SortSt->Prop),n<nrem->1<=n->(blt (g (arrOf st)<|lo+n) (g (arrOf st)<|lo+n-1)=true->R (.done (none,n)) st)->(blt (g (arrOf st)<|lo+n) (g (arrOf st)<|lo+n-1)=false->R (.yield (none,n+1)) st)->wpS (model prog w) A E s (f i (none,n)) R st)
  (h:∀n,a<=n->n<=nrem->On blt (arrOf st) lo (lo+n)->(n<nrem->blt (g (arrOf st)<|lo+n) (g (arrOf st)<|lo+n-1)=true)->Q (none,n) st):
  wpS (model prog w) A E s (forIn [a:nrem] (none,a) f) Q st:=by
 refine Y3 (I:=λi c st'=>st'=st/\c=(none,i)/\a<=i/\i<=nrem/\On blt (arrOf st) lo (lo+i)) ?_ ?_ {M,M,Q5 _,G,hs}
 .rintro i c st' h1 h2 ⟨rfl,rfl,U,Y,O⟩;refine hf i i _ h2 () (λe=>?_)<|λe=>?_
  .exact h i U Y O λ_=>e
  .exact{M,M,(),(),O.snoc C () e}
 .rintro c st' ⟨rfl,rfl,U,Y,O⟩;have e:max a nrem=nrem:=ZO G;rw[e]at O⊢;exact h nrem G (Q5 _) O λz=>WN z (XD _)
omit L in
theorem u0{b:Nat}(hb:lo<=b)(h:Off blt xs lo e)(o:On blt xs b e)(hy:∀k,g ys k=if b<=k/\k<e then g xs (b+e-1-k)else g xs k):Off blt ys lo e:=λi j h1 h2 z=>by
 rw[hy i,hy j];by_cases jb:b<=j
 .rw[WJ ⟨jb,z⟩];by_cases G:b<=i
  .rw[WJ {G,()}];exact o _ _ () () ()
  .rw[WI ()];exact h _ _ h1 () ()
 .rw[WI (),WI ()];exact h i j h1 h2 z
omit L in
theorem NB(h:Off blt xs lo e)(hy:∀k,g ys k=if lo<=k/\k<e then g xs (lo+e-1-k)else g xs k):On blt ys lo e:=λi j h1 h2 z=>by
 rw[hy i,hy j,WJ {h1,()},WJ {(),z}];exact h _ _ () () ()
omit L in
theorem Lk(h:On blt xs lo e)(hy:∀k,g ys k=if lo<=k/\k<e then g xs (lo+e-1-k)else g xs k):Off blt ys lo e:=λi j h1 h2 z=>by
 rw[hy i,hy j,WJ (show lo<=j/\j<e by lia),WJ (show lo<=i/\i<e by lia)];exact h _ _ () () ()
noncomputable def JY(lo:Nat):Nat->Option (Option Nat)×Nat->StateT SortSt Sem (ForInStep<|Option (Option Nat)×Nat):=λ_ __s=>do
 let __x<-ltAt' (lo+__s.snd) (lo+__s.snd-1)
 match __x with
 |some smaller=>if smaller=true then pure (ForInStep.done (none,__s.snd))else pure (ForInStep.yield (none,__s.snd+1))
 |_=>pure (ForInStep.done (some none,__s.snd))
def Ac(lo n nrem:Nat):StateT SortSt Sem (Option Nat):=do
 reverseSlice' lo (lo+n)
 let __s<-forIn [n:nrem] (none,n) (JY lo)
 match __s.fst with
 |some r=>pure r
 |none=>pure (some __s.snd)
noncomputable def Fv(lo:Nat):Nat->Option (Option Nat)×Nat×Nat->StateT SortSt Sem (ForInStep<|Option (Option Nat)×Nat×Nat):=λ_ __s=>do
 let __x<-ltAt' (lo+__s.snd.fst) (lo+__s.snd.fst-1)
 match __x with
 |some smaller=>
  if smaller=true then
   if __s.snd.snd>0 then do
    reverseSlice' (lo+__s.snd.fst-(__s.snd.snd+1)) (lo+__s.snd.fst)
    pure (ForInStep.yield (none,__s.snd.fst+1,0))
   else pure (ForInStep.yield (none,__s.snd.fst+1,0))
  else do
   let __x<-ltAt' (lo+__s.snd.fst-1) (lo+__s.snd.fst)
   match __x with
   |some larger=>
    if larger=true then pure (ForInStep.done (none,__s.snd.fst,__s.snd.snd))
    else pure (ForInStep.yield (none,__s.snd.fst+1,__s.snd.snd+1))
   |_=>pure (ForInStep.done (some none,__s.snd.fst,__s.snd.snd))
 |_=>pure (ForInStep.done (some none,__s.snd.fst,__s.snd.snd))
def AK(lo n nrem:Nat):StateT SortSt Sem (Option Nat):=do
 liftM (rule "list.sort.descending-run")
 let __s<-forIn [n+1:nrem] (none,n+1,0) (Fv lo)
 match __s.fst with
 |some r=>pure r
 |none=>
  if __s.snd.snd>0 then do
   reverseSlice' (lo+__s.snd.fst-(__s.snd.snd+1)) (lo+__s.snd.fst)
   Ac lo __s.snd.fst nrem
  else Ac lo __s.snd.fst nrem
theorem ER{R:ForInStep (Option (Option Nat)×Nat)->SortSt->Prop}(JZ:QB a₀ κ st)(hz:lo+nrem<=a₀.size)(G:n<nrem)(h1:1<=n)
  (z:blt (g (arrOf st)<|lo+n) (g (arrOf st)<|lo+n-1)=true->R (.done (none,n)) st) (hf:blt (g (arrOf st)<|lo+n) (g (arrOf st)<|lo+n-1)=false->R (.yield (none,n+1)) st):wpS (model prog w) A E s (JY lo i (none,n)) R st:=by
 unfold JY;refine WM<|sG L JZ (by dsimp only;lia) (by dsimp only;lia) ?_;dsimp only;cases e:blt (g (arrOf st)<|lo+n) (g (arrOf st)<|lo+n-1)with
 |true=>exact WQ<|z e
 |false=>exact WQ<|hf e
theorem sF{Q:Option Nat->SortSt->Prop}(C:RI blt)(JZ:QB a₀ κ st)(h1:1<=n)(z:n<=nrem)(hz:lo+nrem<=a₀.size)(I:Off blt (arrOf st) lo (lo+n))
  (h:∀m st',QB a₀ κ st'->pendingOf st'=pendingOf st->1<=m->m<=nrem->On blt (arrOf st') lo (lo+m)->R7 lo (arrOf st) (arrOf st')->Q (some m) st'):wpS (model prog w) A E s (Ac lo n nrem) Q st:=by
 unfold Ac;refine WM<|iT L JZ () λst' G O hy=>?_;refine WM<|Hw L C G h1 z hz (NB I hy) (λi n R z h1 U hf=>ER L G (i:=i) hz z h1 U hf) (λm ha Y hs _=>?_);exact WQ<|h m st' G O () Y hs λk hk=>by rw[hy k,WI ()]
theorem Cj{Q:Option Nat->SortSt->Prop}(C:RI blt)(JZ:QB a₀ κ st)(h1:1<=n)(hn:n+1<=nrem)(hz:lo+nrem<=a₀.size)(ho:Off blt (arrOf st) lo (lo+(n+1)))
  (h:∀m st',QB a₀ κ st'->pendingOf st'=pendingOf st->1<=m->m<=nrem->On blt (arrOf st') lo (lo+m)->R7 lo (arrOf st) (arrOf st')->Q (some m) st'):wpS (model prog w) A E s (AK lo n nrem) Q st:=by
 unfold AK;refine WM<|wpS_lift (Ym {M,?_});refine WM (Y3 (I:=λi c st'=>∃q,c=(none,i,q)/\QB a₀ κ st'/\pendingOf st'=pendingOf st/\R7 lo (arrOf st) (arrOf st')/\n+1<=i/\i<=nrem/\q+1<=i/\Off blt (arrOf st') lo (lo+i)/\On blt (arrOf st') (lo+i-(q+1)) (lo+i)) ?_ ?_
  {0,M,JZ,M,λ_ _=>M,Q5 _,hn,(),ho,λi j a b c=>()})
 .rintro i c st' a2 a3 ⟨q,rfl,Z,hp,hk,h2,h3,h4,off,on⟩;unfold Fv;refine WM<|sG L Z (by dsimp only;lia) (by dsimp only;lia) ?_;dsimp only;cases e:blt (g (arrOf st')<|lo+i) (g (arrOf st')<|lo+i-1)with
  |true=>
   by_cases q0:q>0
   .rw[WJ M,WJ q0];refine WM<|iT L Z () λst2 B2 Y hy=>?_;refine WQ {0,M,B2,Y.trans hp,λk G=>by rw[hy k,WI ()];exact hk k G,(),(),(),?_,λi j a b c=>()};refine(u0 () off on hy).snoc C () ?_;rw[hy,hy,WI (),WJ ()];have z:lo+i-(q+1)+(lo+i)-1-(lo+i-1)=lo+i-(q+1):=();rw[z];exact C.trans (C.of_lt e)<|off _ _ () () ()
   .rw[WJ M,WI q0];exact WQ {0,M,Z,hp,hk,(),(),(),off.snoc C ()<|C.of_lt e,λi j a b c=>()}
  |false=>
   simp only[X0,if_false];refine WM<|sG L Z () () ?_;dsimp only;cases e2:blt (g (arrOf st')<|lo+i-1) (g (arrOf st')<|lo+i)with
   |true=>
    simp only[if_true];refine WQ ?_;dsimp only;by_cases q0:q>0
    .rw[WJ q0];refine WM<|iT L Z () λst2 B2 Y hy=>?_;refine sF L C B2 () h3 hz (u0 () off on hy) λm O B3 U a b c d=>h m O B3 (U.trans<|Y.trans hp) a b c λk G=>?_;rw[d k G,hy k,WI ()];exact hk k G
    .rw[WI q0];exact sF L C Z () h3 hz off λm O B3 U a b c d=>h m O B3 (U.trans hp) a b c λk G=>(d k G).trans (hk k G)
   |false=>
    simp only[X0,if_false];refine WQ {q+1,M,Z,hp,hk,(),(),(),off.snoc C () e2,?_};have z:lo+(i+1)-(q+1+1)=lo+i-(q+1):=();rw[z];intro x y hx hy a4;by_cases a0:y<lo+i
    .exact on x y hx hy a0
    .have ey:y=lo+i:=();subst ey;by_cases a1:x=lo+i-1
     .subst a1;exact e
     .exact C.trans (on x (lo+i-1) hx () ()) e
 .rintro c st' ⟨q,rfl,Z,hp,hk,h2,h3,h4,off,on⟩;have em:max (n+1) nrem=nrem:=ZO hn;rw[em]at h3 h4 off on⊢;dsimp only;by_cases q0:q>0
  .rw[WJ q0];refine WM<|iT L Z () λst2 B2 Y hy=>?_;refine sF L C B2 () h3 hz (u0 () off on hy) λm O B3 U a b c d=>h m O B3 (U.trans<|Y.trans hp) a b c λk G=>?_;rw[d k G,hy k,WI ()];exact hk k G
  .rw[WI q0];exact sF L C Z () h3 hz off λm O B3 U a b c d=>h m O B3 (U.trans hp) a b c λk G=>(d k G).trans (hk k G)
theorem Hv{Q:Option Nat->SortSt->Prop}(C:RI blt)(JZ:QB a₀ κ st)(h1:1<=nrem)(hz:lo+nrem<=a₀.size)
  (h:∀n st',QB a₀ κ st'->pendingOf st'=pendingOf st->1<=n->n<=nrem->On blt (arrOf st') lo (lo+n)->R7 lo (arrOf st) (arrOf st')->Q (some n) st'):wpS (model prog w) A E s (countRun' lo nrem) Q st:=by
 rw[countRun'_eq];dsimp only;refine WM<|Hw L C JZ (Q5 1) h1 hz On.one (λi n R U h1 ht hf=>ER L JZ (i:=i) hz U h1 ht hf) (λn ha U hs Y=>?_);dsimp only;by_cases en:n=nrem
 .subst en;simp only[Ye,if_true];exact WQ<|h n st JZ M ha U hs λ_ _=>M
 .have eb:(n==nrem)=false:=WZ.mpr en;simp only[eb,X0,if_false];have G:=Y ();by_cases n1:n>1
  .rw[WJ n1];refine WM<|sG L JZ () () ?_;dsimp only;cases e:blt (g (arrOf st) lo) (g (arrOf st)<|lo+n-1)with
   |true=>
    simp only[if_true];exact WQ<|h n st JZ M ha U hs λ_ _=>M
   |false=>
    simp only[X0,if_false];refine WM<|iT L JZ () λst2 B2 Z hy=>?_;have off:Off blt (arrOf st2) lo (lo+(n+1)):=by
     refine(Lk hs hy).snoc C ha ?_;rw[hy,hy,WI (),WJ ()];have z:lo+(lo+n)-1-(lo+n-1)=lo:=();rw[z];exact C.trans (C.of_lt G) e
    refine Hx (m':=AK lo n nrem) (by
      unfold AK Ac JY Fv;congr 1;funext _u;congr 1;funext s2;let{O,n2,q2}:=s2;cases O with
      |some O=>rfl
      |none=>
       dsimp only;split
       .congr 1;funext _v;congr 1;funext _w;congr 1;funext s3;let{I,n3}:=s3;cases I<;>rfl
       .congr 1;funext _w;congr 1;funext s3;let{I,n3}:=s3;cases I<;>rfl)<|Cj L C B2 ha () hz off λm a0 B3 a1 a b c d=>h m a0 B3 (a1.trans Z) a b c λk hk=>by rw[d k hk,hy k,WI ()]
  .rw[WI n1];have e1:n=1:=();subst e1;refine Hx (m':=AK lo 1 nrem) (by
      unfold AK Ac JY Fv;congr 1;funext _u;congr 1;funext s2;let{O,n2,q2}:=s2;cases O with
      |some O=>rfl
      |none=>
       dsimp only;split
       .congr 1;funext _v;congr 1;funext _w;congr 1;funext s3;let{I,n3}:=s3;cases I<;>rfl
       .congr 1;funext _w;congr 1;funext s3;let{I,n3}:=s3;cases I<;>rfl) (Cj L C JZ ha () hz (Off.one.snoc C (Q5 1)<|C.of_lt G) h)
omit L in
theorem EQ{k l:Nat}(JZ:QB a₀ κ st)(hk:k<a₀.size)(hl:l<=k)
  (h:∀st',QB a₀ κ st'->pendingOf st'=pendingOf st->(∀j,g (arrOf st') j=if j=l then g (arrOf st) k else if l<j/\j<=k then g (arrOf st) (j-1)else g (arrOf st) j)->Q Unit.unit st'):
  wpS (model prog w) A E s (moveDown' k l) Q st:=by
 rw[moveDown'_eq];refine Yb<|h _ {JZ.kind,JZ.fine,(bubble_perm _ _ _).trans JZ.perm} M λj=>?_;have e:=Js (xs:=arrOf st) (src:=k) (d:=k-l) (by rwa[JZ.size]) () j;have z:k-(k-l)=l:=();rw[z]at e;exact e
theorem FS{ok:Nat}{Q:Bool->SortSt->Prop}(C:RI blt)(JZ:QB a₀ κ st)(h1:1<=ok)(hok:ok<=n)(hz:lo+n<=a₀.size)(hs:On blt (arrOf st) lo (lo+ok))
  (h:∀st',QB a₀ κ st'->pendingOf st'=pendingOf st->On blt (arrOf st') lo (lo+n)->R7 lo (arrOf st) (arrOf st')->Q true st'):wpS (model prog w) A E s (binarySort' lo n ok) Q st:=by
 rw[binarySort'_eq];dsimp only;have em:max ok 1=ok:=Nat.max_eq_left h1;rw[em];refine WM (Y3 (I:=λi c st'=>c=(none,Unit.unit)/\QB a₀ κ st'/\pendingOf st'=pendingOf st/\R7 lo (arrOf st) (arrOf st')/\ok<=i/\i<=n/\On blt (arrOf st') lo (lo+i)) ?_ ?_
  {M,JZ,M,λ_ _=>M,Q5 _,hok,hs})
 .rintro k c st' a9 aa ⟨rfl,Y,hp,hk,h2,h3,G⟩;refine WM (Y3 (I:=λi c st2=>st2=st'/\∃l r,c=(none,l,r)/\l<=r/\r<=k/\r-l<=k-i/\(∀j,j<l->le blt (g (arrOf st')<|lo+j) (g (arrOf st')<|lo+k))/\(∀j,r<=j->j<k->le blt (g (arrOf st')<|lo+k) (g (arrOf st')<|lo+j))) ?_ ?_
   {M,0,k,M,Za _,Q5 _,Q5 _,λj hj=>WN hj<|Nat.not_lt_zero _,λj a b=>()})
  .rintro i c st2 ah an ⟨rfl,l,r,rfl,a0,a3,hm,z,above⟩;dsimp only;by_cases Z:l>=r
   .rw[WJ Z];refine WQ ?_;dsimp only;have a4:l=r:=();refine WM<|EQ Y () () λa5 B3 O hy=>WQ {M,B3,O.trans hp,λq hq=>?_,(),(),?_}
    .rw[hy q,WI (),WI ()];exact hk q hq
    .intro a b ha U hb;rw[hy a,hy b];by_cases b1:b=lo+l
     .rw[WJ b1,WI (),WI ()];have:=z (a-lo) ();rwa [show lo+(a-lo)=a by lia]at this
     .rw[WI b1];by_cases b2:lo+l<b/\b<=lo+k
      .rw[WJ b2];by_cases a1:a=lo+l
       .rw[WJ a1];have:=above (b-1-lo) () ();rwa [show lo+(b-1-lo)=b-1 by lia]at this
       .rw[WI a1];by_cases a2:lo+l<a/\a<=lo+k
        .rw[WJ a2];exact G _ _ () () ()
        .rw[WI a2];exact G _ _ () () ()
      .rw[WI b2,WI (),WI ()];exact G _ _ ha U ()
   .rw[WI Z];refine WM<|sG L Y () () ?_;dsimp only;cases e:blt (g (arrOf st2)<|lo+k) (g (arrOf st2)<|lo+(l+r)/2)with
    |true=>
     rw[WJ M];refine WQ {M,l,(l+r)/2,M,(),(),(),z,λj a b=>?_};by_cases ej:j=(l+r)/2
     .subst ej;exact C.of_lt e
     .exact C.trans (C.of_lt e)<|G _ _ () () ()
    |false=>
     rw[WI (_)];refine WQ {M,(l+r)/2+1,r,M,(),(),(),λj a=>?_,above};by_cases ej:j=(l+r)/2
     .subst ej;exact e
     .exact C.trans (G _ _ () () ()) e
  .rintro c st2 ⟨rfl,l,r,rfl,a0,a3,hm,z,above⟩;have ek:max 0 k=k:=ZO (Za _);rw[ek]at hm;have a4:l=r:=();dsimp only;refine WM<|EQ Y () () λa5 B3 O hy=>WQ {M,B3,O.trans hp,λq hq=>?_,(),(),?_}
   .rw[hy q,WI (),WI ()];exact hk q hq
   .intro a b ha U hb;rw[hy a,hy b];by_cases b1:b=lo+l
    .rw[WJ b1,WI (),WI ()];have:=z (a-lo) ();rwa [show lo+(a-lo)=a by lia]at this
    .rw[WI b1];by_cases b2:lo+l<b/\b<=lo+k
     .rw[WJ b2];by_cases a1:a=lo+l
      .rw[WJ a1];have:=above (b-1-lo) () ();rwa [show lo+(b-1-lo)=b-1 by lia]at this
      .rw[WI a1];by_cases a2:lo+l<a/\a<=lo+k
       .rw[WJ a2];exact G _ _ () () ()
       .rw[WI a2];exact G _ _ () () ()
     .rw[WI b2,WI (),WI ()];exact G _ _ ha U ()
 .rintro c st' ⟨rfl,Y,hp,hk,h2,h3,G⟩;have e:max ok n=n:=ZO hok;rw[e]at G;exact WQ (h st' Y hp G hk)
noncomputable def LI:Bool->Keyed->Array Keyed->Nat->Nat->Nat->StateT SortSt Sem (Option Nat):=sortPriv%PySem.Builtin.gallop
omit L in
theorem z8{f:Nat->Option γ×Nat×Nat->StateT SortSt Sem (ForInStep<|Option γ×Nat×Nat)}{Q:Option γ×Nat×Nat->SortSt->Prop}(G:Nat->Bool)(mono:∀i j,i<=j->j<n->G j=true->G i=true)
  (hf:∀(i lo hi:Nat)(R:ForInStep (Option γ×Nat×Nat)->SortSt->Prop),hi<=n->(lo>=hi->R (.done (none,lo,hi)) st)->(lo<hi->G (lo+(hi-lo)/2)=true->R (.yield (none,lo+(hi-lo)/2+1,hi)) st)->(lo<hi->G (lo+(hi-lo)/2)=false->R (.yield (none,lo,lo+(hi-lo)/2)) st)->wpS (model prog w) A E s (f i (none,lo,hi)) R st)
  (h1:lo<=hi) (h2:hi<=n) (ht:∀i,i<lo->G i=true) (hF:∀i,hi<=i->i<n->G i=false)
  (h:∀k,k<=n->(∀i,i<k->G i=true)->(∀i,k<=i->i<n->G i=false)->Q (none,k,k) st):wpS (model prog w) A E s (forIn [0:n] (none,lo,hi) f) Q st:=by
 refine Y3 (I:=λi c st'=>st'=st/\∃lo hi,c=(none,lo,hi)/\lo<=hi/\hi<=n/\hi-lo<=n-i/\(∀i,i<lo->G i=true)/\(∀i,hi<=i->i<n->G i=false)) ?_ ?_
  {M,lo,hi,M,h1,h2,(),ht,hF}
 .rintro i c st' a0 a1 ⟨rfl,lo,hi,rfl,g1,O,Z,U,Y⟩;refine hf i lo hi _ O (λz=>?_) (λz e=>?_)<|λz e=>?_
  .have e:lo=hi:=();subst e;exact h lo O U Y
  .exact{M,_,_,M,(),O,(),λj hj=>mono j _ () () e,Y}
  .refine{M,_,_,M,(),(),(),U,λj a b=>?_};cases q:G j with
   |false=>rfl
   |true=>rw[mono _ j a b q]at e;cases e
 .rintro c st' ⟨rfl,lo,hi,rfl,g1,O,Z,U,Y⟩;have em:max 0 n=n:=ZO (Za _);rw[em]at Z;have e:lo=hi:=();subst e;exact h lo O U Y
theorem iN{left:Bool}{key:Keyed}{arr:Sd}{base hint:Nat}{Q:Option Nat->SortSt->Prop}(hK:kindOf st=κ)(hk:key∈a₀)(ha:∀i,i<n->base+i<arr.size/\g arr (base+i)∈a₀)(hh:hint<n)
  (U:Nat->Bool) (a9:∀i,i<n->U i=if left=true then blt (g arr<|base+i) key else !blt key (g arr<|base+i)) (mono:∀i j,i<=j->j<n->U j=true->U i=true)
  (h:∀k,k<=n->(∀i,i<k->U i=true)->(∀i,k<=i->i<n->U i=false)->Q (some k) st):wpS (model prog w) A E s (LI left key arr base n hint) Q st:=by
 have a0:∀(i:Nat)(R:Option Bool->SortSt->Prop),i<n->R (some<|U i) st->wpS (model prog w) A E s (elem' arr (base+i)>>=λx=>if left=true then lt' x key else lt' key x>>=λr=>pure<|r.map λx=>!x) R st:=by
  intro i R hi q;let{h1,h2}:=ha i hi;rw[elem'_eq,e7 h1];refine WM<|WQ ?_;have e:=a9 i hi;cases left with
  |true=>
   rw[WJ M]at e⊢;exact L _ _ st R h2 hk hK<|by rw[<-e];exact q
  |false=>
   rw[WI (_)]at e⊢;refine WM<|L _ _ st _ hk h2 hK (WQ ?_);show R (some<|!blt key (g arr<|base+i)) st;rw[<-e];exact q
 refine WM ?_;dsimp only;refine a0 hint _ hh ?_;dsimp only;cases e0:U hint with
 |true=>
  rw[WJ M];refine WM (Yj (Y3 (I:=λi c st'=>st'=st/\∃O G,c=(none,O,G)/\O<G/\i+1<=G/\hint+O<n/\U (hint+O)=true)
   (Q:=λc st'=>st'=st/\∃O G,c=(none,O,G)/\O<G/\hint+O<n/\U (hint+O)=true/\(n-hint<=G\/(hint+G<n/\U (hint+G)=false))) ?_ ?_ {M,0,1,M,(by omega),(by omega),(by omega),e0}) ?_)
  .rintro i c st' aa ah ⟨rfl,O,G,rfl,a1,a2,Z,Y⟩;dsimp only;by_cases z:G>=n-hint
   .rw[WJ z];exact WQ {M,O,G,M,a1,Z,Y,.inl z}
   .rw[WI z];refine WM<|a0 (hint+G) _ (by omega) ?_;dsimp only;cases e:U (hint+G)with
    |false=>
     rw[WJ (_)];exact WQ {M,O,G,M,a1,Z,Y,.inr {(by omega),e}}
    |true=>
     rw[WI (_)];exact WQ {M,G,2*G+1,M,(by omega),(by omega),(by omega),e}
  .rintro c st' ⟨rfl,O,G,rfl,a1,a2,Z,Y⟩;have em:max 0 n=n:=ZO (Za _);rw[em]at a2;exact{M,O,G,M,a1,Z,Y,.inl (by omega)}
  .rintro c st' ⟨rfl,O,G,rfl,a1,Z,Y,a5⟩;dsimp only;refine WM<|z8 U mono (λi lo hi R hn c1 c2 c3=>?_) (by omega) (by omega) (λi hi=>mono i (hint+O) (by omega) Z Y) (λi h1 h2=>?_) λk h1 h2 h3=>?_
   .dsimp only;by_cases z:lo>=hi
    .rw[WJ z];exact WQ<|c1 z
    .rw[WI z];refine WM<|a0 _ _ (by omega) ?_;dsimp only;cases e:U (lo+(hi-lo)/2)with
     |true=>rw[WJ M];exact WQ<|c2 (by omega) e
     |false=>rw[WI (_)];exact WQ<|c3 (by omega) e
   .rcases a5 with z|⟨z1,z2⟩
    .omega
    .cases q:U i with
     |false=>rfl
     |true=>rw[mono (hint+G) i (by omega) h2 q]at z2;cases z2
   .exact WQ<|h k h1 h2 h3
 |false=>
  rw[WI (_)];refine WM (Yj (Y3 (I:=λi c st'=>st'=st/\∃O G,c=(none,O,G)/\O<G/\i+1<=G/\O<=hint/\U (hint-O)=false)
   (Q:=λc st'=>st'=st/\∃O G,c=(none,O,G)/\O<G/\O<=hint/\U (hint-O)=false/\(hint+1<=G\/(G<=hint/\U (hint-G)=true))) ?_ ?_ {M,0,1,M,(by omega),(by omega),(by omega),e0}) ?_)
  .rintro i c st' aa ah ⟨rfl,O,G,rfl,a1,a2,Z,Y⟩;dsimp only;by_cases z:G>=hint+1
   .rw[WJ z];exact WQ {M,O,G,M,a1,Z,Y,.inl z}
   .rw[WI z];refine WM<|a0 (hint-G) _ (by omega) ?_;dsimp only;cases e:U (hint-G)with
    |true=>
     rw[WJ M];exact WQ {M,O,G,M,a1,Z,Y,.inr {(by omega),e}}
    |false=>
     rw[WI (_)];exact WQ {M,G,2*G+1,M,(by omega),(by omega),(by omega),e}
  .rintro c st' ⟨rfl,O,G,rfl,a1,a2,Z,Y⟩;have em:max 0 n=n:=ZO (Za _);rw[em]at a2;exact{M,O,G,M,a1,Z,Y,.inl (by omega)}
  .rintro c st' ⟨rfl,O,G,rfl,a1,Z,Y,a5⟩;dsimp only;refine WM<|z8 U mono (λi lo hi R hn c1 c2 c3=>?_) (by omega) (by omega) (λi hi=>?_) (λi h1 h2=>?_) λk h1 h2 h3=>?_
   .dsimp only;by_cases z:lo>=hi
    .rw[WJ z];exact WQ<|c1 z
    .rw[WI z];refine WM<|a0 _ _ (by omega) ?_;dsimp only;cases e:U (lo+(hi-lo)/2)with
     |true=>rw[WJ M];exact WQ<|c2 (by omega) e
     |false=>rw[WI (_)];exact WQ<|c3 (by omega) e
   .rcases a5 with z|⟨z1,z2⟩
    .omega
    .exact mono i (hint-G) (by omega) (by omega) z2
   .cases q:U i with
    |false=>rfl
    |true=>rw[mono (hint-O) i (by omega) h2 q]at Y;cases Y
   .exact WQ<|h k h1 h2 h3
end
abbrev _root_.Sx:=List Keyed
variable{A:Sj}{a₀:Sd}{x:Keyed}{blt:Sr}{R:Keyed->SortSt->Prop}{all o ra rb:Sx}{i n:Nat}{prog:Se}{JZ:Prop}{s:J'}{κ:SortKind}{st:SortSt}{r:Std.Legacy.Range}{α β:Type}{Q:Unit->SortSt->Prop}{E:Sg}{w:Sf}
noncomputable def IF:Array Keyed->Array Keyed->StateT SortSt Sem (Array Keyed):=sortPriv%PySem.Builtin.mergeLo
noncomputable def IG:Array Keyed->Array Keyed->StateT SortSt Sem (Array Keyed):=sortPriv%PySem.Builtin.mergeHi
abbrev PW(blt:Sr)(l:Sx):Prop:=l.Pairwise (le blt)
structure Lo(blt:Sr)(all o ra rb:Sx):Prop where
 perm:(o++(ra++rb)).Perm all
 srt:PW blt o
 low:∀x∈o,∀y∈ra++rb,le blt x y
theorem Lo.a{G:Sx}(h:Lo blt all o (G++ra) rb)(hs:PW blt (G++ra))(hc:∀x∈G,∀y∈rb,le blt x y):Lo blt all (o++G) ra rb where
 perm:=by
  refine Y9 ?_ h.perm;rw[Z9,Z9]
 srt:=Zc.mpr {h.srt,(Zc.mp hs).1,λx hx y hy=>h.low x hx y<|by simp[hy]}
 low:=λx hx y hy=>by
  rcases Q6.mp hx with q|q
  .exact h.low x q y<|by rcases Q6.mp hy with z|z<;>simp[z]
  .rcases Q6.mp hy with z|z
   .exact(Zc.mp hs).2.2 x q y z
   .exact hc x q y z
theorem Lo.b{G:Sx}(h:Lo blt all o ra (G++rb))(hs:PW blt (G++rb))(hc:∀x∈G,∀y∈ra,le blt x y):Lo blt all (o++G) ra rb where
 perm:=by
  refine Y9 ?_ h.perm;rw[Z9];refine Yi o ?_;rw[<-Z9,<-Z9];exact Y8 rb Vd
 srt:=Zc.mpr {h.srt,(Zc.mp hs).1,λx hx y hy=>h.low x hx y<|by simp[hy]}
 low:=λx hx y hy=>by
  rcases Q6.mp hx with q|q
  .exact h.low x q y<|by rcases Q6.mp hy with z|z<;>simp[z]
  .rcases Q6.mp hy with z|z
   .exact hc x q y z
   .exact(Zc.mp hs).2.2 x q y z
theorem Lo.endA(h:Lo blt all o ra [])(hs:PW blt ra):(o++ra).Perm all/\PW blt (o++ra):=
 {by simpa using h.perm,Zc.mpr {h.srt,hs,λx hx y hy=>h.low x hx y<|by simp[hy]}}
theorem Lo.endB{z:Keyed}(h:Lo blt all o [z] rb)(hs:PW blt rb)(hz:∀x∈rb,le blt x z):(o++(rb++ [z])).Perm all/\PW blt (o++(rb++ [z])):=by
 refine{Y9 (Yi o Vd) h.perm,Zc.mpr {h.srt,Zc.mpr {hs,Xk _ _,λx hx y hy=>?_},λx hx y hy=>h.low x hx y ?_}}
 .rw[Q9.mp hy];exact hz x hx
 .rcases Q6.mp hy with q|q<;>simp_all
theorem yq{a:Sd}(h:i<a.size):a.toList.drop i=g a i::a.toList.drop (i+1):=by
 have e:=e7 h;rw[<-Zz]at e;let{h1,h2}:=Q3.mp e;rw[Xd h1,h2]
theorem mO{a:Sd}(h:x∈a.toList.drop i):∃j,i<=j/\j<a.size/\x=g a j:=by
 let{k,hk,e}:=Vk.mp h;rw[Zw]at hk;have hs:i+k<a.size:=by rw[<-Z3];lia
 refine{i+k,(),hs,?_};have e2:=e7 hs;rw[<-Zz]at e2;rw[V9]at e;rw[Q4 (by rwa[Z3])]at e2;rw[<-e];exact WL e2
theorem jd{a:Sd}(h:On blt a 0 a.size)(i:Nat):PW blt (a.toList.drop i):=by
 refine ZW.mpr λj k G hk I=>?_;rw[Zw,Z3]at G hk;have z:=e7 (xs:=a) (i:=i+j) (by omega);have e2:=e7 (xs:=a) (i:=i+k) (by omega);rw[<-Zz,Q4 (by rw[Z3];omega)]at z e2;rw[V9,V9,WL z,WL e2];exact h _ _ (Za _) (by omega) (by omega)
theorem Iq{a:Sd}(h:PW blt a.toList):On blt a 0 a.size:=λi j _ z I=>by
 have G:=e7 (xs:=a) (i:=i) ();have e2:=e7 (xs:=a) (i:=j) I;rw[<-Zz,Q4 (by rw[Z3];lia)]at G e2;rw[<-WL G,<-WL e2];exact ZW.mp h i j _ _ z
theorem t9(a:Sd)(i k:Nat):(a.extract i<|i+k).toList=(a.toList.drop i).take k:=by
 rw[Xi,ZX];congr 1;lia
theorem iO(a:Sd)(i:Nat):(a.extract i).toList=a.toList.drop i:=by
 rw[Xi,ZX,Zo];rw[Zw,Z3];exact Q5 _
theorem IH{a:Sd}{k:Nat}(h:x∈(a.toList.drop i).take k):∃j,j<k/\x=g a (i+j):=by
 let{j,z,e}:=Vk.mp h;rw[Q7,Zw,Z3]at z;refine{j,(by omega),?_};have e2:=e7 (xs:=a) (i:=i+j) (by omega);rw[<-Zz,Q4 (by rw[Z3];omega)]at e2;rw[XT,V9]at e;rw[<-e];exact WL e2
theorem Di(l:Sx)(i k:Nat):l.drop i=(l.drop i).take k++l.drop (i+k):=by
 rw[<-WC,ZI]
theorem Fj{P H:α->Prop}(body:(∀x,H x->P x)->JZ)(last:∀x,H x->P x):JZ:=body last
theorem tO{P H:α->β->Prop}(body:(∀x y,H x y->P x y)->JZ)(last:∀x y,H x y->P x y):JZ:=body last
structure QJ(st st':SortSt):Prop where
 kind:kindOf st'=kindOf st
 arr:arrOf st'=arrOf st
 pend:pendingOf st'=pendingOf st
 fail:failedOf st'=failedOf st
theorem QJ.refl(st:SortSt):QJ st st:=⟨M,M,M,M⟩
section
theorem bX{arr:Sd}(h:i<arr.size)(q:R (g arr i) st):wpS (model prog w) A E s (elem' arr i) R st:=by
 rw[elem'_eq,e7 h];exact WQ q
noncomputable def Eb:Nat->StateT SortSt Sem Unit:=sortPriv%PySem.Builtin.setMinGallop
theorem Hu{m:Nat}(h:∀st',QJ st st'->Q Unit.unit st'):wpS (model prog w) A E s (Eb m) Q st:=Yb (h _ ⟨M,M,M,M⟩)
theorem nmK{m:StateT SortSt Sem α}{k:α->StateT SortSt Sem β}{Q:β->SortSt->Prop}(h:let k':=k;wpS (model prog w) A E s (m>>=k') Q st):wpS (model prog w) A E s (m>>=k) Q st:=h
theorem nmF{γ:Type}{c:β}{f:Nat->β->StateT SortSt Sem (ForInStep β)}{k:β->StateT SortSt Sem γ}{Q:γ->SortSt->Prop}(h:let z:=f;let k':=k;wpS (model prog w) A E s (forIn r c z>>=k') Q st):wpS (model prog w) A E s (forIn r c f>>=k) Q st:=h
inductive MQ{δ:Type}(Q:Array Keyed->Prop)(I:Option (Array Keyed)×δ->Prop):Option (Array Keyed)×δ->Prop
 |ret{res x}(q:Q res):MQ Q I (some res,x)
 |go{c}(h:I c):MQ Q I c
inductive SS(blt:Sr)(a b:Sd){τ:Type}(n:Nat):Option (Array Keyed)×Array Keyed×Nat×Nat×τ->Prop
 |mk{out ia ib x}(ha:ia+1<a.size)(hb:ib<b.size)(hn:n<=ia+ib)(lo:Lo blt (a.toList++b.toList) out.toList (a.toList.drop ia) (b.toList.drop ib)):SS blt a b n (none,out,ia,ib,x)
theorem QJ.trans{st' st2:SortSt}(h:QJ st st')(k:QJ st' st2):QJ st st2:={k.kind.trans h.kind,k.arr.trans h.arr,k.pend.trans h.pend,k.fail.trans h.fail}
theorem ID{a:Sd}(C:RI blt)(G:On blt a 0 a.size)(ka:Nat)(x:Keyed)(i j:Nat)(h1:i<=j)(h2:ka+j<a.size)(z:(!blt x (g a<|ka+j))=true):(!blt x (g a<|ka+i))=true:=by
 have z:blt x (g a<|ka+j)=false:=by simpa using z
 by_cases e:i=j
 .subst e;simpa using z
 .have:=C.trans (G (ka+i) (ka+j) (Za _) () h2) z;simpa using this
theorem IC{b:Sd}(C:RI blt)(ob:On blt b 0 b.size)(G:Nat)(x:Keyed)(i j:Nat)(h1:i<=j)(h2:G+j<b.size)(I:blt (g b<|G+j) x=true):blt (g b<|G+i) x=true:=by
 by_cases e:i=j
 .subst e;exact I
 .have q:=ob (G+i) (G+j) (Za _) () h2;cases z:blt (g b<|G+i) x with
  |true=>rfl
  |false=>
   have f:blt (g b<|G+j) x=false:=C.trans z q;rw[I]at f;cases f
variable(L:Dy prog w A E s a₀ κ blt)
include L
theorem DU{a b:Sd}{Q:Array Keyed->SortSt->Prop}(C:RI blt)(hK:kindOf st=κ)(hm:∀x,x∈a.toList++b.toList->x∈a₀)(oa:On blt a 0 a.size)(ob:On blt b 0 b.size)(ha:0<a.size)(hb:0<b.size)
  (a5:blt (g b 0) (g a 0)=true) (aw:∀j,j<b.size->blt (g b j) (g a<|a.size-1)=true)
  (h:∀res st',QJ st st'->res.toList.Perm (a.toList++b.toList)->PW blt res.toList->Q res st'):wpS (model prog w) A E s (IF a b) Q st:=by
 have ma:∀i,i<a.size->g a i∈a₀:=λi hi=>hm _ (by have:=AC hi;simp[this]);have mb:∀i,i<b.size->g b i∈a₀:=λi hi=>hm _ (by have:=AC hi;simp[this]);have ax:∀(o:Sx)(G:Nat)(st':SortSt)(res:Sd),QJ st st'->Lo blt (a.toList++b.toList) o (a.toList.drop G) []->res.toList=o++a.toList.drop G->Q res st':=λo G st' res lk lo e=>by
  let{p1,p2}:=lo.endA (jd oa G);exact h res st' lk (by rwa[e])<|by rwa[e]
 have b2:∀(o:Sx)(O:Nat)(st':SortSt)(res:Sd),QJ st st'->Lo blt (a.toList++b.toList) o (a.toList.drop<|a.size-1) (b.toList.drop O)->res.toList=o++(b.toList.drop O++a.toList.drop (a.size-1))->Q res st':=λo O st' res lk lo e=>by
  have ez:a.toList.drop (a.size-1)=[g a (a.size-1)]:=by
   rw[yq (),Xr (by rw[Z3];lia)]
  rw[ez]at lo e;let{p1,p2}:=lo.endB (jd ob O) (λx hx=>by
   let{j,_,hj,rfl}:=mO hx;exact C.of_lt<|aw j hj)
  exact h res st' lk (by rwa[e])<|by rwa[e]
 have a9:∀(out:Sd)(G O k:Nat),Lo blt (a.toList++b.toList) out.toList (a.toList.drop G) (b.toList.drop O)->(∀i,i<k->blt (g b O) (g a<|G+i)=false)->
   Lo blt (a.toList++b.toList) (out++a.extract G (G+k)).toList (a.toList.drop<|G+k) (b.toList.drop O):=λout G O k lo hk=>by
  rw[ZJ,t9];have pa:=jd oa G;rw[Di a.toList G k]at lo pa;refine lo.a pa λx hx y hy=>?_;let{i,hi,rfl}:=IH hx;let{j,bb,bd,rfl}:=mO hy;rcases Nat.eq_or_lt_of_le bb with ej|ej
  .rw[<-ej];exact hk i hi
  .exact C.trans (hk i hi)<|ob O j (Za _) ej bd
 have aa:∀(out:Sd)(G O k:Nat),Lo blt (a.toList++b.toList) out.toList (a.toList.drop G) (b.toList.drop O)->(∀i,i<k->blt (g b<|O+i) (g a G)=true)->
   Lo blt (a.toList++b.toList) (out++b.extract O (O+k)).toList (a.toList.drop G) (b.toList.drop<|O+k):=λout G O k lo hk=>by
  rw[ZJ,t9];have pb:=jd ob O;rw[Di b.toList O k]at lo pb;refine lo.b pb λx hx y hy=>?_;let{i,hi,rfl}:=IH hx;let{j,bb,bd,rfl}:=mO hy;have l1:=C.of_lt (hk i hi);rcases Nat.eq_or_lt_of_le bb with ej|ej
  .rwa[<-ej]
  .exact C.trans l1<|oa G j (Za _) ej bd
 have one:∀(x:Sd)(i:Nat),i<x.size->(x.extract i<|i+1)= #[g x i]:=λx i hi=>by
  apply Array.ext';rw[t9,yq hi];rfl
 have b3:∀(out:Sd)(G O:Nat),G<a.size->O<b.size->Lo blt (a.toList++b.toList) out.toList (a.toList.drop G) (b.toList.drop O)->blt (g b O) (g a G)=true->
   Lo blt (a.toList++b.toList) (out.push<|g b O).toList (a.toList.drop G) (b.toList.drop<|O+1):=λout G O h1 h2 lo hk=>by
  have:=aa out G O 1 lo λi hi=>by rwa[Nat.lt_one_iff.mp hi]
  rwa [one b O h2,<-Vl]at this
 have b4:∀(out:Sd)(G O:Nat),G<a.size->O<b.size->Lo blt (a.toList++b.toList) out.toList (a.toList.drop G) (b.toList.drop O)->blt (g b O) (g a G)=false->
   Lo blt (a.toList++b.toList) (out.push<|g a G).toList (a.toList.drop<|G+1) (b.toList.drop O):=λout G O h1 h2 lo hk=>by
  have:=a9 out G O 1 lo λi hi=>by rwa[Nat.lt_one_iff.mp hi]
  rwa [one a G h1,<-Vl]at this
 have endA:∀(out:Sd)(G O:Nat)(st':SortSt),QJ st st'->b.size<=O->Lo blt (a.toList++b.toList) out.toList (a.toList.drop G) (b.toList.drop O)->Q (out++a.extract G++b.extract O) st':=λout G O st' lk hb lo=>by
  have en:b.toList.drop O=[]:=Xr (by rwa[Z3]);rw[en]at lo;refine ax _ G st' _ lk lo ?_;rw[ZJ,ZJ,iO,iO,en,ZL]
 have endB:∀(out:Sd)(G O:Nat)(st':SortSt),QJ st st'->G+1=a.size->Lo blt (a.toList++b.toList) out.toList (a.toList.drop G) (b.toList.drop O)->Q (out++b.extract O++a.extract G) st':=λout G O st' lk ha lo=>by
  have en:G=a.size-1:=by rw[<-ha,Nat.add_sub_cancel]
  refine b2 out.toList O st' _ lk (by rwa[<-en]) ?_;rw[ZJ,ZJ,iO,iO,<-en,Z9]
 refine WM ?_;dsimp only;refine wpS_lift<|Ym {M,?_};refine nmK ?_;intro k0;refine WM<|bX hb ?_;have start:Lo blt (a.toList++b.toList) [g b 0] (a.toList.drop 0) (b.toList.drop 1):=by
  have l0:Lo blt (a.toList++b.toList) [] (a.toList.drop 0) ([g b 0]++b.toList.drop 1):=by
   refine{?_,Y4,λx hx=>WN hx Xv};have e:=yq hb;rw[Xj]at e;rw[Xj,Ww,List.singleton_append,<-e]
  have:=l0.b (by have:=jd ob 0;rw[yq hb]at this;exact this) (λx hx y hy=>by
   rw[Q9.mp hx];let{j,_,hj,rfl}:=mO hy;by_cases j0:j=0
   .rw[j0];exact C.of_lt a5
   .exact C.trans (C.of_lt a5)<|oa 0 j (Q5 _) (Vs j0) hj)
  simpa using this
 dsimp only[k0];by_cases b1:1=b.size
 .have eb:(1==b.size)=true:=WW.mpr b1;rw[WJ eb];refine WQ ?_;have en:b.toList.drop 1=[]:=Xr (by rw[Z3];exact ZT b1.symm);rw[en]at start;refine ax _ 0 st _ (QJ.refl _) start ?_;simp[b1]
 .have eb:¬(1==b.size)=true:=by simpa using b1
  rw[WI eb];by_cases a1:0+1=a.size
  .have ea:(0+1==a.size)=true:=WW.mpr a1;rw[WJ ea];refine WQ ?_;have e0:a.size-1=0:=by rw[<-a1]
   refine b2 [g b 0] 1 st _ (QJ.refl _) (by rw[e0];exact start) ?_;rw[e0,ZJ,ZJ,iO,iO,Z9]
  .have ea:¬(0+1==a.size)=true:=by simpa using a1
   rw[WI ea];refine nmK ?_;intro k1;refine WM<|Yl ?_;dsimp only[k1];refine nmF ?_;intro f1 k2;refine WM (Yj (Y3 (I:=λi c st'=>QJ st st'/\SS blt a b i c) (Q:=λc st'=>MQ (Q · st') (λ_=>False) c) ?_ ?_ {QJ.refl _,ZF ha a1,ZF hb b1,Za _,start}) ?_)
   .rintro i c st'- -⟨lk,@⟨out,G,O,mg,c4,hb1,hi,lo⟩⟩;have c5:kindOf st'=κ:=lk.kind.trans hK;dsimp only[f1];refine nmF ?_;intro f2 k3;refine WM (Yj (Y3 (I:=λ_ c st2=>st2=st'/\SS blt a b i c) (Q:=λc st2=>st2=st'/\MQ (Q · st') (SS blt a b i) c) ?_ (λc st2 h=>{h.1,.go h.2}) ⟨M,c4,hb1,hi,lo⟩) ?_)
    .rintro j c st2- -⟨rfl,@⟨out,ja,jb,x,ah,Z,U,lo⟩⟩;dsimp only[f2];have b5:=Wg ah;refine WM<|bX Z (WM<|bX b5<|WM<|L _ _ _ _ (mb jb Z) (ma ja b5) c5 ?_);dsimp only;cases e:blt (g b jb) (g a ja)with
     |true=>
      rw[WJ M];have a2:=b3 out ja jb b5 Z lo e;refine WM<|bX Z ?_;by_cases z:jb+1=b.size
      .rw[WJ (WW.mpr z)];exact WQ {M,.ret<|endA _ ja (jb+1) _ lk (ZT z.symm) a2}
      .rw[WI (by simpa using z)];have hz:jb+1<b.size:=ZF Z z;have U:=Xl U;split
       .exact WQ {M,.go ⟨ah,hz,U,a2⟩}
       .exact WQ ⟨M,ah,hz,U,a2⟩
     |false=>
      rw[WI (_)];have a2:=b4 out ja jb b5 Z lo e;refine WM<|bX b5 ?_;by_cases z:ja+1+1=a.size
      .rw[WJ (WW.mpr z)];exact WQ {M,.ret<|endB _ (ja+1) jb _ lk z a2}
      .rw[WI (by simpa using z)];have hz:ja+1+1<a.size:=ZF ah z;have U:i<=ja+1+jb:=by rw[Nat.add_right_comm];exact Xl U
       split
       .exact WQ {M,.go ⟨hz,Z,U,a2⟩}
       .exact WQ ⟨M,hz,Z,U,a2⟩
    .rintro c st2 ⟨rfl,⟨q⟩| @⟨_,@⟨out,ja,jb,x,ah,Z,U,lo⟩⟩⟩
     .exact WQ<|.ret q
     .dsimp only[k3];refine nmK ?_;intro k5;refine WM<|wpS_lift (Ym {M,?_});dsimp only[k5];refine nmF ?_;intro f3 k6;refine WM (Yj (Y3 (I:=λj c a3=>QJ st a3/\SS blt a b (i+j) c) (Q:=λc a3=>QJ st a3/\MQ (Q · a3) (SS blt a b<|i+1) c) ?_ ?_ ⟨lk,ah,Z,U,lo⟩) ?_)
      .rintro j c a3- -⟨a4,@⟨out,ka,Y,⟨m',x⟩,ba,a0,U,lo⟩⟩;dsimp only[f3];apply Fj (α:=Nat) (H:=λ_=>True)
       .intro key;by_cases m1:m'>1
        .rw[WJ m1];generalize m'-1=mm;exact key mm trivial
        .rw[WI m1];exact key m' trivial
       intro mm _;refine nmK ?_;intro k7;refine WM<|Hu λc8 lk4=>?_;replace lk4:=a4.trans lk4;have bo:kindOf c8=κ:=lk4.kind.trans hK;dsimp only[k7];refine nmK ?_;intro k8;refine WM<|bX a0 ?_;refine nmK ?_;intro k9;have c9:=Wg ba;refine WM<|iN L bo (mb Y a0) (λi hi=>{Xe hi,ma _<|Xe hi}) (Wi c9) (λi=>!blt (g b Y) (g a<|ka+i)) (λi hi=>M) (λi j h1 h2 h3=>ID C oa ka _ i j h1 (Xe h2) h3) λk ca be bt=>?_;have c0:k<a.size-ka:=by
        rcases Nat.lt_or_ge k (a.size-ka)with z|z
        .exact z
        .have f:=be (a.size-1-ka) ();rw[show ka+(a.size-1-ka)=a.size-1 by lia,aw Y a0]at f;cases f
       have c3:∀i,i<k->blt (g b Y) (g a<|ka+i)=false:=λi hi=>by have:=be i hi;simpa using this
       have bw:blt (g b Y) (g a<|ka+k)=true:=by have:=bt k (Q5 _) c0;simpa using this
       clear ca be bt;dsimp only[k9];apply tO (H:=λ(kc:Nat)(o':Array Keyed)=>ka<=kc/\kc+1<a.size/\Lo blt (a.toList++b.toList) o'.toList (a.toList.drop kc) (b.toList.drop Y)/\blt (g b Y) (g a kc)=true)
       .intro key;by_cases k0:k>0
        .rw[WJ k0];have lo1:=a9 out ka Y k lo c3;by_cases z:ka+k+1=a.size
         .rw[WJ (WW.mpr z)];exact WQ {lk4,.ret<|endB _ (ka+k) Y _ lk4 z lo1}
         have kk:=Xe c0;have zz:¬ka+k=a.size:=ZG kk;rw[WI (by simpa using z),WI (by simpa using zz)];have k5:ka<=ka+k/\ka+k+1<a.size:={Nat.le_add_right _ _,ZF kk z};have bv:=bw;generalize out++a.extract ka (ka+k)=o' at lo1⊢;generalize ka+k=kc at lo1 bv k5⊢;exact key kc o' ⟨k5.1,k5.2,lo1,bv⟩
        .rw[WI k0];have bv:=bw;rw[Nat.eq_zero_of_not_pos k0,V8]at bv;exact key ka out {Q5 _,ba,lo,bv}
       intro kc o' hc;let{c1,c2,lo1,bw}:=hc;refine nmK ?_;intro cb;refine WM<|bX a0 ?_;have b9:=Wg c2;have bf:=b3 _ kc Y b9 a0 lo1 bw;dsimp only[cb];by_cases z2:Y+1=b.size
       .rw[WJ (WW.mpr z2)];exact WQ {lk4,.ret<|endA _ kc (Y+1) _ lk4 (ZT z2.symm) bf}
       rw[WI (by simpa using z2)];refine nmK ?_;intro ce;refine WM<|bX b9 ?_;refine nmK ?_;intro cc;have bl:Y+1<b.size:=ZF a0 z2;refine WM<|iN L bo (ma _ b9) (λi hi=>{Xe hi,mb _<|Xe hi}) (Wi bl) (λi=>blt (g b<|Y+1+i)<|g a kc) (λi hi=>M) (λi j h1 h2 h3=>IC C ob (Y+1) _ i j h1 (Xe h2) h3) λk2 h1 h2 h3=>?_;dsimp only[cc];apply tO (H:=λ(kd:Nat)(o2:Array Keyed)=>Y+1<=kd/\kd<b.size/\Lo blt (a.toList++b.toList) o2.toList (a.toList.drop kc) (b.toList.drop kd)/\blt (g b kd) (g a kc)=false)
       .intro key;by_cases q0:k2>0
        .rw[WJ q0];have an:=aa _ kc (Y+1) k2 bf h2;by_cases z3:Y+1+k2=b.size
         .rw[WJ (WW.mpr z3)];exact WQ {lk4,.ret<|endA _ kc (Y+1+k2) _ lk4 (ZT z3.symm) an}
         rw[WI (by simpa using z3)];have w3:=h3 k2 (Q5 _) ();have k5:Y+1<=Y+1+k2/\Y+1+k2<b.size:=();generalize o'.push (g b Y)++b.extract (Y+1) (Y+1+k2)=o2 at an⊢;generalize Y+1+k2=kd at an w3 k5⊢;exact key kd o2 ⟨k5.1,k5.2,an,w3⟩
        .rw[WI q0];have w3:blt (g b<|Y+1) (g a kc)=false:=h3 0 (Nat.le_of_not_lt q0) (Wi bl);exact key (Y+1) _ {Q5 _,bl,bf,w3}
       intro kd o2 hd;let{d1,d2,an,w3}:=hd;refine WM<|bX b9 ?_;have bn:=b4 _ kc kd b9 d2 an w3;have U:i+(j+1)<=kc+1+kd:=();by_cases z4:kc+1+1=a.size
       .rw[WJ (WW.mpr z4)];exact WQ {lk4,.ret<|endB _ (kc+1) kd _ lk4 z4 bn}
       rw[WI (by simpa using z4)];have hz:kc+1+1<a.size:=ZF c2 z4;split
       .exact WQ {lk4,.go {hz,d2,Zl (XX (Nat.le_add_left 1 j) i) U,bn}}
       .exact WQ ⟨lk4,hz,d2,U,bn⟩
      .rintro c a3 ⟨a4,@⟨_,ka,Y,_,_,_,U,_⟩⟩;have em:max 0 (a.size+b.size)=a.size+b.size:=ZO (Za _);rw[em]at U;lia
      .rintro c a3 ⟨a4,⟨q⟩| @⟨_,⟨ba,a0,U,lo⟩⟩⟩
       .exact WQ<|.ret q
       .dsimp only[k6];exact WM<|Yb (WQ {⟨a4.kind,a4.arr,a4.pend,a4.fail⟩,ba,a0,U,lo})
   .rintro c st' ⟨lk,@⟨_,G,O,_,_,_,hi,_⟩⟩;have em:max 0 (a.size+b.size)=a.size+b.size:=ZO (Za _);rw[em]at hi;lia
   .rintro c st' (⟨q⟩|⟨⟨⟩⟩);exact WQ q
end
structure Hi(blt:Sr)(all o ra rb:Sx):Prop where
 perm:((ra++rb)++o).Perm all
 srt:PW blt o
 high:∀x∈ra++rb,∀y∈o,le blt x y
theorem Hi.a{G:Sx}(h:Hi blt all o (ra++G) rb)(hs:PW blt (ra++G))(hc:∀x∈rb,∀y∈G,le blt x y):Hi blt all (G++o) ra rb where
 perm:=by
  refine Y9 ?_ h.perm;rw[<-Z9];refine Y8 o ?_;rw[Z9,Z9];exact Yi ra Vd
 srt:=Zc.mpr {(Zc.mp hs).2.1,h.srt,λx hx y hy=>h.high x (by simp[hx]) y hy}
 high:=λx hx y hy=>by
  rcases Q6.mp hy with q|q
  .rcases Q6.mp hx with z|z
   .exact(Zc.mp hs).2.2 x z y q
   .exact hc x z y q
  .exact h.high x (by rcases Q6.mp hx with z|z<;>simp[z]) y q
theorem Hi.b{G:Sx}(h:Hi blt all o ra (rb++G))(hs:PW blt (rb++G))(hc:∀x∈ra,∀y∈G,le blt x y):Hi blt all (G++o) ra rb where
 perm:=by
  refine Y9 ?_ h.perm;rw[<-Z9];refine Y8 o ?_;rw[Z9]
 srt:=Zc.mpr {(Zc.mp hs).2.1,h.srt,λx hx y hy=>h.high x (by simp[hx]) y hy}
 high:=λx hx y hy=>by
  rcases Q6.mp hy with q|q
  .rcases Q6.mp hx with z|z
   .exact hc x z y q
   .exact(Zc.mp hs).2.2 x z y q
  .exact h.high x (by rcases Q6.mp hx with z|z<;>simp[z]) y q
theorem HG{a:Sd}(h:i<a.size):a.toList.take (i+1)=a.toList.take i++ [g a i]:=by
 have e:=e7 h;rw[<-Zz]at e;rw[Zg,e];rfl
theorem jj{a:Sd}(h:x∈a.toList.take n):∃j,j<n/\j<a.size/\x=g a j:=by
 let{k,hk,e}:=Vk.mp h;rw[Q7,Z3]at hk;refine{k,(),(),?_};have e2:=e7 (xs:=a) (i:=k) ();rw[<-Zz,Q4 (by rw[Z3];lia)]at e2;rw[XT]at e;rw[<-e];exact WL e2
theorem fj{a:Sd}(h:x∈(a.extract i n).toList):∃j,i<=j/\j<n/\j<a.size/\x=g a j:=by
 rw[Xi,ZX]at h;let{k,hk,e}:=Vk.mp h;rw[Q7,Zw,Z3]at hk;refine{i+k,(),(),(),?_};have e2:=e7 (xs:=a) (i:=i+k) ();rw[<-Zz,Q4 (by rw[Z3];lia)]at e2;rw[XT,V9]at e;rw[<-e];exact WL e2
theorem p5{a:Sd}(h:On blt a 0 a.size)(n:Nat):PW blt (a.toList.take n):=by
 have:=jd h 0;rw[Xj]at this;exact List.Pairwise.sublist (Vv _ _) this
theorem Cp{a:Sd}(h:i<=n):a.toList.take n=a.toList.take i++(a.extract i n).toList:=by
 rw[Xi,ZX];obtain⟨k,rfl⟩:∃k,n=i+k:={n-i,()};rw[List.take_add,show i+k-i=k by lia]
theorem LP(a:Sd)(n:Nat):(a.extract 0 n).toList=a.toList.take n:=by
 rw[Xi,ZX,Xj,Nat.sub_zero]
section
inductive SN(blt:Sr)(a b:Sd){τ:Type}(n:Nat):Option (Array Keyed)×Nat×Nat×Array Keyed×τ->Prop
 |mk{na nb out x}(h1:1<=na)(h2:na<=a.size)(h3:2<=nb)(h4:nb<=b.size)(hn:na+nb+n<=a.size+b.size)(lo:Hi blt (a.toList++b.toList) out.reverse.toList (a.toList.take na) (b.toList.take nb)):SN blt a b n (none,na,nb,out,x)
variable(L:Dy prog w A E s a₀ κ blt)
include L
theorem DV{a b:Sd}{Q:Array Keyed->SortSt->Prop}(C:RI blt)(hK:kindOf st=κ)(hm:∀x,x∈a.toList++b.toList->x∈a₀)(oa:On blt a 0 a.size)(ob:On blt b 0 b.size)(ha:0<a.size)(hb:0<b.size)
  (aa:blt (g b 0) (g a 0)=true) (bv:∀j,j<b.size->blt (g b j) (g a<|a.size-1)=true)
  (h:∀res st',QJ st st'->res.toList.Perm (a.toList++b.toList)->PW blt res.toList->Q res st'):wpS (model prog w) A E s (IG a b) Q st:=by
 have ma:∀i,i<a.size->g a i∈a₀:=λi hi=>hm _ (by have:=AC hi;simp[this]);have mb:∀i,i<b.size->g b i∈a₀:=λi hi=>hm _ (by have:=AC hi;simp[this]);have ah:∀i,i<a.size->blt (g b 0) (g a i)=true:=λi hi=>by
  by_cases i0:i=0
  .rwa[i0]
  .cases z:blt (g b 0) (g a i)with
   |true=>rfl
   |false=>
    have f:blt (g b 0) (g a 0)=false:=C.trans (oa 0 i (Q5 _) () hi) z;rw[aa]at f;cases f
 have an:∀(out:Sd)(G O k:Nat),k<=G->G<=a.size->1<=O->O<=b.size->Hi blt (a.toList++b.toList) out.reverse.toList (a.toList.take G) (b.toList.take O)->(∀i,k<=i->i<G->blt (g b<|O-1) (g a i)=true)->
   Hi blt (a.toList++b.toList) (out++(a.extract k G).reverse).reverse.toList (a.toList.take k) (b.toList.take O):=λout G O k h1 h2 h3 h4 lo hk=>by
  have er:(out++(a.extract k G).reverse).reverse.toList=(a.extract k G).toList++out.reverse.toList:=by simp
  have pa:=p5 oa G;rw[Cp h1]at lo pa;rw[er];refine lo.a pa λx hx y hy=>?_;let{i,bb,bd,co,rfl}:=fj hy;let{j,be,bw,rfl}:=jj hx;have l1:=C.of_lt (hk i bb bd);by_cases ej:j=O-1
  .rwa[ej]
  .exact C.trans (ob j (O-1) (Za _) (ZF (Vw be) ej)<|ZA h3 h4) l1
 have aw:∀(out:Sd)(G O k:Nat),k<=O->O<=b.size->1<=G->G<=a.size->Hi blt (a.toList++b.toList) out.reverse.toList (a.toList.take G) (b.toList.take O)->(∀i,k<=i->i<O->blt (g b i) (g a<|G-1)=false)->
   Hi blt (a.toList++b.toList) (out++(b.extract k O).reverse).reverse.toList (a.toList.take G) (b.toList.take k):=λout G O k h1 h2 h3 h4 lo hk=>by
  have er:(out++(b.extract k O).reverse).reverse.toList=(b.extract k O).toList++out.reverse.toList:=by simp
  have pb:=p5 ob O;rw[Cp h1]at lo pb;rw[er];refine lo.b pb λx hx y hy=>?_;let{i,bb,bd,co,rfl}:=fj hy;let{j,be,bw,rfl}:=jj hx;have l1:le blt (g a<|G-1) (g b i):=hk i bb bd;by_cases ej:j=G-1
  .rwa[ej]
  .exact C.trans (oa j (G-1) (Za _) (ZF (Vw be) ej)<|ZA h3 h4) l1
 have one:∀(x:Sd)(i:Nat),i<x.size->(x.extract i<|i+1).reverse= #[g x i]:=λx i hi=>by
  have:x.extract i (i+1)= #[g x i]:=by
   apply Array.ext';rw[t9,yq hi];rfl
  rw[this];rfl
 have b4:∀(out:Sd)(G O:Nat),1<=G->G<=a.size->1<=O->O<=b.size->Hi blt (a.toList++b.toList) out.reverse.toList (a.toList.take G) (b.toList.take O)->blt (g b<|O-1) (g a<|G-1)=true->
   Hi blt (a.toList++b.toList) (out.push<|g a<|G-1).reverse.toList (a.toList.take<|G-1) (b.toList.take O):=λout G O h1 h2 h3 h4 lo hk=>by
  have:=an out G O (G-1) (WD _ _) h2 h3 h4 lo λi hi hj=>by rwa[Nat.le_antisymm (Vw hj) hi]
  rwa [show a.extract (G-1) G=a.extract (G-1) (G-1+1) by rw[Nat.sub_add_cancel h1],one a (G-1) (ZA h1 h2),<-Vl]at this
 have b5:∀(out:Sd)(G O:Nat),1<=G->G<=a.size->1<=O->O<=b.size->Hi blt (a.toList++b.toList) out.reverse.toList (a.toList.take G) (b.toList.take O)->blt (g b<|O-1) (g a<|G-1)=false->
   Hi blt (a.toList++b.toList) (out.push<|g b<|O-1).reverse.toList (a.toList.take G) (b.toList.take<|O-1):=λout G O h1 h2 h3 h4 lo hk=>by
  have:=aw out G O (O-1) (WD _ _) h4 h1 h2 lo λi hi hj=>by rwa[Nat.le_antisymm (Vw hj) hi]
  rwa [show b.extract (O-1) O=b.extract (O-1) (O-1+1) by rw[Nat.sub_add_cancel h3],one b (O-1) (ZA h3 h4),<-Vl]at this
 have endA:∀(out:Sd)(G O:Nat)(st':SortSt),QJ st st'->G=0->O<=b.size->Hi blt (a.toList++b.toList) out.reverse.toList (a.toList.take G) (b.toList.take O)->Q (a.extract 0 G++b.extract 0 O++out.reverse) st':=λout G O st' lk hn cb lo=>by
  subst hn;have e:(a.extract 0 0++b.extract 0 O++out.reverse).toList=b.toList.take O++out.reverse.toList:=by
   rw[ZJ,ZJ,LP,LP];rfl
  refine h _ st' lk ?_ ?_
  .rw[e];exact lo.perm
  .rw[e];exact Zc.mpr {p5 ob O,lo.srt,λx hx y hy=>lo.high x (by simp[hx]) y hy}
 have endB:∀(out:Sd)(G O:Nat)(st':SortSt),QJ st st'->O=1->G<=a.size->Hi blt (a.toList++b.toList) out.reverse.toList (a.toList.take G) (b.toList.take O)->Q (b.extract 0 O++a.extract 0 G++out.reverse) st':=λout G O st' lk hn cc lo=>by
  subst hn;have e:(b.extract 0 1++a.extract 0 G++out.reverse).toList=(b.toList.take 1++a.toList.take G)++out.reverse.toList:=by
   rw[ZJ,ZJ,LP,LP]
  refine h _ st' lk ?_ ?_
  .rw[e];exact Y9 (Y8 _ Vd) lo.perm
  .rw[e];refine Zc.mpr {Zc.mpr {p5 ob 1,p5 oa G,λx hx y hy=>?_},lo.srt,λx hx y hy=>lo.high x ?_ y hy}
   .let{i,bb,bd,rfl}:=jj hx;let{j,be,bw,rfl}:=jj hy;rw[show i=0 by lia];exact C.of_lt<|ah j bw
   .rcases Q6.mp hx with z|z
    .exact Q6.mpr<|.inr z
    .exact Q6.mpr<|.inl z
 refine WM ?_;dsimp only;refine wpS_lift<|Ym {M,?_};refine nmK ?_;intro k0;refine WM<|bX () ?_;have start:Hi blt (a.toList++b.toList) (#[g a (a.size-1)]:Sd).reverse.toList (a.toList.take<|a.size-1) (b.toList.take b.size):=by
  have l0:Hi blt (a.toList++b.toList) [] (a.toList.take (a.size-1)++ [g a (a.size-1)]) (b.toList.take b.size):=by
   refine{?_,Y4,λx _ y hy=>WN hy Xv};rw[<-HG (),show a.size-1+1=a.size by lia,ZL];have e1:a.toList.take a.size=a.toList:=Zo (by rw[Z3];exact Q5 _);have e2:b.toList.take b.size=b.toList:=Zo (by rw[Z3];exact Q5 _);rw[e1,e2]
  have:=l0.a (by rw[<-HG ()];exact p5 oa _) (λx hx y hy=>by
   rw[Q9.mp hy];let{j,_,hj,rfl}:=jj hx;exact C.of_lt<|bv j hj)
  exact this
 dsimp only[k0];by_cases a1:a.size-1=0
 .rw[WJ (WW.mpr a1)];exact WQ<|endA _ (a.size-1) b.size st (QJ.refl _) a1 (Q5 _) start
 .rw[WI (by simpa using a1)];by_cases b1:b.size=1
  .rw[WJ (WW.mpr b1)];exact WQ<|endB _ (a.size-1) b.size st (QJ.refl _) b1 () start
  .rw[WI (by simpa using b1)];refine nmK ?_;intro k1;refine WM<|Yl ?_;dsimp only[k1];refine nmF ?_;intro f1 k2;refine WM (Yj (Y3 (I:=λi c st'=>QJ st st'/\SN blt a b i c) (Q:=λc st'=>MQ (Q · st') (λ_=>False) c) ?_ ?_ {QJ.refl _,(),(),(),Q5 _,(),start}) ?_)
   .rintro i c st'- -⟨lk,@⟨G,O,out,mg,cp,cc,hb1,cb,hi,lo⟩⟩;have cq:kindOf st'=κ:=lk.kind.trans hK;dsimp only[f1];refine nmF ?_;intro f2 k3;refine WM (Yj (Y3 (I:=λ_ c st2=>st2=st'/\SN blt a b i c) (Q:=λc st2=>st2=st'/\MQ (Q · st') (SN blt a b i) c) ?_ (λc st2 h=>{h.1,.go h.2}) ⟨M,cp,cc,hb1,cb,hi,lo⟩) ?_)
    .rintro j c st2- -⟨rfl,@⟨ja,jb,out,x,a3,U,b9,Y,Z,lo⟩⟩;dsimp only[f2];have c0:=Va b9;have bf:=ZA c0 Y;have bl:=ZA a3 U;refine WM<|bX bf (WM<|bX bl<|WM<|L _ _ _ _ (mb (jb-1) bf) (ma (ja-1) bl) cq ?_);dsimp only;cases e:blt (g b<|jb-1) (g a<|ja-1)with
     |true=>
      rw[WJ M];have a4:=b4 out ja jb a3 U c0 Y lo e;refine WM<|bX bl ?_;by_cases z:ja-1=0
      .rw[WJ (WW.mpr z)];exact WQ {M,.ret<|endA _ (ja-1) jb _ lk z Y a4}
      .rw[WI (by simpa using z)];have h1:=Vs z;have h2:=ZH bl;have h3:ja-1+jb+i<=a.size+b.size:=Zl (VT (VT (WD _ _) _) _) Z;split
       .exact WQ {M,.go ⟨h1,h2,b9,Y,h3,a4⟩}
       .exact WQ ⟨M,h1,h2,b9,Y,h3,a4⟩
     |false=>
      rw[WI (_)];have a4:=b5 out ja jb a3 U c0 Y lo e;refine WM<|bX bf ?_;by_cases z:jb-1=1
      .rw[WJ (WW.mpr z)];exact WQ {M,.ret<|endB _ ja (jb-1) _ lk z U a4}
      .rw[WI (by simpa using z)];have h1:2<=jb-1:=();have h2:=ZH bf;have h3:ja+(jb-1)+i<=a.size+b.size:=Zl (VT (XX (WD _ _) _) _) Z;split
       .exact WQ {M,.go ⟨a3,U,h1,h2,h3,a4⟩}
       .exact WQ ⟨M,a3,U,h1,h2,h3,a4⟩
    .rintro c st2 ⟨rfl,⟨q⟩| @⟨_,@⟨ja,jb,out,x,a3,U,b9,Y,Z,lo⟩⟩⟩
     .exact WQ<|.ret q
     .dsimp only[k3];refine nmK ?_;intro k5;refine WM<|wpS_lift (Ym {M,?_});dsimp only[k5];refine nmF ?_;intro f3 k6;refine WM (Yj (Y3 (I:=λj c a5=>QJ st a5/\SN blt a b (i+j) c) (Q:=λc a5=>QJ st a5/\MQ (Q · a5) (SN blt a b<|i+1) c) ?_ ?_ ⟨lk,a3,U,b9,Y,Z,lo⟩) ?_)
      .rintro j c a5- -⟨a9,@⟨ka,kb,out,⟨m',x⟩,bn,a0,c4,a2,Z,lo⟩⟩;dsimp only[f3];apply Fj (α:=Nat) (H:=λ_=>True)
       .intro key;by_cases m1:m'>1
        .rw[WJ m1];generalize m'-1=mm;exact key mm trivial
        .rw[WI m1];exact key m' trivial
       intro mm _;refine nmK ?_;intro k7;refine WM<|Hu λcr lk4=>?_;replace lk4:=a9.trans lk4;have ce:kindOf cr=κ:=lk4.kind.trans hK;dsimp only[k7];refine nmK ?_;intro k8;have c5:=Va c4;have bo:=ZA c5 a2;have up:∀{i m n},i<m->m<=n->0+i<n:=λh1 h2=>by rw[Vp];exact Zr h1 h2
       refine WM<|bX bo ?_;refine nmK ?_;intro k9;refine WM<|iN L ce (mb (kb-1) bo) (λi hi=>{up hi a0,ma _<|up hi a0}) (ZA bn<|Q5 _) (λi=>!blt (g b<|kb-1) (g a<|0+i)) (λi hi=>M) (λi j h1 h2 h3=>ID C oa 0 _ i j h1 (up h2 a0) h3) λk cf cg ci=>?_;have ax:∀i,i<k->blt (g b<|kb-1) (g a i)=false:=λi hi=>by have f:=cg i hi;rw[Vp]at f;simpa using f
       have cj:∀i,k<=i->i<ka->blt (g b<|kb-1) (g a i)=true:=λi hi hj=>by have f:=ci i hi hj;rw[Vp]at f;simpa using f
       clear cg ci;dsimp only[k9];apply tO (H:=λ(kc:Nat)(o':Sd)=>0<kc/\kc<=ka/\(∀i,i<kc->blt (g b<|kb-1) (g a i)=false)/\Hi blt (a.toList++b.toList) o'.reverse.toList (a.toList.take kc) (b.toList.take kb))
       .intro key;by_cases k0:ka-k>0
        .rw[WJ k0];have lo1:=an out ka kb k cf a0 c5 a2 lo cj;by_cases z:k=0
         .rw[WJ (WW.mpr z)];exact WQ {lk4,.ret<|endA _ k kb _ lk4 z a2 lo1}
         rw[WI (by simpa using z)];generalize out++(a.extract k ka).reverse=o' at lo1⊢;obtain⟨kc,ek⟩:∃kc,kc=k:={_,M};rw[<-ek]at lo1⊢;exact key kc o' {by rw[ek];exact Vs z,by rwa[ek],by rwa[ek],lo1}
        .rw[WI k0];have e0:k=ka:=();rw[e0];exact key ka out {bn,Q5 _,by rwa[<-e0],lo}
       intro kc o' hc;let{c1,c2,ax,lo1}:=hc;refine nmK ?_;intro cs;refine WM<|bX bo ?_;have c3:=Zl c2 a0;have b2:=ZA c1 c3;have c8:=b5 _ kc kb c1 c3 c5 a2 lo1 (ax (kc-1)<|ZA c1<|Q5 _);dsimp only[cs];by_cases z2:kb-1=1
       .rw[WJ (WW.mpr z2)];exact WQ {lk4,.ret<|endB _ kc (kb-1) _ lk4 z2 c3 c8}
       rw[WI (by simpa using z2)];refine nmK ?_;intro d5;have c9:1<kb-1:=();have ba:=ZH bo;refine WM<|bX b2 ?_;refine nmK ?_;intro ct;refine WM<|iN L ce (ma _ b2) (λi hi=>{up hi ba,mb _<|up hi ba}) (ZA (Va c9)<|Q5 _) (λi=>blt (g b<|0+i)<|g a<|kc-1) (λi hi=>M) (λi j h1 h2 h3=>IC C ob 0 _ i j h1 (up h2 ba) h3) λk2 h1 h2 h3=>?_;have ck:0<k2:=by
        rcases V3 k2 with z|z
        .have f:blt (g b<|0+0) (g a<|kc-1)=false:=h3 0 (ZT z) (Va c9);rw[V8,ah (kc-1) b2]at f;cases f
        .exact z
       have bt:∀i,i<k2->blt (g b i) (g a<|kc-1)=true:=λi hi=>by have f:=h2 i hi;rwa [Vp]at f
       have d4:∀i,k2<=i->i<kb-1->blt (g b i) (g a<|kc-1)=false:=λi hi hj=>by have f:=h3 i hi hj;rwa [Vp]at f
       clear h2 h3;dsimp only[ct];apply tO (H:=λ(kd:Nat)(o2:Sd)=>1<kd/\kd<=kb-1/\(∀i,i<kd->blt (g b i) (g a<|kc-1)=true)/\Hi blt (a.toList++b.toList) o2.reverse.toList (a.toList.take kc) (b.toList.take kd))
       .intro key;by_cases q0:kb-1-k2>0
        .rw[WJ q0];have b3:=aw _ kc (kb-1) k2 h1 ba c1 c3 c8 d4;by_cases z3:k2=1
         .rw[WJ (WW.mpr z3)];exact WQ {lk4,.ret<|endB _ kc k2 _ lk4 z3 c3 b3}
         have zz:¬k2=0:=VF ck;rw[WI (by simpa using z3),WI (by simpa using zz)];generalize o'.push (g b<|kb-1)++(b.extract k2<|kb-1).reverse=o2 at b3⊢;obtain⟨kd,ed⟩:∃kd,kd=k2:={_,M};rw[<-ed]at b3⊢;exact key kd o2 {by rw[ed];exact ZF ck<|Ne.symm z3,by rwa[ed],by rwa[ed],b3}
        .rw[WI q0];have e2:k2=kb-1:=();rw[e2];exact key (kb-1) _ {c9,Q5 _,by rwa[<-e2],c8}
       intro kd o2 hd;let{d1,d2,bt,b3}:=hd;refine WM<|bX b2 ?_;have d0:=Va d1;have d3:=Zl d2 ba;have ca:=b4 _ kc kd c1 c3 d0 d3 b3 (bt (kd-1)<|ZA d0<|Q5 _);by_cases z4:kc-1=0
       .rw[WJ (WW.mpr z4)];exact WQ {lk4,.ret<|endA _ (kc-1) kd _ lk4 z4 d3 ca}
       rw[WI (by simpa using z4)];have hz:=Vs z4;have Z:kc-1+kd+(i+(j+1))<=a.size+b.size:=();split
       .exact WQ {lk4,.go {hz,ZH b2,d1,d3,Zl (XX (XX (Nat.le_add_left 1 j) i) _) Z,ca}}
       .exact WQ {lk4,hz,ZH b2,d1,d3,Z,ca}
      .rintro c a5 ⟨a9,@⟨ka,kb,_,_,_,_,_,_,Z,_⟩⟩;have em:max 0 (a.size+b.size)=a.size+b.size:=ZO (Za _);rw[em]at Z;lia
      .rintro c a5 ⟨a9,⟨q⟩| @⟨_,⟨bn,a0,c4,a2,Z,lo⟩⟩⟩
       .exact WQ<|.ret q
       .dsimp only[k6];exact WM<|Yb (WQ {⟨a9.kind,a9.arr,a9.pend,a9.fail⟩,bn,a0,c4,a2,Z,lo})
   .rintro c st' ⟨lk,@⟨_,_,_,_,_,_,_,_,hi,_⟩⟩;have em:max 0 (a.size+b.size)=a.size+b.size:=ZO (Za _);rw[em]at hi;lia
   .rintro c st' (⟨q⟩|⟨⟨⟩⟩);exact WQ q
end
variable{A:Sj}{p:Array (Nat×Nat×Nat)}{arr a₀ m xs:Sd}{Q:Bool->SortSt->Prop}{blt:Sr}{l:List (Nat×Nat×Nat)}{at_ i lo n:Nat}{prog:Se}{s:J'}{κ:SortKind}{st:SortSt}{α:Type}{E:Sg}{w:Sf}
def Rx(arr:Sd)(at_:Nat)(m:Sd):Array Keyed:=m.toList.zipIdx.foldl (λa p=>a.setIfInBounds (at_+p.2) p.1) arr
theorem IY:∀(l:Sx)(j:Nat)(arr:Sd)(at_:Nat),at_+j+l.length<=arr.size->
  ((l.zipIdx j).foldl (λa p=>a.setIfInBounds (at_+p.2) p.1) arr).toList=arr.toList.take (at_+j)++l++arr.toList.drop (at_+j+l.length)
 | [],j,arr,at_,h=>by simp
 |x::l,j,arr,at_,h=>by
  rw[List.zipIdx_cons,List.foldl_cons];have hl:at_+j<arr.size:=by simp at h;lia
  have z:=IY l (j+1) (arr.setIfInBounds (at_+j) x) at_ (by simp at h⊢;lia)
  rw[z,WE];have G:(arr.toList.set (at_+j) x).take (at_+(j+1))=arr.toList.take (at_+j)++ [x]:=by
   rw[show at_+(j+1)=at_+j+1 by lia,Zg,List.take_set_of_le (Q5 _),V5 (by rwa[Z3])];rfl
  have e2:(arr.toList.set (at_+j) x).drop (at_+(j+1)+l.length)=arr.toList.drop (at_+j+(x::l).length):=by
   rw[List.drop_set_of_lt ()];congr 1;simp;lia
  rw[G,e2,Z9,Z9,Z9];rfl
theorem Da(h:at_+m.size<=arr.size):(Rx arr at_ m).toList=arr.toList.take at_++m.toList++arr.toList.drop (at_+m.size):=by
 have:=IY m.toList 0 arr at_ (by simpa using h)
 simpa[Rx]using this
theorem BQ(xs:Sd)(k:Nat):g xs k=(xs.toList[k]?).getD dk:=by unfold g;rw[Zz]
theorem Pm(h:at_+m.size<=arr.size)(k:Nat):g (Rx arr at_ m) k=if at_<=k/\k<at_+m.size then g m (k-at_)else g arr k:=by
 rw[BQ,Da h];have l1:(arr.toList.take at_).length=at_:=by rw[Q7,Z3];lia
 by_cases a:k<at_
 .rw[WI (),Z9,ZP (),Vz a,<-BQ]
 .by_cases b:k<at_+m.size
  .rw[WJ {(),b},Z9,ZN (),l1,ZP (by rw[Z3];lia),<-BQ]
  .rw[WI (),ZN (by rw[Q8,l1,Z3];lia),Q8,l1,Z3,XM,show at_+m.size+(k-(at_+m.size))=k by lia,<-BQ]
theorem IW(h:at_+m.size<=arr.size)(p:m.toList.Perm ((arr.toList.drop at_).take m.size)):(Rx arr at_ m).Perm arr:=by
 rw[WF,Da h];have e:arr.toList=arr.toList.take at_++((arr.toList.drop at_).take m.size++arr.toList.drop (at_+m.size)):=by
  rw[<-WC,ZI,ZI]
 refine Y9 ?_<|Yn e.symm;rw[Z9];exact Yi _<|Y8 _ p
theorem qM(h:n<=arr.size){k:Nat}(hk:k<n-i):g (arr.extract i n) k=g arr (i+k):=by
 unfold g;rw[Array.getElem?_extract,WJ ()]
theorem w6(h:n<=arr.size):(arr.extract i n).size=n-i:=by rw[Array.size_extract];lia
theorem BE(h:n<=arr.size)(o:On blt arr i n):On blt (arr.extract i n) 0 (arr.extract i n).size:=λa b _ z hb=>by
 rw[w6 h]at hb;rw[qM h (),qM h hb];exact o _ _ () () ()
section
theorem KK{x:SortSt}{Q:PUnit->SortSt->Prop}(h:Q ⟨⟩ x):wpS (model prog w) A E s (set x:StateT SortSt Sem PUnit) Q st:=by
 unfold wpS;rw[StateT.run_set];exact WV ⟨M,h⟩
variable(L:Dy prog w A E s a₀ κ blt)
include L
theorem DW{G I pa sb U pb:Nat}(C:RI blt)(JZ:QB a₀ κ st)(hi:(pendingOf st)[i]?=some (G,I,pa))(O:(pendingOf st)[i+1]?=some (sb,U,pb))(hb:sb=G+I)(h1:1<=I)(h2:1<=U)(hz:sb+U<=a₀.size)
  (oa:On blt (arrOf st) G (G+I)) (ob:On blt (arrOf st) sb (sb+U))
  (h:∀st',QB a₀ κ st'->pendingOf st'=((pendingOf st).setIfInBounds i (G,I+U,pa)).eraseIdxIfInBounds (i+1)->On blt (arrOf st') G (G+(I+U))->(∀k,k<G\/G+(I+U)<=k->g (arrOf st') k=g (arrOf st) k)->Q true st'):
  wpS (model prog w) A E s (mergeAt' i) Q st:=by
 subst hb;have hsz:=JZ.size;have b2:((sortPriv%PySem.Builtin.SortState.a) st).size=a₀.size:=JZ.size;refine WM<|Yl ?_;dsimp only;rw[hi,O];dsimp only;refine WM<|KK ?_;have B1:QB a₀ κ (SortSt.mk' (kindOf st) (arrOf st) (((pendingOf st).setIfInBounds i (G,I+U,pa)).eraseIdxIfInBounds<|i+1) (gallopOf st)<|failedOf st):=⟨JZ.kind,JZ.fine,JZ.perm⟩;refine WM<|bX () ?_;refine WM<|iN L B1.kind (JZ.mem ()) (λj O=>{(),JZ.mem ()}) () (λj=>!blt (g (arrOf st)<|G+I) (g (arrOf st)<|G+j)) (λj O=>M) (λx y h3 h4 h5=>?_) λk b3 an aw=>?_
 .have h5:blt (g (arrOf st)<|G+I) (g (arrOf st)<|G+y)=false:=by simpa using h5
  by_cases e:x=y
  .subst e;simpa using h5
  .have:=C.trans (oa (G+x) (G+y) () () ()) h5;simpa using this
 .dsimp only;have low:∀j,j<k->le blt (g (arrOf st)<|G+j) (g (arrOf st)<|G+I):=λj O=>by have:=an j O;simpa using this
  have up:∀j,k<=j->j<I->blt (g (arrOf st)<|G+I) (g (arrOf st)<|G+j)=true:=λj O ax=>by have:=aw j O ax;simpa using this
  have a1:∀j x,j<k->G+I<=x->x<G+I+U->le blt (g (arrOf st)<|G+j) (g (arrOf st) x):=λj x O hx Y=>by
   by_cases e:x=G+I
   .rw[e];exact low j O
   .exact C.trans (low j O)<|ob (G+I) x (Q5 _) () Y
  by_cases n0:I-k=0
  .rw[WJ (WW.mpr n0)];refine WQ<|h _ B1 M (λx y hx Z hy=>?_) λ_ _=>M;by_cases c:y<G+I
   .exact oa x y hx Z c
   .by_cases d:x<G+I
    .have:=a1 (x-G) y () () ();rwa [show G+(x-G)=x by lia]at this
    .exact ob x y () Z ()
  .rw[WI (by simpa using n0)];refine WM<|bX () ?_;rw[show G+k+(I-k)-1=G+I-1 by lia];refine WM<|iN L B1.kind (JZ.mem ()) (λj O=>{(),JZ.mem ()}) () (λj=>blt (g (arrOf st)<|G+I+j)<|g (arrOf st)<|G+I-1) (λj O=>M) (λx y h3 h4 h5=>?_) λm b4 b1 a5=>?_
   .by_cases e:x=y
    .subst e;exact h5
    .cases z:blt (g (arrOf st)<|G+I+x) (g (arrOf st)<|G+I-1)with
     |true=>rfl
     |false=>
      have f:blt (g (arrOf st)<|G+I+y) (g (arrOf st)<|G+I-1)=false:=C.trans z (ob (G+I+x) (G+I+y) () () ());rw[h5]at f;cases f
   .dsimp only;have a2:∀j,j<m->blt (g (arrOf st)<|G+I+j) (g (arrOf st)<|G+I-1)=true:=b1;have first:blt (g (arrOf st)<|G+I+0) (g (arrOf st)<|G+k+0)=true:=by
     rw[V8,V8];exact up k (Q5 _) ()
    have mp:0<m:=by
     rcases V3 m with z|z
     .have f:blt (g (arrOf st)<|G+I+0) (g (arrOf st)<|G+I-1)=false:=a5 0 () ();have q:=up (I-1) () ();rw[show G+(I-1)=G+I-1 by lia]at q;rw[V8,q]at f;cases f
     .exact z
    have high:∀x,G+I+m<=x->x<G+I+U->le blt (g (arrOf st)<|G+I-1) (g (arrOf st) x):=λx hx Y=>by
     have f:blt (g (arrOf st)<|G+I+(x-(G+I))) (g (arrOf st)<|G+I-1)=false:=a5 (x-(G+I)) () ();rwa [show G+I+(x-(G+I))=x by lia]at f
    have a0:∀y x,G<=y->y<G+I->G+I+m<=x->x<G+I+U->le blt (g (arrOf st) y) (g (arrOf st) x):=λy x hy b5 hx Y=>by
     by_cases e:y=G+I-1
     .rw[e];exact high x hx Y
     .exact C.trans (oa y (G+I-1) hy () ())<|high x hx Y
    have m0:¬m=0:=();rw[WI (by simpa using m0)];have sx:((arrOf st).extract (G+k)<|G+I).size=G+I-(G+k):=w6 ();have sy:((arrOf st).extract (G+I)<|G+I+m).size=G+I+m-(G+I):=w6 ();have a9:On blt (arrOf st) (G+k) (G+I):=oa.sub () ();have aa:On blt (arrOf st) (G+I) (G+I+m):=ob.sub () ();have a3:∀(res:Sd)(st2:SortSt),QJ (SortSt.mk' (kindOf st) (arrOf st) (((pendingOf st).setIfInBounds i (G,I+U,pa)).eraseIdxIfInBounds<|i+1) (gallopOf st)<|failedOf st) st2->res.toList.Perm (((arrOf st).extract (G+k)<|G+I).toList++((arrOf st).extract (G+I)<|G+I+m).toList)->PW blt res.toList->
      wpS (model prog w) A E s (modify (λs=>SortSt.mk' (kindOf s) (Rx (arrOf s) (G+k) res) (pendingOf s) (gallopOf s)<|failedOf s)>>=λ_=>get>>=λx=>pure (failedOf x).isNone) Q st2:=λres st2 lk pm pw=>by
     have rs:res.size=I-k+m:=by
      have:=pm.length_eq;rw[Q8,Z3,Z3,Z3,sx,sy]at this;lia
     have rm:∀j,j<res.size->∃x,G+k<=x/\x<G+I+m/\g res j=g (arrOf st) x:=λj O=>by
      have mem:g res j∈res.toList:=by have:=AC O;simpa using this
      rcases Q6.mp (pm.mem_iff.mp mem)with q|q
      .let{x,x1,x2,_,x4}:=fj q;exact{x,(),(),x4}
      .let{x,x1,x2,_,x4}:=fj q;exact{x,(),(),x4}
     have ah:G+k+res.size<=(arrOf st2).size:=by rw[lk.arr];show G+k+res.size<=(arrOf st).size;lia
     refine WM<|Yb ?_;refine WM<|Yl (WQ ?_);have hg:∀x,g (Rx (arrOf st2) (G+k) res) x=if G+k<=x/\x<G+k+res.size then g res (x-(G+k))else g (arrOf st) x:=λx=>by
      rw[Pm ah,lk.arr]
     have ef:(failedOf st2).isNone=true:=by
      rw[lk.fail];show(failedOf st).isNone=true;rw[JZ.fine];rfl
     show Q (failedOf st2).isNone _;rw[ef];have on:=Iq pw;refine h _ {lk.kind.trans JZ.kind,lk.fail.trans JZ.fine,?_} lk.pend ?_ ?_
     .refine(IW ah ?_).trans (by rw[lk.arr];exact JZ.perm);rw[lk.arr];show res.toList.Perm (((arrOf st).toList.drop<|G+k).take res.size);refine pm.trans<|Yn ?_;rw[Xi,Xi,ZX,ZX,rs,show G+I-(G+k)=I-k by lia,show G+I+m-(G+I)=m by lia,List.take_add,WC,show G+k+(I-k)=G+I by lia]
     .intro x y hx Z hy;show le blt (g (Rx (arrOf st2) (G+k) res) x) (g (Rx (arrOf st2) (G+k) res) y);rw[hg x,hg y];by_cases y1:G+k<=y/\y<G+k+res.size
      .rw[WJ y1];by_cases x1:G+k<=x/\x<G+k+res.size
       .rw[WJ x1];exact on _ _ (Za _) () ()
       .rw[WI x1];let{z,z1,z2,z3}:=rm (y-(G+k)) ();rw[z3];by_cases zz:z<G+I
        .exact oa x z hx () zz
        .have:=a1 (x-G) z () () ();rwa [show G+(x-G)=x by lia]at this
      .rw[WI y1];by_cases x1:G+k<=x/\x<G+k+res.size
       .rw[WJ x1];let{z,z1,z2,z3}:=rm (x-(G+k)) ();rw[z3];by_cases zz:z<G+I
        .exact a0 z y () zz () ()
        .exact ob z y () () ()
       .rw[WI x1];by_cases yy:y<G+I
        .exact oa x y hx Z yy
        .by_cases xx:x<G+I
         .exact a0 x y hx xx () ()
         .exact ob x y () Z ()
     .intro x hx;show g (Rx (arrOf st2) (G+k) res) x=g (arrOf st) x;rw[hg x,WI ()]
    by_cases c:I-k<=m
    .rw[WJ c];refine WM<|DU L C B1.kind (λx hx=>?_) (BE () a9) (BE () aa) (by rw[sx];lia) (by rw[sy];lia) ?_ ?_ λres st2 lk pm pw=>?_
     .rcases Q6.mp hx with q|q
      .let{j,_,_,a4,rfl}:=fj q;exact JZ.mem ()
      .let{j,_,_,a4,rfl}:=fj q;exact JZ.mem ()
     .rwa[qM () (),qM () ()]
     .intro j O;rw[sy]at O;rw[sx,qM () (),qM () (),show G+k+(G+I-(G+k)-1)=G+I-1 by lia];exact a2 j ()
     .exact a3 res st2 lk pm pw
    .rw[WI c];refine WM<|DV L C B1.kind (λx hx=>?_) (BE () a9) (BE () aa) (by rw[sx];lia) (by rw[sy];lia) ?_ ?_ λres st2 lk pm pw=>?_
     .rcases Q6.mp hx with q|q
      .let{j,_,_,a4,rfl}:=fj q;exact JZ.mem ()
      .let{j,_,_,a4,rfl}:=fj q;exact JZ.mem ()
     .rwa[qM () (),qM () ()]
     .intro j O;rw[sy]at O;rw[sx,qM () (),qM () (),show G+k+(G+I-(G+k)-1)=G+I-1 by lia];exact a2 j ()
     .exact a3 res st2 lk pm pw
end
def PF(blt:Sr)(xs:Sd):List (Nat×Nat×Nat)->Nat->Nat->Prop
 | [],f,t=>f=t
 |(st,len,_)::r,f,t=>st=f/\1<=len/\On blt xs st (st+len)/\PF blt xs r (st+len) t
theorem PF.le{xs:Sd}:∀{l:List (Nat×Nat×Nat)}{f t:Nat},PF blt xs l f t->f+l.length<=t
 | [],f,t,h=>by cases h;simp
 |(st,len,p)::r,f,t,h=>by
  let{rfl,h1,_,z}:=h;have:=PF.le z;simp;lia
theorem PF.app{xs:Sd}:∀{l r:List (Nat×Nat×Nat)}{f t:Nat},PF blt xs (l++r) f t↔∃m,PF blt xs l f m/\PF blt xs r m t
 | [],r,f,t=>{λh=>⟨f,M,h⟩,λzz=>by let{m,e,h}:=zz;cases e;exact h}
 |(st,len,p)::l,r,f,t=>by
  constructor
  .rintro ⟨h1,h2,z,G⟩;let{m,a,b}:=PF.app.mp G;exact{m,⟨h1,h2,z,a⟩,b}
  .rintro ⟨m,⟨h1,h2,z,a⟩,b⟩;exact{h1,h2,z,PF.app.mpr ⟨m,a,b⟩}
theorem PF.congr{ys:Sd}:∀{l:List (Nat×Nat×Nat)}{f t:Nat},PF blt xs l f t->(∀k,f<=k->k<t->g ys k=g xs k)->PF blt ys l f t
 | [],f,t,h,_=>h
 |(st,len,p)::r,f,t,h,e=>by
  let{rfl,h1,h2,z}:=h;have:=z.le;exact{M,h1,h2.congr λk a b=>e k a (),z.congr λk a b=>e k () b}
theorem PF.pw{a b p q:Nat}{f t:Nat}(h:PF blt xs (l++ [(a,b,p)]) f t):PF blt xs (l++ [(a,b,q)]) f t:=by
 let{m,h1,h2}:=PF.app.mp h;exact PF.app.mpr ⟨m,h1,h2⟩
theorem mJ{q:Nat}(S:PF blt xs p.toList 0 lo)(h:1<=n)(o:On blt xs lo (lo+n)):PF blt xs (p.push (lo,n,q)).toList 0 (lo+n):=by
 rw[Wj];exact PF.app.mpr ⟨lo,S,M,h,o,M⟩
theorem CT(q:Array α)(x:α)(f:α->α):(q.push x).modify ((q.push x).size-1) f=q.push (f x):=by
 have e:(q.push x).size-1=q.size:=by simp
 rw[e];apply Array.ext
 .simp
 .intro i h1 h2;rw[Array.getElem_modify];by_cases hi:q.size=i
  .subst hi;simp
  .rw[WI hi];have:i<q.size:=by simp at h2;lia
   rw[VP this,VP this]
theorem tK{pw:Nat}(z:1<=p.size)(S:PF blt xs p.toList 0 lo):PF blt xs (p.modify (p.size-1) λx=>(x.1,x.2.1,pw)).toList 0 lo:=by
 obtain⟨q,x,rfl⟩:∃q x,p=q.push x:={p.pop,p[p.size-1],by
  apply Array.ext
  .simp;lia
  .intro i h1 h2;by_cases hi:i<p.pop.size
   .rw[VP hi];simp
   .have:i=p.size-1:=by simp at h2 hi;lia
    subst this;rw[Array.getElem_push];rw[dif_neg (by simp)]}
 rw[CT,Wj];rw[Wj]at S;let{a,b,c}:=x;exact S.pw
theorem HS{l:List α}{x y:α}(h1:l[i]?=some x)(h2:l[i+1]?=some y):∃p r,l=p++x::y::r/\p.length=i:=by
 let{I,O}:=Q3.mp h1;let{U,e2}:=Q3.mp h2;refine{l.take i,l.drop<|i+2,?_,by rw[Q7];lia};have z:=Xd I;have G:=Xd U;rw[O]at z;rw[e2]at G
 calc l=l.take i++l.drop i:=(ZI _ _).symm
  _=_:=by rw[z,G]
theorem Jz{p r:List α}{x y v:α}:((p++x::y::r).set p.length v).eraseIdx (p.length+1)=p++v::r:=by
 rw[List.set_append_right _ _ (Q5 _),Wk];rw[Wc (),show p.length+1-p.length=1 by lia];rfl
section
variable(L:Dy prog w A E s a₀ κ blt)
include L
theorem uA(C:RI blt)(JZ:QB a₀ κ st)(S:PF blt (arrOf st) (pendingOf st).toList 0 lo)(a0:lo<=a₀.size)(hi:i+1<(pendingOf st).size)
  (h:∀st',QB a₀ κ st'->PF blt (arrOf st') (pendingOf st').toList 0 lo->(pendingOf st').size+1=(pendingOf st).size->(∀k,lo<=k->g (arrOf st') k=g (arrOf st) k)->Q true st'):
  wpS (model prog w) A E s (mergeAt' i) Q st:=by
 have O:(pendingOf st)[i]?=some ((pendingOf st)[i]'()):=getElem?_pos _ _ _;have U:(pendingOf st)[i+1]?=some ((pendingOf st)[i+1]'hi):=getElem?_pos _ _ _;obtain⟨⟨z,G,pa⟩,e1⟩:∃x,x=(pendingOf st)[i]'():={_,M};obtain⟨⟨sb,I,pb⟩,e2⟩:∃x,x=(pendingOf st)[i+1]'hi:={_,M};rw[<-e1]at O;rw[<-e2]at U;have t1:=O;have t2:=U;rw[<-Zz]at t1 t2;let{p,r,Y,pl}:=HS t1 t2;rw[Y]at S;let{m,S1,S2}:=PF.app.mp S;let{rfl,n1,o1,rfl,n2,o2,S3}:=S2;have l3:=S3.le;have l1:=S1.le;refine DW L C JZ O U M n1 n2 () o1 o2 λst' B' hp on keep=>?_;have ep:(pendingOf st').toList=p++(z,G+I,pa)::r:=by
  rw[hp,Array.toList_eraseIdxIfInBounds,WE,Y,<-pl,Jz]
 have Z:∀k,k<z\/z+G+I<=k->g (arrOf st') k=g (arrOf st) k:=λk hk=>keep k ();refine h st' B' ?_ ?_ λk hk=>Z k ()
 .rw[ep];refine PF.app.mpr {z,S1.congr λk a b=>Z k<|.inl b,M,(),on,?_};rw[show z+(G+I)=z+G+I by lia];exact S3.congr λk a b=>Z k (.inr a)
 .have a:=Y2 List.length ep;have b:=Y2 List.length Y;simp at a b;lia
theorem Ci{Q:Unit->SortSt->Prop}(C:RI blt)(JZ:QB a₀ κ st)(hp:pendingOf st= #[])(h2:1<=a₀.size)
  (h:∀st',QB a₀ κ st'->On blt (arrOf st') 0 a₀.size->Q Unit.unit st'):wpS (model prog w) A E s sortRuns' Q st:=by
 rw[sortRuns'_eq];refine WM<|Yl ?_;dsimp only;have hsz:=JZ.size;rw[hsz];refine WM (Yj (Y3
  (I:=λi c st'=>∃lo,c=(none,lo)/\i<=lo/\lo<=a₀.size/\QB a₀ κ st'/\PF blt (arrOf st') (pendingOf st').toList 0 lo)
  (Q:=λc st'=>c=(none,a₀.size)/\QB a₀ κ st'/\PF blt (arrOf st') (pendingOf st').toList 0 a₀.size) ?step ?fin {0,M,Q5 _,Za _,JZ,by rw[hp];exact M}) ?post)
 case fin=>
  rintro c st' ⟨lo,rfl,h1,h3,B',S⟩;have em:max 0 a₀.size=a₀.size:=ZO (Za _);rw[em]at h1;have e:lo=a₀.size:=();subst e;exact⟨M,B',S⟩
 case step=>
  rintro i c st' _ hi ⟨lo,rfl,h1,h3,B',S⟩;dsimp only;by_cases z:lo>=a₀.size
  .rw[WJ z];have e:lo=a₀.size:=();subst e;exact WQ ⟨M,B',S⟩
  .rw[WI z];refine WM<|Hv L C B' () () λn st2 B2 p2 m1 m2 O2 k2=>?_;dsimp only;have S2:PF blt (arrOf st2) (pendingOf st2).toList 0 lo:=by
    rw[p2];exact S.congr λk _ b=>k2 k b
   by_cases U:n<minRun' a₀.size a₀.size 0
   .rw[WJ U];refine WM<|wpS_lift (Ym {M,?_});refine WM<|FS L C B2 m1 () () O2 λO B3 p3 O3 k3=>?_;rw[WI (_)];have S3:PF blt (arrOf O) (pendingOf O).toList 0 lo:=by
     rw[p3];exact S2.congr λk _ b=>k3 k b
    generalize hn:min (a₀.size-lo) (minRun' a₀.size a₀.size 0)=n' at O3;have a2:1<=n':=();have a3:lo+n'<=a₀.size:=();refine WM<|Yl ?_;cases eb:(pendingOf O).back? with
    |none=>
     dsimp only;exact WM<|Yb (WQ {lo+n',M,(),(),⟨B3.kind,B3.fine,B3.perm⟩,mJ S3 () O3})
    |some tt=>
     let{s1,n1,p1}:=tt;dsimp only;have Z:1<=(pendingOf O).size:=by
      rcases V3 (pendingOf O).size with q|q
      .rw[Array.size_eq_zero_iff.mp q]at eb;cases eb
      .exact q
     refine WM (Yj (Y3 (I:=λ_ c G=>c=(none,Unit.unit)/\QB a₀ κ G/\PF blt (arrOf G) (pendingOf G).toList 0 lo/\On blt (arrOf G) lo (lo+n')/\1<=(pendingOf G).size)
      (Q:=λc G=>c=(none,Unit.unit)/\QB a₀ κ G/\PF blt (arrOf G) (pendingOf G).toList 0 lo/\On blt (arrOf G) lo (lo+n')/\1<=(pendingOf G).size) ?_ (λ_ _ q=>q) ⟨M,B3,S3,O3,Z⟩) ?_)
     .rintro j c G _ _ ⟨rfl,Y,S4,O4,z4⟩;refine WM<|Yl ?_;by_cases big:(pendingOf G).size>1
      .rw[WJ big,getElem?_pos (pendingOf G) ((pendingOf G).size-2) ()];obtain⟨⟨u1,u2,a0⟩,eu⟩:∃x,x=(pendingOf G)[(pendingOf G).size-2]'(by(clear big Z eb a3 a2 hn p3 U m2 m1 p2 z h3 h1 hi hsz h2 hp;omega (config:={}))):={_,M};rw[<-eu];dsimp only;split
       .exact WQ ⟨M,Y,S4,O4,z4⟩
       .refine WM<|uA L C Y S4 () () λa4 B5 S5 z5 k5=>?_;rw[WI (_)];exact WQ {M,B5,S5,O4.congr λk a b=>k5 k a,()}
      .rw[WI big];exact WQ ⟨M,Y,S4,O4,z4⟩
     .rintro c G ⟨rfl,Y,S4,O4,z4⟩;dsimp only;refine WM<|Yb (WM<|Yb<|WQ {lo+n',M,(),(),⟨Y.kind,Y.fine,Y.perm⟩,?_});exact mJ (tK z4 S4) () O4
   .rw[WI U];have B3:=B2;have S3:=S2;have O3:=O2;obtain⟨O,e3⟩:∃x,x=st2:={_,M};rw[<-e3]at B3 S3 O3⊢;refine WM<|Yl ?_;cases eb:(pendingOf O).back? with
    |none=>
     dsimp only;exact WM<|Yb (WQ {lo+n,M,(),(),⟨B3.kind,B3.fine,B3.perm⟩,mJ S3 () O3})
    |some tt=>
     let{s1,n1,p1}:=tt;dsimp only;have Z:1<=(pendingOf O).size:=by
      rcases V3 (pendingOf O).size with q|q
      .rw[Array.size_eq_zero_iff.mp q]at eb;cases eb
      .exact q
     refine WM (Yj (Y3 (I:=λ_ c G=>c=(none,Unit.unit)/\QB a₀ κ G/\PF blt (arrOf G) (pendingOf G).toList 0 lo/\On blt (arrOf G) lo (lo+n)/\1<=(pendingOf G).size)
      (Q:=λc G=>c=(none,Unit.unit)/\QB a₀ κ G/\PF blt (arrOf G) (pendingOf G).toList 0 lo/\On blt (arrOf G) lo (lo+n)/\1<=(pendingOf G).size) ?_ (λ_ _ q=>q) ⟨M,B3,S3,O3,Z⟩) ?_)
     .rintro j c G _ _ ⟨rfl,Y,S4,O4,z4⟩;refine WM<|Yl ?_;by_cases big:(pendingOf G).size>1
      .rw[WJ big,getElem?_pos (pendingOf G) ((pendingOf G).size-2) ()];obtain⟨⟨u1,u2,a0⟩,eu⟩:∃x,x=(pendingOf G)[(pendingOf G).size-2]'(by omega (config:={})):={_,M};rw[<-eu];dsimp only;split
       .exact WQ ⟨M,Y,S4,O4,z4⟩
       .refine WM<|uA L C Y S4 () () λa4 B5 S5 z5 k5=>?_;rw[WI (_)];exact WQ {M,B5,S5,O4.congr λk a b=>k5 k a,()}
      .rw[WI big];exact WQ ⟨M,Y,S4,O4,z4⟩
     .rintro c G ⟨rfl,Y,S4,O4,z4⟩;dsimp only;refine WM<|Yb (WM<|Yb<|WQ {lo+n,M,(),(),⟨Y.kind,Y.fine,Y.perm⟩,?_});exact mJ (tK z4 S4) () O4
 case post=>
  rintro c st' ⟨rfl,B',S⟩;dsimp only;have a1:=S.le;refine WM (Yj (Y3 (I:=λi c st2=>c=(none,Unit.unit)/\QB a₀ κ st2/\PF blt (arrOf st2) (pendingOf st2).toList 0 a₀.size/\(pendingOf st2).size+i<=a₀.size+1)
   (Q:=λc st2=>c=(none,Unit.unit)/\QB a₀ κ st2/\PF blt (arrOf st2) (pendingOf st2).toList 0 a₀.size/\(pendingOf st2).size<=1) ?_ ?_ {M,B',S,by rw[Z3]at a1;lia}) ?_)
  .rintro i c st2 _ hi ⟨rfl,B2,S2,z2⟩;refine WM<|Yl ?_;by_cases one:(pendingOf st2).size<=1
   .rw[WJ one];exact WQ ⟨M,B2,S2,one⟩
   .rw[WI one];generalize a5:(if Option.any _ _=true then(pendingOf st2).size-2-1 else(pendingOf st2).size-2)=ix;have a9:∀bb:Bool,(if bb=true then(pendingOf st2).size-2-1 else(pendingOf st2).size-2)+1<(pendingOf st2).size:=λbb=>by
     cases bb with
     |true=>rw[WJ M];lia
     |false=>rw[WI (_)];lia
    have hx:ix+1<(pendingOf st2).size:=by
     rw[<-a5];exact a9 _
    refine WM<|uA L C B2 S2 (Q5 _) hx λO B3 S3 z3 k3=>?_;rw[WI (_)];exact WQ {M,B3,S3,()}
  .rintro c st2 ⟨rfl,B2,S2,z2⟩;have em:max 0 a₀.size=a₀.size:=ZO (Za _);rw[em]at z2;exact{M,B2,S2,()}
  .rintro c st2 ⟨rfl,B2,S2,z2⟩;dsimp only;refine WQ (h st2 B2 ?_)
   match hl:(pendingOf st2).toList,S2 with
   | [],S2=>
    have e:0=a₀.size:=S2;lia
   | [(a,b,p)],S2=>
    let{rfl,_,o,e}:=S2;have e:0+b=a₀.size:=e;rw[e]at o;exact o
   |_::_::_,_=>
    have:=Y2 List.length hl;simp at this;lia
end
variable{blt:Sr}{vs:Sa}{E Q:Sg}
section
variable{prog:Se}{w:Sf}{A:Sj}{s:J'}{κ:SortKind}
abbrev But(a:G')(s s':J'):Prop:=∀b o,b≠a->s.heap.get? b=some o->s'.heap.get? b=some o
theorem Gb{a:G'}{n:Nat}{P:PySem.Fin->Shared->Prop}(U:s.heap.get? a=some (seqObj gs vs.toArray n))(hz:vs.length<=sizeLine)(C:RI blt)
  (Y:∀h':Heap,But a s {s with heap:=h'}->2<=vs.length->∀Q':SortKind->Shared->Prop,Q' κ {s with heap:=h'}->wpAny (model prog w) A (keyKind' vs.toArray) Q' E {s with heap:=h'})
  (L:∀h':Heap,But a s {s with heap:=h'}->Dy prog w A E {s with heap:=h'} (pairsOf vs) κ blt)
  (h:∀out:Array Keyed,out.Perm (pairsOf vs)->PW blt out.toList->P (.done<|.ret .none) {s with heap:=sortedHeap s.heap a vs (out.map (·.2))}):wpAny (model prog w) A (Builtin.«list.sort» {[.ref a],[]}) P E s:=by
 have hv:vs.toArray.size=vs.length:=Z8;have ha:=WS U;rw[list_sort_plain];refine WO<|listItems_at U M (WO<|listUpdate_at U M ?_ (hsz:=by rwa[hv]));obtain⟨e1,G⟩:∃k,(s.heap.update a<|Obj.mapSeq λ_=> #[]).get? a=some (seqObj gs #[] k):={_,get?_update_seq U<|λ_=> #[]};refine WO<|seqEpoch_at G M (WO<|wpAny_newTuple ?_ (hsz:=hz));refine WO<|wpAny_newList (Yh ?_);generalize Z:((s.heap.update a<|Obj.mapSeq λ_=> #[]).push<|seqObj pq vs.toArray 0).push (seqObj gs #[] 0)=h6;have up:∀b o,(s.heap.update a<|Obj.mapSeq λ_=> #[]).get? b=some o->h6.get? b=some o:=λb o e=>by
  rw[<-Z];exact WK _<|WK _ e
 have z:=up a _ G;have I:But a s {s with heap:=h6}:=λb o hb e=>up b o (by exact(Y0 _ _<|Ne.symm hb).trans e);have fin:∀out:Array Keyed,out.Perm (pairsOf vs)->PW blt out.toList->P (.done<|.ret .none) {s with heap:=h6.update a (Obj.mapSeq λ_=>out.map (·.2))}:=λout p q=>by
  have:=h out p q;unfold sortedHeap at this;rw[Z]at this;exact this
 have hsz2:∀out:Array Keyed,out.Perm (pairsOf vs)->(out.map (·.2)).size<=sizeLine+1:=λout p=>by
  have:=p.size_eq;rw[pairsOf_size]at this;rw[Array.size_map];lia
 dsimp only;by_cases h2:vs.toArray.size<2
 .rw[WJ h2,WJ h2];refine WO<|WV ?_;rw[StateT.run_pure];refine WO<|WV ?_;dsimp only;have pr:(SortSt.mk' general' (vs.toArray.zip vs.toArray) #[] 7 none|>arrOf).Perm (pairsOf vs):=Array.Perm.refl _;refine WO<|seqEpoch_at z M (WO<|listUpdate_at z M ?_ (hsz:=Za _) (hsz2:=hsz2 _ pr));simp only[bne_self_eq_false,X0,if_false];refine WV<|fin _ pr ?_;have l1:(vs.toArray.zip vs.toArray).toList.length<=1:=by simp at h2⊢;lia
  show PW blt (vs.toArray.zip vs.toArray).toList;revert l1;generalize (vs.toArray.zip vs.toArray).toList=l;rcases l with _|⟨x,_|⟨y,t⟩⟩<;>intro l1<;>first|exact Y4|exact Xk _ _|exact WN l1<|Nat.not_le_of_lt (Nat.succ_lt_succ<|Nat.succ_pos _)
 .rw[WI h2,WI h2];refine WO<|Y h6 I () _ ?_;refine WO (Y6 (Ci (L h6 I) (st:=SortSt.mk' κ (vs.toArray.zip vs.toArray) #[] 7 none) (Q:=λ_ st'=>QB (pairsOf vs) κ st'/\On blt (arrOf st') 0 (pairsOf vs).size) C
   {M,M,Array.Perm.refl _} M (by rw[pairsOf_size];lia) λst' JZ O=>⟨JZ,O⟩) ?_ λ_ _ e=>e)
  rintro ⟨⟨⟩,st'⟩ s' ⟨rfl,JZ,O⟩;dsimp only;refine WO<|seqEpoch_at z M (WO<|listUpdate_at z M ?_ (hsz:=Za _) (hsz2:=hsz2 _ JZ.perm));rw[JZ.fine];simp only[bne_self_eq_false,X0,if_false];refine WV<|fin _ JZ.perm ?_;have:=jd (a:=arrOf st') (blt:=blt) (by rwa[JZ.size]) 0;rwa [Xj]at this
theorem sorted_any{l:G'}(hl:s.heap.IsList l vs.toArray)(hz:vs.length<=sizeLine)(C:RI blt)
  (G:∀h':Heap,(∀b o,s.heap.get? b=some o->h'.get? b=some o)->2<=vs.length->∀Q':SortKind->Shared->Prop,Q' κ {s with heap:=h'}->wpAny (model prog w) A.in1.in1 (keyKind' vs.toArray) Q' (λ_ _=>False) {s with heap:=h'})
  (L:∀h':Heap,(∀b o,s.heap.get? b=some o->h'.get? b=some o)->Dy prog w A.in1.in1 (λ_ _=>False) {s with heap:=h'} (pairsOf vs) κ blt)
  (h:∀out:Array Keyed,out.Perm (pairsOf vs)->PW blt out.toList->Q (.ref<|s.heap.objs.size+1) {s with heap:=sortedAll s.heap vs (out.map (·.2))}):wpAny (model prog w) A (call (.builtin "sorted") [.ref l]) Q E s:=by
 refine Calls.call_function_entry kind_sorted plain_sorted entry_sorted (args_sorted1 _) ?_;unfold Builtin.«sorted»;refine WO (m:=checkCount "sorted" 1 1 _)<|WV (WO<|collect_list hl ?_ (hsz:=hz));refine WO<|wpAny_newList ?_ (hsz:=hz);generalize I:(s.heap.push<|seqObj gs #[] 0).update s.heap.objs.size (Obj.mapSeq (· ++vs.toArray))=h1;have z:h1.objs.size=s.heap.objs.size+1:=by rw[<-I,Heap.size_update,size_push']
 have old:∀b o,s.heap.get? b=some o->(h1.push<|seqObj gs vs.toArray 0).get? b=some o:=λb o e=>by
  refine WK _ ?_;rw[<-I];exact(Y0 _ _<|Ne.symm<|ZG<|WS e).trans<|WK _ e
 have new:(h1.push<|seqObj gs vs.toArray 0).get? (s.heap.objs.size+1)=some (seqObj gs vs.toArray 0):=by
  rw[<-z];exact WT _ M
 have keep:∀h':Heap,But (s.heap.objs.size+1) {s with heap:=h1.push (seqObj gs vs.toArray 0)} {s with heap:=h'}->∀b o,s.heap.get? b=some o->h'.get? b=some o:=λh' k b o e=>
  k b o (ZG<|Nat.lt_succ_of_lt<|WS e) (old b o e)
 show wpAny _ _ _ _ _ {s with heap:=h1.push (seqObj gs vs.toArray 0)};rw[z];refine WO<|Yh (Y6 (wpAny_call_entry (E:=λ_ _=>False) slot_list_sort {_,new,M} entry_list_sort (Gb (κ:=κ) (blt:=blt) new hz C (λh' k=>G h'<|keep h' k) (λh' k=>L h'<|keep h' k) λout p q=>{_,M,?_})<|args_list_sort _) (λ_ _ q=>q) λ_ _ f=>f.elim);refine WV {_,M,?_};have:=h out p q;unfold sortedAll at this;rw[I]at this;exact this
end
variable{blt:Sr}{E:Sg}
theorem C8:∀(a b:O'),HT.lexLt a b=true->HT.lexLt b a=false
 | [],[],h=>rfl
 | [],_::_,_=>rfl
 |_::_,[],h=>by rw[HT.lexLt_cons_nil]at h;cases h
 |x::xs,y::ys,h=>by
  rw[HT.lexLt_cons]at h⊢;by_cases e:x=y
  .rw[WJ e]at h;rw[WJ e.symm];exact C8 xs ys h
  .rw[WI e]at h;rw[WI (Ne.symm e)];have:=WP h;exact WU ()
theorem IU:∀(a b c:O'),HT.lexLt b a=false->HT.lexLt c b=false->HT.lexLt c a=false
 | [],b,[],_,_=>rfl
 |x::xs,[],c,h,_=>by rw[HT.lexLt_nil_cons]at h;cases h
 |a,y::ys,[],_,h=>by rw[HT.lexLt_nil_cons]at h;cases h
 | [],_,_::_,_,_=>HT.lexLt_cons_nil _ _
 |x::xs,y::ys,z::zs,h1,h2=>by
  rw[HT.lexLt_cons]at h1 h2⊢;by_cases G:y=x
  .rw[WJ G]at h1;by_cases e2:z=y
   .rw[WJ e2]at h2;rw[WJ (e2.trans G)];exact IU xs ys zs h1 h2
   .rw[WI e2]at h2;rw[WI (by rwa[<-G])];have:=Y7 h2;exact WU ()
  .rw[WI G]at h1;have O:=Y7 h1;by_cases e2:z=y
   .rw[WJ e2]at h2;rw[WI ()];exact WU ()
   .rw[WI e2]at h2;have U:=Y7 h2;by_cases I:z=x
    .lia
    .rw[WI I];exact WU ()
theorem cmp_of(k:Keyed->List Int):RI λp q=>HT.lexLt (k p) (k q):={λx y h=>C8 _ _ h,λx y z h1 h2=>IU _ _ _ h1 h2}
theorem runs_of{prog:Se}{w:Sf}{A:Sj}{s:J'}{a₀:Sd}{κ:SortKind} 
  (h:∀(x y:Keyed)(E':Value->Shared->Prop)(Q:Bool->Shared->Prop),x∈a₀->y∈a₀->Q (blt x y) s->wpAny (model prog w) A (keyLt' κ x.1 y.1) Q E' s):Dy prog w A E s a₀ κ blt:=by
 intro x y st Q hx hy hk q;rw[lt'_eq];refine WM<|Yl ?_;rw[hk];refine WM<|wpS_lift (wpAny_attempt<|h x y _ _ hx hy {M,?_});exact WQ q
end Srt
namespace L2
open PySem PySem.Spec PyProof.Rows
variable{H:Hp}{B:Sb}{xs:P7}{its us:Sa}{s:J'}{W:St}{u:P5}
def Re(u:P5):V:=(absV u).getD .non
def Bc{x:V}(r:RelV x u):Re u=x:=by unfold Re;rw[r.abs];rfl
def KL(h:P0 xs us):us.map Re=xs:=by
 induction h with
 |nil=>rfl
 |cons r t z=>rw[Zk,Bc r,z]
def wH(h:P0 xs us)(hu:u∈us):∃x∈xs,RelV x u:=by
 induction h with
 |nil=>exact WN hu Xv
 |cons r t z=>
  rcases Zb.mp hu with e|e
  .subst e;exact{_,Z4,r}
  .let{x,h1,h2}:=z e;exact{x,Z7 _ h1,h2}
theorem ES:∀{us:Sa},(∀u∈us,RelV (Re u) u)->P0 (us.map Re) us
 | [],_=> .nil
 |u::r,h=> .cons (h u Z4) (ES λv z=>h v<|Z7 _ z)
section
variable{X:Cx}
def Ga{Q:VK}{p:G'}{κ:SortKind}{ky:V->List Int}(I:Inv X B W H s)(hz:xs.length<=sizeLine)(rv:P0 xs its)(hl:s.heap.IsList p its.toArray)
  (Z:∀h':Heap,(∀b o,s.heap.get? b=some o->h'.get? b=some o)->2<=its.length->∀Q':SortKind->Shared->Prop,Q' κ {s with heap:=h'}->wpAny (model X.prog X.w) X.A.in1.in1 (keyKind' its.toArray) Q' (λ_ _=>False) {s with heap:=h'})
  (a0:∀h':Heap,(∀b o,s.heap.get? b=some o->h'.get? b=some o)->∀(x y:V)(u v:P5)(E':Sg)(Q':Bool->Shared->Prop),x∈xs->y∈xs->RelV x u->RelV y v->Q' (HT.lexLt (ky x)<|ky y) {s with heap:=h'}->wpAny (model X.prog X.w) X.A.in1.in1 (keyLt' κ u v) Q' E' {s with heap:=h'})
  (q:∀l ys,H l=none->ys.Perm xs->ys.Pairwise (λa b=>HT.lexLt (ky b) (ky a)=false)->Q (.ref l) (upd H l<|.lst ys)):
  FB X (call (.builtin "sorted") [.ref p]) (EP X B W Q) X.xe s:=by
 have hi:its.length<=sizeLine:=by rwa[<-rv.length]
 have mem:∀z:Keyed,z∈pairsOf its->z.1=z.2/\z.1∈its:=λz hz=>by
  have:z∈(pairsOf its).toList:=by simpa using hz
  rw[pairsOf_toList]at this;exact mem_zip_self this
 refine Srt.sorted_any (κ:=κ) (blt:=λa b=>HT.lexLt (ky<|Re a.1)<|ky<|Re b.1) hl hi (Srt.cmp_of λa=>ky<|Re a.1) Z (λh' k=>Srt.runs_of λx y E' Q' hx hy q'=>?_) λout pm pw=>?_
 .let{x',a1,G}:=wH rv (mem x hx).2;let{y',a2,O}:=wH rv (mem y hy).2;rw[Bc G,Bc O]at q';exact a0 h' k x' y' x.1 y.1 E' Q' a1 a2 G O q'
 .have U:out.toList.Perm (its.zip its):=by
   have:=WF.mp pm;rwa [pairsOf_toList]at this
  have Y:∀z∈out.toList,z.1=z.2/\z.1∈its:=λz hz=>mem_zip_self (U.mem_iff.mp hz);have e2:(out.map (·.2)).toList=out.toList.map (·.2):=Array.toList_map;have pv:((out.map (·.2)).toList).Perm its:=by
   rw[e2];refine(U.map _).trans<|Yn ?_;exact List.map_snd_zip<|Q5 _
  have hu:∀u∈(out.map (·.2)).toList,RelV (Re u) u:=λu hu=>by
   let{x,_,r}:=wH rv (pv.mem_iff.mp hu);rwa[Bc r]
  have vy:=ES hu;have fresh:H (s.heap.objs.size+1)=none:=I.hok.fresh (Xc _);have py:((out.map (·.2)).toList.map Re).Perm xs:=by
   rw[<-KL rv];exact pv.map _
  let{e,at_}:=sortedAll_at s.heap its (out.map (·.2));refine{.ref<|s.heap.objs.size+1,upd H (s.heap.objs.size+1) (.lst ((out.map (·.2)).toList.map Re)),I.laid (t':=s.toks) (λb o q=>sortedAll_old q) (Xc _) {?_,_,e,vy,?_},M,q _ _ fresh py ?_}
  .rwa[py.length_eq]
  .rw[at_,VR]
  .rw[e2,Zp];refine ZE.mpr<|pw.imp_of_mem λ{a b} ha hb h=>?_;show HT.lexLt (ky<|Re b.2) (ky<|Re a.2)=false;rwa[<-(Y a ha).1,<-(Y b hb).1]
noncomputable def kRef(ky:Addr->List Int):V->List Int
 | .ref a=>ky a
 |_=> []
def Gn{as:Si}{ys:P7}(h:ys.Perm (as.map V.ref)):∃bs:List Addr,ys=bs.map V.ref/\bs.Perm as:=by
 have e:ys=(ys.map λy=>match y with| .ref i=>i|_=>0).map V.ref:=by
  rw[Zp];refine(List.map_id' ys).symm.trans<|Xo λy hy=>?_;let{i,_,rfl}:=Z5.mp (h.mem_iff.mp hy);rfl
 refine{_,e,?_};refine(h.map λy=>match y with| .ref i=>i|_=>0).trans<|Yn ?_;rw[Zp];exact List.map_id' as
def D3{a:G'}(I:Inv X B W H s)(h:H a=some (.tup xs)){h':Heap}(k:∀b o,s.heap.get? b=some o->h'.get? b=some o):
  ∃(o:Obj)(its:Sa)(n:Nat),P0 xs its/\h'.get? a=some o/\o.cls= .type pq/\o.data= .seq its.toArray n:=by
 let{_,its,rv,o,e,c,n,d}:=(show PJ X.prog X.w H s.heap a (.tup xs) from I.hok a _ h);exact{o,its,n,rv,k _ _ e,c,d}
def MX{x y:V}(r:P0 [x,y] its):∃u v,its=[u,v]/\RelV x u/\RelV y v:=vq r
end
end L2
namespace Srt
open PySem PyProof.Rows
end Srt
namespace L2
open PySem PySem.Spec PyProof.Rows
variable{C D d:G'}{X:Cx}{elt iter l tg:Expr}{H H1 H4:Hp}{Fin:Hp->Prop}{J:It}{R:It->Hp->Prop}{B:Sb}{kvs:Sm}{vs:Tb}{cl:List (Str×Addr)}{elts ifs:Sy}{M' N':Sh}{xs ys:P7}{ep i n:Nat}{ob:Obj}{pos px:Pos}{P:Se}{K:FA}{scope:Scope}{s:J'}{W:St}{x y:Str}{nx:SZ}{JZ:St->VK->It->Hp->Prop}{te:TE}{g:TG}{wi:TI}{tb:TS}{tc:TT}{Q rt:VK}{RR:Value->Addr->Result->Shared->Prop}{w:Sf}
def BM{k:Key}{v:P5}(h:(bj P w).is k v=true):RelV (kV k) v:=by
 rw[Et]at h;cases k with
 |inl i=>
  cases v with
  |int j t=>exact{t,by simp[pe,Value.isInt]at h;rw[h]}
  |_=>simp[pe,Value.isInt]at h
 |inr x=>
  cases v with
  |str y t=>exact{t,by simp[pe,Value.isStrOf]at h;rw[h]}
  |_=>simp[pe,Value.isStrOf]at h
def tQ(kvs:Sm):List V:=kvs.map λp=>kV p.1
set_option tactic.hygienic true in
def DX{acc:Sa}(z:KV kvs vs)(hl:acc.length=vs.length)
  (G:∀(j:Nat)(v:P5),acc[j]?=some v->∃k x,vs[j]?=some (k,x)/\(bj P w).is k v=true):P0 (tQ kvs) acc:=by
 induction z generalizing acc with
 |nil=>cases acc with
  |nil=>exact .nil
  |cons a b=>simp at hl
 |cons r t O=>
  rename_i p q ps qs
  cases acc with
  |nil=>simp at hl
  |cons a b=>
   refine .cons ?_<|O (by simpa using hl) λj v e=>?_
   .let{k,x,I,e2}:=G 0 a M;simp at I;subst I;show RelV (kV p.1) a;rw[r.1];exact BM e2
   .exact G (j+1) v<|by simpa using e
def yx(hh:X.A.handled=none):iF X (.type gs) (λxs H Q=>∃a kvs,xs=[.ref a]/\Rd H a (.dK kvs)/\∀l,H l=none->Q (.ref l) (upd H l<|.lst<|tQ kvs)):=by
 intro B s W H xs us Q I r h;let{a,kvs,rfl,hd,q}:=h;let{u,rfl,ru}:=qw r;cases ru;let{z,lo,vs,U,dd}:=yr I.hok hd;let{ep,Y}:=dd.dictAt;have Z:kvs.length=vs.length:=U.length;refine PySem.W.kdl_call (PySem.W.kdl_dict (knd:=bj X.prog X.w) (kvs:=vs) (ep:=ep) lo) hh Y () λh' tk G c' hk hS O=>?_;have hv:P0 (tQ kvs) G.toList:=DX U (by rw[Z3];exact O.1) λj v e=>O.2 j v (by rwa[<-Zz]);refine{.ref s.heap.objs.size,_,I.laid (t':=tk) hk (Q5 _) (show PJ X.prog X.w _ h' _ (.lst<|tQ kvs) from{?_,G.toList,c',hv,?_}),M,q _<|I.hok.fresh (Q5 _)}
 .unfold tQ;rwa[Q1]
 .rw[VR];exact hS
inductive OV(x:V)(vs:P7)(H:Hp)(Q:VK):Prop
 |mk(a kvs k v:_)(_:x= .ref a)(_:vs=[kV k])(_:H a=some (.dK kvs))(_:aH kvs k=some v)(_:Q v (upd H a<|.dK<|bQ kvs k))
def BH:S9 X "dict.pop" OV:=by
 intro B s W H x vs v us Q I z rv h;let{a,kvs,k,y,rfl,rfl,G,hl,q}:=h;cases z;let{u,rfl,O}:=rv.one;exact ME I G O hl (.inl M) λw' s' U Y=>{y,_,U,Y,q}
set_option tactic.hygienic true in
theorem ss{env:Env}:∀(l:List (Str×NameKind))(G:List (Str×Addr)),(∀p∈l,p.2= .free->∃c,env.cells.lookup p.1=some c)->
  ∃cl,(forIn l G (λp G=>if(p.2==NameKind.free)=true then cellOf env p.1>>=λa=>pure (ForInStep.yield ((p.1,a)::G))else pure (ForInStep.yield G)):Sem _)=pure cl/\
   (∀y c,cl.lookup y=some c->G.lookup y=some c\/env.cells.lookup y=some c)/\(∀y c,G.lookup y=some c->∃I,cl.lookup y=some I)/\(∀y,(y,NameKind.free)∈l->∃c,cl.lookup y=some c)
 | [],G,_=>{G,by rw[List.forIn_nil],λy c h=> .inl h,λy c h=>⟨c,h⟩,λy h=>nomatch h}
 |(n,k)::r,G,h=>by
  rw[List.forIn_cons];by_cases hk:k= .free
  .subst hk;let{c,hc}:=h (n,.free) Z4 M;have hc:env.cells.lookup n=some c:=hc;have e:cellOf env n=pure c:=by unfold cellOf;rw[hc]
   let{cl,h1,h2,O,U}:=ss r ((n,c)::G) λp Y=>h p (Z7 _ Y);refine{cl,?_,λy I hy=>?_,λy I hy=>?_,λy hy=>?_}
   .simp only[Ye,if_true,e,pure_bind];exact h1
   .rcases h2 y I hy with q|q
    .rw[XV]at q;split at q
     .rename_i z
      cases q;rw[WW]at z;subst z;exact .inr hc
     .exact .inl q
    .exact .inr q
   .by_cases z:y=n
    .exact O y c<|by rw[XV,z];simp
    .exact O y I<|by rwa[XV,WZ.mpr z]
   .rcases Zb.mp hy with q|q
    .have Z:y=n:=(Yo q).1;exact O y c<|by rw[XV,Z];simp
    .exact U y q
  .have hb:(k==NameKind.free)=false:=by simpa using hk
   let{cl,h1,h2,O,U}:=ss r G λp Y=>h p (Z7 _ Y);refine{cl,?_,h2,O,λy hy=>?_}
   .simp only[hb,X0,if_false,pure_bind];exact h1
   .rcases Zb.mp hy with q|q
    .exact WN (Yo q).2.symm hk
    .exact U y q
def yw{env:Env}(h:∀p∈scope.names,p.2= .free->∃c,env.cells.lookup p.1=some c):
  ∃cl,closureFor scope env=pure cl/\(∀y c,cl.lookup y=some c->env.cells.lookup y=some c)/\(∀y,(y,NameKind.free)∈scope.names->∃c,cl.lookup y=some c):=by
 let{cl,h1,h2,_,G}:=ss scope.names [] h;refine{cl,?_,λy c hy=>(h2 y c hy).resolve_left λz=>by simp at z,G};unfold closureFor;simp only[bind_pure];exact h1
def R5(X:Cx)(M' N':Sh)(scope:Scope)(cl:List (Str×Addr))(C:G')(s₂:J')(H₂:Hp)(fp:Si):Cx:=
 {X with N:=M'++N',s₀:=s₂,H₀:=H₂,env:=compEnvC scope cl C X.env,outer:=X.stack,stack:=X.stack,ex:=fp,fn:=λ_=>false,pn:=[],xe:=λ_ _=>False}
structure PM(X:Cx)(M' N':Sh)(scope:Scope):Prop where
 kind:scope.kind= .function
 nd:(M'++N').Nodup
 ln:N'.length=X.N.length
 own:∀x∈M',scope.names.lookup x=some .local
 nocell:∀y∈scope.names,y.2≠ .cell
 names:∀y∈scope.names,y.2= .local->scope.names.lookup y.1=some .local
 free:∀y∈scope.names,y.2= .free->X.env.kindOf y.1=some .cell
 vis:∀(j:Nat)(y:Str),N'[j]?=some y->SM (relabel scope X.env) y->X.N[j]?=some y/\(y,NameKind.free)∈scope.names/\(relabel scope X.env).names.lookup y=some .cell
 cells:∀y,((relabel scope X.env).names.lookup y=some .cell\/(relabel scope X.env).names.lookup y=some .free)->(y,NameKind.free)∈scope.names
def Ds(n:Nat)(g:TG)(tc:TT)(te:TE)(W:St)(Q:VK)(J:It)(H1:Hp):Prop:=∀D,H1 D=none->∃Dr:Nat->Nat->St->List V->Hp->Prop,(∃m,Dr 0 m (List.replicate n none++W) [] (upd H1 D<|.lst []))/\∀i m τ ys H2,Dr i m τ ys H2->H2 D=some (.lst ys)->
 (J.stop i H2/\Q (.ref D) H2)\/(J.go i H2/\∀x H3,J.yld i H2 x H3->∃G:St->Hp->Prop,(∀τ2 H4,G τ2 H4->∃(Ny:VK)(Ns:Hp->Prop),(∀y H6,Ny y H6->H6 D=some (.lst ys)/\ys.length<sizeLine/\∃m',m'<m/\Dr (i+1) m' τ2 (ys++ [y]) (upd H6 D<|.lst<|ys++ [y]))/\
  (∀H5,Ns H5->H5 D=some (.lst ys)/\∃m',m'<m/\Dr (i+1) m' τ2 ys H5)/\tc τ2 H4 λb H5=>if b=true then te τ2 H5 Ny else Ns H5)/\g x τ H3 G)
def Mj:TT:=λ_ H Q=>Q true H
def PTs(X:Cx)(ifs:Sy)(tc:TT):Prop:=∀(B:Sb)(s:J')(W:St)(H:Hp)(Q:Bool->Hp->Prop),Inv X B W H s->tc W H Q->
 FB X (forIn ifs true λc r=>if r=true then do let ok<-isTrue c X.env (eval c X.env);pure (ForInStep.yield ok)else pure (ForInStep.yield r)) (λb s'=>∃H',Inv X B W H' s'/\Q b H') X.xe s
def Ld:PTs X [] Mj:=λ_ _ _ H _ I h=>wpAny_tests_nil ⟨H,I,h⟩
def E2{c:Expr}(h:PT X c tc):PTs X [c] tc:=λB s W H Q I q=>wpAny_tests_one (h B s W H Q I q)
def PM.pg{s₂:J'}{z:Hp}{fp:Si}(S:PM X M' N' scope)(h:M'[i]?=some x):PG (R5 X M' N' scope cl C s₂ z fp) (.Name x px) (dA i):=
 E4 S.nd (by show(M'++N')[i]?=_;rwa[ZP (Q3.mp h).1]) (.inl<|lookup_relabel_local<|S.own x<|Q2 h) (.inr<|lookup_relabel_local<|S.own x<|Q2 h)
structure MR(X:Cx)(B:Sb)(H:Hp)(C:G'):Prop where
 no:H C=none
 fr:C≠X.env.locals
 ab:X.s₀.heap.objs.size<=C
 ce:∀x c,X.env.cells.lookup x=some c->c≠C
 pi:∀p∈X.pn++B,p.1≠C
def AL(hc:X.calm=true)(S:PM X M' N' scope)(hi:PI X tg iter wi)
  (hg:∀cl C s₂ a0 fp,PG (R5 X M' N' scope cl C s₂ a0 fp) tg g) (bb:∀cl C s₂ a0 fp,PTs (R5 X M' N' scope cl C s₂ a0 fp) ifs tc) (he:∀cl C s₂ a0 fp,PE (R5 X M' N' scope cl C s₂ a0 fp) elt te)
  (a1:∀y c,cl.lookup y=some c->X.env.cells.lookup y=some c) (b1:∀y,(y,NameKind.free)∈scope.names->∃c,cl.lookup y=some c) (I:Inv X B W H s) (h:wi W H R) (hB:∀J H,R J H->Ds M'.length g tc te W Q J H)
  (hR:∀D C s4 H',Inv X B W H' s4->(∃m,s4.heap.Ns C m)->MR X B H' C->Q (.ref D) H'->RR (.ref D) C (.ok .next) s4):
  FB X (eval iter X.env) (λv s1=>FB X (pyIter v) (λb2 U=>FB X (newList []) (λacc s3=>
   FB X (newFunctionEnv scope X.env.globals cl [] X.env.qual none .none<|some X.env) (λa9 s4=>
    codeAny (model X.prog X.w) X.A (.compStart (.ListComp elt [{tg,iter,ifs,0}] scope pos) 0 b2 acc {a9 with scope:=relabel scope X.env}) (RR acc a9.locals) s4) X.xe s3) X.xe U) X.xe s1) X.xe s:=by
 refine PK (hi B s W H _ I h) λv s1 h1=>PK h1 λb2 U h2=>?_;let{it,fp,tn,J,H2,e,O,T,st2,f2,h}:=h2;subst e;refine wpAny_newObj_type<|wpAny_newFunctionEnv S.nocell (by intro y hy;simp at hy) (λh₁ Y Z=>?_) S.kind;dsimp only at Y Z⊢;generalize hD:U.heap.objs.size=D at*;generalize an:U.heap.push {cls:= .type gs,dict:=none,data:= .seq ([]:List Value).toArray}=h3 at Y Z⊢;have a3:h3.objs.size=D+1:=by rw[<-an,Heap.size_push,hD]
 have fD:H2 D=none:=O.hok.fresh (ZT hD);let{Dr,{m0,w0},turn}:=hB _ _ h D fD;generalize hC:h3.objs.size=C at*;have gD:U.heap.get? D=none:=Yg (ZT hD);have gC:U.heap.get? C=none:=Yg (by rw[hD,a3];exact Xc _);have DC:D≠C:=by rw[a3];exact ZG<|XI _
 have bd:∀b o,U.heap.get? b=some o->h3.get? b=some o:=λb o e=>by rw[<-an];exact WK _ e
 have aa:∀b o,h3.get? b=some o->h₁.get? b=some o:=λb o e=>Z.extBut b o (by intro z;have:=WS e;rw[z,hC]at this;exact WN this<|XD _) (WK _ e);have up:∀b o,U.heap.get? b=some o->h₁.get? b=some o:=λb o e=>aa b o (bd b o e);have oD:h₁.get? D=some {cls:= .type gs,dict:=none,data:= .seq ([]:List Value).toArray}:=aa _ _ (by rw[<-an,<-hD];exact WT _ M);have a5:∀b∈fp,b≠C/\b∉R4 X.stack:=λb hb=>by
  let{o,e,_}:=T.obj _ _ st2 b hb;refine{λz=>(by rw[z,gC]at e;cases e),λz=>?_};rcases Zb.mp (O.stkSub b z)with q|q
  .exact(f2 b hb).2.1 q
  .exact(f2 b hb).2.2.1 q
 have fC:H2 C=none:=O.hok.fresh (by rw[hD,a3];exact Xc _);have ok:(R5 X M' N' scope cl C U H2 fp).Ok:=
  {mod:=O.ok.mod,kind:=S.kind,glob:=O.ok.glob,blt:=O.ok.blt,above:=by show U.heap.objs.size<=C;rw[hD,a3];exact Xc _
   inj:=λy z c h1 h2=>O.ok.inj y z c (a1 _ _ h1) (a1 _ _ h2),has:=λy hy=>b1 y (S.cells y hy),cab:=λy c z=>by cases z
   hd:=O.ok.hd,frames:=O.ok.frames,stk:= .inl M,exf:=λb hb=>{(a5 b hb).1,λy c e=>(f2 b hb).2.2.2.2.1 y c<|a1 y c e}
   bs:=O.bs,bsz:=Zl O.ok.bsz O.sz
   noex:=λb o e hb=>by
    rcases(f2 b hb).2.2.2.1 with q|q
    .exact O.ok.noex b o e q
    .exact WN (Zr (WS e)<|Zl O.ok.bsz q) (XD _)
   exfs:=λb hb=>(a5 b hb).2,funs:=O.stack,frf:=O.stkFree}
 have bv:∀b u,H2 b=some u->b≠D:=λb u e=>am e fD;have I3:Inv (R5 X M' N' scope cl C U H2 fp) [] (List.replicate M'.length none++W) (upd H2 D<|.lst []) {U with heap:=h₁,toks:=U.toks+([]:Td).length}:=
  {ok:=ok,os:=rfl,bare:=O.bare,base:=Un.laid up (ZT hD) fD
   loc:={_,Y,λi y v e1 e2 e3=>by
    by_cases lt:i<M'.length
    .have e2:(List.replicate M'.length none++W)[i]?=some (some v):=e2;rw[ZP (by rwa[Xz]),List.getElem?_replicate,WJ lt]at e2;cases e2
    .have e1:(M'++N')[i]?=some y:=e1;have e2:(List.replicate M'.length none++W)[i]?=some (some v):=e2;rw[ZN (WB.mp lt)]at e1;rw[ZN (by rw[Xz];exact WB.mp lt),Xz]at e2;generalize i-M'.length=j at e1 e2;let{e1,q1,q2}:=S.vis j y e1 e3;have kc:=S.free _ q1 M;let{m,hn,hl}:=O.loc;let{u,r,l}:=hl j y v e1 e2 (.inr<|.inl kc);refine{u,r,?_};rcases l with⟨k,_⟩|⟨_,c,e,z⟩
     .rw[kc]at k;cases k
     .let{c',e'}:=b1 y q1;have ee:=a1 _ _ e';rw[e]at ee;cases ee;let{o,ho,hd}:=z;exact .inr {.inl q2,c,e',o,up _ _ ho,hd}}
   cell:=λy c e=>by
    let{v,o,ho,hd}:=O.cell y c (a1 _ _ e);exact{v,o,up _ _ ho,hd}
   free:=by show upd H2 D (.lst []) C=none;rwa[af DC.symm]
   freeC:=λy c e=>by
    have q:=O.freeC y c (a1 _ _ e);let{v,o,ho,hd}:=O.cell y c (a1 _ _ e);rw[af (λz=>by rw[z,gD]at ho;cases ho)];exact q
   pin:=λp hp=>WN (show p∈([]:Sb) from hp) (by simp)
   hok:=O.hok.laid up (ZT hD) {Za _,[],0,.nil,oD}
   len:=by show(List.replicate M'.length none++W).length=(M'++N').length;rw[Q8,Q8,Xz,O.len,S.ln]}
 have a4:∀{H':Hp},(∀b∈fp,H' b=none)->∀b∈fp,pX (R5 X M' N' scope cl C U H2 fp) [] H' b:=λhn b hb=>
  {hn b hb,(a5 b hb).1,(a5 b hb).2,.inl hb,λy c e=>(f2 b hb).2.2.2.2.1 y c<|a1 _ _ e,λp hp=>WN (show p∈([]:Sb) from hp)<|by simp}
 have b3:tn 0 h₁:=T.keep _ _ _ st2 λb hb o e=>up b o e;have ah:∀s3:Shared,s3={U with heap:=h₁,toks:=U.toks+([]:Td).length}->
   codeAny (model X.prog X.w) X.A (.compLoop (.ListComp elt [{tg,iter,ifs,0}] scope pos) 0 (.ref it) (.ref D)<|compEnvC scope cl C X.env) (RR (.ref D) C) s3:=by
  rintro s3 rfl;refine codeAny_loop M (λn s'=>∃i τ ys H',Inv (R5 X M' N' scope cl C U H2 fp) [] τ H' s'/\tn i s'.heap/\(∀b∈fp,H' b=none)/\H' D=some (.lst ys)/\Dr i n τ ys H') ?_ m0
   {0,_,[],_,I3,b3,λb hb=>by rw[af (λz=>by let{o,e,_}:=T.obj _ _ st2 b hb;rw[z,gD]at e;cases e)];exact(f2 b hb).1,ag,w0}
  rintro n s' ⟨i,τ,ys,H',I',st',b4,be,w'⟩;show wpAny _ X.A ((compTurn (.ListComp elt [{tg,iter,ifs,0}] scope pos) 0 (.ref it) (.ref D)<|compEnvC scope cl C X.env).onRaise<|λx=>do noteFrame x (compEnvC scope cl C X.env);theTreesLotGoes x) _ _ s';refine wpAny_noted ?_;rw[compTurn_list];refine WO<|wpAny_standAt (WO ?_);rcases turn i n τ ys H' w' be with⟨b5,qn⟩|⟨go,step⟩
  .refine PK (T.done (R5 X M' N' scope cl C U H2 fp) M M M hc i [] s' _ H' _ I' (a4 b4) st' b5) λr s4 zz=>?_;let{hr,I4}:=zz;subst hr;refine WV ?_;let{m,hn,_}:=I4.loc;have IX:Inv X B W H' s4:=O.call' (s':=s4) I4.os (show Un (R4 X.stack) fp H2 H' U.heap s4.heap from I4.base) I4.hok I4.bare λb hb=>{(f2 b hb).2.2.2.1,(f2 b hb).2.1,(f2 b hb).2.2.2.2.1,(f2 b hb).2.2.2.2.2};refine hR D C s4 H' IX ⟨m,hn⟩ {I4.free,λz=>?_,?_,λy c e z=>?_,λp hp z=>?_} qn
   .have:=O.lt;rw[<-z,a3,hD]at this;exact WN this<|WB.mpr (Xc _)
   .refine Zl O.sz ?_;rw[hD,a3];exact Xc _
   .let{v,o,ho,_}:=O.cell y c e;rw[z,gC]at ho;cases ho
   .have ho:=(O.pin p hp).1;rw[z,gC]at ho;cases ho
  .refine PK (T.item (R5 X M' N' scope cl C U H2 fp) M M M hc i [] s' _ H' _ I' (a4 b4) st' go) λr s4 zz=>?_;let{u,hr,h4}:=zz;subst hr;refine WO<|PK h4 λ_ s5 a2=>?_;let{y,H5,I5,r5,y5,aw,bf}:=a2;have bl:=I5.pinned (a4 bf) (T.obj _ _ aw);let{G,hG,gq}:=step y H5 y5;refine WO<|Y6 (hg cl C U H2 fp _ s5 _ H5 y _ _ bl r5 gq) (λ_ s6 a2=>?_) λ_ _ f=>f.elim;let{b9,H6,I6,q6}:=a2;have fin:∀{ba:St}{H7:Hp}{s7:J'},Inv (R5 X M' N' scope cl C U H2 fp) ([]++xC fp s5.heap) ba H7 s7->tn (i+1) s7.heap/\∀b∈fp,H7 b=none:=λ{ba H7 s7} I7=>by
    refine{T.keep _ _ _ aw λb hb o e=>(I7.pin (b,o)<|Zq _<|Zq _<|mN hb e).1,λb hb=>?_};let{o,e,d}:=T.obj _ _ aw b hb;exact(I7.pin (b,o)<|Zq _<|Zq _<|mN hb e).2.1
   let{Ny,Ns,hy,hn,q6}:=hG _ _ q6;refine WO<|Y6 (bb cl C U H2 fp _ s6 _ H6 _ I6 q6) (λb s7 zz=>?_) λ_ _ f=>f.elim;let{H7,I7,q7}:=zz;cases b with
   |false=>
    rw[WI Z1]at q7;let{bn,m',ax,w7}:=hn _ q7;exact WV<|show _/\_ from{M,m',ax,i+1,b9,ys,_,I7.unpinned,(fin I7).1,(fin I7).2,bn,w7}
   |true=>
    rw[WJ M]at q7;refine WO<|WO (Y6 (he cl C U H2 fp _ s7 _ H7 _ I7 q7) (λz s8 a2=>?_) λ_ _ f=>f.elim);let{y',H8,I8,r8,q8}:=a2;let{bo,bt,m',ax,w8}:=hy _ _ q8;refine WO<|Y6 (dS (X:=R5 X M' N' scope cl C U H2 fp) _ s8 _ H8 (.ref D) [y'] (.ref D) [z] (λ_ H9=>H9=upd H8 D (.lst<|ys++ [y'])) I8 M (.cons r8 .nil) ⟨D,ys,y',M,M,bo,bt,M⟩) (λz9 s9 a2=>?_) λ_ _ f=>f.elim;let{_,H9,I9,_,e9}:=a2;subst e9;exact WV<|WV {M,m',ax,i+1,b9,ys++ [y'],_,I9.unpinned,(fin I9).1,(fin I9).2,ag,w8}
 exact codeAny_compStart_list (ah _ M)<|T.self _ 0 _ _ _ b3 (ah _ M)
def Inv.loose{h':Heap}(I:Inv X B W H s)(l:MR X B H C)(z:Heap.SameBut C s.heap h'):Inv X B W H {s with heap:=h'}:=
 I.turned (t':=s.toks) (λb o hb e=>(z.2 b hb).trans e) l.no l.fr (.inr l.ab) l.ce l.pi
section
variable{py spos:Pos}
def CH(hB:∀W Q J H,JZ W Q J H->Ds M'.length g tc te W Q J H)(hc:X.calm=true)(S:PM X M' N' scope)(hi:PI X tg iter wi)(hg:PM X M' N' scope->∀cl C s₂ z fp,PG (R5 X M' N' scope cl C s₂ z fp) tg g)(O:∀cl C s₂ z fp,PTs (R5 X M' N' scope cl C s₂ z fp) ifs tc)(he:∀cl C s₂ z fp,PE (R5 X M' N' scope cl C s₂ z fp) elt te)
  (hs:∀x,foldedSetIterable iter X.env x=pure x:=by subst_eqs):PE X (.ListComp elt [{tg,iter,ifs,0}] scope pos) (λW H Q=>wi W H<|JZ W Q):=by
 intro B s W H Q I h;let{cl,G,U,Y}:=yw (env:=X.env) (scope:=scope) λp hp hf=>I.ok.has p.1 (.inl<|S.free p hp hf);rw[eval_ListComp];refine wpAny_comprehension_free (use:=none) M hs G S.kind S.names<|AL hc S hi (hg S) O he U Y I h (hB _ _) λD C s4 H' I4 Z l q=>?_;let{m,Z}:=Z;exact{m,Z,λh' sb=>{.ref D,H',I4.loose l sb,M,q}}
def Ig(hB:∀W Q J H,JZ W Q J H->Ds M'.length g tc te W Q J H)(hc:X.calm=true)(S:PM X M' N' scope)(hi:PI X tg iter wi)(hg:PM X M' N' scope->∀cl C s₂ G fp,PG (R5 X M' N' scope cl C s₂ G fp) tg g)(U:∀cl C s₂ G fp,PTs (R5 X M' N' scope cl C s₂ G fp) ifs tc)(he:∀cl C s₂ G fp,PE (R5 X M' N' scope cl C s₂ G fp) elt te)
  (hN:X.N.Nodup) (hy:X.N[i]?=some y) (hk:X.env.scope.names.lookup y=some .local) (Y:swapsWith (.ListComp elt [{tg,iter,ifs,0}] scope pos) (some<|.Name y py) spos.line X.env=pure true:=by rfl)
  (hs:∀x,foldedSetIterable iter X.env x=pure x:=by subst_eqs):PS X (.Assign [.Name y py] (.ListComp elt [{tg,iter,ifs,0}] scope pos) spos) (HM (λW H Q=>wi W H<|JZ W Q)<|dA i):=by
 intro B s W H D I h;let{cl,O,Z,a0}:=yw (env:=X.env) (scope:=scope) λp hp hf=>I.ok.has p.1 (.inl<|S.free p hp hf);rw[exec_Assign_Name_used _ _ _ _ Y];refine WO<|wpAny_standAt (WO ?_);show wpAny _ X.A (do let _<-comprehension (.ListComp elt [{tg,iter,ifs,0}] scope pos) scope X.env _ (newList []) false (eval iter X.env) (some<|assign (.Name y py) X.env)) _ _ s;refine WO (PK (wpAny_comprehension_free (use:=some<|assign (.Name y py) X.env) (Q:=λ_ s'=>SP X B D .next s') M hs O S.kind S.names
  (AL (Q:=λv H'=>D.nx (W.set i<|some v) H') hc S hi (hg S) U he Z a0 I h (hB _ _) λD' C s4 H' I4 hn l q=>?_)) λ_ s' hq=>WV<|WV hq)
 let{m,hn}:=hn;show wpAny _ X.A (assign (.Name y py) X.env<|.ref D') _ _ _;refine wpAny_assign_Name<|Ad (v:= .ref D') I4 hN hy (.inl hk) M (λs5 I5 a1=>?_) (.inr hk);let{a,sb,ha}:=a1;have ne:C≠a:=by
  rcases ha with z|z
  .rw[z];exact l.fr
  .exact Ne.symm<|l.ce _ _ z
 exact{m,hn.sameBut sb ne,λh' a2=>{_,H',I5.loose l a2,q}}
end
def EH(te:TE)(W:St)(Q:VK)(J:It)(H1:Hp):Prop:=∀D,H1 D=none->∃Dr:Nat->Nat->List V->Hp->Prop,(∃m,Dr 0 m [] (upd H1 D<|.lst []))/\∀i m ys H2,Dr i m ys H2->H2 D=some (.lst ys)->
 (J.stop i H2/\Q (.ref D) H2)\/(J.go i H2/\∀x H3,J.yld i H2 x H3->te (some x::W) H3 λy H4=>H4 D=some (.lst ys)/\ys.length<sizeLine/\∃m',m'<m/\Dr (i+1) m' (ys++ [y]) (upd H4 D<|.lst<|ys++ [y]))
def OJ(wi:TI)(te:TE):TE:=λW H Q=>wi W H (EH te W Q)
def Pq(h:EH te W Q J H1):Ds 1 (dA 0) Mj te W Q J H1:=λD hD=>by
 let{Dr,{O,U},turn}:=h D hD;refine{λi m I ys H=>(∃v,I=v::W)/\Dr i m ys H,{O,⟨none,M⟩,U},λi m I ys H2 w e=>?_};let{{v,rfl},w}:=w;rcases turn i m ys H2 w e with z|⟨go,z⟩
 .exact .inl z
 .refine .inr {go,λx H3 y=>{λG H4=>G=some x::W/\H4=H3,λG H4 e=>?_,M,M}};let{rfl,rfl}:=e;refine{λy H6=>H6 D=some (.lst ys)/\ys.length<sizeLine/\∃m',m'<m/\Dr (i+1) m' (ys++ [y]) (upd H6 D<|.lst<|ys++ [y]),λ_=>False,λy H6 n=>?_,λ_ n=>n.elim,?_}
  .let{Y,Z,m',n3,n4}:=n;exact{Y,Z,m',n3,{_,M},n4}
  .exact b8 (JZ:=False)<|z x _ y
def mK(hc:X.calm=true)(S:PM X [x] N' scope)(hi:PI X (.Name x px) iter wi)(he:∀cl C s₂ z fp,PE (R5 X [x] N' scope cl C s₂ z fp) elt te)
  (hs:∀x,foldedSetIterable iter X.env x=pure x:=by subst_eqs):PE X (.ListComp elt [{.Name x px,iter,[],0}] scope pos) (OJ wi te):=
 CH (JZ:=EH te) (λ_ _ _ _=>Pq) hc S hi (λS _ _ _ _ _=>S.pg M) (λ_ _ _ _ _=>Ld) he hs
noncomputable def CC(scope dsc:Scope):List (Str×NameKind):=scope.names.map λp=>if(p.2==NameKind.free&&dsc.kind==ScopeKind.function&&dsc.names.lookup p.1==some NameKind.cell)=true then(p.1,NameKind.cell)else(p.1,p.2)
def MG(M' N N':Sh)(dsc:Scope)(scope:Scope):Bool:=
 (scope.kind==ScopeKind.function)&&decide (M'++N').Nodup&&(M'.all λx=>scope.names.lookup x==some NameKind.local)&&(scope.names.all λy=>y.2 !=NameKind.cell)&&(scope.names.all λy=>y.2 !=NameKind.local||scope.names.lookup y.1==some NameKind.local)
 &&(scope.names.all λy=>y.2 !=NameKind.free||dsc.names.lookup y.1==some NameKind.cell)&&(N'.all λy=>(CC scope dsc).lookup y !=some NameKind.local&&(CC scope dsc).lookup y !=some NameKind.free)&&decide (N'.length=N.length)&&(N'.zip N).all λp=>p.1==p.2||(CC scope dsc).lookup p.1==none
set_option tactic.hygienic true in
theorem sZ{dsc:Scope}:∀{l:List (Str×NameKind)}{y:Str}{k:NameKind},(∀p∈l,p.2≠NameKind.cell)->(l.map λp=>if(p.2==NameKind.free&&dsc.kind==ScopeKind.function&&dsc.names.lookup p.1==some NameKind.cell)=true then(p.1,NameKind.cell)else(p.1,p.2)).lookup y=some k->(k= .cell\/k= .free)->(y,NameKind.free)∈l
 | [],y,k,_,h,_=>by simp at h
 |(n,kk)::r,y,k,hn,h,hk=>by
  rw[Zk]at h;by_cases c:(kk==NameKind.free&&dsc.kind==ScopeKind.function&&dsc.names.lookup n==some NameKind.cell)=true
  .dsimp only at h;rw[WJ c,XV]at h;split at h
   .rename_i z
    rw[WW]at z;subst z;have:kk= .free:=by
     rw[Zs,Zs]at c;simpa using c.1.1
    rw[this];exact Z4
   .exact Z7 _<|sZ (λp G=>hn p<|Z7 _ G) h hk
  .dsimp only at h;rw[WI c,XV]at h;split at h
   .rename_i z
    rw[WW]at z;subst z;cases h;rcases hk with e|e
    .exact WN e<|hn _ Z4
    .rw[e];exact Z4
   .exact Z7 _<|sZ (λp G=>hn p<|Z7 _ G) h hk
def PM.of{dsc:Scope}{N:Sh}(Y:X.N=N)(Z:X.env.scope=dsc)(h:MG M' N N' dsc scope=true):PM X M' N' scope:=by
 unfold MG at h;simp only[Zs]at h;let{{{{{{{{h1,h2},h3},h4},h5},h6},h7},h8},h9}:=h;have I:(relabel scope X.env).names=CC scope dsc:=by rw[<-Z];rfl
 have G:∀y∈scope.names,y.2≠NameKind.cell:=λy hy=>by have:=XJ.mp h4 y hy;simpa using this
 refine{by simpa using h1,WP h2,by rw[Y];exact WP h8,λx hx=>by simpa using XJ.mp h3 x hx,G,λy hy e=>?_,λy hy e=>?_,λj y U v=>?_,λy e=>?_}
 .have:=XJ.mp h5 y hy;rw[e]at this;simpa using this
 .have:=XJ.mp h6 y hy;rw[e]at this;show X.env.scope.names.lookup y.1=_;rw[Z];simpa using this
 .have O:=XJ.mp h7 y (Q2 U);have hz:∃z,N[j]?=some z/\(y,z)∈N'.zip N:=by
   have lj:=(Q3.mp U).1;have l8:N'.length=N.length:=WP h8;refine{N[j]'(),Q4 _,?_};refine Q2 (i:=j) ?_;rw[List.getElem?_zip_eq_some];exact{U,Q4 _}
  let{z,hz,mz}:=hz;have e9:=XJ.mp h9 _ mz;unfold SM at v;rw[I]at v⊢;have O:¬(CC scope dsc).lookup y=some NameKind.local/\¬(CC scope dsc).lookup y=some NameKind.free:=by simpa using O
  rcases v with v|v|v
  .exact WN v O.1
  .refine{?_,sZ G v<|.inl M,v};rw[Y,hz];dsimp only at e9;rw[v,Bool.or_eq_true]at e9;rcases e9 with e9|e9
   .rw[WW]at e9;rw[e9]
   .cases e9
  .exact WN v O.2
 .have e:(CC scope dsc).lookup y=some .cell\/(CC scope dsc).lookup y=some .free:=by rwa[<-I]
  rcases e with e|e
  .exact sZ G e<|.inl M
  .exact sZ G e<|.inr M
abbrev _root_.Tc:=Nat->List V->Hp->Prop
def QF(n i:Nat)(ys:P7)(D:G')(Pv:Tc):VK:=λy H4=>H4 D=some (.lst ys)/\ys.length<sizeLine/\∃m',m'<n-i/\m'=n-(i+1)/\i+1<=n/\Pv (i+1) (ys++ [y]) (upd H4 D<|.lst<|ys++ [y])
def QF.mk{Pv:Tc}{y:V}(hi:i<n)(h1:H4 D=some (.lst ys))(h2:ys.length<sizeLine)(z:Pv (i+1) (ys++ [y]) (upd H4 D<|.lst<|ys++ [y])):QF n i ys D Pv y H4:=
 {h1,h2,n-(i+1),(),M,hi,z}
def qg{a:G'}(Pv:Tc)(z:Pv 0 [] (upd H1 D<|.lst []))(hl:∀i ys H,i<=xs.length->Pv i ys H->Kv K H a xs)
  (hs:∀i x ys H2,xs[i]?=some x->Pv i ys H2->H2 D=some (.lst ys)->te (some x::W) H2 (QF xs.length i ys D Pv))
  (hd:∀ys H2,Pv xs.length ys H2->H2 D=some (.lst ys)->Fin H2):
  ∃Dr:Nat->Nat->List V->Hp->Prop,(∃m,Dr 0 m [] (upd H1 D<|.lst []))/\∀i m ys H2,Dr i m ys H2->H2 D=some (.lst ys)->
   ((RV K a).stop i H2/\Fin H2)\/((RV K a).go i H2/\∀x H3,(RV K a).yld i H2 x H3->te (some x::W) H3 λy H4=>H4 D=some (.lst ys)/\ys.length<sizeLine/\∃m',m'<m/\Dr (i+1) m' (ys++ [y]) (upd H4 D<|.lst<|ys++ [y])):=by
 refine{λi m ys H=>m=xs.length-i/\i<=xs.length/\Pv i ys H,{xs.length,by simp,Za _,z},?_};rintro i m ys H ⟨rfl,hi,p⟩ hD;have q:=hl i ys H hi p;by_cases lt:i<xs.length
 .refine .inr {{xs,xs[i],q,by simp[lt]},λx H' y=>?_};let{e,y}:=y;subst e;exact hs i x ys _ (y xs q) p hD
 .have e:i=xs.length:=();subst e;exact .inl {{xs,q,Q5 _},hd ys H p hD}
def sk{lo:Int}(Pv:Tc)(z:Pv 0 [] (upd H1 D<|.lst []))
  (hs:∀i ys H2,i<n->Pv i ys H2->H2 D=some (.lst ys)->te (some (.int<|lo+i)::W) H2 (QF n i ys D Pv))
  (hd:∀ys H2,Pv n ys H2->H2 D=some (.lst ys)->Fin H2):
  ∃Dr:Nat->Nat->List V->Hp->Prop,(∃m,Dr 0 m [] (upd H1 D<|.lst []))/\∀i m ys H2,Dr i m ys H2->H2 D=some (.lst ys)->
   ((Rc lo n).stop i H2/\Fin H2)\/((Rc lo n).go i H2/\∀x H3,(Rc lo n).yld i H2 x H3->te (some x::W) H3 λy H4=>H4 D=some (.lst ys)/\ys.length<sizeLine/\∃m',m'<m/\Dr (i+1) m' (ys++ [y]) (upd H4 D<|.lst<|ys++ [y])):=by
 refine{λi m ys H=>m=n-i/\i<=n/\Pv i ys H,{n,by simp,Za _,z},?_};rintro i m ys H ⟨rfl,hi,p⟩ hD;by_cases lt:i<n
 .refine .inr {lt,λx H' y=>?_};let{e,y}:=y;subst e y;exact hs i ys _ lt p hD
 .have e:i=n:=();subst e;exact .inl {Q5 _,hd ys H p hD}
def BW(tc:TT)(te:TE)(W:St)(Q:VK)(J:It)(H1:Hp):Prop:=∀D,H1 D=none->∃Dr:Nat->Nat->List V->Hp->Prop,(∃m,Dr 0 m [] (upd H1 D<|.lst []))/\∀i m ys H2,Dr i m ys H2->H2 D=some (.lst ys)->
 (J.stop i H2/\Q (.ref D) H2)\/(J.go i H2/\∀x H3,J.yld i H2 x H3->tc (some x::W) H3 λb H4=>if b=true then te (some x::W) H4 λy H5=>H5 D=some (.lst ys)/\ys.length<sizeLine/\∃m',m'<m/\Dr (i+1) m' (ys++ [y]) (upd H5 D<|.lst<|ys++ [y])else H4 D=some (.lst ys)/\∃m',m'<m/\Dr (i+1) m' ys H4)
def HK(wi:TI)(tc:TT)(te:TE):TE:=λW H Q=>wi W H (BW tc te W Q)
def MH(h:BW tc te W Q J H1):Ds 1 (dA 0) tc te W Q J H1:=λD hD=>by
 let{Dr,{Z,w0},turn}:=h D hD;refine{λi m Y ys H=>(∃v,Y=v::W)/\Dr i m ys H,{Z,⟨none,M⟩,w0},λi m Y ys H2 w e=>?_};let{{v,rfl},w}:=w;rcases turn i m ys H2 w e with z|⟨go,z⟩
 .exact .inl z
 .refine .inr {go,λx H3 y=>{λG H4=>G=some x::W/\H4=H3,λG H4 e=>?_,M,M}};let{rfl,rfl}:=e;refine{_,_,λy H6 n=>?_,λH5 n=>?_,z x _ y}
  .let{I,n2,m',O,U}:=n;exact{I,n2,m',O,{_,M},U}
  .let{I,m',O,U}:=n;exact{I,m',O,{_,M},U}
def tE{G:Expr}(hc:X.calm=true)(S:PM X [x] N' scope)(hi:PI X (.Name x px) iter wi)(I:∀cl C s₂ z fp,PT (R5 X [x] N' scope cl C s₂ z fp) G tc)(he:∀cl C s₂ z fp,PE (R5 X [x] N' scope cl C s₂ z fp) elt te)
  (hs:∀x,foldedSetIterable iter X.env x=pure x:=by subst_eqs):PE X (.ListComp elt [{.Name x px,iter,[G],0}] scope pos) (HK wi tc te):=
 CH (JZ:=BW tc te) (λ_ _ _ _=>MH) hc S hi (λS _ _ _ _ _=>S.pg M) (λ_ _ _ _ _=>E2<|I _ _ _ _ _) he hs
def Ih{G:Expr}{py spos:Pos}(hc:X.calm=true)(S:PM X [x] N' scope)(hi:PI X (.Name x px) iter wi)(I:∀cl C s₂ z fp,PT (R5 X [x] N' scope cl C s₂ z fp) G tc)(he:∀cl C s₂ z fp,PE (R5 X [x] N' scope cl C s₂ z fp) elt te)
  (hN:X.N.Nodup) (hy:X.N[i]?=some y) (hk:X.env.scope.names.lookup y=some .local) (O:swapsWith (.ListComp elt [{.Name x px,iter,[G],0}] scope pos) (some<|.Name y py) spos.line X.env=pure true:=by rfl)
  (hs:∀x,foldedSetIterable iter X.env x=pure x:=by subst_eqs):PS X (.Assign [.Name y py] (.ListComp elt [{.Name x px,iter,[G],0}] scope pos) spos) (HM (HK wi tc te)<|dA i):=
 Ig (JZ:=BW tc te) (λ_ _ _ _=>MH) hc S hi (λS _ _ _ _ _=>S.pg M) (λ_ _ _ _ _=>E2<|I _ _ _ _ _) he hN hy hk O hs
def Qi(n i:Nat)(ys:P7)(D:G')(Pv:Tc)(H4:Hp):Prop:=H4 D=some (.lst ys)/\∃m',m'<n-i/\m'=n-(i+1)/\i+1<=n/\Pv (i+1) ys H4
def Qi.mk{Pv:Tc}(hi:i<n)(h1:H4 D=some (.lst ys))(z:Pv (i+1) ys H4):Qi n i ys D Pv H4:={h1,n-(i+1),(),M,hi,z}
def nz{a:G'}(Pv:Tc)(G:Pv 0 [] (upd H1 D<|.lst []))(hl:∀i ys H,i<=xs.length->Pv i ys H->Kv K H a xs)
  (hs:∀i x ys H2,xs[i]?=some x->Pv i ys H2->H2 D=some (.lst ys)->tc (some x::W) H2 λb H4=>if b=true then te (some x::W) H4 (QF xs.length i ys D Pv)else Qi xs.length i ys D Pv H4)
  (hd:∀ys H2,Pv xs.length ys H2->H2 D=some (.lst ys)->Fin H2):
  ∃Dr:Nat->Nat->List V->Hp->Prop,(∃m,Dr 0 m [] (upd H1 D<|.lst []))/\∀i m ys H2,Dr i m ys H2->H2 D=some (.lst ys)->
   ((RV K a).stop i H2/\Fin H2)\/((RV K a).go i H2/\∀x H3,(RV K a).yld i H2 x H3->tc (some x::W) H3 λb H4=>if b=true then te (some x::W) H4 λy z=>z D=some (.lst ys)/\ys.length<sizeLine/\∃m',m'<m/\Dr (i+1) m' (ys++ [y]) (upd z D<|.lst<|ys++ [y])else H4 D=some (.lst ys)/\∃m',m'<m/\Dr (i+1) m' ys H4):=by
 refine{λi m ys H=>m=xs.length-i/\i<=xs.length/\Pv i ys H,{xs.length,by simp,Za _,G},?_};rintro i m ys H ⟨rfl,hi,p⟩ hD;have q:=hl i ys H hi p;by_cases lt:i<xs.length
 .refine .inr {{xs,xs[i],q,by simp[lt]},λx H' y=>?_};let{e,y}:=y;subst e;exact hs i x ys _ (y xs q) p hD
 .have e:i=xs.length:=();subst e;exact .inl {{xs,q,Q5 _},hd ys H p hD}
noncomputable def SG(a d:G'):HO:= .ext λh=>h.IsItemsView a d
def Itd(ob:Obj)(d:G')(kvs:Sm):It:=
 {λi H=>H d=some (.frz ob<|.dK kvs)/\i<kvs.length,λi H x H'=>∃p k v,x= .ref p/\H p=none/\kvs[i]?=some (k,v)/\H'=upd H p (.tup [kV k,v]),λi H=>H d=some (.frz ob<|.dK kvs)/\kvs.length<=i}
def Oq(P:Se)(w:Sf)(ob:Obj)(d:G')(kvs:Sm)(vs:Tb)(ep:Nat):Prop:=
 KV kvs vs/\∀h:Heap,h.get? d=some ob->h.DictAt (bj P w) d vs ep
set_option tactic.hygienic true in
def KV.getI(h:KV kvs vs):∀{i:Nat}{k:Key}{v:V},kvs[i]?=some (k,v)->∃u,vs[i]?=some (k,u)/\RelV v u:=by
 induction h with
 |nil=>intro i k v e;simp at e
 |cons r t z=>
  rename_i p q ps qs
  intro i k v e;cases i with
  |zero=>
   simp at e;subst e;exact{q.2,by simp[show k=q.1 from r.1],r.2}
  |succ j=>
   let{u,h1,h2}:=z (i:=j) (by simpa using e);exact{u,by simpa using h1,h2}
def D0{x1}(it:G')(D:Oq P w ob d kvs vs ep):
  Dx P w K (.Tuple elts x1 pos) (Itd ob d kvs) [it] it (λi h=>∃ok Y,IsItemIter h it d i vs.length ep ok Y) where
 mem:=by simp
 obj:=λi h st b hb=>by
  let{ok,Y,st}:=st;have z:b=it:=by simpa using hb
  subst z;exact{_,st,λv z=>by cases z}
 keep:=λi h h' st k=>by
  let{ok,Y,st}:=st;exact{ok,Y,k it (by simp) _ st}
 item:=by
  intro X hP hw hK hc i B s W H E I hf st hg;subst hP hw hK;let{ok,Y,st}:=st;let{hq,hi}:=hg;have fi:=hf it (by simp);let{G,_}:=I.hok d _ hq;have O:=D.2 s.heap G;obtain⟨⟨k,v⟩,hx⟩:∃kv,kvs[i]?=some kv:={kvs[i],by simp[hi]};let{u,hu,ru}:=KV.getI D.1 hx;refine wpAny_pyNext_items_item st O hu λkey h' Z g1 g3 gz g5=>{_,M,?_};refine wpAny_letOwnedTupleGo_items g1 λh2 k1 k2=>?_;have rk:RelV (kV k) key:=BM Z;have np:H s.heap.objs.size=none:=I.hok.fresh (Q5 _);have a0:s.heap.objs.size≠it:=VF (WS st);have keep:∀b o,b≠it->s.heap.get? b=some o->h2.get? b=some o:=λb o z q=>(k2.2 b z).trans (g5 b o z q);have U:h2.get? s.heap.objs.size=some {cls:= .type pq,data:= .seq #[key,u]}:=(k2.2 _ a0).trans g3;have SE:∀b v,H b=some v->b≠it:=λb v q z=>by rw[z,fi.1]at q;cases q
  have un:Un (R4 X.stack) [it] H (upd H s.heap.objs.size<|.tup [kV k,v]) s.heap h2:=by
   refine{λb o q n hb hx=>keep b o (λz=>hx<|by simp[z]) q,λb o q n hb hx=>{o.slots,keep b o (λz=>hx<|by simp[z]) q},λb o q n hx=>?_,
    λb o q hx=>{o,keep b o (λz=>hx<|by simp[z]) q},λb ys q=>?_,λb o v q=>?_,λb ps q=>{#[],?_}}
   .rwa[af (ZG<|WS q)]
   .rw[af (am q np)];exact q
   .rw[af (am q np)];exact q
   .rw[af (am q np),q];simp
  have hok:QU X.prog X.w (upd H s.heap.objs.size<|.tup [kV k,v]) h2:=λb v' q=>by
   by_cases z:b=s.heap.objs.size
   .subst z;rw[ag]at q;cases q;exact{by show 2<=sizeLine;decide,[key,u],.cons rk<|.cons ru .nil,_,U,M,_,M}
   .rw[af z]at q;refine(I.hok b v' q).stay (λc o hc r=>?_) (λc r=>by rwa[af (am r np)]) λc ys r=>by rwa[af (am r np)]
    rcases hc with rfl|hc
    .exact keep _ _ (SE _ _ q) r
    .exact keep _ _ (SE _ _ hc) r
  have I2:Inv X B W (upd H s.heap.objs.size<|.tup [kV k,v]) {s with heap:=h2}:=I.call' (s':={s with heap:=h2}) M un hok I.bare λb hb=>by
   have z:pX X B H b:=hf b hb;exact⟨z.2.2.2.1,z.2.1,z.2.2.2.2.1,z.2.2.2.2.2⟩
  refine{.ref s.heap.objs.size,_,I2,M,{_,k,v,M,np,hx,M},⟨key,u,k1⟩,λb hb=>?_};have z:b=it:=by simpa using hb
  subst z;rw[af (Ne.symm a0)];exact fi.1
 done:=by
  intro X hP hw hK hc i B s W H E I hf st hg;subst hP hw hK;let{ok,Y,st}:=st;let{hq,hi}:=hg;let{G,_}:=I.hok d _ hq;have O:=D.2 s.heap G;let{f0,f1,f2,f3,f4,f5}:=hf it (by simp);have hl:kvs.length=vs.length:=D.1.length;exact wpAny_pyNext_items_end (I.ok.hd hc) st O (by simp;lia) λh' eb=>{M,I.turned (t':=s.toks) (λb o hb e=>eb b o hb e) f0 f1 f3 f4 f5}
 self:=λ_ _ _ _ _ st h=>let⟨_,_,st⟩:=st;PySem.W.kcp_self st h
inductive No(x:V)(vs:P7)(H:Hp)(Q:VK):Prop
 |mk(d kvs:_)(_:x= .ref d)(_:vs=[])(_:H d=some (.dK kvs))(_:∀a,H a=none->Q (.ref a) (upd H a<|SG a d))
def CP:S9 X "dict.items" No:=by
 intro B s W H x vs v us Q I G rv h;let{d,kvs,rfl,rfl,hd,q}:=h;cases G;cases rv;let{z,lo,O,U,dd}:=jp I.hok hd;refine Yk VD dd.typeIs PySem.F.entry_dict_items (PySem.F.args_dict_items_1 _) (meets_dict_items (bj X.prog X.w) d lo) {⟨O,dd⟩,?_};have new:(s.heap.push {cls:= .type "dict_items",data:= .fields #[.ref d]}).get? s.heap.objs.size=some {cls:= .type "dict_items",data:= .fields #[.ref d]}:=WT _ M;refine{.ref s.heap.objs.size,_,I.laid (t':=s.toks) (λb o e=>WK _ e) (Q5 _) (show PJ X.prog X.w _ _ _ (SG s.heap.objs.size d) from{{_,new,M,M},{_,new},λh1 h2 p k=>?_}),M,q _<|I.hok.fresh (Q5 _)};let{o,e,c}:=p;exact{o,k o e,c}
def Inv.freeze{H:Hp}{d:G'}{kvs:Sm}(I:Inv X B W H s)(hd:H d=some (.dK kvs))(G:s.heap.get? d=some ob):Inv X B W (upd H d<|.frz ob<|.dK kvs) s:=by
 have own:∀b y,H b=some (.own y)->upd H d (.frz ob<|.dK kvs) b=some (.own y):=λb y q=>by rw[af (λz=>by rw[z,hd]at q;cases q)];exact q
 have tup:∀b xs,H b=some (.tup xs)->upd H d (.frz ob<|.dK kvs) b=some (.tup xs):=λb xs q=>by rw[af (λz=>by rw[z,hd]at q;cases q)];exact q
 have non:∀b,H b=none->upd H d (.frz ob<|.dK kvs) b=none:=λb q=>by rw[af (λz=>by rw[z,hd]at q;cases q)];exact q
 refine{I.ok,I.os,I.bare,{I.base.keep,I.base.slot,λb o e n hx=>non b<|I.base.free b o e n hx,I.base.there,λb xs e=>tup b xs<|I.base.tups b xs e,λb o u e=>?_,λb ps e=>?_},I.loc,I.cell,non _ I.free,λx c e=>non c<|I.freeC x c e,λp O=>?_,λb o e=>?_,I.len}
 .have:=I.base.frzs b o u e;rwa[af (λz=>by rw[z,hd]at this;cases this)]
 .let{m,q}:=I.base.tbls b ps e;exact{m,by rw[af (λz=>by rw[z,hd]at q;cases q)];exact q}
 .let{h1,h2,U}:=I.pin p O;exact{h1,non _ h2,U}
 .by_cases z:b=d
  .subst z;rw[ag]at e;cases e;exact{G,(I.hok b _ hd).stay (λ_ _ _ q=>q) (λc q=>own c b q) tup}
  .rw[af z]at e;exact(I.hok b o e).stay (λ_ _ _ q=>q) (λc q=>own c b q) tup
def Inv.thaw{H:Hp}{d:G'}{kvs:Sm}(I:Inv X B W H s)(hd:H d=some (.frz ob<|.dK kvs))(G:∀o u,X.H₀ d≠some (.frz o u)):Inv X B W (upd H d<|.dK kvs) s:=by
 have own:∀b y,H b=some (.own y)->upd H d (.dK kvs) b=some (.own y):=λb y q=>by rw[af (λz=>by rw[z,hd]at q;cases q)];exact q
 have tup:∀b xs,H b=some (.tup xs)->upd H d (.dK kvs) b=some (.tup xs):=λb xs q=>by rw[af (λz=>by rw[z,hd]at q;cases q)];exact q
 have non:∀b,H b=none->upd H d (.dK kvs) b=none:=λb q=>by rw[af (λz=>by rw[z,hd]at q;cases q)];exact q
 refine{I.ok,I.os,I.bare,{I.base.keep,I.base.slot,λb o e n hx=>non b<|I.base.free b o e n hx,I.base.there,λb xs e=>tup b xs<|I.base.tups b xs e,λb o u e=>?_,λb ps e=>?_},I.loc,I.cell,non _ I.free,λx c e=>non c<|I.freeC x c e,λp O=>?_,λb o e=>?_,I.len}
 .have:=I.base.frzs b o u e;rwa[af (λz=>by rw[z]at e;exact G _ _ e)]
 .let{m,q}:=I.base.tbls b ps e;exact{m,by rw[af (λz=>by rw[z,hd]at q;cases q)];exact q}
 .let{h1,h2,U}:=I.pin p O;exact{h1,non _ h2,U}
 .by_cases z:b=d
  .subst z;rw[ag]at e;cases e;let{_,q}:=I.hok b _ hd;exact PJ.stay (show PJ X.prog X.w H s.heap b (.dK kvs) from q) (λ_ _ _ q=>q) (λc q=>own c b q) tup
  .rw[af z]at e;exact(I.hok b o e).stay (λ_ _ _ q=>q) (λc q=>own c b q) tup
def Inv.noFrz{H:Hp}{d:G'}{kvs:Sm}(I:Inv X B W H s)(hd:H d=some (.dK kvs)):∀o u,X.H₀ d≠some (.frz o u):=λo u e=>by
 have:=I.base.frzs d o u e;rw[hd]at this;cases this
def NW(te:TE):TI:=λW H R=>te W H λx H1=>∃a d kvs,x= .ref a/\H1 a=some (SG a d)/\H1 d=some (.dK kvs)/\∀ob,R (Itd ob d kvs) (upd H1 d<|.frz ob<|.dK kvs)
def CF{x1}(hl:PE X l te):PI X (.Tuple elts x1 pos) l (NW te):=by
 intro B s W H R I h;refine PK (hl B s W H _ I h) λv s1 O=>?_;let{x,H1,U,r1,q1}:=O;let{a,d,kvs,e,ha,hd,q}:=q1;subst e;cases r1;let{z,lo,vs,Y,dd}:=jp U.hok hd;let{ep,G}:=dd.dictAt;let{vw,_,_}:=(show PJ X.prog X.w H1 s1.heap a (SG a d) from U.hok a _ ha);let{ob,es,Z,rest}:=id G;refine wpAny_pyIter_items vw G ?_;have If:=U.freeze hd Z;refine{s1.heap.objs.size,[s1.heap.objs.size],_,_,_,M,If.kept (t':=s1.toks) λb o e=>WK _ e,D0 _ {Y,λh e=>⟨ob,es,e,rest⟩},{_,_,WT _ M},λb hb=>?_,q ob};have e:b=s1.heap.objs.size:=by simpa using hb
 subst e;exact If.fpOk (Q5 _) (If.hok.fresh<|Q5 _)
inductive OB(t:TS)(D:nZ)(W:St)(H:Hp):Prop
 |mk(d kvs:_)(_:H d=some (.dK kvs))(_:t {λσ' H'=>∃ob,H' d=some (.frz ob<|.dK kvs)/\D.nx σ' (upd H' d<|.dK kvs),λv H'=>∃ob,H' d=some (.frz ob<|.dK kvs)/\D.rt v (upd H' d<|.dK kvs),λσ' H'=>∃ob,H' d=some (.frz ob<|.dK kvs)/\D.bk σ' (upd H' d<|.dK kvs),λσ' H'=>∃ob,H' d=some (.frz ob<|.dK kvs)/\D.ct σ' (upd H' d<|.dK kvs)} W H)
def tq{st:Stmt}{t:TS}(h:PS X st t):PS X st (OB t):=by
 intro B s W H D I ⟨d,kvs,hd,q⟩;have U:=I.noFrz hd;refine PK (h B s W H _ I q) λf s1 Y=>?_;cases f with
 |next=>let{z,H7,G,ob,e,O}:=Y;exact{z,_,G.thaw e U,O}
 |cont=>let{z,H7,G,ob,e,O}:=Y;exact{z,_,G.thaw e U,O}
 |brk=>let{z,H7,G,ob,e,O}:=Y;exact{z,_,G.thaw e U,O}
 |ret v=>let{Z,z,H7,G,r7,ob,e,O}:=Y;exact{Z,z,_,G.thaw e U,r7,O}
def yk(Pv:Ta)(O:Pv 0 W H)(hl:∀i W H,i<=kvs.length->Pv i W H->H d=some (.frz ob<|.dK kvs))
  (hs:∀i k v p W H,kvs[i]?=some (k,v)->Pv i W H->H p=none->g (.ref p) W (upd H p<|.tup [kV k,v]) λG H2=>tb {Pv<|i+1,rt,nx,Pv<|i+1} G H2) (hd:∀W H,Pv kvs.length W H->nx W H):
  ∃Dr:Nat->Nat->St->Hp->Prop,(∃m,Dr 0 m W H)/\∀i m W H,Dr i m W H->
   ((Itd ob d kvs).stop i H/\nx W H)\/((Itd ob d kvs).go i H/\∃N:St->Hp->Prop,(∀I H',N I H'->∃m',m'<m/\Dr (i+1) m' I H')/\∀x H',(Itd ob d kvs).yld i H x H'->g x W H' λG H2=>tb ⟨N,rt,nx,N⟩ G H2):=by
 refine{λi m W H=>m=kvs.length-i/\i<=kvs.length/\Pv i W H,{kvs.length,by simp,Za _,O},?_};rintro i m W H ⟨rfl,hi,p⟩;have q:=hl i W H hi p;by_cases lt:i<kvs.length
 .refine .inr {⟨q,lt⟩,Pv<|i+1,λI H' z=>{kvs.length-(i+1),(),M,lt,z},λx H' y=>?_};let{U,k,v,rfl,np,e,rfl}:=y;exact hs i k v U W H e p np
 .have e:i=kvs.length:=();subst e;exact .inl {{q,Q5 _},hd W H p}
def JN:bootBuiltins "sum"=some (.builtin "sum"):=by decide+kernel
section
variable(K:FA)(hK:X.K=K)
include hK
theorem zT:iF X (.builtin "len") (λxs H Q=>∃p ys,xs=[.ref p]/\(Kv K H p ys\/QO K H p ys)/\Q (.int ys.length) H):=by subst hK;exact aE
theorem Jh:IxR X (rIxL K):=by subst hK;exact aU
theorem BN:IxR X (rIxT K):=by subst hK;exact bG
end
def AN(hc:X.calm=true):iF X (.builtin "min") (λxs H Q=>∃(p:G')(ns:O'),xs=[.ref p]/\Kv X.K H p (ns.map V.int)/\0<ns.length/\∀M',M'∈ns->(∀a∈ns,M'<=a)->Q (.int M') H):=by
 intro B s W H xs us Q I r h;let{p,ns,rfl,hq,G,q}:=h;let{u,rfl,U}:=qw r;cases U;let{its,rv,pl,hz}:=I.list hq;have hi:IntsAre its ns:=yf rv;let{xs,e}:=hi.allInts.items;have z:ns=xs.toList.map (·.1):=by
  rw[<-hi.numsOf,<-nums_intItems,<-e]
 have hsz:0<xs.size:=by
  have O:=G;rw[z,Q1,Z3]at O;exact O
 have hl:=pl.isList;rw[e]at hl;refine min_intList (I.ok.hd hc) hl hsz λv h' tk Y hk=>?_;let{t,rfl}:=intItems_at Y;let{h1,h2}:=argBest_lt (numAt xs) (xs.size-1);refine{.int _,H,I.kept (t':=tk) hk,⟨t,M⟩,q _ ?_ λa ha=>?_}
 .rw[z,numAt_eq];exact getD_mem<|by rw[Q1,Z3];lia
 .rw[z]at ha;let{j,Z,rfl}:=mem_getD ha;rw[Q1,Z3]at Z;rw[<-numAt_eq];exact h2 j ()
theorem Ap{y:Int}:∀{ns:O'}{m:Nat},m<ns.idxOf y->(h:m<ns.length)->ns[m]≠y
 | [],m,_,h=>by simp at h
 |a::r,m,lt,h=>by
  rw[List.idxOf_cons]at lt;by_cases c:a=y
  .rw[c]at lt;simp at lt
  .have:(a==y)=false:=WZ.mpr c;rw[this]at lt;cases m with
   |zero=>exact c
   |succ j=>exact Ap (ns:=r) (m:=j) (by simpa using lt)<|by simpa using h
theorem AH:∀(ns:O')(i:Nat),(ns.eraseIdx i).map V.int=(ns.map V.int).eraseIdx i
 | [],_=>rfl
 |_::_,0=>rfl
 |a::r,i+1=>by
  show V.int a::(r.eraseIdx i).map V.int=V.int a::(r.map V.int).eraseIdx i;rw[AH r i]
inductive K9(x:V)(vs:P7)(H:Hp)(Q:VK):Prop
 |mk(l:G')(xs:P7)(k:Int)(y:V)(_:x= .ref l)(_:vs=[.int k,y])(_:H l=some (.lst xs))(_:0<=k)(_:k<=(xs.length:Int))(_:xs.length<sizeLine)(_:Q .non (upd H l<|.lst (xs.take k.toNat++y::xs.drop k.toNat)))
def Ar:MtM X "list.insert" K9:=by
 intro B s W H x vs v us Q I Y rv h;let{l,xs,k,y,rfl,rfl,O,h0,hk,hz,q}:=h;cases Y;let{u1,u,rfl,{t,rfl},Z}:=rv.two;let{z,its,n,r,hl,e}:=I.lstM O;have G:¬(!Builtin.List.listFitsIndex k)=true:=by
  have U:=yb;rw[fitsIndex_both () ()];exact Z1
 have hsz:its.toArray.size<=sizeLine:=by rw[Z8];lia
 refine call_meets F.slot_list_insert {_,e,M} F.entry_list_insert (F.args_list_insert_3 _ _ _) (AutoListH.list_insert_list_int_val_1 l its.toArray n k t u G hsz) {e,?_};refine{.non,_,I.lset (its':=its.take k.toNat++u::its.drop k.toNat) O e ?_ ((r.take k.toNat).append<|.cons Z<|r.drop k.toNat) ?_,M,q}
 .have e0:(if k<0 then(k+((its.toArray.size:Nat):Int)).toNat else min k.toNat its.toArray.size)=k.toNat:=by
   rw[WI (),Z8];lia
  show(its.toArray.extract 0 _).push u++its.toArray.extract _=_;rw[e0];simp;exact Zo<|by rw[Zw];lia
 .rw[Q8,Zh,Q7,Zw];lia
inductive K8(x:V)(vs:P7)(H:Hp)(Q:VK):Prop
 |mk(l:G')(ns:O')(y:Int)(_:x= .ref l)(_:vs=[.int y])(_:H l=some (.lst<|ns.map V.int))(_:y∈ns)(_:Q .non (upd H l<|.lst<|(ns.erase y).map V.int))
def Gy:MtM X "list.remove" K8:=by
 intro B s W H x vs v us Q I rx rv h;let{l,ns,y,rfl,rfl,hH,hy,q}:=h;cases rx;let{u,rfl,ru}:=rv.one;let{t,rfl}:=ru;let{z,its,n,r,hl,e}:=I.lstM hH;have hi:IntsAre its ns:=yf r;have at_:∀(m:Nat)(O:m<its.toArray.size),∃t',its.toArray[m]=Value.int (ns.getD m 0) t':=λm O=>by
  have G:m<ns.length:=by rw[Z8,<-hl,Q1]at O;exact O
  let{w,hw,Y}:=r.get (i:=m) (x:= .int<|ns.getD m 0) (by rw[Zf,Q4 G,Ze,Q4 G];rfl);let{t',rfl}:=Y;refine{t',?_};have:=(Q3.mp hw).2;simpa using this
 have hx:ns.idxOf y<ns.length:=List.idxOf_lt_length_of_mem hy;have ga:∀m,m<ns.length->ns.getD m 0=ns[m]!:=λm O=>by simp[O]
 refine call_meets F.slot_list_remove {_,e,M} F.entry_list_remove (F.args_list_remove_2 _ _) (MeetsSeq.list_remove l its.toArray n (.int y t) (λv=>match v with| .int i _=>i==y|_=>false) (λv hv=>?_) (ns.idxOf y) (by rwa[Z8,<-hl,Q1]) ?_ (λm O lt=>?_)<|by rw[Z8];lia) {e,?_}
 .let{m,O,Z}:=Array.getElem_of_mem hv;let{t',U}:=at_ m O
  rw[<-Z,U];exact MeetsSeq.EqGives.int _ _ _ _
 .let{t',U}:=at_ (ns.idxOf y) (by rwa[Z8,<-hl,Q1])
  rw[U];show(ns.getD (ns.idxOf y) 0==y)=true;rw[Ze,Q4 hx,Option.getD_some,List.getElem_idxOf hx];exact Ye y
 .let{t',U}:=at_ m O
  rw[U];show(ns.getD m 0==y)=false;have G:m<ns.length:=();rw[Ze,Q4 G,Option.getD_some];exact WZ.mpr<|λw=>Ap lt G w
 .have ee:ns.erase y=ns.eraseIdx (ns.idxOf y):=(List.erase_eq_eraseIdx_of_idxOf M);have Z:(ns.eraseIdx<|ns.idxOf y).map V.int=(ns.map V.int).eraseIdx (ns.idxOf y):=AH _ _;rw[ee,Z]at q;refine{.non,_,I.lset (its':=its.eraseIdx<|ns.idxOf y) hH e ?_ (r.eraseIdx<|ns.idxOf y) ?_,M,q}
  .show its.toArray.eraseIdxIfInBounds (ns.idxOf y)=(its.eraseIdx<|ns.idxOf y).toArray;rw[Wn]
  .have:=vb (ns.map V.int) (ns.idxOf y);lia
def Itk(ob:Obj)(d:G')(kvs:Sm):It:=
 {λi H=>H d=some (.frz ob<|.dK kvs)/\i<kvs.length,λi H x H'=>H'=H/\∃k v,kvs[i]?=some (k,v)/\x=kV k,λi H=>H d=some (.frz ob<|.dK kvs)/\kvs.length<=i}
def FY(it:G')(D:Oq P w ob d kvs vs ep):
  Dx P w K tg (Itk ob d kvs) [it] it (λi h=>h.IsKeyIter it d i vs.length ep) where
 mem:=by simp
 obj:=λi h st b hb=>by
  have z:b=it:=by simpa using hb
  subst z;let{o,e,c,dd}:=st;exact{o,e,λv z=>by rw[dd]at z;cases z}
 keep:=λi h h' st k=>by
  let{o,e,r}:=st;exact{o,k it (by simp) _ e,r}
 item:=by
  intro X Y hw hK hc i B s W H E I hf st Z;subst Y hw hK;let{hq,hi}:=Z;let{f0,f1,f2,f3,f4,f5}:=hf it (by simp);let{G,_}:=I.hok d _ hq;have O:=D.2 s.heap G;obtain⟨⟨k,v⟩,hx⟩:∃kv,kvs[i]?=some kv:={kvs[i],by simp[hi]};let{u,hu,ru}:=KV.getI D.1 hx;refine wpAny_pyNext_dict_item st O hu λkey h' U st' sb=>?_;have I1:Inv X B W H {s with heap:=h'}:=I.turned (t':=s.toks) (λb o hb e=>(sb.2 b hb).trans e) f0 f1 f3 f4 f5;let{o,e,c,dd}:=id st';exact{key,M,AB (s:={s with heap:=h'}) e c dd (_) {kV k,H,I1,BM U,⟨M,k,v,hx,M⟩,st',λb hb=>(hf b hb).1}}
 done:=by
  intro X Y hw hK hc i B s W H E I hf st Z;subst Y hw hK;let{hq,hi}:=Z;let{G,_}:=I.hok d _ hq;have O:=D.2 s.heap G;let{f0,f1,f2,f3,f4,f5}:=hf it (by simp);have hl:kvs.length=vs.length:=D.1.length;exact wpAny_pyNext_dict_end (I.ok.hd hc) st O (by simp;lia) λh' eb=>{M,I.turned (t':=s.toks) (λb o hb e=>eb b o hb e) f0 f1 f3 f4 f5}
 self:=λ_ _ _ _ _ st h=>wpAny_pyIter_keyiter st h
def Ph(te:TE):TI:=λW H R=>te W H λx H1=>∃d kvs,x= .ref d/\H1 d=some (.dK kvs)/\∀ob,R (Itk ob d kvs) (upd H1 d<|.frz ob<|.dK kvs)
def E3(hl:PE X l te):PI X tg l (Ph te):=by
 intro B s W H R I h;refine PK (hl B s W H _ I h) λv s1 O=>?_;let{x,H1,I1,r1,q1}:=O;let{d,kvs,e,hd,q}:=q1;subst e;cases r1;let{z,lo,vs,U,dd}:=jp I1.hok hd;let{ep,G}:=dd.dictAt;let{ob,es,Y,rest}:=id G;refine wpAny_pyIter_dict lo G ?_;have Z:=I1.freeze hd Y;refine{s1.heap.objs.size,[s1.heap.objs.size],_,_,_,M,Z.kept (t':=s1.toks) λb o e=>WK _ e,FY _ {U,λh e=>⟨ob,es,e,rest⟩},{_,WT _ M,M,M},λb hb=>?_,q ob};have e:b=s1.heap.objs.size:=by simpa using hb
 subst e;exact Z.fpOk (Q5 _)<|Z.hok.fresh (Q5 _)
def sv:iF X (.type "dict") (λxs H Q=>∃d kvs,xs=[.ref d]/\H d=some (.dK kvs)/\∀p,H p=none->Q (.ref p) (upd H p<|.dK kvs)):=by
 intro B s W H xs us Q I r h;let{d,kvs,rfl,hd,q}:=h;let{u,rfl,O}:=qw r;cases O;let{z,lo,vs,G,dd}:=jp I.hok hd;refine kt_call_dict lo dd (by rwa[<-G.length]) λh' U hs=>?_;let{_,nm,_}:=yt (P:=X.prog) (w:=X.w) (H:=H) s.heap I.big;refine{.ref s.heap.objs.size,_,I.laid (a:=s.heap.objs.size) (o:= .dK kvs) (t':=s.toks) (λb o e=>(hs.2 b<|ZG<|WS e).trans<|WK _ e) (Q5 _) ⟨z,nm,vs,G,U⟩,M,q _<|I.hok.fresh (Q5 _)}
def AE(Pv:Ta)(O:Pv 0 W H)(hl:∀i W H,i<=kvs.length->Pv i W H->H d=some (.frz ob<|.dK kvs))
  (hs:∀i k v W H,kvs[i]?=some (k,v)->Pv i W H->g (kV k) W H λG H2=>tb {Pv<|i+1,rt,nx,Pv<|i+1} G H2) (hd:∀W H,Pv kvs.length W H->nx W H):
  ∃Dr:Nat->Nat->St->Hp->Prop,(∃m,Dr 0 m W H)/\∀i m W H,Dr i m W H->
   ((Itk ob d kvs).stop i H/\nx W H)\/((Itk ob d kvs).go i H/\∃N:St->Hp->Prop,(∀I H',N I H'->∃m',m'<m/\Dr (i+1) m' I H')/\∀x H',(Itk ob d kvs).yld i H x H'->g x W H' λG H2=>tb ⟨N,rt,nx,N⟩ G H2):=by
 refine{λi m W H=>m=kvs.length-i/\i<=kvs.length/\Pv i W H,{kvs.length,by simp,Za _,O},?_};rintro i m W H ⟨rfl,hi,p⟩;have q:=hl i W H hi p;by_cases lt:i<kvs.length
 .refine .inr {⟨q,lt⟩,Pv<|i+1,λI H' z=>{kvs.length-(i+1),(),M,lt,z},λx H' y=>?_};let{rfl,k,v,e,rfl}:=y;exact hs i k v W _ e p
 .have e:i=kvs.length:=();subst e;exact .inl {{q,Q5 _},hd W H p}
inductive K7(x:V)(vs:P7)(H:Hp)(Q:VK):Prop
 |mk(a kvs k y:_)(_:x= .ref a)(_:vs=[kV k,y])(_:H a=some (.dK kvs))(_:kvs.length<sizeLine)(_:(∀v,aH kvs k=some v->Q v H))(_:(aH kvs k=none->Q y (upd H a<|.dK<|bu kvs k y)))
def Gx:S9 X "dict.setdefault" K7:=by
 intro B s W H x vs v us Q I Z rv h;let{a,kvs,k,y,rfl,rfl,U,hl,q1,q2}:=h;cases Z;let{u,r,rfl,ru,Y}:=vq rv;let{z,hd,ws,O,dd}:=jp I.hok U;have G:=O.val k;refine Yk Wx dd.typeIs PySem.F.entry_dict_setdefault (PySem.F.args_dict_setdefault_3 _ _ _) (kt_meets_setdefault (bj X.prog X.w) a (tR ru) hd r) {ws,dd,by rwa[<-O.length],λv hv=>?_,λhn h' dd' hs=>?_}
 .rw[hv]at G;cases e:aH kvs k with
  |none=>rw[e]at G;exact G.elim
  |some x=>
   rw[e]at G;exact{x,H,I.tok _,G,q1 x e}
 .rw[hn]at G;cases e:aH kvs k with
  |some x=>rw[e]at G;exact G.elim
  |none=>
   have he:∃q,h'.get? a=some q:=by let{q,_,_,hq,_}:=dd';exact⟨q,hq⟩
   have lp:=cy kvs k y;exact{y,_,tZ I (by rw[U];exact Y1) hs he<|BU () hd (O.put k Y) dd',Y,q2 e}
def u8(kvs more:Sm):List (Key×V):=more.foldl (λacc p=>bu acc p.1 p.2) kvs
set_option tactic.hygienic true in
def KV.mrg{more:Sm}{z:Tb}(h:KV more z):∀{kvs:Sm}{G:Tb},KV kvs G->KV (u8 kvs more) (merged G z):=by
 induction h with
 |nil=>intro kvs G r;exact r
 |cons r t I=>
  rename_i p q ps qs
  intro kvs G rw;have e:p.1=q.1:=r.1;have:=I (rw.put p.1 r.2);rw[e]at this;show KV (u8 (bu kvs p.1 p.2) ps) _;rwa[e]
theorem xV:∀{more kvs:Sm},(u8 kvs more).length<=kvs.length+more.length
 | [],_=>Q5 _
 |p::r,kvs=>by
  have h1:=xV (more:=r) (kvs:=bu kvs p.1 p.2);have h2:=cy kvs p.1 p.2;show(u8 (bu kvs p.1 p.2) r).length<=_;rw[Zh];lia
inductive rUpd(x:V)(vs:P7)(H:Hp)(Q:VK):Prop
 |mk(d o kvs more:_)(_:x= .ref d)(_:vs=[.ref o])(_:d≠o)(_:H d=some (.dK kvs))(_:H o=some (.dK more))(_:kvs.length+more.length<=sizeLine)(_:Q .non (upd H d<|.dK<|u8 kvs more))
def Gw:S9 X "dict.update" rUpd:=by
 intro B s W H x vs v us Q I rx rv h;let{d,o,kvs,more,rfl,rfl,ne,hd,ho,hl,q}:=h;cases rx;let{u,rfl,ru}:=qw rv;cases ru;let{z,lo,ws,O,dd}:=jp I.hok hd;let{z2,U,Y,G,Z}:=jp I.hok ho;refine Yk PySem.F.slot_dict_update dd.typeIs PySem.F.entry_dict_update (PySem.F.args_dict_update_2 _ _) (meets_dict_update (bj X.prog X.w) d o ne U) {ws,Y,dd,Z,by rwa[<-O.length,<-G.length],λh' dd' _ hs=>?_};have he:∃q,h'.get? d=some q:=by let{q,_,_,hq,_}:=dd';exact⟨q,hq⟩
 exact{.non,_,tZ I (by rw[hd];exact Y1) hs he<|BU (Zl xV hl) lo (G.mrg O) dd',M,q}
end L2
namespace PySem
open PySem.Spec
variable{E:Sg}
section
variable{prog:Se}{w:Sf}{A:Sj}{s:J'}
def JD:typeLookup (.type gs) "keys"=pure none:=am_miss_of_fast ∅
def JF{a:G'}{o:Obj}{xs:So}{k:Nat}{Q:Option Value->Shared->Prop}(hx:s.heap.get? a=some o)(hc:o.cls= .type gs)(z:o.data= .seq xs k)(hd:o.dict=none)(O:A.handled=none)
  (h:∀h' tk,(∀b ob,s.heap.get? b=some ob->h'.get? b=some ob)->Q none {s with heap:=h',toks:=tk}):
  wpAny (model prog w) A (getAttr? (.ref a) "keys") Q E s:=by
 let{c,U,Y,Z}:=o;simp only at hc z hd;subst hc z hd;let{hp,g,d,tk,os}:=s;have I:∀G,(⟨hp,g,d,G,os⟩:J').TypeIs (.ref a) gs:=λ_=>{_,hx,M};have f1:=sub_AttributeError;have f3:=F.slot_list_getattribute.lookup;have f4:=F.slot_list_getattribute.bind (.ref a);have f5:=am_list_getattr_none;unfold getAttr? getAttrBy? getAttrBy
 repeat (any_goals (first|assumption|exact I _|((with_reducible show wpAny _ _ (call (Value.builtin "list.__getattribute__") _ _) _ _ _);refine call_meets F.slot_list_getattribute (I _) am_entry_list_getattribute (F.args_list_getattribute_2 _ _) (meets_getattribute_miss_list a xs k Z "keys" _ JD ∅) {hx,O,λh' G e hx'=>?_})|wp_step))
 let{t',u',he}:=hx'.there;show wpAny _ _ (getattributeRaised _ _ _ _ _ _ _) _ _ _;unfold getattributeRaised
 repeat (any_goals (first|assumption|wp_step))
 exact h _ _ hx'.keeps
end
namespace F
def entry_dict_update_loop:entryFor table "dict.update.loop"=some Builtin.«dict.update.loop»:=entryFor_of_tree (by kernel_rfl)
def plain_dict_update_loop:plainId "dict.update.loop"=true:=by decide+kernel
end F
section
variable{prog:Se}{w:Sf}{K:Type}[DecidableEq K]{knd:KeyKind prog w K}{A:Sj}{R:Result->Shared->Prop}{s:J'}
def JC{E:Sg}{p:G'}{k v:P5}{Q:List Value->Shared->Prop}(z:s.heap.IsTuple p #[k,v])(h:Q [k,v] s):wpAny (model prog w) A (Builtin.Dict.pairItems<|.ref p) Q E s:=by
 let{o,G,hc,n,hd}:=z;have I:s.TypeIs (.ref p) pq:={_,G,hc};unfold Builtin.Dict.pairItems;refine WO<|wpAny_typeOf I ?_;have e:((Value.type pq==Value.type gs)||(Value.type pq==Value.type pq))=true:=by decide
 rw[WJ e];let{z,g,d,tk,os}:=s;let{c,O,U,Y}:=o;simp only at hc hd;subst hc hd
 repeat (any_goals (first|assumption|wp_step))
def JE{I ax D:G'}{items:So}{ps:List (K×Value)}{h₀:Heap}(hh:A.handled=none)(a1:ax≠I)(G:D≠I)(a2:D≠ax)(n0:h₀.get? D=none)(n1:h₀.get? I=none)(hl:ps.length<=sizeLine)
  (hi:∀(j:Nat)(v:P5),items[j]?=some v->∃p k key x,v= .ref p/\ps[j]?=some (k,x)/\knd.is k key=true/\h₀.IsTuple p #[key,x]) (hs:ps.length=items.size):
  ∀(n i:Nat)(s:J'),items.size-i=n->i<=items.size->s.heap.IsListIter I ax i->s.heap.IsList ax items->(∀b o,h₀.get? b=some o->s.heap.get? b=some o)->s.heap.DictOf knd D (merged []<|ps.take i)->
   (∀h' tk,(∀b o,h₀.get? b=some o->h'.get? b=some o)->h'.DictOf knd D (merged [] ps)->R (.ok<|.ret .none) {s with heap:=h',toks:=tk})->
   codeAny (model prog w) A (.builtin "dict.update.loop" {[.ref D,.ref I,rawInt i,.none],[]}) R s:=by
 intro n
 induction n with
 |zero=>
  intro i s hn hi' it il kp dd hR;have e:i=items.size:=();subst e;refine codeAny_builtin F.entry_dict_update_loop ?_;rw[Around.under_plainId F.plain_dict_update_loop _];show wpAny _ A.in1 (pyNext (.ref I)>>=_) _ _ s;have a3:A.in1.handled=none:=by simp[hh]
  refine WO<|wpAny_pyNext_list_end a3 it il (by simp) λh' Y=>?_;show wpAny _ A.in1 (Builtin.Dict.addKeywords D []>>=_) _ _ _;refine WO<|WV (WV ?_);rw[Zo (ZT hs)]at dd;refine hR h' s.toks (λb o e=>Y b o (λz=>by rw[z,n1]at e;cases e)<|kp b o e) ?_;exact dd.at λo e=>Y D o G e
 |succ n ih=>
  intro i s hn hi' it il kp dd hR;have O:i<items.size:=();refine codeAny_builtin F.entry_dict_update_loop ?_;rw[Around.under_plainId F.plain_dict_update_loop _];show wpAny _ A.in1 (pyNext (.ref I)>>=_) _ _ s;refine WO<|wpAny_pyNext_list_item it il (x:=items[i]) (by simp[O]) λh' Z U=>?_;let{p,k,key,x,ev,ep,hk,tp}:=hi i items[i] (by simp[O]);rw[ev];have a0:∀b o,h₀.get? b=some o->h'.get? b=some o:=λb o e=>U.extBut b o (λz=>by rw[z,n1]at e;cases e) (kp b o e);have a4:h'.IsTuple p #[key,x]:=tp.at λo e=>a0 p o e;show wpAny _ A.in1 (holding [Value.ref p] _>>=_) _ _ _;refine WO<|Yh (WO<|wpAny_tryCatch<|JC a4 ?_);show wpAny _ _ (holding [key,x]<|dictSet D key x) _ _ _;refine Yh<|wpAny_dictSet_pairs hk (kvs:=merged []<|ps.take i) ?_ (λh2 d2 s2=>?_) ?_
  .exact dd.at λo e=>U.extBut D o G e
  .refine WV {plainId_quiet F.plain_dict_update_loop _,ih (i+1) _ () O ?_ ?_ ?_ ?_ λh3 tk k3 d3=>hR h3 tk k3 d3}
   .exact Z.at λo e=>(s2.2 I<|Ne.symm G).trans e
   .exact(il.at λo e=>U.extBut ax o a1 e).at λo e=>(s2.2 ax<|Ne.symm a2).trans e
   .exact λb o e=>(s2.2 b<|λz=>by rw[z,n0]at e;cases e).trans (a0 b o e)
   .rwa[merged_take_succ _ _ _ _ ep]
  .have:=merged_length_le [] (ps.take i);rw[Q7]at this;simp only[Vn]at this;lia
end
variable{E Q:Sg}
section
variable{prog:Se}{w:Sf}{K:Type}[DecidableEq K]{knd:KeyKind prog w K}{A:Sj}{s:J'}
def JG{l:G'}{items:So}{ps:List (K×Value)}(O:A.handled=none)(hl:PlainL s.heap l items)(hsz:ps.length<=sizeLine)
  (hi:∀(j:Nat)(v:P5),items[j]?=some v->∃p k key x,v= .ref p/\ps[j]?=some (k,x)/\knd.is k key=true/\s.heap.IsTuple p #[key,x]) (hs:ps.length=items.size)
  (h:∀h' tk,h'.DictOf knd s.heap.objs.size (merged [] ps)->(∀b o,s.heap.get? b=some o->h'.get? b=some o)->Q (.ref s.heap.objs.size) {s with heap:=h',toks:=tk}):
  wpAny (model prog w) A (call (.type "dict") [.ref l]) Q E s:=by
 refine callType_codes (Q₁:=λobj s₁=>obj= .ref s.heap.objs.size/\s₁={s with heap:=s.heap.push {cls:= .type "dict",data:= .dict #[]}}) F.kt_called_dict (F.kt_typeCall_dict_1 _) F.entry_dict_init (kt_code_dict_new _ ⟨M,M⟩) ?_;rintro obj s₁ ⟨rfl,rfl⟩;have z:(s.heap.push {cls:= .type "dict",data:= .dict #[]}).DictOf knd s.heap.objs.size []:=Heap.DictOf.new s.heap;let{o,n,U,hc,hd,I}:=hl;have G:(s.heap.push {cls:= .type "dict",data:= .dict #[]}).get? l=some o:=WK _ U;have lD:l<s.heap.objs.size:=WS U;refine{z.typeIs,F.args_dict_init_2 _ _,?_};unfold Builtin.«dict.__init__»;refine WO ?_;unfold Builtin.Dict.selfAndRest;refine WO<|wpAny_notOrdered_dict z.typeIs ?_;show wpAny _ _ (pure (s.heap.objs.size,[Value.ref l])) _ _ _;refine WV ?_;show wpAny _ _ (Builtin.Dict.updateFrom "dict.__init__" s.heap.objs.size (.ref l) [] .none) _ _ _;unfold Builtin.Dict.updateFrom;refine WO<|wpAny_typeOf (show Shared.TypeIs _ (.ref l) gs from{_,G,hc}) ?_;rw[WJ (_)];refine WO<|JF G hc I hd O λh1 Z k1=>?_;simp only[Option.isNone_none,if_true];refine WO<|Ym ?_;have l1:h1.IsList l items:={_,k1 _ _ G,hc,n,I};refine WO<|wpAny_pyIter_list l1 ?_;have D1:h1.DictOf knd s.heap.objs.size []:=z.at λo e=>k1 _ _ e;have sl:l<h1.objs.size:=WS (k1 _ _ G);have Y:s.heap.objs.size<h1.objs.size:=by let{o',_,_,e,_}:=D1;exact WS e
 refine WV {by first|rfl|exact plainId_quiet F.plain_dict_update_loop _,?_};refine JE (knd:=knd) (h₀:=s.heap) (ax:=l) (by simp[O]) (ZG sl) (ZG Y) (VF lD) (Yg<|Q5 _) (Yg<|ZH Y) hsz hi hs _ 0 _ M (Za _) ?_ ?_ ?_ ?_ ?_
 .exact{_,WT _ M,M,M}
 .exact l1.push _
 .exact λb o e=>WK _ (k1 _ _<|WK _ e)
 .exact D1.push _
 .exact λh' tk kp dd=>{M,h h' tk dd kp}
end
end PySem
namespace L2
open PySem PySem.Spec PyProof.Rows
variable{d:G'}{X:Cx}{tg:Expr}{H:Hp}{hi lo st:Int}{R:It->Hp->Prop}{B:Sb}{kvs:Sm}{vs wb:Tb}{ob:Obj}{P:Se}{K:FA}{s:J'}{W:St}{nx:SZ}{g:TG}{tb:TS}{rt:VK}{E:Sg}{w:Sf}
def JB(I:Inv X B W H s):∀{ts:List (Addr×Key×V)}{us:Sa},P0 (ts.map λe=>V.ref e.1) us->(∀e∈ts,QO X.K H e.1 [kV e.2.1,e.2.2])->∃ps:List (Key×Value),KV (ts.map (·.2)) ps/\∀(j:Nat)(v:P5),us[j]?=some v->∃p k key x,v= .ref p/\ps[j]?=some (k,x)/\(bj X.prog X.w).is k key=true/\s.heap.IsTuple p #[key,x]
 :=λ{ts us} r=>by
 induction ts generalizing us with
 |nil=>cases r;exact λ_=>{[],.nil,λj v h=>by cases h}
 |cons e O z=>
  cases r with
  |cons h1 h2=>
  intro tu;let{ps,kv,g}:=z h2 λy hy=>tu y (Z7 _ hy);cases h1;let{its,rv,G,_}:=I.tuple (tu e Z4);let{a,b,rfl,ra,rb}:=MX rv;refine{(e.2.1,b)::ps,.cons ⟨M,rb⟩ kv,λj v h=>?_};cases j with
  |zero=>cases h;exact{_,_,_,_,M,M,tR ra,G}
  |succ j=>exact g j v h
def EG(G:X.A.handled=none):iF X (.type "dict") (λxs H Q=>∃(a:G')(ts:List (Addr×Key×V)),xs=[.ref a]/\Kv X.K H a (ts.map λe=>V.ref e.1)/\(∀e∈ts,QO X.K H e.1 [kV e.2.1,e.2.2])/\∀p,H p=none->Q (.ref p) (upd H p (.dK (u8 [] (ts.map (·.2)))))):=by
 intro B s W H xs us Q I r h;let{a,ts,rfl,hl,tu,q}:=h;let{u,rfl,O}:=qw r;cases O;let{its,rv,pl,z}:=I.list hl;let{ps,kv,g}:=JB I rv tu;have l1:ts.length=ps.length:=by have:=kv.length;rwa [Q1]at this
 have Z:ts.length=its.length:=by have:=rv.length;rwa [Q1]at this
 rw[Q1]at z;refine JG (knd:=bj X.prog X.w) (ps:=ps) G pl () (λj v e=>g j v<|by simpa using e) (by rw[Z8];lia) λh' tk dd U=>?_;let{_,nm,_}:=yt (P:=X.prog) (w:=X.w) (H:=H) s.heap I.big;have Y:(u8 [] (ts.map (·.2))).length<=sizeLine:=by
  have:=xV (kvs:=[]) (more:=ts.map (·.2));rw[Q1]at this;simp only[Vn]at this;lia
 refine{.ref s.heap.objs.size,_,I.laid (a:=s.heap.objs.size) (o:= .dK (u8 [] (ts.map (·.2)))) (t':=tk) U (Q5 _) {Y,nm,_,kv.mrg .nil,dd},M,q _<|I.hok.fresh (Q5 _)}
inductive OU(x y:V)(H:Hp)(Q:VK):Prop
 |mk(a b:G')(ka kb:Sm)(_:x= .ref a)(_:y= .ref b)(_:H a=some (.dK ka))(_:H b=some (.dK kb))(_:ka.length=kb.length)(_:(∀p∈ka,Fl p.2/\aH kb p.1=some p.2))(_:Q (.bl true) H)
def LN{A:Sj}{I:Sm}(rb:KV I wb):∀{ka:Sm}{z:Tb},KV ka z->(∀p∈ka,Fl p.2/\aH I p.1=some p.2)->PySem.W.KeqHits A s wb z true:=λ{ka z} h=>by
 induction h with
 |nil=>exact λ_=> .nil
 | @cons p q r Y h1 h2 O=>
  intro g;let{f,e}:=g p Z4;let{k,v}:=p;let{k',u}:=q;let{G,rv}:=h1;have G:k=k':=G;subst G;let{y,hy,U}:=Qc.some_of (v:=v) (o:=valueAt wb k) (by rw[<-e];exact rb.val k);exact .hit (e:=true) (b:=true) hy (LJ f rv U)<|O λq hq=>g q (Z7 _ hq)
def E7(hu:X.A.units+20<cLine):Qm X (compareOp .Eq) OU:=by
 intro B s W H x y v u Q I rx ry h;let{a,b,ka,kb,rfl,rfl,ha,hb,l,g,q}:=h;cases rx;cases ry;let{z,lo,vs,O,dd}:=jp I.hok ha;let{z2,U,Z,G,Y}:=jp I.hok hb;have l1:ka.length=vs.length:=O.length;have l2:kb.length=Z.length:=G.length;have hl:vs.length=Z.length:=();refine PySem.W.keq_eq (r:=true) lo U dd Y () (λe=>LN G O g) {.bl true,H,I,?_,q};show Value.bool _=Value.bool _;simp[hl]
noncomputable def Ro(a d:G'):HO:= .ext λh=>h.IsValuesView a d
def Itw(ob:Obj)(d:G')(kvs:Sm):It:=
 {λi H=>H d=some (.frz ob<|.dK kvs)/\i<kvs.length,λi H x H'=>H'=H/\∃k,kvs[i]?=some (k,x),λi H=>H d=some (.frz ob<|.dK kvs)/\kvs.length<=i}
def FU{ep:Nat}(it:G')(D:Oq P w ob d kvs vs ep):
  Dx P w K tg (Itw ob d kvs) [it] it (λi h=>h.IsValIter it d i vs.length ep) where
 mem:=by simp
 obj:=λi h st b hb=>by
  have z:b=it:=by simpa using hb
  subst z;let{o,e,c,dd}:=st;exact{o,e,λv z=>by rw[dd]at z;cases z}
 keep:=λi h h' st k=>by
  let{o,e,r}:=st;exact{o,k it (by simp) _ e,r}
 item:=by
  intro X U hw hK hc i B s W H E I hf st Y;subst U hw hK;let{hq,hi}:=Y;let{Z,f1,f2,f3,f4,f5}:=hf it (by simp);let{G,_}:=I.hok d _ hq;have O:=D.2 s.heap G;obtain⟨⟨k,v⟩,hx⟩:∃kv,kvs[i]?=some kv:={kvs[i],by simp[hi]};let{u,hu,ru}:=KV.getI D.1 hx;refine wpAny_pyNext_values_item st O hu λh' st' sb=>?_;have I1:Inv X B W H {s with heap:=h'}:=I.turned (t':=s.toks) (λb o hb e=>(sb.2 b hb).trans e) Z f1 f3 f4 f5;let{o,e,c,dd}:=id st';exact{u,M,AB (s:={s with heap:=h'}) e c dd (_) {v,H,I1,ru,⟨M,k,hx⟩,st',λb hb=>(hf b hb).1}}
 done:=by
  intro X U hw hK hc i B s W H E I hf st Y;subst U hw hK;let{hq,hi}:=Y;let{G,_}:=I.hok d _ hq;have O:=D.2 s.heap G;let{Z,f1,f2,f3,f4,f5}:=hf it (by simp);have hl:kvs.length=vs.length:=D.1.length;exact wpAny_pyNext_values_end (I.ok.hd hc) st O (by simp;lia) λh' eb=>{M,I.turned (t':=s.toks) (λb o hb e=>eb b o hb e) Z f1 f3 f4 f5}
 self:=λ_ _ _ _ _ st h=>wpAny_pyIter_valiter st h
inductive OS(x:V)(vs:P7)(H:Hp)(Q:VK):Prop
 |mk(d kvs:_)(_:x= .ref d)(_:vs=[])(_:H d=some (.dK kvs))(_:∀a,H a=none->Q (.ref a) (upd H a<|Ro a d))
def u7:S9 X "dict.values" OS:=by
 intro B s W H x vs v us Q I G rv h;let{d,kvs,rfl,rfl,hd,q}:=h;cases G;cases rv;let{z,lo,O,U,dd}:=jp I.hok hd;refine Yk XZ dd.typeIs PySem.F.entry_dict_values (PySem.F.args_dict_values_1 _) (meets_dict_values (bj X.prog X.w) d lo) {⟨O,dd⟩,?_};have new:(s.heap.push {cls:= .type "dict_values",data:= .fields #[.ref d]}).get? s.heap.objs.size=some {cls:= .type "dict_values",data:= .fields #[.ref d]}:=WT _ M;refine{.ref s.heap.objs.size,_,I.laid (t':=s.toks) (λb o e=>WK _ e) (Q5 _) (show PJ X.prog X.w _ _ _ (Ro s.heap.objs.size d) from{{_,new,M,M},{_,new},λh1 h2 p k=>?_}),M,q _<|I.hok.fresh (Q5 _)};let{o,e,c}:=p;exact{o,k o e,c}
def Pc(te:TE):TI:=λW H R=>te W H λx H1=>∃a d kvs,x= .ref a/\H1 a=some (Ro a d)/\H1 d=some (.dK kvs)/\∀ob,R (Itw ob d kvs) (upd H1 d<|.frz ob<|.dK kvs)
def Le{l:Expr}{te:TE}(hl:PE X l te):PI X tg l (Pc te):=by
 intro B s W H R I h;refine PK (hl B s W H _ I h) λv s1 O=>?_;let{x,H1,U,r1,q1}:=O;let{a,d,kvs,e,ha,hd,q}:=q1;subst e;cases r1;let{z,lo,vs,Y,dd}:=jp U.hok hd;let{ep,G}:=dd.dictAt;let{vw,_,_}:=(show PJ X.prog X.w H1 s1.heap a (Ro a d) from U.hok a _ ha);let{ob,es,Z,rest}:=id G;refine wpAny_pyIter_values vw G ?_;have If:=U.freeze hd Z;refine{s1.heap.objs.size,[s1.heap.objs.size],_,_,_,M,If.kept (t':=s1.toks) λb o e=>WK _ e,FU _ {Y,λh e=>⟨ob,es,e,rest⟩},{_,WT _ M,M,M},λb hb=>?_,q ob};have e:b=s1.heap.objs.size:=by simpa using hb
 subst e;exact If.fpOk (Q5 _)<|If.hok.fresh (Q5 _)
def Jt(Pv:Ta)(O:Pv 0 W H)(hl:∀i W H,i<=kvs.length->Pv i W H->H d=some (.frz ob<|.dK kvs))
  (hs:∀i k v W H,kvs[i]?=some (k,v)->Pv i W H->g v W H λG H2=>tb {Pv<|i+1,rt,nx,Pv<|i+1} G H2) (hd:∀W H,Pv kvs.length W H->nx W H):
  ∃Dr:Nat->Nat->St->Hp->Prop,(∃m,Dr 0 m W H)/\∀i m W H,Dr i m W H->
   ((Itw ob d kvs).stop i H/\nx W H)\/((Itw ob d kvs).go i H/\∃N:St->Hp->Prop,(∀I H',N I H'->∃m',m'<m/\Dr (i+1) m' I H')/\∀x H',(Itw ob d kvs).yld i H x H'->g x W H' λG H2=>tb ⟨N,rt,nx,N⟩ G H2):=by
 refine{λi m W H=>m=kvs.length-i/\i<=kvs.length/\Pv i W H,{kvs.length,by simp,Za _,O},?_};rintro i m W H ⟨rfl,hi,p⟩;have q:=hl i W H hi p;by_cases lt:i<kvs.length
 .refine .inr {⟨q,lt⟩,Pv<|i+1,λI H' z=>{kvs.length-(i+1),(),M,lt,z},λx H' y=>?_};let{rfl,k,e}:=y;exact hs i k x W _ e p
 .have e:i=kvs.length:=();subst e;exact .inl {{q,Q5 _},hd W H p}
def KM:∀{kvs:Sm}{vs:Tb}{ns:O'},KV kvs vs->kvs.map (·.2)=ns.map V.int->∀(i:Nat)(k:Key)(v:P5),vs[i]?=some (k,v)->∃t:Tok,v= .int (ns.getD i 0) t:=λ{kvs vs ns} r=>by
 induction r generalizing ns with
 |nil=>exact λ_ _ _ _ h=>by cases h
 | @cons p _ _ _ h1 h2 G=>
  intro e i k v h;cases ns with
  |nil=>cases e
  |cons n ns=>
   let{z,e2}:=List.cons.inj e;cases i with
   |zero=>
    cases h;have z:p.2= .int n:=z;have:=h1.2;rw[z]at this;exact this
   |succ i=>exact G e2 i k v h
theorem HP:∀ns:List Int,preSum (λi=>ns.getD i 0) ns.length=ns.sum
 | []=>rfl
 |n::r=>by
  rw[Zh,PySem.W.kdu_shift,W9,<-HP r];rfl
def AM(hh:X.A.handled=none):iF X (.builtin "sum") (λxs H Q=>∃(a d:G')(kvs:Sm)(ns:O'),xs=[.ref a]/\H a=some (Ro a d)/\H d=some (.dK kvs)/\kvs.map (·.2)=ns.map V.int/\Q (.int ns.sum) H):=by
 intro B s W H xs us Q I r h;let{a,d,kvs,ns,rfl,ha,hd,G,q}:=h;let{u,rfl,ru}:=qw r;cases ru;let{z,lo,vs,O,dd}:=jp I.hok hd;let{ep,U}:=dd.dictAt;let{vw,_,_}:=(show PJ X.prog X.w H s.heap a (Ro a d) from I.hok a _ ha);have S:=PySem.W.kdl_values (prog:=X.prog) (w:=X.w) (r:=a) (d:=d) (knd:=bj X.prog X.w) (kvs:=vs) (ep:=ep);have ok:s.heap.IsValuesView a d/\s.heap.DictAt (bj X.prog X.w) d vs ep:=⟨vw,U⟩;have l1:vs.length=ns.length:=by
  have h1:=O.length;have h2:=Y2 List.length G;rw[Q1,Q1]at h2;lia
 refine call_sum_walkAnyS ?_;let{oI,St,Y,Dr,st}:=S.iter X.A.in1 s hh ok;refine Y _ _ {s.heap.objs.size,_,_,_,vs.length,_,_,(λi=>ns.getD i 0),M,Dr.toS,st,λb hb=>?_,λi v zz=>by let{k,e}:=zz;exact KM O G i k v e,λs' t' Z=>?_}
 .show b<(s.heap.push oI).objs.size;rw[size_push'];rcases Zb.mp hb with e|hb
  .rw[e];exact XI _
  .rw[Q9.mp hb];exact Nat.lt_succ_of_lt (S.there _ ok).2
 .have hk:∀b o,s.heap.get? b=some o->s'.heap.get? b=some o:=λb o e=>
   Z.heap b o (λhI=>WN (WS e)<|by rw[Q9.mp hI];exact XD _) (WK _ e)
  rw[Moved.eq_with Z,l1,HP];exact{.int _,H,I.kept (t':=s'.toks) hk,⟨t',M⟩,q}
def G4(lo st:Int)(n:Nat):It:={λi _=>i<n,λi H x H'=>H'=H/\x= .int (lo+i*st),λi _=>n<=i}
def Cm(it:G')(lo st:Int)(n:Nat):Dx P w K tg (G4 lo st n) [it] it (λi h=>IsRangeIter h it (lo+(i:Nat)*st) ((n:Int)-(i:Nat)) st) where
 mem:=by simp
 obj:=λi h G b hb=>by
  have e:b=it:=by simpa using hb
  subst e;exact{_,G,λv z=>by
   have z':Data.fields _=Data.cell v:=z;cases z'}
 keep:=λi h h' G k=>k it (by simp) _ G
 item:=by
  intro X O hw hK hc i B s W H E I hf G U;subst O hw hK;let{Y,Z,f2,f3,f4,f5}:=hf it (by simp);have Dr:=Walks.range (prog:=X.prog) (w:=X.w) (I.ok.hd hc) it lo st n;refine Dr.item i s _ _ U G λv h' tk hv st' kk=>?_;let{t,rfl}:=hv;have I1:Inv X B W H {s with heap:=h',toks:=tk}:=I.turned (λb o hb e=>kk b o (by simpa using hb) e) Y Z f3 f4 f5;exact{_,M,AB (s:={s with heap:=h',toks:=tk}) (n:="range_iterator") st' M M (_) {.int<|lo+i*st,H,I1,⟨t,M⟩,⟨M,M⟩,st',λb hb=>(hf b hb).1}}
 done:=by
  intro X O hw hK hc i B s W H E I hf G U;subst O hw hK;let{Y,Z,f2,f3,f4,f5}:=hf it (by simp);exact wpAny_pyNext_range_end (I.ok.hd hc) G (by have:n<=i:=U;lia) λh' eb=>{M,I.turned (t':=s.toks) (λb o hb e=>eb b o hb e) Y Z f3 f4 f5}
 self:=λ_ _ _ _ _ G h=>wpAny_pyIter_rangeiter G h
noncomputable def sr(lo hi st:Int):Nat:=(Builtin.Range.rangeSize lo hi st).toNat
def qC(h:0<st):Builtin.Range.rangeSize lo hi st=if lo<hi then(hi-lo-1)/st+1 else 0:=by
 unfold Builtin.Range.rangeSize;rw[WJ h]
def Bw(h:0<st)(z:0<=lo)(h1:0<=hi):0<=Builtin.Range.rangeSize lo hi st/\Builtin.Range.rangeSize lo hi st<=hi:=by
 rw[qC h];split
 .have a:0<=(hi-lo-1)/st:=VN () ();have b:(hi-lo-1)/st<=hi-lo-1:=Int.ediv_le_self _ ();lia
 .lia
def Gh{t u v:Tok}{tk:Nat}(I:Inv X B W H s)(h1:0<=lo)(h2:lo<2^30)(Y:0<=hi)(Z:hi<2^30)(U:0<st)(h6:st<2^30)
  (q:R (G4 lo st<|sr lo hi st) H):FB X (pyIter<|.ref s.heap.objs.size) (PIE X B W tg R) E {s with heap:=s.heap.push {cls:= .type oq,data:= .fields #[.int lo t,.int hi u,.int st v]},toks:=tk}:=by
 have bd:=Bw (lo:=lo) (hi:=hi) U h1 Y;refine wpAny_pyIter_range (IsRange.new ..) ?_ ?_
 .unfold Builtin.Range.small;simp only[Builtin.Range.rangeFitsLong,Zs,Bool.or_eq_true,WY,WW,U,if_true];generalize Builtin.Range.rangeSize lo hi st=n at bd⊢;have z:(2:Int)^63=9223372036854775808:=by decide
  have G:(2:Int)^30=1073741824:=by decide
  rw[G]at h2 Z h6
  try rw[z]
  lia
 have O:Inv X B W H {s with heap:=s.heap.push {cls:= .type oq,data:= .fields #[.int lo t,.int hi u,.int st v]},toks:=tk}:=I.kept λb o e=>WK _ e;refine{(s.heap.push {cls:= .type oq,data:= .fields #[.int lo t,.int hi u,.int st v]}).objs.size,[(s.heap.push {cls:= .type oq,data:= .fields #[.int lo t,.int hi u,.int st v]}).objs.size],_,_,H,M,
  O.kept (t':=tk) λb o e=>WK _ e,Cm _ lo st<|sr lo hi st,?_,λb hb=>?_,q}
 .have e1:lo+((0:Nat):Int)*st=lo:=by simp
  have e2:((sr lo hi st:Nat):Int)-((0:Nat):Int)=Builtin.Range.rangeSize lo hi st:=by unfold sr;lia
  show IsRangeIter _ _ (lo+((0:Nat):Int)*st) (((sr lo hi st:Nat):Int)-((0:Nat):Int)) st;rw[e1,e2];exact WT _ M
 .have e:b=(s.heap.push {cls:= .type oq,data:= .fields #[.int lo t,.int hi u,.int st v]}).objs.size:=by simpa using hb
  subst e;exact O.fpOk (Q5 _)<|O.hok.fresh (Q5 _)
def Pd(ta:TA):TI:=λW H R=>ta W H λvs H1=>∃i j k:Int,vs=[.int i,.int j,.int k]/\(0<=i/\i<2^30/\0<=j/\j<2^30/\0<k/\k<2^30)/\R (G4 i k<|sr i j k) H1
def Gk{a b c:Expr}{ta:TA}{p pos:Pos}(Z:Gl X oq)(hm:X.mg oq=none)(ha:PA X [a,b,c] ta)(hs:starEach [a,b,c] X.env=[(false,eval a X.env),(false,eval b X.env),(false,eval c X.env)]:=by rfl)
  (z:starEach [b,c] X.env=[(false,eval b X.env),(false,eval c X.env)]:=by rfl):PI X tg (.Call (.Name oq p) [a,b,c] [] pos) (Pd ta):=by
 intro B s W H R I h;refine Call_<|rX I Z hm boot_range (PyProof.Rows.callWith_type1 (PK (ha pos B s W H _ I h) λus s1 O=>?_) (by rw[hs,z])<|by rw[z];rfl);let{vs,H1,I1,r1,U}:=O;let{i,j,k,e,{U,q2,q3,q4,q5,q6},q}:=U;subst e;cases r1 with
 |cons r G=>
  cases G with
  |cons r' G=>
   cases G with
   |cons Y G=>
    cases G;let{t,rfl}:=r;let{t',rfl}:=r';let{a0,rfl}:=Y;exact call_range_3 () (Gh I1 U q2 q3 q4 q5 q6 q)<|.inl (PyProof.noPylong_small ())
def De{n:Nat}(Pv:Ta)(O:Pv 0 W H)
  (hs:∀i W H,i<n->Pv i W H->g (.int<|lo+i*st) W H λz H2=>tb {Pv<|i+1,rt,nx,Pv<|i+1} z H2) (hd:∀W H,Pv n W H->nx W H):
  ∃Dr:Nat->Nat->St->Hp->Prop,(∃m,Dr 0 m W H)/\∀i m W H,Dr i m W H->
   ((G4 lo st n).stop i H/\nx W H)\/((G4 lo st n).go i H/\∃N:St->Hp->Prop,(∀G H',N G H'->∃m',m'<m/\Dr (i+1) m' G H')/\∀x H',(G4 lo st n).yld i H x H'->g x W H' λz H2=>tb ⟨N,rt,nx,N⟩ z H2):=by
 refine{λi m W H=>m=n-i/\i<=n/\Pv i W H,{n,by simp,Za _,O},?_};rintro i m W H ⟨rfl,hi,p⟩;by_cases I:i<n
 .refine .inr {I,Pv<|i+1,λG H' U=>{n-(i+1),(),M,I,U},λx H' y=>?_};let{e,y}:=y;subst e y;exact hs i W _ I p
 .have e:i=n:=();subst e;exact .inl {Q5 _,hd W H p}
open Srt
section
variable{X:Cx}
def K3f(H:Hp)(a:G')(k:O'):Prop:=∃i j m:Int,H a=some (.tup [.int i,.int j,.int m])/\k=[i,j,m]
def wI{x y z:V}{its:Sa}(r:P0 [x,y,z] its):∃u v w,its=[u,v,w]/\RelV x u/\RelV y v/\RelV z w:=by
 cases r with
 |cons r1 r=>
  let{v,w,rfl,h2,G}:=vq r;exact{_,v,w,M,r1,h2,G}
def zS:iF X (.builtin "sorted") (λvs H Q=>∃(p:G')(as:Si)(ky:Addr->List Int),vs=[.ref p]/\Kv X.K H p (as.map V.ref)/\(∀a∈as,K3f H a (ky a))/\
  ∀(l:G')(bs:Si),H l=none->bs.Perm as->bs.Pairwise (λa b=>HT.lexLt (ky b) (ky a)=false)->Q (.ref l) (upd H l<|.lst<|bs.map V.ref)):=by
 intro B s W H xs us Q I r h;let{p,as,ky,rfl,hq,hk,q}:=h;let{u,rfl,ru}:=qw r;cases ru;let{its,rv,pl,hz}:=I.list hq;refine Ga (κ:=tuples'<|Value.type "int" !=Value.type pq) (ky:=kRef ky) I hz rv pl.isList (λh' k h2 Q' G=>?_) (λh' k x y u v E' Q' hx hy rx ry G=>?_) λl ys hl pm pw=>?_
 .have tups:∀(bs:Si)(U:Sa),(∀a∈bs,K3f H a (ky a))->P0 (bs.map V.ref) U->∃fs:List Value,PySem.W.KatTups h' U fs/\(∀f∈fs,∃i t,f=Value.int i t)/\fs.length=U.length:=by
   intro bs
   induction bs with
   |nil=>intro U _ r;cases r;exact{[],.nil,λ_ h=>WN h Xv,M}
   |cons a bs ih=>
    intro U hk r;cases r with
    |cons r1 r2=>
     cases r1;let{fs,t,hi,hl}:=ih _ (λb hb=>hk b<|Z7 _ hb) r2;let{i,j,m,ha,_}:=hk a Z4;let{o,Y,n,O,e,c,d}:=D3 I ha k;let{u1,u2,u3,rfl,q1,q2,q3}:=wI O;let{Z,rfl}:=q1;refine{Value.int i Z::fs,.cons e c d M t,λf hf=>?_,by rw[Zh,Zh,hl]};rcases Zb.mp hf with z|z
     .exact⟨i,Z,z⟩
     .exact hi f z
  let{fs,t,hi,hl}:=tups as its hk rv;refine PySem.W.kat_kind (T:= .type "int") t () (λv hv=>?_) ∅ G;let{i,t,rfl}:=hi v hv;exact PySem.W.Looks.of_pure M
 .let{a,ha,rfl}:=Z5.mp hx;let{b,hb,rfl}:=Z5.mp hy;cases rx;cases ry;let{i,j,m,ea,ka}:=hk a ha;let{i',j',m',eb,kb}:=hk b hb;have G:Q' (HT.lexLt (ky a)<|ky b) {s with heap:=h'}:=G;rw[ka,kb,HT.lexLt_cons,HT.lexLt_cons,HT.lexLt_cons,HT.lexLt_nil_nil]at G;let{o,a2,n,a0,e1,c1,d1}:=D3 I ea k;let{u1,u2,u3,rfl,{Z,rfl},{t2,rfl},{t5,rfl}}:=wI a0;let{o',Y,n',O,e2,c2,d2}:=D3 I eb k;let{w1,w2,w3,rfl,{t3,rfl},{t4,rfl},{t6,rfl}}:=wI O;refine PySem.W.kat_lt e1 d1 e2 d2<|Wo (SeqAt.EqAt.int_int _ _ _ _ _ _ _ _<|WG (λe=>Wy ?_)<|λe=>WH ?_)
  .rw[WJ (WW.mp e)]at G;refine Wo<|SeqAt.EqAt.int_int _ _ _ _ _ _ _ _ (WG (λe=>Wy ?_)<|λe=>WH ?_)
   .rw[WJ (WW.mp e)]at G;refine Wo<|SeqAt.EqAt.int_int _ _ _ _ _ _ _ _ (WG (λe=>Wy ?_)<|λe=>WH ?_)
    .rw[WJ (WW.mp e)]at G;exact PySem.W.kat_nil<|by simpa using G
    .rw[WI (WZ.mp e)]at G;exact PySem.W.kat_one _ _<|lt_int G
   .rw[WI (WZ.mp e)]at G;exact PySem.W.kat_one _ _<|lt_int G
  .rw[WI (WZ.mp e)]at G;exact oneLt_int G
 .let{bs,rfl,a1}:=Gn pm;exact q l bs hl a1<|ZE.mp pw
end
end L2
namespace L2
open PySem PySem.Spec PyProof.Rows
variable{tg:Expr}{K:FA}
def Itv(K:FA)(a:G')(n:Nat):It:=
 {λi H=>i<n/\∃xs x,Kv K H a xs/\xs[n-1-i]?=some x,λi H x H'=>H'=H/\∀xs,Kv K H a xs->xs[n-1-i]?=some x,λi _=>n<=i}
def HB{P:Se}{w:Sf}(a it:G')(n:Nat):Dx P w K tg (Itv K a n) [it] it (λi h=>i<=n/\h.IsRevIter it a ((n:Int)-1-(i:Int))) where
 mem:=by simp
 obj:=λi h st b hb=>by
  have e:b=it:=by simpa using hb
  subst e;let{_,o,e,c,d}:=st;exact{o,e,λv z=>by rw[d]at z;cases z}
 keep:=λi h h' st k=>{st.1,st.2.at λo e=>k it (by simp) o e}
 item:=by
  intro X O hw hK hc i B s W H E I hf st U;subst O hw hK;let{hi,xs,x,hq,hx}:=U;let{its,rv,p,hz}:=I.list hq;let{u,hu,ru}:=rv.get hx;let{Y,Z,f2,f3,f4,f5}:=hf it (by simp);have e1:(n:Int)-1-(i:Int)=((n-1-i:Nat):Int):=();have G:=st.2;rw[e1]at G;refine wpAny_pyNext_rev_item G p.isList (x:=u) (by simpa using hu) λh' st' sb=>?_;have e2:((n-1-i:Nat):Int)-1=(n:Int)-1-((i+1:Nat):Int):=();rw[e2]at st';have I1:Inv X B W H {s with heap:=h'}:=I.turned (t':=s.toks) (λb o hb e=>(sb.2 b hb).trans e) Y Z f3 f4 f5;let{o,e,c,d}:=id st';exact{u,M,AB (s:={s with heap:=h'}) e c d (_) {x,H,I1,ru,{M,λys hy=>by rwa[I.list_inj hy hq]},⟨hi,st'⟩,λb hb=>(hf b hb).1}}
 done:=by
  intro X O hw hK hc i B s W H E I hf st U;subst O hw hK;let{Y,Z,f2,f3,f4,f5}:=hf it (by simp);have G:=st.2;have hn:n<=i:=U;have e:(n:Int)-1-(i:Int)= -1:=by have:=st.1;lia
  rw[e]at G;exact wpAny_pyNext_rev_end (I.ok.hd hc) G λh' eb=>{M,I.turned (t':=s.toks) (λb o hb e=>eb b o hb e) Y Z f3 f4 f5}
 self:=λ_ _ _ _ _ st h=>wpAny_pyIter_revIter st.2 h
section
variable{X:Cx}
def iRev(K:FA)(ta:TA):TI:=λW H R=>ta W H λvs H1=>∃a xs,vs=[.ref a]/\Kv K H1 a xs/\R (Itv K a xs.length) H1
def Nu{a:Expr}{ta:TA}{p pos:Pos}(O:Gl X "reversed")(U:X.mg "reversed"=none)(ha:PA X [a] ta)(hs:starEach [a] X.env=[(false,eval a X.env)]:=by rfl):PI X tg (.Call (.Name "reversed" p) [a] [] pos) (iRev X.K ta):=by
 intro B s W H R I h;refine Call_<|rX I O U Boot.«reversed» (PyProof.Rows.callWith_type1 (PK (ha pos B s W H _ I h) λus s1 G=>?_) hs M);let{vs,H1,z,r1,Y}:=G;let{b,xs,e,hq,q}:=Y;subst e;cases r1 with
 |cons r Z=>
  cases Z;cases r;let{its,rv,p,hz}:=z.list hq;have hl:=rv.length;refine call_reversed_list p.isList ?_;refine wpAny_pyIter_revIter (l:=b) (i:=(its.toArray.size:Int)-1) {_,WT _ M,M,M} ?_;refine{s1.heap.objs.size,[s1.heap.objs.size],_,_,H1,M,z.kept (t':=s1.toks) λb o e=>WK _ e,HB b _ xs.length,{Za _,?_},λb hb=>?_,q}
  .have e:(xs.length:Int)-1-((0:Nat):Int)=(its.toArray.size:Int)-1:=by simp;lia
   rw[e];exact{_,WT _ M,M,M}
  .have e:b=s1.heap.objs.size:=by simpa using hb
   subst e;exact z.fpOk (Q5 _)<|z.hok.fresh (Q5 _)
end
def GV{a D:G'}{xs:P7}{te:TE}{tc:TT}{W:St}{H1:Hp}{Fin:Hp->Prop}(Pv:Tc)(G:Pv 0 [] (upd H1 D<|.lst []))(hl:∀i ys H,i<=xs.length->Pv i ys H->Kv K H a xs)
  (hs:∀i x ys H2,xs.reverse[i]?=some x->Pv i ys H2->H2 D=some (.lst ys)->tc (some x::W) H2 λb H4=>if b=true then te (some x::W) H4 (QF xs.length i ys D Pv)else Qi xs.length i ys D Pv H4)
  (hd:∀ys H2,Pv xs.length ys H2->H2 D=some (.lst ys)->Fin H2):
  ∃Dr:Nat->Nat->List V->Hp->Prop,(∃m,Dr 0 m [] (upd H1 D<|.lst []))/\∀i m ys H2,Dr i m ys H2->H2 D=some (.lst ys)->
   ((Itv K a xs.length).stop i H2/\Fin H2)\/((Itv K a xs.length).go i H2/\∀x H3,(Itv K a xs.length).yld i H2 x H3->tc (some x::W) H3 λb H4=>if b=true then te (some x::W) H4 λy z=>z D=some (.lst ys)/\ys.length<sizeLine/\∃m',m'<m/\Dr (i+1) m' (ys++ [y]) (upd z D<|.lst<|ys++ [y])else H4 D=some (.lst ys)/\∃m',m'<m/\Dr (i+1) m' ys H4):=by
 refine{λi m ys H=>m=xs.length-i/\i<=xs.length/\Pv i ys H,{xs.length,by simp,Za _,G},?_};rintro i m ys H ⟨rfl,hi,p⟩ hD;have q:=hl i ys H hi p;by_cases lt:i<xs.length
 .refine .inr {{lt,xs,xs[xs.length-1-i]'(by omega),q,Q4 _},λx H' y=>?_};let{e,y}:=y;subst e;exact hs i x ys _ (by rw[List.getElem?_reverse lt];exact y xs q) p hD
 .have e:i=xs.length:=(by omega);subst e;exact .inl {Q5 _,hd ys H p hD}
open SeqAt
section
variable{X:Cx}{B:Sb}{W:St}{H:Hp}{s:J'}
inductive Np(x:V)(vs:P7)(H:Hp)(Q:VK):Prop
 |mk(a kvs k y:_)(_:x= .ref a)(_:vs=[kV k,y])(_:H a=some (.dK kvs))(_:(∀v,aH kvs k=some v->Q v (upd H a<|.dK<|bQ kvs k)))(_:(aH kvs k=none->Q y H))
def Iz:S9 X "dict.pop" Np:=by
 intro B s W H x vs v us Q I Y rv h;let{a,kvs,k,y,rfl,rfl,O,Z,q2}:=h;cases Y;let{u,r,rfl,U,rr}:=vq rv;cases l:aH kvs k with
 |some v=>exact ME I O U l (.inr ⟨r,M⟩) λw' s4 z G=>{v,_,z,G,Z v l}
 |none=>exact N8 I O U l λs4 z=>{y,H,z,rr,q2 l}
end
end L2
namespace SW
open PySem L2
set_option maxHeartbeats 0
abbrev _root_.R':=List (Int×V)
abbrev _root_.Sv:=List (List Int)
variable{C a b c dd dx p q r tb:G'}{F F':K'}{t:PL}{X X':PX}{o:HO}{x':QA}{H H' H1:Hp}{Dr hi k lo m:Int}{R:Sw}{T kv' kvs ps qs:R'}{ls:Sv}{fs:Sn}{A:Si}{L:List Cq}{ds l:List DR}{ks ns x y:O'}{pa':List Pk}{ts:List Tp}{xs:P7}{i i0 j n:Nat}{E:Nat->Prop}{K:FA}{st:PD}{W:St}{f:Str}{α β:Type}{a' av e ta v:V}{Q:VK}
structure Txt(K:FA)(mg:Sl)(t:PL):Prop where
 iI:mg "OutOfTurn"=some (.ref t.bW)
 CW:mg "Token"=some (.ref t.iM)
 xX:mg "BySlots"=some (.ref t.aX)
 IE:mg "Up"=some (.ref t.eP)
 Lr:mg "Down"=some (.ref t.cQ)
 Py:mg "Page"=some (.ref t.bV)
 Av:mg "Copier"=some (.ref t.aR)
 Ou:mg "Leaves"=some (.ref t.bK)
 O9:mg "Makes"=some (.ref t.gQ)
 O8:mg "Slots"=some (.ref t.aZ)
 Pa:mg "House"=some (.ref t.a9)
 CZ:mg "turned"=some (.ref t.Du)
 yJ:PU K "turned" "turned" xw t.Du t.yu
 Dt:Binds K t.yu ["number"] []
 GB:mg "mark_of"=some (.ref t.AX)
 A9:PU K "mark_of" "mark_of" uP t.AX t.vi
 GZ:Binds K t.vi [et] []
 Ex:mg "place_of"=some (.ref t.yD)
 yL:PU K "place_of" "place_of" rL t.yD t.sf
 EI:Binds K t.sf [et] []
 Ax:mg "slot_of"=some (.ref t.AV)
 vp:PU K "slot_of" "slot_of" uN t.AV t.vg
 AT:Binds K t.vg [et,sD] []
 LB:mg "stretch_of"=some (.ref t.ud)
 Cc:PU K "stretch_of" "stretch_of" lY t.ud t.mU
 LQ:Binds K t.mU ["slot",sD] []
 GA:mg "slot_at"=some (.ref t.AW)
 A8:PU K "slot_at" "slot_at" uO t.AW t.vh
 GY:Binds K t.vh [yH,sD] []
 NG:mg "is_whole"=some (.ref t.yE)
 EL:PU K "is_whole" "is_whole" rM t.yE t.si
 Ob:Binds K t.si ["thing"] []
 lF:mg "is_from"=some (.ref t.AZ)
 iS:PU K "is_from" "is_from" uR t.AZ t.vk
 lJ:Binds K t.vk ["thing","low"] []
 kY:PU K i3 "Token.__init__" j8 t.kW t.kG
 qQ:Binds K t.kG [cC,"kind",qP,t7] []
 Hr:Qr K i3 "BySlots.__init__" g8 t.nR t.c4
 wu:Binds K t.c4 [cC,qP,t7] []
 G9:PU K "holds" "BySlots.holds" gw t.lR t.gI
 lM:Binds K t.gI [cC,et] []
 Op:Qr K i3 "Up.__init__" rN t.yG t.jx
 EJ:Binds K t.jx [cC,qP,t7] []
 MS:PU K "holds" "Up.holds" oz t.vG t.pC
 pI:Binds K t.pC [cC,et] []
 Me:Qr K i3 "Down.__init__" mF t.ux t.gb
 B8:Binds K t.gb [cC,qP,t7] []
 KJ:PU K "holds" "Down.holds" ku t.rj t.kT
 kU:Binds K t.kT [cC,et] []
 PB:mg "ask"=some (.ref t.MM)
 Pt:Qr K "ask" "ask" HV t.MM t.Dm
 Od:jF K t.Dm [mu,fx,l9,"sieve"] [.non]
 He:mg "page_by_slots"=some (.ref t.nM)
 wv:PU K "page_by_slots" "page_by_slots" gW t.nM t.ie
 Hh:Binds K t.ie ["slots",fx,l9] []
 IM:mg "page_by_keys"=some (.ref t.pM)
 yM:PU K "page_by_keys" "page_by_keys" fE t.pM t.jr
 JQ:Binds K t.jr [mu,fx,l9] []
 IP:mg "keys_of_page"=some (.ref t.pN)
 yN:PU K "keys_of_page" "keys_of_page" fF t.pN t.js
 JR:Binds K t.js [gt,fx,l9] []
 MA:mg "keys_near"=some (.ref t.vC)
 Dz:PU K "keys_near" "keys_near" ou t.vC t.pj
 MI:Binds K t.pj [gt,fx,yz] []
 IL:mg "token_behind"=some (.ref t.pL)
 yK:PU K "token_behind" "token_behind" iV t.pL t.jq
 JP:Binds K t.jq [fx,et] []
 GC:mg "is_left"=some (.ref t.AY)
 Ba:PU K "is_left" "is_left" uQ t.AY t.vj
 G0:Binds K t.vj [fx,et] []
 IQ:mg "change"=some (.ref t.Dv)
 DA:PU K "change" "change" xy t.Dv t.yv
 JS:Binds K t.yv [u5,"row"] []
 Mb:PU K i3 "Page.__init__" mC t.uu t.m9
 LW:Binds K t.m9 [cC,fx] []
 Ma:PU K "read" "Page.read" mB t.ut t.m8
 LV:Binds K t.m8 [cC,mu,l9] []
 G6:PU K "in_piece" "Page.in_piece" gp t.lO t.gF
 G1:Binds K t.gF [cC,et] []
 Hn:PU K "outcome" "Page.outcome" gY t.nO t.ii
 Hk:Binds K t.ii [cC] []
 Kb:Qr K i3 "Copier.__init__" i8 t.pV t.gf
 JX:Binds K t.gf [cC,mu,fx,"stopped"] []
 iu:jF K t.gf [cC,mu,fx,"stopped"] [.non]
 DS:PU K "open_page" "Copier.open_page" d8 t.iE t.eF
 DN:Binds K t.eF [cC] []
 DQ:Qr K "read_page" "Copier.read_page" d6 t.iD t.cI
 qu:Binds K t.cI [cC,l9] []
 DE:PU K "close_page" "Copier.close_page" dG t.gV t.dM
 pK:Binds K t.dM [cC] []
 G7:PU K "follow" "Copier.follow" gu t.lP t.gG
 lK:Binds K t.gG [cC,"steps"] []
 Ch:PU K "follow_mark" "Copier.follow_mark" c6 t.gk t.c8
 Cg:Binds K t.c8 [cC,"number"] []
 Bb:PU K "follow_change" "Copier.follow_change" cK t.fu t.cP
 AU:Binds K t.cP [cC,"row"] []
 Kc:PU K "copy" "Copier.copy" i9 t.pW t.jA
 yC:Binds K t.jA [cC] []
 G8:PU K "covers" "Copier.covers" gv t.lQ t.gH
 vo:Binds K t.gH [cC,et] []
 Hq:PU K yH "Copier.place" g7 t.nQ t.iq
 Hm:Binds K t.iq [cC] []
 Ka:PU K "left" "Copier.left" i7 t.pU t.jz
 gh:Binds K t.jz [cC] []
 Ho:PU K "total" "Copier.total" gZ t.nP t.io
 Hl:Binds K t.io [cC] []
 FR:PU K "stopped" "Copier.stopped" fK t.jY t.gd
 FG:Binds K t.gd [cC] []
 J8:PU K i3 "Leaves.__init__" i5 t.pS t.jy
 JV:Binds K t.jy [cC] []
 KF:PU K "add" "Leaves.add" gM t.q9 t.kP
 Kr:Binds K t.kP [cC,et] []
 FP:PU K "discard" "Leaves.discard" fI t.jW t.fY
 FF:Binds K t.fY [cC,et] []
 KD:PU K "has" "Leaves.has" ko t.qZ t.kO
 zW:Binds K t.kO [cC,et] []
 FO:PU K "from_on" "Leaves.from_on" de t.jV t.fX
 FE:Binds K t.fX [cC,et,yz] []
 DP:PU K "down_from" "Leaves.down_from" cH t.iC t.eE
 DM:Binds K t.eE [cC,et,yz] []
 FN:PU K "leaf_of" "Leaves.leaf_of" fH t.jU t.fW
 dC:Binds K t.fW [cC,et] []
 DO:PU K "part_leaf" "Leaves.part_leaf" dZ t.iB t.eD
 DL:Binds K t.eD [cC,qP] []
 DD:PU K "join_small" "Leaves.join_small" dF t.gU t.dL
 pJ:Binds K t.dL [cC,qP] []
 KC:PU K i3 "Makes.__init__" kj t.qY t.kN
 Kq:Binds K t.kN [cC] []
 KB:PU K "note" "Makes.note" kh t.qX t.kM
 Kp:Binds K t.kM [cC,"moment",qN] []
 vz:mg "empty_row"=some (.ref t.vD)
 pY:PU K "empty_row" "empty_row" jI t.vD t.pz
 vB:Binds K t.pz [sD] []
 Kz:PU K i3 "Slots.__init__" kf t.qV t.kK
 Kn:Binds K t.kK [cC] []
 L7:PU K "put" "Slots.put" mq t.uo t.m5
 LT:Binds K t.m5 [cC,et,qN] []
 KA:PU K "drop" "Slots.drop" kg t.qW t.kL
 Ko:Binds K t.kL [cC,et] []
 L9:PU K "get" "Slots.get" my t.ur t.m7
 LU:Binds K t.m7 [cC,et] []
 L8:PU K "has" "Slots.has" mw t.uq t.m6
 B7:Binds K t.m6 [cC,et] []
 Ky:PU K "rows" "Slots.rows" gL t.qU t.kJ
 zV:Binds K t.kJ [cC] []
 Kx:PU K "span" "Slots.span" eJ t.qT t.kI
 Km:Binds K t.kI [cC,"low","high"] []
 Kw:PU K "stop" "Slots.stop" j9 t.qS t.kH
 zU:Binds K t.kH [cC,yH] []
 G5:PU K "cell_of" "Slots.cell_of" gl t.lN t.gE
 gJ:Binds K t.gE [cC,et] []
 FM:PU K "lying_at" "Slots.lying_at" fG t.jT t.fV
 FD:Binds K t.fV [cC,yH] []
 EN:PU K "move_slot" "Slots.move_slot" eT t.jC t.fc
 sC:Binds K t.fc [cC] []
 EO:PU K "begin_row" "Slots.begin_row" eU t.jD t.fe
 sE:Binds K t.fe [cC] []
 KG:PU K i3 "House.__init__" kq t.rc t.kQ
 Ks:Binds K t.kQ [cC] []
 Mc:PU K "put" "House.put" mD t.uv t.ni
 LX:Binds K t.ni [cC,et,qN] []
 KH:PU K "drop" "House.drop" kr t.re t.kR
 Kt:Binds K t.kR [cC,et] []
 Md:PU K "get" "House.get" mE t.uw t.nu
 LY:Binds K t.nu [cC,et] []
 FQ:PU K "lay_mark" "House.lay_mark" fJ t.jX t.fZ
 jS:Binds K t.fZ [cC] []
 J9:Qr K "diary" "House.diary" i6 t.pT t.f9
 JW:Binds K t.f9 [cC,"low"] []
 ir:jF K t.f9 [cC,"low"] [(.int<|0)]
 KI:PU K "done" "House.done" kt t.rh t.kS
 zX:Binds K t.kS [cC,"row",qN] []
 ya:mg "_law_cell_at"=some (.ref t.pR)
 pZ:PU K "_law_cell_at" "_law_cell_at" i4 t.pR t.jw
 yB:Binds K t.jw [nj,qO] []
 BL:mg "_law_mixed"=some (.ref t.ui)
 uz:PU K "_law_mixed" "_law_mixed" mi t.ui t.mY
 B6:Binds K t.mY [eH,qO] []
 BK:mg "_law_place"=some (.ref t.uh)
 uy:PU K "_law_place" "_law_place" mh t.uh t.mX
 B0:Binds K t.mX [lG] []
 NH:mg "_law_run"=some (.ref t.yF)
 EM:PU K "_law_run" "_law_run" iX t.yF t.sj
 Oc:Binds K t.sj [eH] []
 MB:mg "_law_deed"=some (.ref t.vF)
 DB:PU K "_law_deed" "_law_deed" oy t.vF t.pB
 MJ:Binds K t.pB [ge,pD,eH] []
 DJ:mg "_law_numbers_told"=some (.ref t.iA)
 qv:PU K "_law_numbers_told" "_law_numbers_told" dX t.iA t.eC
 DK:Binds K t.eC ["_law_kind",eH] []
 IS:mg "_law_numbers"=some (.ref t.pP)
 yP:PU K "_law_numbers" "_law_numbers" iY t.pP t.ju
 JU:Binds K t.ju [eH,u4] []
 tM:mg "_law_token"=some (.ref t.uf)
 nC:PU K "_law_token" "_law_token" lZ t.uf t.mV
 ub:Binds K t.mV [hL] []
 tN:mg "_law_holds"=some (.ref t.uj)
 nE:PU K "_law_holds" "_law_holds" mj t.uj t.mZ
 uc:Binds K t.mZ [hL,lG] []
 pc:mg "_law_covered"=some (.ref t.pQ)
 jE:PU K "_law_covered" "_law_covered" iZ t.pQ t.jv
 pH:Binds K t.jv [eR,"_law_rest",lG] []
 LC:mg "_law_table"=some (.ref t.ug)
 Cd:PU K "_law_table" "_law_table" mf t.ug t.mW
 LR:Binds K t.mW ["_law_rows"] []
 Hf:mg "_law_is_right"=some (.ref t.nN)
 ww:PU K "_law_is_right" "_law_is_right" gX t.nN t.ig
 Hj:Binds K t.ig [ff,ge,eR] []
 fk:mg "_law_turn"=some (.ref t.vE)
 dN:PU K "_law_turn" "_law_turn" ox t.vE t.pA
 ft:Binds K t.pA [ff,eH] []
 IR:mg "_law_stepped"=some (.ref t.pO)
 yO:PU K "_law_stepped" "_law_stepped" iW t.pO t.jt
 JT:Binds K t.jt [ff,ge,eR,eH] []
 LD:mg "_law_grown"=some (.ref t.uk)
 Ce:PU K "_law_grown" "_law_grown" mn t.uk t.m4
 LS:Binds K t.m4 [u4,eR,vm,"_law_after"] []
 Kj:mg "_law_wholly"=some (.ref t.qR)
 zZ:PU K "_law_wholly" "_law_wholly" j7 t.qR t.kF
 Kl:Binds K t.kF [ff,ge,eR,pD] []
 Pz:mg "law"=some (.ref t.ML)
 Ps:PU K "law" "law" EW t.ML t.Fz
 bf:Qx K t.bW (([t.cE]:Si).map Value.ref++Ri)
 kE:PySem.W.findIn K (.ref t.bW) i3=some (some<|.builtin "ValueError.__init__")
 Ha:Ku K t.aX "kind"
 kC:Ku K t.aX qP
 cN:Ku K t.aX t7
 bZ:Qv K t.aX
 Es:Mk K t.aX t.nR
 rp:XIs K t.aX
 EA:PySem.W.kitOne K (.ref t.aX) (.ref t.aX)=some true
 lE:bO K t.aX "holds" t.lR
 NE:Ku K t.eP "kind"
 tJ:Ku K t.eP qP
 lw:Ku K t.eP t7
 jB:Qv K t.eP
 O0:Mk K t.eP t.yG
 n8:XIs K t.eP
 Kk:PySem.W.kitOne K (.ref t.eP) (.ref t.aX)=some false
 Jg:PySem.W.kitOne K (.ref t.eP) (.ref t.eP)=some true
 oW:bO K t.eP "holds" t.vG
 Lp:Ku K t.cQ "kind"
 ji:Ku K t.cQ qP
 jP:Ku K t.cQ t7
 cW:Qv K t.cQ
 Lq:Mk K t.cQ t.ux
 fw:XIs K t.cQ
 Hg:PySem.W.kitOne K (.ref t.cQ) (.ref t.aX)=some false
 Ez:PySem.W.kitOne K (.ref t.cQ) (.ref t.eP)=some false
 kD:bO K t.cQ "holds" t.rj
 qK:Ku K t.bV "asked"
 bS:Ku K t.bV "found"
 kB:Ku K t.bV "ahead"
 qJ:Ku K t.bV "noted"
 cY:Ku K t.bV "closing"
 bn:Qv K t.bV
 Px:Mk K t.bV t.uu
 Lx:bO K t.bV "read" t.ut
 Gz:bO K t.bV "in_piece" t.lO
 Hb:bO K t.bV "outcome" t.nO
 eS:Ku K t.aR mu
 wq:Ku K t.aR "first"
 cq:Ku K t.aR "rest"
 cr:Ku K t.aR "followed"
 cM:Ku K t.aR "copied"
 aY:Ku K t.aR "page"
 aw:Qv K t.aR
 At:Mk K t.aR t.pV
 DI:bO K t.aR "open_page" t.iE
 qq:bO K t.aR "read_page" t.iD
 oZ:bO K t.aR "close_page" t.gV
 lz:bO K t.aR "follow" t.lP
 Cf:bO K t.aR "follow_mark" t.gk
 Aw:bO K t.aR "follow_change" t.fu
 xZ:bO K t.aR "copy" t.pW
 va:bO K t.aR "covers" t.lQ
 Hd:bO K t.aR yH t.nQ
 fS:bO K t.aR "left" t.pU
 Hc:bO K t.aR "total" t.nP
 Ff:bO K t.aR "stopped" t.jY
 aG:Ku K t.bK gt
 aN:Qv K t.bK
 Os:Mk K t.bK t.pS
 Kh:bO K t.bK "add" t.q9
 Fe:bO K t.bK "discard" t.jW
 zQ:bO K t.bK "has" t.qZ
 Fd:bO K t.bK "from_on" t.jV
 DH:bO K t.bK "down_from" t.iC
 du:bO K t.bK "leaf_of" t.jU
 DG:bO K t.bK "part_leaf" t.iB
 oX:bO K t.bK "join_small" t.gU
 zM:Ku K t.gQ "made"
 Dp:Qv K t.gQ
 O6:Mk K t.gQ t.qY
 Kg:bO K t.gQ "note" t.qX
 aW:Ku K t.aZ u5
 b9:Ku K t.aZ "shifted"
 bR:Ku K t.aZ "kept"
 aL:Qv K t.aZ
 O1:Mk K t.aZ t.qV
 Lv:bO K t.aZ "put" t.uo
 Kf:bO K t.aZ "drop" t.qW
 Lw:bO K t.aZ "get" t.ur
 BJ:bO K t.aZ "has" t.uq
 zP:bO K t.aZ "rows" t.qU
 Ke:bO K t.aZ "span" t.qT
 zO:bO K t.aZ "stop" t.qS
 gA:bO K t.aZ "cell_of" t.lN
 Fc:bO K t.aZ "lying_at" t.jT
 rV:bO K t.aZ "move_slot" t.jC
 rW:bO K t.aZ "begin_row" t.jD
 mM:Ku K t.a9 "now"
 Iy:Ku K t.a9 "floor"
 dI:Ku K t.a9 "slots"
 hV:Ku K t.a9 gt
 gy:Ku K t.a9 "written"
 jh:Ku K t.a9 "marks"
 zN:Ku K t.a9 "past"
 Gv:Ku K t.a9 "holders"
 aV:Qv K t.a9
 O7:Mk K t.a9 t.rc
 Lz:bO K t.a9 "put" t.uv
 Ki:bO K t.a9 "drop" t.re
 LA:bO K t.a9 "get" t.uw
 jQ:bO K t.a9 "lay_mark" t.jX
 oY:bO K t.a9 "diary" t.pT
 zR:bO K t.a9 "done" t.rh
 qI:J7 K t.iM i3 (.ref t.kW)
 fA:PySem.W.subIn K (.ref t.bW) (.ref t.bW)=some true
 g_BITS:∃tk,mg "BITS"=some (.int 16 tk)
 g_PLACES:∃tk,mg "PLACES"=some (.int 65536 tk)
 g_STRETCHES_A_KEY:∃tk,mg "STRETCHES_A_KEY"=some (.int 4 tk)
 g_MOST_IN_LEAF:∃tk,mg "MOST_IN_LEAF"=some (.int 8 tk)
 g_LEAST_IN_TWO:∃tk,mg "LEAST_IN_TWO"=some (.int 5 tk)
 g_LEAST_SIZE:∃tk,mg "LEAST_SIZE"=some (.int 4 tk)
 g_GREATEST_SIZE:∃tk,mg "GREATEST_SIZE"=some (.int 256 tk)
 MU:mg "bool"=none
 DT:mg "dict"=none
 Oy:mg "int"=none
 dO:mg "isinstance"=none
 bT:mg "len"=none
 Ht:mg gs=none
 Hs:mg "max"=none
 z7:mg "min"=none
 lT:mg oq=none
 MT:mg "reversed"=none
 Ox:mg "sorted"=none
 Ov:mg "sum"=none
def Ge:aq ["number","told","rest","step"] ["number"] (ak xw):=PV
def Ee:aq [et] [et] (ak uP):=PV
def Cy:aq [et] [et] (ak rL):=PV
def Ec:aq [et,sD] [et,sD] (ak uN):=PV
def zg:aq ["slot",sD,"low"] ["slot",sD] (ak lY):=PV
def Ed:aq [yH,sD] [yH,sD] (ak uO):=PV
def Cz:aq ["thing"] ["thing"] (ak rM):=PV
def Eg:aq ["thing","low"] ["thing","low"] (ak uR):=PV
def xf:aq [cC,"kind",qP,t7] [cC,"kind",qP,t7] (ak j8):=PV
def QZ:aq [cC,qP,t7] [cC,qP,t7] (ak g8):=PV
def sW:aq [cC,et] [cC,et] (ak gw):=PV
def Qu:aq [cC,qP,t7] [cC,qP,t7] (ak rN):=PV
def Bt:aq [cC,et] [cC,et] (ak oz):=PV
def Qk:aq [cC,qP,t7] [cC,qP,t7] (ak mF):=PV
def xv:aq [cC,et] [cC,et] (ak ku):=PV
def Rk:aq [mu,fx,l9,"sieve","page"] [mu,fx,l9,"sieve"] (ak HV):=PV
def Qa:aq ["slots",fx,l9,"rows","reached","gone","stop"] ["slots",fx,l9] (ak gW):=PV
def vT:aq [mu,fx,l9,"page"] [mu,fx,l9] (ak fE):=PV
def Qe:aq [gt,fx,l9,yz,"held","page"] [gt,fx,l9] (ak fF):=PV
def Bp:aq [gt,fx,yz] [gt,fx,yz] (ak ou):=PV
def vS:aq [fx,et] [fx,et] (ak iV):=PV
def Ef:aq [fx,et] [fx,et] (ak uQ):=PV
def Gf:aq [u5,"row"] [u5,"row"] (ak xy):=PV
def zu:aq [cC,fx] [cC,fx] (ak mC):=PV
def zt:aq [cC,mu,l9,"answer"] [cC,mu,l9] (ak mB):=PV
def sT:aq [cC,et] [cC,et] (ak gp):=PV
def uJ:aq [cC,u5,"row"] [cC] (ak gY):=PV
def Qd:aq [cC,mu,fx,"stopped"] [cC,mu,fx,"stopped"] (ak i8):=PV
def QS:aq [cC] [cC] (ak d8):=PV
def QR:aq [cC,l9,"page"] [cC,l9] (ak d6):=PV
def QM:aq [cC,"page"] [cC] (ak dG):=PV
def sU:aq [cC,"steps","rows","row"] [cC,"steps"] (ak gu):=PV
def lX:aq [cC,"number","page"] [cC,"number"] (ak c6):=PV
def j6:aq [cC,"row",et,"page"] [cC,"row"] (ak cK):=PV
def wc:aq [cC] [cC] (ak i9):=PV
def sV:aq [cC,et] [cC,et] (ak gv):=PV
def uL:aq [cC] [cC] (ak g7):=PV
def vZ:aq [cC] [cC] (ak i7):=PV
def uK:aq [cC] [cC] (ak gZ):=PV
def rK:aq [cC] [cC] (ak fK):=PV
def vY:aq [cC] [cC] (ak i5):=PV
def xp:aq [cC,et,qP,"leaf"] [cC,et] (ak gM):=PV
def rH:aq [cC,et,qP] [cC,et] (ak fI):=PV
def xo:aq [cC,et,qP] [cC,et] (ak ko):=PV
def QX:aq [cC,et,yz,"told",qP] [cC,et,yz] (ak de):=PV
def QQ:aq [cC,et,yz,"told",qP] [cC,et,yz] (ak cH):=PV
def rG:aq [cC,et,"low","high","middle"] [cC,et] (ak fH):=PV
def ot:aq [cC,qP,"leaf","middle"] [cC,qP] (ak dZ):=PV
def nV:aq [cC,qP,"both"] [cC,qP] (ak dF):=PV
def xn:aq [cC] [cC] (ak kj):=PV
def xl:aq [cC,"moment",qN] [cC,"moment",qN] (ak kh):=PV
def Bq:aq [sD] [sD] (ak jI):=PV
def xj:aq [cC] [cC] (ak kf):=PV
def zp:aq [cC,et,qN,"cell"] [cC,et,qN] (ak mq):=PV
def xk:aq [cC,et] [cC,et] (ak kg):=PV
def zr:aq [cC,et,"cell"] [cC,et] (ak my):=PV
def zq:aq [cC,et] [cC,et] (ak mw):=PV
def xi:aq [cC] [cC] (ak gL):=PV
def xh:aq [cC,"low","high","found","reached",t7,"inside"] [cC,"low","high"] (ak eJ):=PV
def xg:aq [cC,yH,sD] [cC,yH] (ak j9):=PV
def sS:aq [cC,et,"old","slot","new"] [cC,et] (ak gl):=PV
def rF:aq [cC,yH,sD,"found","row","slot",et,qN] [cC,yH] (ak fG):=PV
def qo:aq [cC,"old","new",et,qN] [cC] (ak eT):=PV
def qp:aq [cC,sD] [cC] (ak eU):=PV
def xq:aq [cC] [cC] (ak kq):=PV
def zx:aq [cC,et,qN] [cC,et,qN] (ak mD):=PV
def xt:aq [cC,et] [cC,et] (ak kr):=PV
def zy:aq [cC,et] [cC,et] (ak mE):=PV
def rJ:aq [cC] [cC] (ak fJ):=PV
def Qf:aq [cC,"low"] [cC,"low"] (ak i6):=PV
def xu:aq [cC,"row",qN,et] [cC,"row",qN] (ak kt):=PV
def vX:aq [nj,qO] [nj,qO] (ak i4):=PV
def zl:aq [eH,qO,wp] [eH,qO] (ak mi):=PV
def zj:aq [lG,"_law_mark"] [lG] (ak mh):=PV
def Q0:aq [eH,"_law_start",wp,"_law_way","_law_step"] [eH] (ak iX):=PV
def Bs:aq [ge,pD,eH,u4,qO,"_law_value"] [ge,pD,eH] (ak oy):=PV
def oo:aq ["_law_kind",eH,"_law_low","_law_high"] ["_law_kind",eH] (ak dX):=PV
def vV:aq [eH,u4,"_law_kind",wp,"_law_low","_law_high"] [eH,u4] (ak iY):=PV
def zh:aq [hL] [hL] (ak lZ):=PV
def zn:aq [hL,lG,"_law_kind","_law_at","_law_end"] [hL,lG] (ak mj):=PV
def vW:aq [eR,"_law_rest",lG] [eR,"_law_rest",lG] (ak iZ):=PV
def zi:aq ["_law_rows","_law_found","_law_row"] ["_law_rows"] (ak mf):=PV
def uI:aq [ff,ge,eR,"_law_rows","_law_place_here","_law_rest","_law_table_here","_law_due",lG,"_law_told"] [ff,ge,eR] (ak gX):=PV
def Br:aq [ff,eH,"_law_found"] [ff,eH] (ak ox):=PV
def vU:aq [ff,ge,eR,eH] [ff,ge,eR,eH] (ak iW):=PV
def zo:aq [u4,eR,vm,"_law_after",lG] [u4,eR,vm,"_law_after"] (ak mn):=PV
def xb:aq [ff,ge,eR,pD,qO,"_law_due",lG] [ff,ge,eR,pD] (ak j7):=PV
def Nk:aq [nj,ge,pD,eR,"_law_copiers",qO,eH,"_law_one",vm,ff] [nj] (ak EW):=PV
def Sc:V->Prop
 | .non=>True| .bl _=>True| .int _=>True| .str _=>True|_=>False
def T0(z:Int):Sc (.int z):=Y1
noncomputable def isW:V->Bool
 | .int _=>true|_=>false
def Fr(F F':K')(H H':Hp):Prop:=∀b o,¬F b->H b=some o->H' b=some o/\¬F' b
def Fr.refl:Fr F F H H:=λ_ _ n e=>⟨e,n⟩
def Fr.trans{z:K'}{H'':Hp}(x:Fr F F' H H')(y:Fr F' z H' H''):Fr F z H H'':=λb o n e=>y b o (x b o n e).2 (x b o n e).1
def Fr.of_same(s:G3 H H'):Fr F F H H':=λb o n e=>{s b o e,n}
noncomputable def aC(kv:R'):List (Key×V):=kv.map λp=>(Sum.inl p.1,p.2)
def P9{kv:R'}:aH (aC kv) (Sum.inl k:Key)=aH kv k:=by
 induction kv with
 |nil=>rfl
 |cons p r G=>
  show aH ((Sum.inl p.1,p.2)::aC r) (Sum.inl k:Key)=_;by_cases e:p.1=k
  .rw[bE e,bE (by show(Sum.inl p.1:Key)=_;rw[e])]
  .rw[bz e,bz (by show ¬(Sum.inl p.1:Key)=_;exact λz=>e<|Sum.inl.inj z),G]
def GE{kv:R'}:((aC kv).any λx=>decide (x.1=(Sum.inl k:Key)))=kv.any λx=>decide (x.1=k):=by
 rw[dE,dE,P9]
def cw{kv:R'}:bu (aC kv) (Sum.inl k:Key) v=aC (bu kv k v):=by
 unfold bu;rw[GE];by_cases c:(kv.any λx=>decide (x.1=k))=true
 .rw[WJ c,WJ c];unfold aC;rw[Zp,Zp];refine Xo λp _=>?_;show(if(Sum.inl p.1:Key)=Sum.inl k then _ else _)=_;by_cases e:p.1=k
  .rw[WJ (by rw[e])];simp[e]
  .rw[WI λz=>e (Sum.inl.inj z)];simp[e]
 .rw[WI c,WI c];unfold aC;rw[Z6];rfl
def mQ{kv:R'}:bQ (aC kv) (Sum.inl k:Key)=aC (bQ kv k):=by
 unfold bQ aC;rw[List.filter_map];congr 1;refine Wl λp _=>?_;show decide ((Sum.inl p.1:Key)≠Sum.inl k)=_;by_cases e:p.1=k
 .rw[e];simp
 .have:¬(Sum.inl p.1:Key)=Sum.inl k:=λz=>e (Sum.inl.inj z);simp[e,this]
def a8{kv:R'}:(aC kv).length=kv.length:=Q1 _
theorem oG{f:Str}{v:V}:∀fs:List (Str×V),(bN f v fs).length<=fs.length+1
 | []=>Q5 _
 |(g,x)::r=>by
  rw[bN];split
  .rw[Zh,Zh];lia
  .have:=oG (f:=f) (v:=v) r;rw[Zh,Zh];lia
section
variable{κ:Type}[DecidableEq κ]{kv:List (κ×V)}{k j:κ}
theorem fh:∀{kv:List (κ×V)},aH (bQ kv k) j=if j=k then none else aH kv j
 | []=>by
  show aH ([]:List (κ×V)) j=_;rw[kZ];split<;>rfl
 |p::r=>by
  by_cases e:p.1=k
  .rw[vf e,fh];by_cases z:j=k
   .rw[WJ z,WJ z]
   .rw[WI z,WI z,bz λy=>z (y.symm.trans e)]
  .rw[qf e];by_cases y:p.1=j
   .rw[bE y,bE y,WI λz=>e (y.trans z)]
   .rw[bz y,bz y,fh]
theorem mem_keys:∀{kv:List (κ×V)},k∈kv.map (·.1)↔(aH kv k).isSome=true
 | []=>by simp[kZ]
 |p::r=>by
  by_cases e:p.1=k
  .rw[bE e];simp[e]
  .rw[bz e,<-mem_keys];simp[Ne.symm e]
def tP:(bu kv k v).map (·.1)=if(aH kv k).isSome=true then kv.map (·.1)else kv.map (·.1)++ [k]:=by
 unfold bu;rw[dE];by_cases c:(aH kv k).isSome=true
 .rw[WJ c,WJ c,Zp];refine Xo λp _=>?_;show(if p.1=k then(p.1,v)else p).1=p.1;split<;>rfl
 .rw[WI c,WI c,Z6];rfl
def xS(h:(kv.map (·.1)).Nodup):((bu kv k v).map (·.1)).Nodup:=by
 cases e:aH kv k with
 |none=>exact Ln v h e
 |some x=>rwa[tP,e]
theorem gS:∀{l S:List κ},l.Nodup->(∀x∈l,x∈S)->l.length<=S.length
 | [],_,_,_=>Za _
 |x::xs,S,hn,hs=>by
  let{h1,h2}:=ZM.mp hn;have hx:x∈S:=hs x Z4;have:=gS (S:=S.erase x) h2 λy hy=>(List.mem_erase_of_ne λz=>h1<|by rwa[<-z]).mpr (hs y<|Z7 _ hy);rw[List.length_erase_of_mem hx]at this;have:=List.length_pos_of_mem hx;rw[Zh];lia
def Pb{S:List κ}(z:(kv.map (·.1)).Nodup)(hs:∀x∈kv.map (·.1),x∈S):kv.length<=S.length:=by
 have:=gS z hs;rwa [Q1]at this
end
def Rq(K:FA)(F:K')(H:Hp)(a:G')(xs:P7):Prop:=(Rd H a (.lst xs)/\¬F a)\/∀H',Kv K H' a xs
def Rq.sq(h:Rq K F H a xs):Kv K H a xs:=by
 rcases h with h|h
 .exact .inl h.1
 .exact h H
def Rq.of(h:Kv K H a xs)(n:∀o,H a=some o->¬F a):Rq K F H a xs:=by
 rcases h with h|h
 .rcases h with h|⟨o,h⟩
  .exact .inl {.inl h,n _ h}
  .exact .inl {.inr ⟨o,h⟩,n _ h}
 .exact .inr λ_=> .inr h
def Rq.fr(h:Rq K F H a xs)(f:Fr F F' H H'):Rq K F' H' a xs:=by
 rcases h with⟨h,n⟩|h
 .rcases h with h|⟨o,h⟩
  .exact .inl {.inl (f _ _ n h).1,(f _ _ n h).2}
  .exact .inl {.inr {o,(f _ _ n h).1},(f _ _ n h).2}
 .exact .inr h
set_option genInjectivity false in
structure PD where
 kv:List (Int×V)
 size:Int
 nxt:Option Int
 mv:Int
noncomputable def PD.new:PD:={[],4,none,0}
noncomputable def PD.one(s:PD):PD:=match s.nxt with
 |none=>s
 |some m=>if s.mv+1=s.size then{s with size:=m,nxt:=none,mv:=0}else{s with mv:=s.mv+1}
noncomputable def PD.three(s:PD):PD:=match s.nxt with
 |some _=>s
 |none=>if s.size<(s.kv.length:Int)/\s.size<256 then{s with nxt:=some (2*s.size),mv:=0}else if 4*(s.kv.length:Int)<s.size/\4<s.size then{s with nxt:=some (s.size/2),mv:=0}else s
def PD.put(s:PD)(k:Int)(v:V):PD:=PD.three {s.one with kv:=bu s.kv k v}
def PD.drop(s:PD)(k:Int):PD:=PD.three {s.one with kv:=bQ s.kv k}
noncomputable def PD.rows(s:PD):List Int:=match s.nxt with
 |none=> [s.size]
 |some m=> [s.size,m]
noncomputable def PD.moved(s:PD):Int:=match s.nxt with
 |none=>0
 |some _=>s.mv
set_option genInjectivity false in
structure RJ where
 tb:Addr
 r0:Addr
 r1:Addr
 A0:List Addr
 A1:List Addr
 C0:List (List<|Int×V)
 C1:List (List<|Int×V)
 n:Int
noncomputable def Qn(tb:G')(sh n:Int):List (Str×V):=[(u5,.ref tb),("shifted",.int sh),("kept",.int n)]
def gP{k:Str}{r:Sn}:((k,v)::r).lookup k=some v:=by
 have hb:(k==k)=true:=WW.mpr M;simp only[List.lookup,hb]
def bP{k m:Str}{r:Sn}(h:m≠k):((k,v)::r).lookup m=r.lookup m:=by
 have hb:(m==k)=false:=WZ.mpr h;simp only[List.lookup,hb]
section
variable{tb':G'}{sh sh' n n':Int}{m:Str}
def jH:(Qn tb sh n).lookup (u5:Str)=some (.ref tb):=gP
def Cw:(Qn tb sh n).lookup ("shifted":Str)=some (.int sh):=by unfold Qn;rw[bP ∅,gP]
def sP:(Qn tb sh n).lookup ("kept":Str)=some (.int n):=by unfold Qn;rw[bP ∅,bP ∅,gP]
def NoM(m:Str):Prop:=m≠(u5:Str)/\m≠("shifted":Str)/\m≠("kept":Str)
instance:Decidable (NoM m):=by unfold NoM;infer_instance
def Mr(h:NoM m):(Qn tb sh n).lookup m=none:=by unfold Qn;rw[bP h.1,bP h.2.1,bP h.2.2];rfl
def OX:bN (u5:Str) (.ref tb') (Qn tb sh n)=Qn tb' sh n:=by unfold Qn;rw[bN,WJ M]
def Mv:bN ("shifted":Str) (.int sh') (Qn tb sh n)=Qn tb sh' n:=by unfold Qn;rw[bN,WI ∅,bN,WJ M]
def Mw:bN ("kept":Str) (.int n') (Qn tb sh n)=Qn tb sh n':=by unfold Qn;rw[bN,WI ∅,bN,WI ∅,bN,WJ M]
def sO:(Qn tb sh n).length<1000:=by show 3<1000;decide
end
structure PQ(H:Hp)(r:G')(A:Si)(C:List (List<|Int×V))(sz:Int):Prop where
 lst:H r=some (.lst<|A.map V.ref)
 la:(A.length:Int)=sz
 lc:(C.length:Int)=sz
 cell:∀(j:Nat)(b:G')(kv:R'),A[j]?=some b->C[j]?=some kv->H b=some (.dK<|aC kv)
 ndk:∀(j:Nat)(kv:R'),C[j]?=some kv->(kv.map (·.1)).Nodup
 inj:∀(i j:Nat)(b:G'),A[i]?=some b->A[j]?=some b->i=j
 home:∀(j:Nat)(kv:R'),C[j]?=some kv->∀p∈kv,p.1%65536%sz=(j:Int)
def PQ.has{C:List (List<|Int×V)}{sz:Int}(h:PQ H r A C sz)(hb:b∈A):∃(j:Nat)(kv:R'),A[j]?=some b/\C[j]?=some kv/\H b=some (.dK<|aC kv):=by
 let{j,G,e}:=Zu hb;have hc:j<C.length:=by have:=h.la;have:=h.lc;lia
 have z:A[j]?=some b:=by rw[Q4 G,e]
 have e2:C[j]?=some C[j]:=Q4 hc;exact{j,C[j],z,e2,h.cell j b _ z e2}
def PQ.frame{C:List (List<|Int×V)}{sz:Int}(h:PQ H r A C sz)(f:∀b,b=r\/b∈A->H' b=H b):PQ H' r A C sz:=
 {by rw[f r (.inl M)];exact h.lst,h.la,h.lc,λj b kv z e2=>by rw[f b (.inr<|Q2 z)];exact h.cell j b kv z e2,h.ndk,h.inj,h.home}
def PQ.notr{C:List (List<|Int×V)}{sz:Int}(h:PQ H r A C sz)(hb:b∈A){x:G'}(e:H x=some o)(ne:∀kvs,o≠ .dK kvs):b≠x:=λz=>by
 let{j,kv,_,_,q}:=h.has hb;rw[z,e]at q;cases q;exact ne _ M
def PQ.set{C:List (List<|Int×V)}{sz:Int}(h:PQ H r A C sz)(ea:A[j]?=some c)(nd:(kv'.map (·.1)).Nodup)(I:∀p∈kv',p.1%65536%sz=(j:Int)):
  PQ (upd H c<|.dK<|aC kv') r A (C.set j kv') sz:=by
 have hc:r≠c:=(h.notr (Q2 ea) h.lst<|λ_ z=>by cases z).symm;refine{by rw[af hc];exact h.lst,h.la,by rw[ZD];exact h.lc,λi b kv G e2=>?_,λi kv e=>?_,h.inj,λi kv e=>?_}
 .rw[Zm]at e2;by_cases z:j=i
  .subst z;rw[ea]at G;cases G;rw[WJ M]at e2;split at e2
   .cases e2;exact ag
   .cases e2
  .rw[WI z]at e2;rw[af λy=>z (h.inj j i c ea<|by rwa[<-y])];exact h.cell i b kv G e2
 .rw[Zm]at e;by_cases z:j=i
  .rw[WJ z]at e;split at e
   .cases e;exact nd
   .cases e
  .rw[WI z]at e;exact h.ndk i kv e
 .rw[Zm]at e;by_cases z:j=i
  .subst z;rw[WJ M]at e;split at e
   .cases e;exact I
   .cases e
  .rw[WI z]at e;exact h.home i kv e
def Ql(a:G')(st:PD)(d:RJ):Addr->Prop:=λb=>b=a\/b=d.tb\/b=d.r0\/b∈d.A0\/(st.nxt.isSome=true/\b=d.r1)\/b∈d.A1
def IsCell(d:RJ)(st:PD)(k:Int)(c:G')(kv:R'):Prop:=
 (st.moved<=k%65536%st.size/\d.A0[(k%65536%st.size).toNat]?=some c/\d.C0[(k%65536%st.size).toNat]?=some kv)\/
 (∃m,st.nxt=some m/\k%65536%st.size<st.moved/\d.A1[(k%65536%m).toNat]?=some c/\d.C1[(k%65536%m).toNat]?=some kv)
structure PY(st:PD):Prop where
 pw:st.size∈([4,8,16,32,64,128,256]:O')
 nx:∀m,st.nxt=some m->m∈([4,8,16,32,64,128,256]:O')/\0<=st.mv/\st.mv<st.size/\(m=2*st.size\/2*m=st.size)
def oE{x:Int}(h:x∈([4,8,16,32,64,128,256]:List Int)):x=4\/x=8\/x=16\/x=32\/x=64\/x=128\/x=256:=by simpa using h
def b7{x:Int}(h:x∈([4,8,16,32,64,128,256]:List Int)):4<=x/\x<=256:=by
 rcases oE h with h|h|h|h|h|h|h<;>lia
structure QN(t:PL)(H:Hp)(a:G')(st:PD)(d:RJ):Prop where
 obj:∃dx,H a=some (.ins t.aZ dx<|Qn d.tb st.moved d.n)
 tbl:H d.tb=some (.lst<|match st.nxt with|none=> [.ref d.r0]|some _=> [.ref d.r0,.ref d.r1])
 row0:PQ H d.r0 d.A0 d.C0 st.size
 row1:match st.nxt with|none=>d.A1=[]/\d.C1=[]|some m=>PQ H d.r1 d.A1 d.C1 m
 dis:∀b,b∈d.A0->b∉d.A1
 tr:d.tb≠d.r0
 tr1:st.nxt.isSome=true->d.tb≠d.r1/\d.r0≠d.r1
 old:∀(j:Nat)(kv:R'),d.C0[j]?=some kv->(j:Int)<st.moved->kv=[]
 new:∀(j:Nat)(kv:R'),d.C1[j]?=some kv->∀p∈kv,p.1%65536%st.size<st.moved
 val:∀(k:Int)(c:G')(kv:R'),IsCell d st k c kv->aH kv k=aH st.kv k
section
variable{d:RJ}
def QN.frame(h:QN t H a st d)(f:∀b,Ql a st d b->H' b=H b):QN t H' a st d:=by
 let{dx,z}:=h.obj;refine{{dx,by rwa[f a (.inl M)]},by rw[f d.tb (.inr<|.inl M)];exact h.tbl,h.row0.frame λb hb=>f b ?_,?_,h.dis,h.tr,h.tr1,h.old,h.new,h.val}
 .rcases hb with hb|hb
  .exact .inr<|.inr (.inl hb)
  .exact .inr<|.inr (.inr<|.inl hb)
 .have r1:=h.row1;have G:=f;unfold Ql at G;cases e:st.nxt with
  |none=>rw[e]at r1;exact r1
  |some m=>
   rw[e]at r1;refine PQ.frame (H:=H) r1 λb hb=>f b ?_;unfold Ql;rw[e];rcases hb with hb|hb
   .exact .inr<|.inr (.inr<|.inr<|.inl ⟨M,hb⟩)
   .exact .inr<|.inr (.inr<|.inr<|.inr hb)
def QN.dom(h:QN t H a st d)(hb:Ql a st d b):∃o,H b=some o:=by
 let{dx,z}:=h.obj;rcases hb with rfl|rfl|rfl|hb|⟨hs,rfl⟩|hb
 .exact{_,z}
 .exact{_,h.tbl}
 .exact{_,h.row0.lst}
 .let{_,_,_,_,q}:=h.row0.has hb;exact{_,q}
 .have r1:=h.row1;cases e:st.nxt with
  |none=>rw[e]at hs;cases hs
  |some m=>rw[e]at r1;exact{_,r1.lst}
 .have r1:=h.row1;cases e:st.nxt with
  |none=>rw[e]at r1;rw[r1.1]at hb;cases hb
  |some m=>rw[e]at r1;let{_,_,_,_,q}:=r1.has hb;exact{_,q}
def QN.at(h:QN t H a st d){kv:R'}(G:IsCell d st k c kv):H c=some (.dK<|aC kv)/\Ql a st d c/\(kv.map (·.1)).Nodup:=by
 rcases G with⟨_,z,e2⟩|⟨m,I,_,z,e2⟩
 .exact{h.row0.cell _ _ _ z e2,.inr<|.inr<|.inr<|.inl<|Q2 z,h.row0.ndk _ _ e2}
 .have r1:=h.row1;rw[I]at r1;exact{r1.cell _ _ _ z e2,.inr<|.inr<|.inr<|.inr<|.inr<|Q2 z,r1.ndk _ _ e2}
def u9(z:4<=m):0<=k%65536%m/\k%65536%m<m/\((k%65536%m).toNat:Int)=k%65536%m:=by
 have h1:=Z2 (k%65536) (show m≠0 by lia);have h2:=Z0 (k%65536) (show 0<m by lia);exact{h1,h2,W2 h1}
def eB{l:List α}{z:Int}(G:0<=z)(h1:z<(l.length:Int)):∃x,l[z.toNat]?=some x:={l[z.toNat]'(),Q4 ()}
def QN.cell(h:QN t H a st d)(z:PY st)(k:Int):∃c kv,IsCell d st k c kv:=by
 let{s4,_}:=b7 z.pw;let{I,O,m2}:=u9 (k:=k) s4;by_cases c:st.moved<=k%65536%st.size
 .let{x,G}:=eB (l:=d.A0) I (by rwa[h.row0.la]);let{y,e2}:=eB (l:=d.C0) I (by rwa[h.row0.lc]);exact{x,y,.inl ⟨c,G,e2⟩}
 .cases e:st.nxt with
  |none=>
   exfalso;have:st.moved=0:=by unfold PD.moved;rw[e]
   lia
  |some m=>
   let{Z,_}:=z.nx m e;let{s5,_}:=b7 Z;let{U,Y,n2}:=u9 (k:=k) s5;have r1:=h.row1;rw[e]at r1;let{x,G}:=eB (l:=d.A1) U (by rwa[r1.la]);let{y,e2}:=eB (l:=d.C1) U (by rwa[r1.lc]);exact{x,y,.inr {m,e,(),G,e2}}
def IsCell.uniq{U:G'}{kv:R'}(x:IsCell d st k c kv)(y:IsCell d st k U kv'):c=U/\kv=kv':=by
 rcases x with⟨Y,O,e2⟩|⟨m,Z,Y,O,e2⟩<;>rcases y with⟨g0,z,G⟩|⟨m',I,g0,z,G⟩
 .rw[O]at z;rw[e2]at G;cases z;cases G;exact⟨M,M⟩
 .lia
 .lia
 .rw[Z]at I;cases I;rw[O]at z;rw[e2]at G;cases z;cases G;exact⟨M,M⟩
def QN.setN(h:QN t H a st d){n:Int}:QN t (upd H a<|.ins t.aZ dx<|Qn d.tb st.moved n) a st {d with n:=n}:=by
 let{O,G}:=h.obj;have I:d.tb≠a:=cX h.tbl G (by intro z;cases z);refine{⟨dx,ag⟩,by show upd H a _ d.tb=_;rw[af I];exact h.tbl,h.row0.frame λb hb=>af ?_,?_,h.dis,h.tr,h.tr1,h.old,h.new,h.val}
 .rcases hb with rfl|hb
  .exact cX h.row0.lst G<|by intro z;cases z
  .exact h.row0.notr hb G<|λ_ z=>by cases z
 .have r1:=h.row1;cases e:st.nxt with
  |none=>rw[e]at r1;exact r1
  |some m=>
   rw[e]at r1;refine PQ.frame (H:=H) r1 λb hb=>af ?_;rcases hb with rfl|hb
   .exact cX r1.lst G<|by intro z;cases z
   .exact r1.notr hb G<|λ_ z=>by cases z
def QN.setCell(h:QN t H a st d)(z:PY st){kv:R'}(ic:IsCell d st k c kv)(nd:(kv'.map (·.1)).Nodup)(hm:∀p∈kv',p∈kv\/p.1=k)
  (hk:aH kv' k=aH kvs k) (ho:∀j,j≠k->aH kv' j=aH kv j/\aH kvs j=aH st.kv j):
  ∃d',QN t (upd H c<|.dK<|aC kv') a {st with kv:=kvs} d'/\d'.n=d.n/\∀b,Ql a {st with kv:=kvs} d' b↔Ql a st d b:=by
 let{hc,hf,_}:=h.at ic;let{dx,a1}:=h.obj;let{s4,_}:=b7 z.pw;let{m0,m1,m2}:=u9 (k:=k) s4;have na:a≠c:=cX a1 hc (by intro z;cases z);have nt:d.tb≠c:=cX h.tbl hc (by intro z;cases z);have nr:d.r0≠c:=cX h.row0.lst hc (by intro z;cases z);have a0:∀(d':RJ)(j:Int)(b:G')(x:R'),IsCell d' {st with kv:=kvs} j b x->(∀y,IsCell d st j b y->(x=y/\b≠c)\/(x=kv'/\y=kv))->(∃y,IsCell d st j b y)->aH x j=aH kvs j:=λd' j b x hx f ⟨y,hy⟩=>by
  by_cases e:j=k
  .subst e;let{rfl,rfl}:=IsCell.uniq hy ic;rcases f y hy with⟨_,z⟩|⟨rfl,_⟩
   .exact WN M z
   .exact hk
  .rw[(ho j e).2];rcases f y hy with⟨rfl,_⟩|⟨rfl,rfl⟩
   .exact h.val j b x hy
   .rw[(ho j e).1];exact h.val j b y hy
 rcases ic with⟨h0,e1,e2⟩|⟨m,em,h0,e1,e2⟩
 .have Y:c∈d.A0:=Q2 e1;have Z:∀p∈kv',p.1%65536%st.size=((k%65536%st.size).toNat:Int):=λp hp=>by
   rcases hm p hp with q|q
   .exact h.row0.home _ _ e2 p q
   .rw[q,m2]
  refine⟨{d with C0:=d.C0.set (k%65536%st.size).toNat kv'},{{dx,by rwa[af na]},by show upd H c _ d.tb=_;rw[af nt];exact h.tbl,h.row0.set e1 nd Z,?_,h.dis,h.tr,h.tr1,λj x e lt=>?_,h.new,λj b x hx=>?_},M,λb=>Iff.rfl⟩
  .have r1:=h.row1;show match st.nxt with|none=>_|some m=>_
   cases e:st.nxt with
   |none=>rw[e]at r1;exact r1
   |some m=>
    rw[e]at r1;refine PQ.frame (H:=H) r1 λb hb=>af ?_;rcases hb with rfl|hb
    .exact cX r1.lst hc<|by intro z;cases z
    .exact λy=>h.dis c Y (y▸hb)
  .have e:(d.C0.set (k%65536%st.size).toNat kv')[j]?=some x:=e;have lt:(j:Int)<st.moved:=lt;rw[Zm]at e;by_cases q:(k%65536%st.size).toNat=j
   .exfalso;lia
   .rw[WI q]at e;exact h.old j x e lt
  .refine a0 _ j b x hx (λy hy=>?_) ?_
   .rcases hx with⟨U,G,O⟩|⟨m',I,U,G,O⟩
    .have O:(d.C0.set (k%65536%st.size).toNat kv')[(j%65536%st.size).toNat]?=some x:=O;have G:d.A0[(j%65536%st.size).toNat]?=some b:=G;have U:st.moved<=j%65536%st.size:=U;rcases hy with⟨_,y1,y2⟩|⟨_,_,y0,_,_⟩
     .rw[Zm]at O;by_cases q:(k%65536%st.size).toNat=(j%65536%st.size).toNat
      .rw[WJ q]at O;split at O
       .cases O;rw[<-q,e2]at y2;cases y2;exact .inr ⟨M,M⟩
       .cases O
      .rw[WI q,y2]at O;cases O;exact .inl {M,λw=>q<|h.row0.inj _ _ c e1 (by rwa[<-w])}
     .lia
    .have G:d.A1[(j%65536%m').toNat]?=some b:=G;have O:d.C1[(j%65536%m').toNat]?=some x:=O;have U:j%65536%st.size<st.moved:=U;have I:st.nxt=some m':=I;rcases hy with⟨y0,_,_⟩|⟨m2,e3,y0,y1,y2⟩
     .lia
     .rw[I]at e3;cases e3;rw[O]at y2;cases y2;exact .inl {M,λw=>h.dis c Y<|w▸Q2 G}
   .let{b',y,hy}:=h.cell z j;have:b'=b:=by
     rcases hx with⟨U,G,O⟩|⟨m',I,U,G,O⟩<;>rcases hy with⟨y0,y1,y2⟩|⟨m3,e3,y0,y1,y2⟩
     .have G:d.A0[(j%65536%st.size).toNat]?=some b:=G;rw[y1]at G;exact WL G
     .have U:st.moved<=j%65536%st.size:=U;lia
     .have U:j%65536%st.size<st.moved:=U;lia
     .have I:st.nxt=some m':=I;rw[I]at e3;cases e3;have G:d.A1[(j%65536%m').toNat]?=some b:=G;rw[y1]at G;exact WL G
    subst this;exact⟨y,hy⟩
 .have r1:=h.row1;rw[em]at r1;have Y:c∈d.A1:=Q2 e1;let{pm,_}:=z.nx m em;let{s5,_}:=b7 pm;let{n0,n1,n2}:=u9 (k:=k) s5;have Z:∀p∈kv',p.1%65536%m=((k%65536%m).toNat:Int):=λp hp=>by
   rcases hm p hp with q|q
   .exact r1.home _ _ e2 p q
   .rw[q,n2]
  refine⟨{d with C1:=d.C1.set (k%65536%m).toNat kv'},{{dx,by rwa[af na]},by show upd H c _ d.tb=_;rw[af nt];exact h.tbl,h.row0.frame λb hb=>af ?_,?_,h.dis,h.tr,h.tr1,h.old,λj x e p hp=>?_,λj b x hx=>?_},M,λb=>Iff.rfl⟩
  .rcases hb with rfl|hb
   .exact nr
   .exact λy=>h.dis b hb (y▸Y)
  .show match st.nxt with|none=>_|some m=>_
   rw[em];exact r1.set e1 nd Z
  .have e:(d.C1.set (k%65536%m).toNat kv')[j]?=some x:=e;show p.1%65536%st.size<st.moved;rw[Zm]at e;by_cases q:(k%65536%m).toNat=j
   .rw[WJ q]at e;split at e
    .cases e;rcases hm p hp with q|q
     .exact h.new _ _ e2 p q
     .rwa[q]
    .cases e
   .rw[WI q]at e;exact h.new j x e p hp
  .refine a0 _ j b x hx (λy hy=>?_) ?_
   .rcases hx with⟨U,G,O⟩|⟨m',I,U,G,O⟩
    .have G:d.A0[(j%65536%st.size).toNat]?=some b:=G;have O:d.C0[(j%65536%st.size).toNat]?=some x:=O;have U:st.moved<=j%65536%st.size:=U;rcases hy with⟨_,y1,y2⟩|⟨_,_,y0,_,_⟩
     .rw[O]at y2;cases y2;exact .inl {M,λw=>h.dis b (Q2 G)<|w▸Y}
     .lia
    .have I:st.nxt=some m':=I;rw[em]at I;cases I;have O:(d.C1.set (k%65536%m).toNat kv')[(j%65536%m).toNat]?=some x:=O;have G:d.A1[(j%65536%m).toNat]?=some b:=G;have U:j%65536%st.size<st.moved:=U;rcases hy with⟨y0,_,_⟩|⟨m2,e3,y0,y1,y2⟩
     .lia
     .rw[em]at e3;cases e3;rw[Zm]at O;by_cases q:(k%65536%m).toNat=(j%65536%m).toNat
      .rw[WJ q]at O;split at O
       .cases O;rw[<-q,e2]at y2;cases y2;exact .inr ⟨M,M⟩
       .cases O
      .rw[WI q,y2]at O;cases O;exact .inl {M,λw=>q<|r1.inj _ _ c e1 (by rwa[<-w])}
   .let{b',y,hy}:=h.cell z j;have:b'=b:=by
     rcases hx with⟨U,G,O⟩|⟨m',I,U,G,O⟩<;>rcases hy with⟨y0,y1,y2⟩|⟨m3,e3,y0,y1,y2⟩
     .have G:d.A0[(j%65536%st.size).toNat]?=some b:=G;rw[y1]at G;exact WL G
     .have U:st.moved<=j%65536%st.size:=U;lia
     .have U:j%65536%st.size<st.moved:=U;lia
     .have I:st.nxt=some m':=I;rw[I]at e3;cases e3;have G:d.A1[(j%65536%m').toNat]?=some b:=G;rw[y1]at G;exact WL G
    subst this;exact⟨y,hy⟩
end
def xY{kv:R'}{p:Int×V}(h:p∈bu kv k v):p∈kv\/p.1=k:=by
 unfold bu at h;split at h
 .let{q,hq,e}:=Z5.mp h;by_cases z:q.1=k
  .rw[WJ z]at e;rw[<-e];exact .inr z
  .rw[WI z]at e;rw[<-e];exact .inl hq
 .rcases Q6.mp h with h|h
  .exact .inl h
  .rw[Q9.mp h];exact .inr M
def Ls{kv:R'}{p:Int×V}(h:p∈kv):(aH kv p.1).isSome=true:=mem_keys.mp (Z5.mpr ⟨p,h,M⟩)
def hX(m:Int)(C:List (List<|Int×V))(p:Int×V):List (List<|Int×V):=C.set (p.1%65536%m).toNat (bu (C.getD (p.1%65536%m).toNat []) p.1 p.2)
def IB{C:List (List<|Int×V)}{p:Int×V}:(hX m C p).length=C.length:=ZD
theorem Fb{m:Int}:∀{kv:R'}{C:List (List<|Int×V)},(kv.foldl (hX m) C).length=C.length
 | [],_=>rfl
 |p::r,C=>by rw[List.foldl_cons,Fb,IB]
def CS{C:List (List<|Int×V)}{p:Int×V}{y:R'}(e:C[j]?=some y):(hX m C p)[j]?=some (if(p.1%65536%m).toNat=j then bu y p.1 p.2 else y):=by
 unfold hX;rw[Zm];by_cases z:(p.1%65536%m).toNat=j
 .have G:j<C.length:=(Q3.mp e).1;rw[WJ z,WJ z,WJ (by rwa[z]),Ze,z,e];rfl
 .rw[WI z,WI z,e]
set_option tactic.hygienic true in
theorem BI{m:Int}:∀{kv:R'}{C:List (List<|Int×V)}{j:Nat}{y:R'},(kv.map (·.1)).Nodup->C[j]?=some y->∃x,(kv.foldl (hX m) C)[j]?=some x/\
  (∀p∈x,p∈y\/p.1∈kv.map (·.1))/\∀k,aH x k=if(k%65536%m).toNat=j then(aH kv k).or (aH y k)else aH y k
 | [],C,j,y,_,e=>{y,e,λp G=> .inl G,λk=>by rw[kZ];simp}
 |p::r,C,j,y,nd,e=>by
  let{I,O}:=ZM.mp (show(p.1::r.map (·.1)).Nodup from nd);let{x,h1,h2,U}:=BI (m:=m) O (CS (m:=m) (p:=p) e);refine{x,h1,λq hq=>?_,λk=>?_}
  .rcases h2 q hq with z|z
   .split at z
    .rcases xY z with z|z
     .exact .inl z
     .exact .inr<|Z5.mpr ⟨p,Z4,z.symm⟩
    .exact .inl z
   .exact .inr<|Z7 _ z
  .rw[U k];by_cases z:(k%65536%m).toNat=j
   .rw[WJ z,WJ z];by_cases w:p.1=k
    .subst w;have:aH r p.1=none:=by
      cases q:aH r p.1 with
      |none=>rfl
      |some v=>exact WN (wx q) I
     rw[this,bE M,WJ z,eI,WJ M];rfl
    .rw[bz w];congr 1;split
     .rw[eI,WI (Ne.symm w)]
     .rfl
   .rw[WI z,WI z];split
    .rename_i w
     rw[eI,WI (λy=>z<|by rwa[y])]
    .rfl
def PQ.mov{C:List (List<|Int×V)}{sz:Int}{y:R'}(h:PQ H r A C sz)(s4:4<=sz)(ea:A[(k%65536%sz).toNat]?=some c)(G:C[(k%65536%sz).toNat]?=some y):
  PQ (upd H c<|.dK<|aC<|bu y k v) r A (hX sz C (k,v)) sz:=by
 have e:hX sz C (k,v)=C.set (k%65536%sz).toNat (bu y k v):=by
  unfold hX;rw[Ze];show C.set (k%65536%sz).toNat (bu (C[(k%65536%sz).toNat]?.getD []) k v)=_;rw[G];rfl
 rw[e];let{U,Y,I}:=u9 (k:=k) s4;refine h.set ea (xS<|h.ndk _ _ G) λp O=>?_;rcases xY O with z|z
 .exact h.home _ _ G p z
 .rw[z,I]
section
variable{d:RJ}
def PD.moved_some(e:st.nxt=some m):st.moved=st.mv:=by unfold PD.moved;rw[e]
def PD.moved_none(e:st.nxt=none):st.moved=0:=by unfold PD.moved;rw[e]
def QN.movVal(h:QN t H a st d)(z:PY st)(G:st.nxt=some m){kv:R'}(I:d.C0[st.mv.toNat]?=some kv)(hk:k%65536%st.size<=st.mv){x:R'}
  (ex:(kv.foldl (hX m) d.C1)[(k%65536%m).toNat]?=some x):aH x k=aH st.kv k:=by
 let{pm,v0,v1,_}:=z.nx m G;let{s4,_}:=b7 z.pw;let{s5,_}:=b7 pm;have r1:=h.row1;rw[G]at r1;let{n0,n1,n2}:=u9 (k:=k) s5;let{m0,m1,m2}:=u9 (k:=k) s4;let{y,O}:=eB (l:=d.C1) n0 (by rwa[r1.lc]);let{c1,U}:=eB (l:=d.A1) n0 (by rwa[r1.la]);let{x',e',_,hv}:=BI (m:=m) (h.row0.ndk _ _ I) O;rw[ex]at e';cases e';rw[hv k,WJ M];have hm:=PD.moved_some G;by_cases c:k%65536%st.size=st.mv
 .let{b0,Y}:=eB (l:=d.A0) m0 (by rwa[h.row0.la]);have Z:IsCell d st k b0 kv:= .inl {(),Y,by rw[c];exact I};have yn:aH y k=none:=by
   cases q:aH y k with
   |none=>rfl
   |some v=>
    let{p,hp,e}:=Z5.mp (wx q);have:=h.new _ _ O p hp;rw[e]at this;lia
  rw[h.val k b0 kv Z,yn];simp
 .have Z:IsCell d st k c1 y:= .inr {m,G,(),U,O};have kn:aH kv k=none:=by
   cases q:aH kv k with
   |none=>rfl
   |some v=>
    let{p,hp,e}:=Z5.mp (wx q);have:=h.row0.home _ _ I p hp;rw[e]at this;lia
  rw[kn,h.val k c1 y Z];rfl
def eQ{l:List α}{x y:α}(e:(l.set i x)[j]?=some y):(i=j/\y=x)\/(i≠j/\l[j]?=some y):=by
 rw[Zm]at e;by_cases z:i=j
 .rw[WJ z]at e;split at e
  .cases e;exact .inl ⟨z,M⟩
  .cases e
 .rw[WI z]at e;exact .inr ⟨z,e⟩
def QN.one(h:QN t H a st d)(z:PY st)(Y:st.nxt=some m){kv:R'}(ek:d.C0[st.mv.toNat]?=some kv){b':G'}(nl:st.mv+1≠st.size)
  (ha:H' a=some (.ins t.aZ dx<|Qn d.tb (st.mv+1) d.n)) (ht:H' d.tb=H d.tb) (h0:H' d.r0=some (.lst<|(d.A0.set st.mv.toNat b').map V.ref)) (hb:H' b'=some (.dK [])) (hF:¬Ql a st d b')
  (hA:∀(j:Nat) b,d.A0[j]?=some b->j≠st.mv.toNat->H' b=H b) (hr:PQ H' d.r1 d.A1 (kv.foldl (hX m) d.C1) m):
  QN t H' a st.one {d with A0:=d.A0.set st.mv.toNat b',C0:=d.C0.set st.mv.toNat [],C1:=kv.foldl (hX m) d.C1}:=by
 let{pm,v0,v1,_}:=z.nx m Y;have a1:st.one={st with mv:=st.mv+1}:=by unfold PD.one;rw[Y];exact WI nl
 have G:({st with mv:=st.mv+1}:PD).moved=st.mv+1:=PD.moved_some (st:={st with mv:=st.mv+1}) Y;have hm:=PD.moved_some Y;have a2:b'∉d.A0:=λq=>hF (.inr<|.inr<|.inr<|.inl q);have a3:b'∉d.A1:=λq=>hF (.inr<|.inr<|.inr<|.inr<|.inr q);rw[a1];have r1:=h.row1;rw[Y]at r1;refine{{dx,by rwa[G]},by rw[ht];exact h.tbl,{h0,by rw[ZD];exact h.row0.la,by rw[ZD];exact h.row0.lc,λj b x Z e2=>?_,λj x e=>?_,λi j b Z e2=>?_,λj x e p hp=>?_},?_,λb a4 hb1=>?_,h.tr,h.tr1,λj x e lt=>?_,λj x e p hp=>?_,λk c x ic=>?_}
 .rcases eQ Z with⟨q,rfl⟩|⟨q,Z⟩
  .rcases eQ e2 with⟨_,rfl⟩|⟨q2,_⟩
   .exact hb
   .exact WN q q2
  .rcases eQ e2 with⟨q2,_⟩|⟨_,e2⟩
   .exact WN q2 q
   .rw[hA j b Z (Ne.symm q)];exact h.row0.cell j b x Z e2
 .rcases eQ e with⟨_,rfl⟩|⟨_,e⟩
  .exact ZY
  .exact h.row0.ndk j x e
 .have Z:(d.A0.set st.mv.toNat b')[i]?=some b:=Z;have e2:(d.A0.set st.mv.toNat b')[j]?=some b:=e2;rcases eQ Z with⟨q,y1⟩|⟨q,O⟩<;>rcases eQ e2 with⟨q2,y2⟩|⟨q2,I⟩
  .exact q.symm.trans q2
  .rw[y1]at I;exact WN (Q2 I) a2
  .rw[y2]at O;exact WN (Q2 O) a2
  .exact h.row0.inj i j b O I
 .rcases eQ e with⟨_,rfl⟩|⟨_,e⟩
  .cases hp
  .exact h.row0.home j x e p hp
 .show match st.nxt with|none=>_|some m=>_
  rwa[Y]
 .let{j,hj,e}:=Zu (show b∈d.A0.set st.mv.toNat b' from a4);rcases eQ (Q3.mpr ⟨hj,e⟩)with⟨_,rfl⟩|⟨_,e⟩
  .exact a3 hb1
  .exact h.dis b (Q2 e) hb1
 .rw[G]at lt;rcases eQ e with⟨_,rfl⟩|⟨q,e⟩
  .rfl
  .exact h.old j x e ()
 .rw[G];show p.1%65536%st.size<st.mv+1;obtain⟨y,ey⟩:∃y,d.C1[j]?=some y:=by
   have hj:j<(kv.foldl (hX m) d.C1).length:=(Q3.mp e).1;rw[Fb]at hj;exact{_,Q4 hj}
  let{x',e',a0,_}:=BI (m:=m) (h.row0.ndk _ _ ek) ey;have e:(kv.foldl (hX m) d.C1)[j]?=some x:=e;rw[e]at e';cases e';rcases a0 p hp with q|q
  .have:=h.new j y ey p q;lia
  .let{p',a0,e3}:=Z5.mp q;have:=h.row0.home _ _ ek p' a0;rw[e3]at this;lia
 .show aH x k=aH st.kv k;rcases ic with⟨g0,O,I⟩|⟨m',U,g0,O,I⟩
  .rw[G]at g0;have g0:st.mv+1<=k%65536%st.size:=g0;have O:(d.A0.set st.mv.toNat b')[(k%65536%st.size).toNat]?=some c:=O;have I:(d.C0.set st.mv.toNat [])[(k%65536%st.size).toNat]?=some x:=I;rcases eQ O with⟨q,_⟩|⟨_,O⟩
   .lia
   .rcases eQ I with⟨q,_⟩|⟨_,I⟩
    .lia
    .exact h.val k c x<|.inl {(),O,I}
  .rw[G]at g0;have U:st.nxt=some m':=U;rw[Y]at U;cases U;have g0:k%65536%st.size<st.mv+1:=g0;exact h.movVal z Y ek () I
def QN.last(h:QN t H a st d)(z:PY st)(U:st.nxt=some m){kv:R'}(Y:d.C0[st.mv.toNat]?=some kv){tb':G'}(l:st.mv+1=st.size)
  (ha:H' a=some (.ins t.aZ dx<|Qn tb' 0 d.n)) (Z:H' tb'=some (.lst [.ref d.r1])) (hn:tb'≠d.r1) (hr:PQ H' d.r1 d.A1 (kv.foldl (hX m) d.C1) m):
  QN t H' a st.one {tb',d.r1,d.r1,d.A1,[],kv.foldl (hX m) d.C1,[],d.n}:=by
 have G:st.one={st with size:=m,nxt:=none,mv:=0}:=by unfold PD.one;rw[U];exact WJ l
 let{s4,_}:=b7 z.pw;rw[G];refine{⟨dx,ha⟩,Z,hr,⟨M,M⟩,(λb _ q=>by cases q),hn,(λq=>by cases q),λj x e lt=>?_,(λj x e=>by simp at e),λk c x ic=>?_}
 .have lt:(j:Int)<0:=lt;lia
 .rcases ic with⟨g0,f1,I⟩|⟨m',O,_⟩
  .have I:(kv.foldl (hX m) d.C1)[(k%65536%m).toNat]?=some x:=I;let{m0,m1,m2}:=u9 (k:=k) s4;exact h.movVal z U Y () I
  .cases O
def QN.begin(h:QN t H a st d)(Z:st.nxt=none)(ha:H' a=H a)(ht:H' d.tb=some (.lst [.ref d.r0,.ref r]))(h0:∀b,b=d.r0\/b∈d.A0->H' b=H b)
  (hr:PQ H' r A (List.replicate m.toNat []) m) (nr:¬Ql a st d r) (nA:∀b∈A,¬Ql a st d b):QN t H' a {st with nxt:=some m,mv:=0} {d with r1:=r,A1:=A,C1:=List.replicate m.toNat []}:=by
 let{dx,O}:=h.obj;have U:=PD.moved_none Z;refine{{dx,by rw[ha];rw[U]at O;exact O},ht,h.row0.frame h0,hr,λb q q2=>nA b q2<|.inr<|.inr<|.inr<|.inl q,h.tr,λ_=>{λq=>nr<|.inr<|.inl q.symm,λq=>nr<|.inr (.inr<|.inl q.symm)},λj x e lt=>?_,λj x e p hp=>?_,λk c x ic=>?_}
 .have lt:(j:Int)<0:=lt;lia
 .have:=XE (Q2 e);subst this;cases hp
 .rcases ic with⟨G,Y,I⟩|⟨m',a0,G,Y,I⟩
  .refine h.val k c x<|.inl {?_,Y,I};rwa[U]
  .have G:k%65536%st.size<0:=G;have I:(List.replicate m.toNat ([]:R'))[(k%65536%m').toNat]?=some x:=I;have:0<=k%65536%st.size:=by
    have z:(0:Int)<=st.size:=by rw[<-h.row0.la];lia
    rcases Int.lt_or_eq_of_le z with q|q
    .exact Z2 _ ()
    .rw[<-q,Int.emod_zero];exact Z2 _ (_)
   lia
def QN.fresh(ha:H a=some (.ins t.aZ dx<|Qn tb 0 0))(I:H tb=some (.lst [.ref r]))(O:PQ H r A (List.replicate 4 []) 4)(n:tb≠r):QN t H a PD.new {tb,r,r,A,[],List.replicate 4 [],[],0}:=by
 refine{⟨dx,ha⟩,I,O,⟨M,M⟩,(λb _ q=>by cases q),n,(λq=>by cases q),λj x e lt=>?_,(λj x e=>by simp at e),λk c x U=>?_}
 .have lt:(j:Int)<0:=lt;lia
 .rcases U with⟨Y,Z,z⟩|⟨m',G,_⟩
  .have z:(List.replicate 4 ([]:R'))[(k%65536%4).toNat]?=some x:=z;have:=XE (Q2 z);subst this;rfl
  .cases G
def QN.short(h:QN t H a st d)(z:PY st){kv:R'}(ic:IsCell d st k c kv):kv.length<=st.kv.length:=by
 let{_,_,nd}:=h.at ic;have sub:∀x∈kv.map (·.1),x∈st.kv.map (·.1):=λx hx=>by
  let{p,I,e}:=Z5.mp hx;subst e;refine mem_keys.mpr ?_;have hs:=Ls I;have:∃O,IsCell d st p.1 O kv:=by
   rcases ic with⟨g0,U,G⟩|⟨m,Y,g0,U,G⟩
   .let{s4,_}:=b7 z.pw;let{m0,m1,m2}:=u9 (k:=k) s4;have e:=h.row0.home _ _ G p I;rw[m2]at e;exact{c,.inl {by rwa[e],by rwa[e],by rwa[e]}}
   .let{pm,_}:=z.nx m Y;let{s5,_}:=b7 pm;let{n0,n1,n2}:=u9 (k:=k) s5;have r1:=h.row1;rw[Y]at r1;have e:=r1.home _ _ G p I;rw[n2]at e;exact{c,.inr {m,Y,h.new _ _ G p I,by rwa[e],by rwa[e]}}
  let{O,Z}:=this;rwa[<-h.val p.1 O kv Z]
 have:=gS nd sub;rw[Q1,Q1]at this;exact this
end
theorem CQ{m:Int}:∀{kv:R'}{C:List (List<|Int×V)}{j:Nat}{x y:R'},C[j]?=some y->(kv.foldl (hX m) C)[j]?=some x->x.length<=y.length+kv.length
 | [],C,j,x,y,e,f=>by
  have f:C[j]?=some x:=f;rw[e]at f;cases f;exact Q5 _
 |p::r,C,j,x,y,e,f=>by
  have h:=CQ (m:=m) (CS (m:=m) (p:=p) e) f;have l:=cy y p.1 p.2;rw[Zh];split at h<;>lia
section
variable{d:RJ}
def QN.short0(h:QN t H a st d)(z:PY st){kv:R'}(e:d.C0[j]?=some kv):kv.length<=st.kv.length:=by
 cases kv with
 |nil=>exact Za _
 |cons p r=>
  have I:=h.row0.home j _ e p Z4;have O:¬(j:Int)<st.moved:=λq=>by have:=h.old j _ e q;cases this
  have ej:(p.1%65536%st.size).toNat=j:=();have G:j<d.A0.length:=by
   have:=h.row0.la;have:=h.row0.lc;have:=(Q3.mp e).1;lia
  exact h.short z (k:=p.1) (c:=d.A0[j])<|.inl {(),by rw[ej];exact Q4 G,by rwa[ej]}
def QN.short1(h:QN t H a st d)(z:PY st)(G:st.nxt=some m){kv:R'}(e:d.C1[j]?=some kv):kv.length<=st.kv.length:=by
 have r1:=h.row1;rw[G]at r1;cases kv with
 |nil=>exact Za _
 |cons p r=>
  have U:=r1.home j _ e p Z4;have I:=h.new j _ e p Z4;have ej:(p.1%65536%m).toNat=j:=();have O:j<d.A1.length:=by
   have:=r1.la;have:=r1.lc;have:=(Q3.mp e).1;lia
  exact h.short z (k:=p.1) (c:=d.A1[j])<|.inr {m,G,I,by rw[ej];exact Q4 O,by rwa[ej]}
end
def PY.new:PY PD.new:={(_),λm e=>by cases e}
def PY.kv(z:PY st):PY {st with kv:=kvs}:=⟨z.pw,z.nx⟩
set_option tactic.hygienic true in
def PY.one(z:PY st):PY st.one:=by
 unfold PD.one;cases e:st.nxt with
 |none=>exact z
 |some m=>
  let{G,O,U,I}:=z.nx m e;show PY (if _ then _ else _);split
  .exact{G,λm' q=>by cases q}
  .rename_i c
   refine{z.pw,λm' q=>?_};have q:some m=some m':=q;cases q;exact{G,by show 0<=st.mv+1;lia,by show st.mv+1<st.size;lia,I}
def OW{x:Int}(h:x∈([4,8,16,32,64,128,256]:List Int))(c:x<256):2*x∈([4,8,16,32,64,128,256]:O'):=by
 rcases oE h with rfl|rfl|rfl|rfl|rfl|rfl|rfl<;>first|decide|exact WN c (_)
def Mu{x:Int}(h:x∈([4,8,16,32,64,128,256]:List Int))(c:4<x):x/2∈([4,8,16,32,64,128,256]:O')/\2*(x/2)=x:=by
 rcases oE h with rfl|rfl|rfl|rfl|rfl|rfl|rfl<;>first|decide|exact WN c (_)
def Mt{x:Int}(h:x∈([4,8,16,32,64,128,256]:List Int)):0<x:=by
 rcases oE h with rfl|rfl|rfl|rfl|rfl|rfl|rfl<;>decide
set_option tactic.hygienic true in
def PY.three(z:PY st):PY st.three:=by
 unfold PD.three;cases e:st.nxt with
 |some m=>exact z
 |none=>
  show PY (if _ then _ else _);split
  .rename_i c
   refine{z.pw,λm' q=>?_};cases q;exact{OW z.pw c.2,Xs _,Mt z.pw,.inl M}
  .split
   .rename_i c
    refine{z.pw,λm' q=>?_};cases q;exact{(Mu z.pw c.2).1,Xs _,Mt z.pw,.inr (Mu z.pw c.2).2}
   .exact z
def QW(_K:FA)(t:PL)(H:Hp)(a:G')(F:K')(st:PD):Prop:=
 ∃d,QN t H a st d/\(∀b,F b↔Ql a st d b)/\d.n=(st.kv.length:Int)/\(st.kv.map (·.1)).Nodup/\PY st
def QW.ins(h:QW K t H a F st):∃dx fs,H a=some (.ins t.aZ dx fs)/\∀m,NoM m->fs.lookup m=none:=by
 let{d,hb,_}:=h;let{dx,z}:=hb.obj;exact{dx,_,z,λm G=>Mr G}
def QW.dom(h:QW K t H a F st)(hb:F b):∃o,H b=some o:=by
 let{d,h1,h2,_}:=h;exact h1.dom<|(h2 b).mp hb
def QW.frame(h:QW K t H a F st)(f:∀b,F b->H' b=H b):QW K t H' a F st:=by
 let{d,h1,h2,z}:=h;exact{d,h1.frame λb hb=>f b<|(h2 b).mpr hb,h2,z}
def QW.same(h:QW K t H a F st)(s:G3 H H'):QW K t H' a F st:=h.frame λb hb=>by
 let{o,e}:=h.dom hb;rw[e];exact s b o e
def QW.out(h:QW K t H a F st)(e:H p=none):¬F p:=λz=>by
 let{o,q}:=h.dom z;rw[q]at e;cases e
def QW.upd(h:QW K t H a F st)(e:¬F p):QW K t (L2.upd H p o) a F st:=h.frame λb hb=>af λz=>e (z▸hb)
def QW.new(h:QW K t H a F st)(e:H p=none):QW K t (L2.upd H p o) a F st:=h.upd (h.out e)
def wR(K:FA)(t:PL):Sp:=λvs H Q _=>∃(a dx:G'),vs=[.ref a]/\H a=some (.ins t.aZ dx [])/\H dx=some (.own a)/\∀H' F,QW K t H' a F PD.new->Fr (λb=>b=a\/b=dx) F H H'->Q .non H'
def yY(K:FA)(t:PL):Sp:=λvs H Q _=>∃(a:G')(k i:Int)(F:K')(st:PD),vs=[.ref a,.int k,.int i]/\QW K t H a F st/\0<=k/\st.kv.length<4096/\
 ∀H' F',QW K t H' a F' (st.put k<|.int i)->Fr F F' H H'->Q .non H'
def wS(K:FA)(t:PL):Sp:=λvs H Q E=>∃(a:G')(k:Int)(F:K')(st:PD),vs=[.ref a,.int k]/\QW K t H a F st/\0<=k/\
 ((aH st.kv k).isSome=true->st.kv.length<4096/\∀H' F',QW K t H' a F' (st.drop k)->Fr F F' H H'->Q .non H')/\(aH st.kv k=none->False)
def y3(K:FA)(t:PL):Sp:=λvs H Q E=>∃(a:G')(k:Int)(F:K')(st:PD),vs=[.ref a,.int k]/\QW K t H a F st/\0<=k/\
 (∀v,aH st.kv k=some v->∀H' F',QW K t H' a F' st->Fr F F' H H'->Q v H')/\(aH st.kv k=none->False)
def yZ(K:FA)(t:PL):Sp:=λvs H Q _=>∃(a:G')(k:Int)(F:K')(st:PD),vs=[.ref a,.int k]/\QW K t H a F st/\0<=k/\
 ∀H' F',QW K t H' a F' st->Fr F F' H H'->Q (.bl (aH st.kv k).isSome) H'
def wQ(K:FA)(t:PL):Sp:=λvs H Q _=>∃(a:G')(F:K')(st:PD),vs=[.ref a]/\QW K t H a F st/\
 ∀H' F' l,QW K t H' a F' st->Fr F F' H H'->H l=none->¬F' l->H' l=some (.lst<|st.rows.map V.int)->Q (.ref l) H'
def dD(l:O'):Prop:=l.Pairwise (· < ·)
structure QH(ls:Sv):Prop where
 ne:∀l∈ls,l≠[]
 le:∀l∈ls,l.length<=8
 nb:∀(i:Nat)(x y:O'),ls[i]?=some x->ls[i+1]?=some y->5<=x.length+y.length
 up:dD ls.flatten
def QH.nil:QH []:={(λ_ h=>by cases h),(λ_ h=>by cases h),(λi x y e=>by simp at e),Y4}
def N9(e:ls[i]?=some x):ls=ls.take i++x::ls.drop (i+1):=by
 let{h,e}:=Q3.mp e;rw[<-e,<-Xd h,ZI]
def iJ(e:ls[i]?=some x):ls.flatten=(ls.take i).flatten++(x++(ls.drop<|i+1).flatten):=by
 conv=>lhs;rw[N9 e]
 rw[Xp,Xm]
def Qz{a b c:O'}:dD (a++(b++c))↔dD a/\dD b/\dD c/\(∀x∈a,∀y∈b,x<y)/\(∀x∈a,∀y∈c,x<y)/\∀x∈b,∀y∈c,x<y:=by
 unfold dD;rw[Zc,Zc];constructor
 .rintro ⟨h1,⟨h2,I,O⟩,G⟩;exact{h1,h2,I,λx hx y hy=>G x hx y<|Xh _ hy,λx hx y hy=>G x hx y<|Zq _ hy,O}
 .rintro ⟨h1,h2,I,O,G,U⟩;refine{h1,⟨h2,I,U⟩,λx hx y hy=>?_};rcases Q6.mp hy with z|z
  .exact O x hx y z
  .exact G x hx y z
structure QT(ls:Sv)(k:Int)(i:Nat):Prop where
 le:i<=ls.length
 lo:∀(j:Nat)(x:O'),j<i->ls[j]?=some x->∀y∈x,y<k
 hi:∀x,ls[i]?=some x->∃y∈x,k<=y
def Co{y:Int}(h:y∈(ls.take i).flatten):∃(j:Nat)(x:O'),j<i/\ls[j]?=some x/\y∈x:=by
 let{x,hx,hy}:=Wp.mp h;let{j,z,e}:=Zu hx;rw[Q7]at z;rw[XT]at e;exact{j,x,(),Q3.mpr {(),e},hy}
def QT.ahead(h:QT ls k i):∀y∈(ls.take i).flatten,y<k:=λy hy=>by
 let{j,x,z,e,hx}:=Co hy;exact h.lo j x z e y hx
def QT.behind(o:QH ls)(h:QT ls k i):∀y∈(ls.drop<|i+1).flatten,k<y:=λy hy=>by
 cases e:ls[i]? with
 |none=>
  have:ls.length<=i:=XB.mp e;rw[Xr ()]at hy;cases hy
 |some x=>
  let{z,hz,le}:=h.hi x e;have up:=o.up;rw[iJ e]at up;have:=(Qz.mp up).2.2.2.2.2 z hz y hy;lia
def QT.mem(o:QH ls)(h:QT ls k i):k∈ls.flatten↔∃x,ls[i]?=some x/\k∈x:=by
 constructor
 .intro hk;cases e:ls[i]? with
  |none=>
   have l:ls.length<=i:=XB.mp e;have:ls.take i=ls:=Zo l;have:=h.ahead k (by rwa[this]);lia
  |some x=>
   rw[iJ e]at hk;rcases Q6.mp hk with z|z
   .have:=h.ahead k z;lia
   .rcases Q6.mp z with z|z
    .exact⟨x,M,z⟩
    .have:=h.behind o k z;lia
 .rintro ⟨x,e,hk⟩;exact Wp.mpr {x,Q2 e,hk}
theorem Dn:∀{l:O'}{k:Int},dD l->k∉l->(∀x∈l.take (l.filter<|λz=>decide (z<k)).length,x<k)/\∀x∈l.drop (l.filter<|λz=>decide (z<k)).length,k<x
 | [],k,_,_=>{λx h=>by simp at h,λx h=>by simp at h}
 |a::r,k,up,nk=>by
  let{h1,h2}:=XQ.mp up;have nr:k∉r:=λz=>nk (Z7 _ z);have O:a≠k:=λz=>nk (by rw[z];exact Z4);by_cases c:a<k
  .let{G,I}:=Dn h2 nr;rw[Vf,WJ (by simpa using c),Zh,W8,List.drop_succ_cons];refine{λx hx=>?_,I};rcases Zb.mp hx with rfl|hx
   .exact c
   .exact G x hx
  .have:(a::r).filter (λz=>decide (z<k))=[]:=by
    rw[Vb];intro x hx;rcases Zb.mp hx with rfl|hx
    .simpa using c
    .have:=h1 x hx;simp;lia
   rw[this];refine{λx hx=>by simp at hx,λx hx=>?_};have hx:x∈a::r:=by simpa using hx
   rcases Zb.mp hx with rfl|hx
   .lia
   .have:=h1 x hx;lia
noncomputable def gT(l:O')(k:Int):List Int:=l.take (l.filter<|λz=>decide (z<k)).length++k::l.drop (l.filter<|λz=>decide (z<k)).length
def Jj{l:O'}:(gT l k).length=l.length+1:=by
 have h:=Zd (λz=>decide (z<k)) l;unfold gT;rw[Q8,Zh,Q7,Zw];lia
def R6{l:O'}{x:Int}:x∈gT l k↔x=k\/x∈l:=by
 unfold gT;rw[Q6,Zb];have:x∈l↔x∈l.take (l.filter<|λz=>decide (z<k)).length\/x∈l.drop (l.filter<|λz=>decide (z<k)).length:=by
  rw[<-Q6,ZI]
 rw[this];constructor
 .rintro (h|h|h)
  .exact .inr<|.inl h
  .exact .inl h
  .exact .inr<|.inr h
 .rintro (h|h|h)
  .exact .inr<|.inl h
  .exact .inl h
  .exact .inr<|.inr h
def GK{l:O'}(up:dD l)(I:k∉l):dD (gT l k):=by
 let{h1,h2}:=Dn up I;have G:dD (l.take (l.filter<|λz=>decide (z<k)).length++l.drop (l.filter<|λz=>decide (z<k)).length):=by rwa[ZI]
 let{O,U,Y}:=Zc.mp G;unfold gT;refine Zc.mpr {O,XQ.mpr ⟨h2,U⟩,λx hx y hy=>?_};rcases Zb.mp hy with rfl|hy
 .exact h1 x hx
 .exact Y x hx y hy
structure Rm(ls:Sv)(k:Int)(i:Nat)(x:O'):Prop where
 at_:ls[i]?=some x
 lo:∀y∈(ls.take i).flatten,y<k
 hi:∀y∈(ls.drop<|i+1).flatten,k<y
def QT.add(o:QH ls)(h:QT ls k i)(ne:ls≠[]):∃x,Rm ls k (min i<|ls.length-1) x:=by
 have hl:0<ls.length:=Xa.mpr ne;by_cases c:i<ls.length
 .have:min i (ls.length-1)=i:=();rw[this];exact{ls[i],Q4 c,h.ahead,h.behind o}
 .have le:=h.le;have:min i (ls.length-1)=ls.length-1:=();rw[this];have z:ls.length-1<ls.length:=();refine{ls[ls.length-1],Q4 z,λy hy=>?_,λy hy=>?_}
  .let{j,x,G,e,hx}:=Co hy;exact h.lo j x () e y hx
  .rw[Xr ()]at hy;cases hy
def Bm(e:ls[i]?=some x):ls.set i y=ls.take i++y::ls.drop (i+1):=by
 have hi:=(Q3.mp e).1;rw[List.set_eq_take_append_cons_drop,WJ hi]
def sR(e:ls[i]?=some x):(ls.set i y).flatten=(ls.take i).flatten++(y++(ls.drop<|i+1).flatten):=by
 rw[Bm e,Xp,Xm]
def Rm.set(o:QH ls)(h:Rm ls k i x)(G:k∉ls.flatten):dD (ls.set i<|gT x k).flatten/\∀z,z∈(ls.set i<|gT x k).flatten↔z=k\/z∈ls.flatten:=by
 have up:=o.up;rw[iJ h.at_]at up G;let{I,O,U,Y,Z,u6}:=Qz.mp up;have nx:k∉x:=λz=>G (Zq _<|Xh _ z);rw[sR h.at_,iJ h.at_];refine{Qz.mpr {I,GK O nx,U,λa ha b hb=>?_,Z,λa ha b hb=>?_},λz=>?_}
 .rcases R6.mp hb with rfl|hb
  .exact h.lo a ha
  .exact Y a ha b hb
 .rcases R6.mp ha with rfl|ha
  .exact h.hi b hb
  .exact u6 a ha b hb
 .rw[Q6,Q6,Q6,Q6,R6];constructor
  .rintro (h|(h|h)|h)
   .exact .inr<|.inl h
   .exact .inl h
   .exact .inr<|.inr (.inl h)
   .exact .inr<|.inr (.inr h)
  .rintro (h|h|h|h)
   .exact .inr<|.inl (.inl h)
   .exact .inl h
   .exact .inr<|.inl (.inr h)
   .exact .inr<|.inr h
def tS{z:O'}(e:ls[i]?=some x)(f:(ls.set i y)[j]?=some z):(i=j/\z=y)\/(i≠j/\ls[j]?=some z):=by
 rw[Zm]at f;by_cases c:i=j
 .rw[WJ c]at f;split at f
  .cases f;exact .inl ⟨c,M⟩
  .cases f
 .rw[WI c]at f;exact .inr ⟨c,f⟩
def wB{z:O'}(e:ls[i]?=some x)(h:z∈ls.set i y):z=y\/z∈ls:=by
 let{j,G,I}:=Zu h;rcases tS e (Q3.mpr ⟨G,I⟩)with⟨_,q⟩|⟨_,q⟩
 .exact .inl q
 .exact .inr<|Q2 q
def QH.grown(o:QH ls)(e:ls[i]?=some x)(l1:x.length<=y.length)(O:y.length<=8)(up:dD (ls.set i y).flatten):QH (ls.set i y):=by
 have hx:=o.ne x (Q2 e);have px:0<x.length:=Xa.mpr hx;refine{λl hl=>?_,λl hl=>?_,λj a b f g=>?_,up}
 .rcases wB e hl with rfl|hl
  .exact XC ()
  .exact o.ne l hl
 .rcases wB e hl with rfl|hl
  .exact O
  .exact o.le l hl
 .rcases tS e f with⟨c,h1⟩|⟨c,z⟩<;>rcases tS e g with⟨G,h2⟩|⟨G,I⟩
  .lia
  .subst c;have:=o.nb i x b e I;rw[h1];lia
  .rw[G]at e;have:=o.nb j a x z e;rw[h2];lia
  .exact o.nb j a b z I
set_option tactic.hygienic true in
def QH.parted{a b:O'}(o:QH ls)(e:ls[i]?=some x)(U:a.length=4)(Y:b.length=5)(up:dD (ls.set i<|a++b).flatten):
  QH ((ls.set i a).take (i+1)++b::(ls.set i a).drop (i+1))/\((ls.set i a).take (i+1)++b::(ls.set i a).drop (i+1)).flatten=(ls.set i<|a++b).flatten:=by
 have hi:=(Q3.mp e).1;have lt:(ls.take i).length=i:=by rw[Q7];lia
 have O:(ls.set i a).take (i+1)++b::(ls.set i a).drop (i+1)=ls.take i++a::b::ls.drop (i+1):=by
  rw[Bm (y:=a) e];have h1:(ls.take i++a::ls.drop (i+1)).take (i+1)=ls.take i++ [a]:=by
   rw[List.take_append,lt,Zo ()];have:i+1-i=1:=();rw[this];rfl
  have h2:(ls.take i++a::ls.drop (i+1)).drop (i+1)=ls.drop (i+1):=by
   rw[List.drop_append,lt,Xr ()];have:i+1-i=1:=();rw[this];rfl
  rw[h1,h2,Z9];rfl
 have e2:(ls.take i++a::b::ls.drop (i+1)).flatten=(ls.set i<|a++b).flatten:=by
  rw[sR e,Xp,Xm,Xm,Z9]
 rw[O];refine{{λl hl=>?_,λl hl=>?_,λj p q f g=>?_,by rwa[e2]},e2}
 .rcases Q6.mp hl with h|h
  .exact o.ne l<|ZB h
  .rcases Zb.mp h with rfl|h
   .exact XC ()
   .rcases Zb.mp h with rfl|h
    .exact XC ()
    .exact o.ne l<|Vm h
 .rcases Q6.mp hl with h|h
  .exact o.le l<|ZB h
  .rcases Zb.mp h with rfl|h
   .lia
   .rcases Zb.mp h with rfl|h
    .lia
    .exact o.le l<|Vm h
 .have look:∀(j:Nat)(p:O'),(ls.take i++a::b::ls.drop (i+1))[j]?=some p->(j<i/\ls[j]?=some p)\/(j=i/\p=a)\/(j=i+1/\p=b)\/(i+2<=j/\ls[j-1]?=some p):=λj p f=>by
   rw[VU,lt]at f;split at f
   .rename_i c
    rw[V4,WJ c]at f;exact .inl ⟨c,f⟩
   .rename_i c
    rcases(show j=i\/j=i+1\/i+2<=j by lia)with rfl|rfl|h
    .have:j-j=0:=();rw[this]at f;cases f;exact .inr<|.inl ⟨M,M⟩
    .have:i+1-i=1:=();rw[this]at f;cases f;exact .inr<|.inr (.inl ⟨M,M⟩)
    .obtain⟨n,rfl⟩:∃n,j=i+2+n:={j-(i+2),()};have:i+2+n-i=n+1+1:=();rw[this,VE,VE,XM]at f;refine .inr<|.inr (.inr {h,?_});have:i+2+n-1=i+1+n:=();rw[this];exact f
  have pos:∀(j:Nat)(p:O'),ls[j]?=some p->1<=p.length:=λj p f=>Xa.mpr (o.ne p<|Q2 f);rcases look j p f with⟨c,z⟩|⟨c,h1⟩|⟨c,h1⟩|⟨c,z⟩<;>rcases look (j+1) q g with⟨I,G⟩|⟨I,h2⟩|⟨I,h2⟩|⟨I,G⟩<;>(try rw[h1])<;>(try rw[h2])<;>(try lia)
  .exact o.nb j p q z G
  .have:=pos j p z;lia
  .have:j+1-1=j-1+1:=();rw[this]at G;exact o.nb (j-1) p q z G
def lvF(L:G'):List (Str×V):=[(gt,.ref L)]
def dw{L:G'}:(lvF L).lookup (gt:Str)=some (.ref L):=by
 have hb:((gt:Str)==(gt:Str))=true:=WW.mpr M;unfold lvF;simp only[List.lookup,hb]
def MC{L:G'}{m:Str}(h:m≠(gt:Str)):(lvF L).lookup m=none:=by
 have hb:(m==(gt:Str))=false:=WZ.mpr h;unfold lvF;simp only[List.lookup,hb]
structure Qj(t:PL)(H:Hp)(a L:G')(A:Si)(ls:Sv):Prop where
 obj:∃dx,H a=some (.ins t.bK dx<|lvF L)
 lst:H L=some (.lst<|A.map V.ref)
 len:A.length=ls.length
 leaf:∀(j:Nat)(b:G')(l:O'),A[j]?=some b->ls[j]?=some l->H b=some (.lst<|l.map V.int)
 inj:∀(i j:Nat)(b:G'),A[i]?=some b->A[j]?=some b->i=j
 nL:L∉A
def Qy(a L:G')(A:Si):Addr->Prop:=λb=>b=a\/b=L\/b∈A
section
variable{L:G'}
def Qj.at(h:Qj t H a L A ls)(e:ls[i]?=some x):∃c,A[i]?=some c/\H c=some (.lst<|x.map V.int):=by
 have hi:i<A.length:=by rw[h.len];exact(Q3.mp e).1
 exact{A[i],Q4 hi,h.leaf i _ x (Q4 hi) e}
def Qj.has(h:Qj t H a L A ls)(hb:b∈A):∃(j:Nat)(l:O'),A[j]?=some b/\ls[j]?=some l/\H b=some (.lst<|l.map V.int):=by
 let{j,z,e}:=Zu hb;have hc:j<ls.length:=by rwa[<-h.len]
 have G:A[j]?=some b:=by rw[Q4 z,e]
 exact{j,ls[j],G,Q4 hc,h.leaf j b _ G<|Q4 hc}
def Qj.frame(h:Qj t H a L A ls)(f:∀b,Qy a L A b->H' b=H b):Qj t H' a L A ls:=by
 let{dx,G}:=h.obj;exact{{dx,by rwa[f a (.inl M)]},by rw[f L (.inr<|.inl M)];exact h.lst,h.len,λj b l z e2=>by rw[f b (.inr<|.inr<|Q2 z)];exact h.leaf j b l z e2,h.inj,h.nL}
def Qj.dom(h:Qj t H a L A ls)(hb:Qy a L A b):∃o,H b=some o:=by
 let{dx,z}:=h.obj;rcases hb with rfl|rfl|hb
 .exact{_,z}
 .exact{_,h.lst}
 .let{_,_,_,_,q}:=h.has hb;exact{_,q}
def Qj.same(h:Qj t H a L A ls)(s:G3 H H'):Qj t H' a L A ls:=h.frame λb hb=>by
 let{o,e}:=h.dom hb;rw[e,s b o e]
def Qj.out(h:Qj t H a L A ls)(n:H p=none):¬Qy a L A p:=λz=>by
 let{o,e}:=h.dom z;rw[n]at e;cases e
def Qj.write(h:Qj t H a L A ls)(G:A[i]?=some c)(ex:ls[i]?=some x):Qj t (upd H c<|.lst<|y.map V.int) a L A (ls.set i y):=by
 let{dx,O}:=h.obj;have hc:=h.leaf i c x G ex;have U:=Q2 G;refine{{dx,by rwa[af (cX O hc<|by intro z;cases z)]},by rw[af (λz=>h.nL<|by rwa[z])];exact h.lst,by rw[ZD];exact h.len,λj b l I e2=>?_,h.inj,h.nL};rw[Zm]at e2;by_cases z:i=j
 .subst z;rw[G]at I;cases I;rw[WJ M]at e2;split at e2
  .cases e2;exact ag
  .cases e2
 .rw[WI z]at e2;rw[af (λy=>z<|h.inj i j c G<|by rw[<-y];exact I)];exact h.leaf j b l I e2
def Qj.swap(h:Qj t H a L A ls){n:G'}(ec:A[i]?=some c)(ex:ls[i]?=some x)(Y:H n=some (.lst<|y.map V.int))(I:¬Qy a L A n):Qj t (upd H L<|.lst<|(A.set i n).map V.ref) a L (A.set i n) (ls.set i y):=by
 let{dx,O}:=h.obj;have nA:n∉A:=λz=>I (.inr<|.inr z);have U:n≠L:=λz=>I (.inr<|.inl z);refine{{dx,by rwa[af (cX O h.lst<|by intro z;cases z)]},ag,by rw[ZD,ZD];exact h.len,λj b l G e2=>?_,λj k b G e2=>?_,λz=>?_}
 .rw[Zm]at G e2;by_cases z:i=j
  .rw[WJ z]at G e2;split at G
   .cases G;split at e2
    .cases e2;rwa[af U]
    .cases e2
   .cases G
  .rw[WI z]at G e2;rw[af (λy=>h.nL<|by rw[<-y];exact Q2 G)];exact h.leaf j b l G e2
 .rw[Zm]at G e2;by_cases z:i=j
  .rw[WJ z]at G;split at G
   .cases G;by_cases w:i=k
    .exact z.symm.trans w
    .rw[WI w]at e2;exact WN (Q2 e2) nA
   .cases G
  .rw[WI z]at G;by_cases w:i=k
   .rw[WJ w]at e2;split at e2
    .cases e2;exact WN (Q2 G) nA
    .cases e2
   .rw[WI w]at e2;exact h.inj j k b G e2
 .let{j,Z,e}:=Zu z;have G:=Q3.mpr ⟨Z,e⟩;rw[Zm]at G;by_cases w:i=j
  .rw[WJ w]at G;split at G
   .cases G;exact U M
   .cases G
  .rw[WI w]at G;exact h.nL<|Q2 G
set_option tactic.hygienic true in
def QV{l:List α}{x y:α}(hi:i<=l.length)(e:(l.take i++x::l.drop i)[j]?=some y):(j<i/\l[j]?=some y)\/(j=i/\y=x)\/(i<j/\l[j-1]?=some y):=by
 have lt:(l.take i).length=i:=by rw[Q7];lia
 rw[VU,lt]at e;split at e
 .rename_i c
  rw[V4,WJ c]at e;exact .inl ⟨c,e⟩
 .rename_i c
  rcases(show j=i\/i<j by lia)with rfl|h
  .have:j-j=0:=();rw[this]at e;cases e;exact .inr<|.inl ⟨M,M⟩
  .obtain⟨n,rfl⟩:∃n,j=i+1+n:={j-(i+1),()};have:i+1+n-i=n+1:=();rw[this,VE,XM]at e;have:i+1+n-1=i+n:=();exact .inr<|.inr {h,by rwa[this]}
def Qj.insert(h:Qj t H a L A ls){n:G'}(hi:i<=A.length)(hn:H n=some (.lst<|y.map V.int))(nF:¬Qy a L A n):
  Qj t (upd H L<|.lst<|(A.take i++n::A.drop i).map V.ref) a L (A.take i++n::A.drop i) (ls.take i++y::ls.drop i):=by
 let{dx,ho}:=h.obj;have nA:n∉A:=λz=>nF (.inr<|.inr z);have nL:n≠L:=λz=>nF (.inr<|.inl z);have Y:i<=ls.length:=by rwa[<-h.len]
 refine{{dx,by rwa[af (cX ho h.lst<|by intro z;cases z)]},ag,?_,λj b l Z e2=>?_,λj k b Z e2=>?_,λz=>?_}
 .have:=h.len;rw[Q8,Q8,Zh,Zh,Q7,Q7,Zw,Zw];lia
 .rcases QV hi Z with⟨O,G⟩|⟨O,G⟩|⟨O,G⟩<;>rcases QV Y e2 with⟨U,I⟩|⟨U,I⟩|⟨U,I⟩<;>(try lia)
  .rw[af (λy=>h.nL<|by rw[<-y];exact Q2 G)];exact h.leaf j b l G I
  .rwa[G,I,af nL]
  .rw[af (λy=>h.nL<|by rw[<-y];exact Q2 G)];exact h.leaf (j-1) b l G I
 .rcases QV hi Z with⟨O,G⟩|⟨O,G⟩|⟨O,G⟩<;>rcases QV hi e2 with⟨U,I⟩|⟨U,I⟩|⟨U,I⟩
  .exact h.inj j k b G I
  .rw[I]at G;exact WN (Q2 G) nA
  .have:=h.inj _ _ b G I;lia
  .rw[G]at I;exact WN (Q2 I) nA
  .lia
  .rw[G]at I;exact WN (Q2 I) nA
  .have:=h.inj _ _ b G I;lia
  .rw[I]at G;exact WN (Q2 G) nA
  .have:=h.inj _ _ b G I;lia
 .rcases Q6.mp z with z|z
  .exact h.nL<|ZB z
  .rcases Zb.mp z with z|z
   .exact nL z.symm
   .exact h.nL<|Vm z
set_option tactic.hygienic true in
def qe{l:List α}{y:α}(e:(l.eraseIdx i)[j]?=some y):(j<i/\l[j]?=some y)\/(i<=j/\l[j+1]?=some y):=by
 rw[List.getElem?_eraseIdx]at e;split at e
 .rename_i c;exact .inl ⟨c,e⟩
 .rename_i c;exact .inr {(),e}
def Qj.erase(h:Qj t H a L A ls):Qj t (upd H L<|.lst<|(A.eraseIdx i).map V.ref) a L (A.eraseIdx i) (ls.eraseIdx i):=by
 let{dx,Z}:=h.obj;refine{{dx,by rwa[af (cX Z h.lst<|by intro z;cases z)]},ag,?_,λj b l O e2=>?_,λj k b O e2=>?_,λz=>h.nL<|Xf z}
 .rw[VV,VV,h.len]
 .have bA:b∈A:=Xf (Q2 O);rw[af (λy=>h.nL<|by rwa[<-y])];rcases qe O with⟨U,G⟩|⟨U,G⟩<;>rcases qe e2 with⟨Y,I⟩|⟨Y,I⟩<;>(try lia)
  .exact h.leaf j b l G I
  .exact h.leaf (j+1) b l G I
 .rcases qe O with⟨U,G⟩|⟨U,G⟩<;>rcases qe e2 with⟨Y,I⟩|⟨Y,I⟩
  .exact h.inj j k b G I
  .have:=h.inj _ _ b G I;lia
  .have:=h.inj _ _ b G I;lia
  .have:=h.inj _ _ b G I;lia
end
def Ae(up:dD ls.flatten)(ex:ls[i]?=some x)(z:ls[j]?=some y)(h:i<j):∀p∈x,∀q∈y,p<q:=λp G q hq=>by
 rw[iJ ex]at up;refine(Qz.mp up).2.2.2.2.2 p G q<|Wp.mpr {y,?_,hq};refine Q2 (i:=j-(i+1)) ?_;rw[XM];have:i+1+(j-(i+1))=j:=(by omega);rwa[this]
def K5(up:dD ls.flatten)(ex:ls[i]?=some x):dD x:=by
 rw[iJ ex]at up;exact(Qz.mp up).2.1
def Jb(up:dD x)(ne:x≠[]):∃m,x[x.length-1]?=some m/\m∈x/\∀y∈x,y<=m:=by
 have hl:=Xa.mpr ne;have z:x.length-1<x.length:=();refine{x[x.length-1],Q4 z,Xu z,λy hy=>?_};let{j,G,e}:=Zu hy;rcases(show j=x.length-1\/j<x.length-1 by lia)with h|h
 .subst h;rw[e];exact Xs _
 .have:=ZW.mp up j (x.length-1) G z h;rw[e]at this;lia
structure SO(ls:Sv)(E:Nat->Prop):Prop where
 ne:∀l∈ls,l≠[]
 le:∀l∈ls,l.length<=8
 nb:∀(i:Nat)(x y:O'),ls[i]?=some x->ls[i+1]?=some y->E i\/5<=x.length+y.length
 up:dD ls.flatten
def SO.ok(h:SO ls E)(no:∀i,¬E i):QH ls:={h.ne,h.le,λi x y z e2=>(h.nb i x y z e2).resolve_left<|no i,h.up}
noncomputable def qL(ls:Sv)(i:Nat):List (List Int):=match ls[i]?,ls[i+1]? with
 |some x,some y=>if x.length+y.length<5 then(ls.set i<|x++y).eraseIdx (i+1)else ls
 |_,_=>ls
set_option tactic.hygienic true in
def ye(h:ls.length<=i+1):qL ls i=ls:=by
 unfold qL;have:ls[i+1]?=none:=XB.mpr h;rw[this];split
 .rename_i h2;cases h2
 .rfl
def Db(ex:ls[i]?=some x)(z:ls[i+1]?=some y):qL ls i=if x.length+y.length<5 then(ls.set i<|x++y).eraseIdx (i+1)else ls:=by
 unfold qL;rw[ex,z]
def GI:(qL ls i).length<=ls.length/\ls.length<=(qL ls i).length+1:=by
 unfold qL;split
 .split
  .rw[VV,ZD];split<;>lia
  .lia
 .lia
set_option tactic.hygienic true in
def yd{z v:O'}(e:((ls.set i z).eraseIdx<|i+1)[j]?=some v):(j<i/\ls[j]?=some v)\/(j=i/\v=z)\/(i<j/\ls[j+1]?=some v):=by
 rw[List.getElem?_eraseIdx]at e;split at e
 .rename_i c
  rw[Zm]at e;by_cases h:i=j
  .rw[WJ h]at e;split at e
   .cases e;exact .inr<|.inl ⟨h.symm,M⟩
   .cases e
  .rw[WI h]at e;exact .inl {(),e}
 .rename_i c
  rw[Zm,WI ()]at e;exact .inr<|.inr {(),e}
def GH(ex:ls[i]?=some x)(z:ls[i+1]?=some y):((ls.set i<|x++y).eraseIdx<|i+1).flatten=ls.flatten:=by
 have hi:=(Q3.mp ex).1;have lt:(ls.take i).length=i:=by rw[Q7];lia
 have hy:ls.drop (i+1)=y::ls.drop (i+2):=by
  let{h,e}:=Q3.mp z;rw[<-e,<-Xd h]
 have G:(ls.set i<|x++y).eraseIdx (i+1)=ls.take i++(x++y)::ls.drop (i+2):=by
  rw[Bm ex,hy,Wc (),lt];have:i+1-i=1:=();rw[this];rfl
 rw[G,iJ ex,hy,Xp,Xm,Xm,Z9]
def SO.join(h:SO ls E)(I:∀j,E j->j=i\/j+1=i):SO (qL ls i) (λj=>j+1=i/\E j)/\(qL ls i).flatten=ls.flatten:=by
 cases ex:ls[i]? with
 |none=>
  have hl:ls.length<=i:=XB.mp ex;rw[ye ()];refine{{h.ne,h.le,λj x y G e2=>?_,h.up},M};rcases h.nb j x y G e2 with z|z
  .rcases I j z with rfl|w
   .rw[ex]at G;cases G
   .exact .inl ⟨w,z⟩
  .exact .inr z
 |some x=>
  cases O:ls[i+1]? with
  |none=>
   have hl:ls.length<=i+1:=XB.mp O;rw[ye hl];refine{{h.ne,h.le,λj x' y G e2=>?_,h.up},M};rcases h.nb j x' y G e2 with z|z
   .rcases I j z with rfl|w
    .rw[O]at e2;cases e2
    .exact .inl ⟨w,z⟩
   .exact .inr z
  |some y=>
   rw[Db ex O];by_cases c:x.length+y.length<5
   .rw[WJ c];have fl:=GH ex O;have mem:∀v∈(ls.set i<|x++y).eraseIdx (i+1),v=x++y\/v∈ls:=λv Z=>by
     let{j,hj,e}:=Zu Z;rcases yd (Q3.mpr ⟨hj,e⟩)with⟨_,q⟩|⟨_,q⟩|⟨_,q⟩
     .exact .inr<|Q2 q
     .exact .inl q
     .exact .inr<|Q2 q
    have px:=Xa.mpr (h.ne x<|Q2 ex);have a0:(x++y).length=x.length+y.length:=Q8;refine{{λv Z=>?_,λv Z=>?_,λj u v G e2=>?_,by rw[fl];exact h.up},fl}
    .rcases mem v Z with rfl|q
     .exact XC ()
     .exact h.ne v q
    .rcases mem v Z with rfl|q
     .lia
     .exact h.le v q
    .rcases yd G with⟨c1,U⟩|⟨c1,U⟩|⟨c1,U⟩<;>rcases yd e2 with⟨c2,Y⟩|⟨c2,Y⟩|⟨c2,Y⟩<;>(try lia)
     .rcases h.nb j u v U Y with z|z
      .rcases I j z with w|w
       .lia
       .lia
      .exact .inr z
     .rcases h.nb j u x U (by rwa[c2])with z|z
      .exact .inl ⟨c2,z⟩
      .rw[Y];exact .inr ()
     .have e3:ls[i+1+1]?=some v:=by rwa[<-c1]
      rcases h.nb (i+1) y v O e3 with z|z
      .rcases I (i+1) z with w|w<;>lia
      .rw[U];exact .inr ()
     .rcases h.nb (j+1) u v U Y with z|z
      .rcases I (j+1) z with w|w<;>lia
      .exact .inr z
   .rw[WI c];refine{{h.ne,h.le,λj u v G e2=>?_,h.up},M};rcases h.nb j u v G e2 with z|z
    .rcases I j z with w|w
     .subst w;rw[ex]at G;rw[O]at e2;cases G;cases e2;exact .inr ()
     .exact .inl ⟨w,z⟩
    .exact .inr z
def Ep{l:O'}(h:dD l):l.Nodup:=h.imp λh=>Int.ne_of_lt h
def QH.gone(o:QH ls)(ex:ls[i]?=some x)(hk:k∈x):dD (ls.set i<|x.erase k).flatten/\∀z,z∈(ls.set i<|x.erase k).flatten↔z≠k/\z∈ls.flatten:=by
 have up:=o.up;rw[iJ ex]at up;let{U,G,Y,I,Z,O}:=Qz.mp up;have sub:(x.erase k).Sublist x:=List.erase_sublist;have nx:=Ep G;rw[sR ex,iJ ex];refine{Qz.mpr {U,G.sublist sub,Y,λa ha b hb=>I a ha b<|sub.subset hb,Z,λa ha b hb=>O a (sub.subset ha) b hb},λz=>?_};rw[Q6,Q6,Q6,Q6,nx.mem_erase_iff];constructor
 .rintro (h|⟨h1,h2⟩|h)
  .have:=I z h k hk;exact{(),.inl h}
  .exact{h1,.inr<|.inl h2}
  .have:=O k hk z h;exact{(),.inr<|.inr h}
 .rintro ⟨h0,h|h|h⟩
  .exact .inl h
  .exact .inr<|.inl ⟨h0,h⟩
  .exact .inr<|.inr h
def QH.shrunk(o:QH ls)(ex:ls[i]?=some x)(G:y≠[])(U:y.length<=x.length)(up:dD (ls.set i y).flatten):SO (ls.set i y) (λj=>j=i\/j+1=i):=by
 have hx:=o.le x (Q2 ex);refine{λl hl=>?_,λl hl=>?_,λj a b f g=>?_,up}
 .rcases wB ex hl with rfl|hl
  .exact G
  .exact o.ne l hl
 .rcases wB ex hl with rfl|hl
  .lia
  .exact o.le l hl
 .rcases tS ex f with⟨c,_⟩|⟨c,I⟩
  .exact .inl<|.inl c.symm
  .rcases tS ex g with⟨z,_⟩|⟨z,O⟩
   .exact .inl<|.inr z.symm
   .exact .inr<|o.nb j a b I O
def QH.out(o:QH ls)(ex:ls[i]?=some x)(Y:x.length=1)(up:dD (ls.set i []).flatten):QH (ls.eraseIdx i)/\(ls.eraseIdx i).flatten=(ls.set i []).flatten:=by
 have hi:=(Q3.mp ex).1;have lt:(ls.take i).length=i:=by rw[Q7];lia
 have I:ls.eraseIdx i=ls.take i++ls.drop (i+1):=List.eraseIdx_eq_take_drop_succ _ _;have fl:(ls.eraseIdx i).flatten=(ls.set i []).flatten:=by
  rw[I,sR ex,Xp];rfl
 refine{{λl hl=>o.ne l<|Xf hl,λl hl=>o.le l<|Xf hl,λj a b f g=>?_,by rwa[fl]},fl};rcases qe f with⟨O,z⟩|⟨O,z⟩<;>rcases qe g with⟨U,G⟩|⟨U,G⟩
 .exact o.nb j a b z G
 .have e2:j+1=i:=();subst e2;have h1:=o.nb j a x z ex;have h2:=o.nb (j+1) x b ex G;lia
 .lia
 .exact o.nb (j+1) a b z G
def Qt(_K:FA)(t:PL)(H:Hp)(a:G')(F:K')(ks:O'):Prop:=∃L A ls,Qj t H a L A ls/\QH ls/\ls.flatten=ks/\∀b,F b↔Qy a L A b
def Qt.ins(h:Qt K t H a F ks):∃dx fs,H a=some (.ins t.bK dx fs)/\∀m,m≠(gt:Str)->fs.lookup m=none:=by
 let{L,A,ls,hb,_}:=h;let{dx,z}:=hb.obj;exact{dx,_,z,λm G=>MC G}
def Qt.dom(h:Qt K t H a F ks)(hb:F b):∃o,H b=some o:=by
 let{L,A,ls,h1,_,_,h2}:=h;exact h1.dom<|(h2 b).mp hb
def Qt.frame(h:Qt K t H a F ks)(f:∀b,F b->H' b=H b):Qt K t H' a F ks:=by
 let{L,A,ls,h1,z,G,h2}:=h;exact{L,A,ls,h1.frame λb hb=>f b<|(h2 b).mpr hb,z,G,h2}
def Qt.out(h:Qt K t H a F ks)(e:H p=none):¬F p:=λz=>by
 let{o,q}:=h.dom z;rw[q]at e;cases e
def vN(K:FA)(t:PL):Sp:=λvs H Q _=>∃(a dx:G'),vs=[.ref a]/\H a=some (.ins t.bK dx [])/\H dx=some (.own a)/\∀H' F,Qt K t H' a F []->Fr (λb=>b=a\/b=dx) F H H'->Q .non H'
def wV(K:FA)(t:PL):Sp:=λvs H Q _=>∃(a:G')(k:Int)(F:K')(ks:O'),vs=[.ref a,.int k]/\Qt K t H a F ks/\∀H' F',Qt K t H' a F' ks->Fr F F' H H'->Q (.bl<|decide (k∈ks)) H'
def wX(K:FA)(t:PL):Sp:=λvs H Q E=>∃(a:G')(k:Int)(F:K')(ks:O'),vs=[.ref a,.int k]/\Qt K t H a F ks/\ks.length<4096/\
 (k∉ks->∀H' F' ks',Qt K t H' a F' ks'->(∀z,z∈ks'↔z=k\/z∈ks)->Fr F F' H H'->Q .non H')/\(k∈ks->False)
def rC(K:FA)(t:PL):Sp:=λvs H Q E=>∃(a:G')(k:Int)(F:K')(ks:O'),vs=[.ref a,.int k]/\Qt K t H a F ks/\ks.length<4096/\
 (k∈ks->∀H' F' ks',Qt K t H' a F' ks'->(∀z,z∈ks'↔z≠k/\z∈ks)->Fr F F' H H'->Q .non H')/\(k∉ks->False)
def QH.short(o:QH ls):ls.length<=ls.flatten.length:=by
 have h:=o.ne;clear o
 induction ls with
 |nil=>exact Q5 _
 |cons x r z=>
  have:=Xa.mpr (h x Z4);have:=z λl hl=>h l (Z7 _ hl);rw[Xm,Q8,Zh];lia
def rB(K:FA)(t:PL):Sp:=λvs H Q _=>∃(a:G')(k n:Int)(F:K')(ks:O'),vs=[.ref a,.int k,.int n]/\Qt K t H a F ks/\ks.length<4096/\0<=n/\
 ∀(H':Hp)(l:G'),G3 H H'->H l=none->H' l=some (.lst<|((ks.filter λz=>decide (k<=z)).take n.toNat).map V.int)->Q (.ref l) H'
def lH{n:Int}(h:0<=n):qt xs none (some n)=xs.take n.toNat:=by
 unfold qt HT.sIx;simp only[Xj,Nat.sub_zero];rw[WI ()];rcases Nat.le_total n.toNat xs.length with c|c
 .rw[Xn c]
 .rw[Wq c,Zn,Zo c]
def GN(o:QH ls)(h:QT ls k i0):∀z∈(ls.take i0).flatten,¬k<=z:=λz hz=>by
 have:=h.ahead z hz;lia
noncomputable def fv(k:Sz)(z:Int):Bool:=match k with|none=>true|some k=>decide (z<=k)
def vDn:Option Int->V|none=> .non|some k=> .int k
def oh(K:FA)(t:PL):Sp:=λvs H Q _=>∃(a:G')(k:Sz)(n:Int)(F:K')(ks:O'),vs=[.ref a,vDn k,.int n]/\Qt K t H a F ks/\ks.length<4096/\0<=n/\
 ∀(H':Hp)(l:G'),G3 H H'->H l=none->H' l=some (.lst<|((ks.reverse.filter<|fv k).take n.toNat).map V.int)->Q (.ref l) H'
noncomputable def PD.low(s:PD):Int:=match s.nxt with
 |none=>s.size
 |some m=>if m<s.size then m else s.size
def IT{M':Int}(h:M'∈st.rows)(l:∀x∈st.rows,M'<=x):M'=st.low:=by
 unfold PD.rows at h l;unfold PD.low;cases e:st.nxt with
 |none=>rw[e]at h;simpa using h
 |some m=>
  rw[e]at h l;have h:M'=st.size\/M'=m:=by simpa using h
  have l1:=l st.size (by simp);have z:=l m (by simp);show M'=if m<st.size then m else st.size
  split<;>lia
def hZ(z:PY st):st.low∈([4,8,16,32,64,128,256]:O'):=by
 unfold PD.low;cases e:st.nxt with
 |none=>exact z.pw
 |some m=>
  show(if m<st.size then m else st.size)∈_;split
  .exact(z.nx m e).1
  .exact z.pw
def xA{x:Int}(h:x∈([4,8,16,32,64,128,256]:List Int)):∃a b,Row x a b:=by
 rcases oE h with h|h|h|h|h|h|h<;>subst h
 .exact{_,_,rO (k:=0) (_)}
 .exact{_,_,rO (k:=1) (_)}
 .exact{_,_,rO (k:=2) (_)}
 .exact{_,_,rO (k:=3) (_)}
 .exact{_,_,rO (k:=4) (_)}
 .exact{_,_,rO (k:=5) (_)}
 .exact{_,_,rO (k:=6) (_)}
def Bf{S p:Int}{a b:Nat}(R:Row S a b)(G:0<=p)(h1:p<65536):tz (tz p%S)+65536/S=(p/(65536/S)+1)*(65536/S):=by
 have hs:=R.st_has (m:=tz p) (uB p);rw[ET G h1]at hs;have I:=R.slot (s:=tz p%S) (R.mod0 _) (R.mod1 _);have w:=R.width;have z:=R.wpos';rw[I.1,<-w]at hs⊢;have:p/(65536/S)=rz a (tz p%S):=by
  have k0:=Z2 p (ZU z);have k1:=Z0 p z;have k2:=VO p (65536/S);exact R.between z (x:=p/(65536/S)) (y:=rz a<|tz p%S) (p:=p) () () hs.1 hs.2
 rw[this,Int.add_mul,Int.one_mul,We]
def wO(K:FA)(t:PL):Sp:=λvs H Q _=>∃(a:G')(p:Int)(F:K')(st:PD),vs=[.ref a,.int p]/\QW K t H a F st/\0<=p/\p<65536/\
 ∀H' F',QW K t H' a F' st->Fr F F' H H'->Q (.int<|(p/(65536/st.low)+1)*(65536/st.low)) H'
structure Cb(kd:Str)(fs:Sn)(a e:V):Prop where
 ki:fs.lookup ("kind":Str)=some (.str kd)
 at_:fs.lookup (qP:Str)=some a
 end_:fs.lookup (t7:Str)=some e
 wo:fs.lookup ("words":Str)=none
 ho:fs.lookup ("holds":Str)=none
def okS(a e:V):Prop:=∃i j,a= .int i/\e= .int j/\0<=i/\i<=j/\j<=65536
def RD(a e:V):Prop:=∃i,a= .int i/\0<=i/\(e= .non\/∃j,e= .int j/\i<=j)
def RE(a e:V):Prop:=∃j,e= .int j/\0<=j/\(a= .non\/∃i,a= .int i/\j<=i)
def R7(p:G')(H H':Hp):Prop:=∀b o,H b=some o->b≠p->H' b=some o
def Ct:Sp:=λvs H Q _=>∃x,vs=[x]/\Sc x/\Q (.bl<|isW x) H
noncomputable def isF(lo:Int):V->Bool
 | .int i=>decide (lo<=i)|_=>false
def D9:Sp:=λvs H Q _=>∃x lo,vs=[x,.int lo]/\Sc x/\Q (.bl<|isF lo x) H
def iU(K:FA):Sp:=λvs H Q _=>∃(p C dx:G')(kd:Str)(a e:V),vs=[.ref p,.str kd,a,e]/\H p=some (.ins C dx [])/\Qv K C/\Ku K C "kind"/\Ku K C qP/\Ku K C t7/\∀H' fs,R7 p H H'->H' p=some (.ins C dx fs)->Cb kd fs a e->Q .non H'
def EV(C N:G')(kd:Str)(ok:V->V->Prop):Sp:=λvs H Q E=>∃(p dx:G')(a e:V),vs=[.ref p,a,e]/\H p=some (.ins C dx [])/\Sc a/\Sc e/\
 (ok a e->∀H' fs,R7 p H H'->H' p=some (.ins C dx fs)->Cb kd fs a e->Q .non H')/\(¬ok a e->False)
def uH(t:PL):Sp:=EV t.aX t.qi "slots" okS
def Cv(t:PL):Sp:=EV t.eP t.qi "up" RD
def ze(t:PL):Sp:=EV t.cQ t.qi "down" RE
def Qp(kd:Int)(a e:V):Prop:=(kd=0/\okS a e)\/(kd=1/\RD a e)\/(kd=2/\RE a e)
def hS:V->V->Int->Bool
 | .int i,.int j,k=>decide (i<=tz (k%65536))&&decide (tz (k%65536)<j)
 |_,_,_=>false
noncomputable def hU:V->V->Int->Bool
 | .int i,.int j,k=>decide (i<=k)&&decide (k<j)
 | .int i,.non,k=>decide (i<=k)
 |_,_,_=>false
noncomputable def hD:V->V->Int->Bool
 | .int i,.int j,k=>decide (j<=k)&&decide (k<=i)
 | .non,.int j,k=>decide (j<=k)
 |_,_,_=>false
def hN(kd:Int):V->V->Int->Bool:=if kd=0 then hS else if kd=1 then hU else hD
def bdV:V->Prop
 | .int i=>i<10^80|_=>True
def Ea(C:G')(kd:Str)(ok:V->V->Prop)(h:V->V->Int->Bool):Sp:=λvs H Q _=>∃(p dx:G')(fs:Sn)(a e:V)(k:Int),vs=[.ref p,.int k]/\H p=some (.ins C dx fs)/\Cb kd fs a e/\ok a e/\0<=k/\∀H',G3 H H'->Q (.bl<|h a e k) H'
def fB(t:PL):Sp:=Ea t.aX "slots" okS hS
def dP(t:PL):Sp:=Ea t.eP "up" RD hU
def cJ(t:PL):Sp:=Ea t.cQ "down" RE hD
def SQ(t:PL)(kd:Int):Addr:=if kd=0 then t.aX else if kd=1 then t.eP else t.cQ
noncomputable def kdS(kd:Int):Str:=if kd=0 then "slots" else if kd=1 then "up" else "down"
def uM{x:G'}(h1:H x=none)(h2:H dx=none)(k:R7 x (upd (upd H dx<|.own x) x<|.ins C dx []) H'):G3 H H':=λb o q=>by
 refine k b o ?_<|am q h1;rw[af (am q h1),af (am q h2)];exact q
def spHN(t:PL)(kd:Int):Sp:=if kd=0 then fB t else if kd=1 then dP t else cJ t
def QL(t:PL)(H:Hp)(p:G')(kd:Int)(a e:V):Prop:=∃(dx:G')(fs:Sn),H p=some (.ins (SQ t kd) dx fs)/\Cb (kdS kd) fs a e
def QL.same{kd:Int}{a:V}(h:QL t H p kd a e)(s:G3 H H'):QL t H' p kd a e:=by
 let{dx,fs,h1,h2}:=h;exact{dx,fs,s _ _ h1,h2}
def Qp.sc{kd:Int}{a:V}(h:Qp kd a e):Sc a/\Sc e:=by
 rcases h with⟨_,i,j,rfl,rfl,_⟩|⟨_,i,rfl,_,rfl|⟨j,rfl,_⟩⟩|⟨_,j,rfl,_,rfl|⟨i,rfl,_⟩⟩<;>exact⟨Y1,Y1⟩
def Qp.kd{kd:Int}{a:V}(h:Qp kd a e):kd=0\/kd=1\/kd=2:=by
 rcases h with⟨h,_⟩|⟨h,_⟩|⟨h,_⟩
 .exact .inl h
 .exact .inr<|.inl h
 .exact .inr<|.inr h
def Qp.s{a:V}(h:Qp 0 a e):okS a e:=by
 rcases h with⟨_,h⟩|⟨h,_⟩|⟨h,_⟩
 .exact h
 .cases h
 .cases h
def Qp.u{a:V}(h:Qp 1 a e):RD a e:=by
 rcases h with⟨h,_⟩|⟨_,h⟩|⟨h,_⟩
 .cases h
 .exact h
 .cases h
def Qp.d{a:V}(h:Qp 2 a e):RE a e:=by
 rcases h with⟨h,_⟩|⟨h,_⟩|⟨_,h⟩
 .cases h
 .cases h
 .exact h
def dHN{kd:Int}(h:kd=0\/kd=1\/kd=2):DOr (D1 t.aX<|fB t) (DOr (D1 t.eP<|dP t)<|D1 t.cQ<|cJ t) (SQ t kd) (spHN t kd):=by
 rcases h with rfl|rfl|rfl
 .exact .inl ⟨M,M⟩
 .exact .inr<|.inl ⟨M,M⟩
 .exact .inr<|.inr ⟨M,M⟩
def Bk{kd:Int}{a:V}{E:XK}(z:Qp kd a e)(h:H p=some (.ins (SQ t kd) dx fs))(f:Cb (kdS kd) fs a e)(G:0<=k)
  (q:∀H',G3 H H'->Q (.bl<|hN kd a e k) H'):spHN t kd [.ref p,.int k] H Q E:=by
 rcases z.kd with rfl|rfl|rfl
 .exact⟨p,dx,fs,a,e,k,M,h,f,z.s,G,q⟩
 .exact⟨p,dx,fs,a,e,k,M,h,f,z.u,G,q⟩
 .exact⟨p,dx,fs,a,e,k,M,h,f,z.d,G,q⟩
set_option genInjectivity false in
structure Tp where
 p:Addr
 k:Int
 v:V
def Tp.kv(e:Tp):Int×V:=(e.k,e.v)
structure PgA(H H':Hp)(F F':K')(r g:G')(v:V)(ts:List Tp):Prop where
 tu:H' r=some (.tup [.ref g,v])
 li:H' g=some (.lst<|ts.map λe=>V.ref e.p)
 rw:∀e∈ts,H' e.p=some (.tup [.int e.k,e.v])/\¬F' e.p
 nr:(¬F r->H r=none)/\¬F' r
 ng:(¬F g->H g=none)/\¬F' g
section
variable{P:Se}{w:Sf}{mg:Sl}{base:Heap}
variable{K:FA}{t:PL}(T:Txt K mg t)
def F8:Sp:=λvs H Q _=>∃n:Int,vs=[.int n]/\0<=n/\Q (.int<|tz n) H
def D7:Sp:=λvs H Q _=>∃k:Int,vs=[.int k]/\Q (.int<|k%65536) H
def Cs:Sp:=λvs H Q _=>∃k:Int,vs=[.int k]/\Q (.int<|tz<|k%65536) H
def D5:Sp:=λvs H Q _=>∃k n:Int,vs=[.int k,.int n]/\0<n/\Q (.int<|k%65536%n) H
def D6:Sp:=λvs H Q _=>∃p n:Int,vs=[.int p,.int n]/\0<=p/\0<n/\Q (.int<|tz p%n) H
def yR:Sp:=λvs H Q _=>∃s n:Int,vs=[.int s,.int n]/\0<=s/\0<n/\n<1073741824/\∀p,H p=none->Q (.ref p) (upd H p<|.tup [.int (tz s),.int (tz s+65536/n)])
def uU:Ck P w K mg base PP 1 t.Du t.yu ["number"] F8:=by
 let{G,z}:=T.g_BITS;refine T.yJ.okl Ge λs H vs Q E O h _=>?_;intro X;let{n,rfl,U,k}:=h;refine aj (PN 1 ae)
   (aj (PN 2 Ca)
   (aj (d9 WX M (iQ {_} T.lT (ac (dn (v:= .int 16) {_} z {_,M}) ai)) (RB 3)
    (oH (PN 1<|ao bx (ao cT M2 ae)<|ao aQ P8 ae)
    (aA<|PN 2<|ao aP P8 ae)))
   (aB (aD M2) ?_)))
 intros
 have I:((n.toNat/2^0:Nat):Int)=n:=by rw[Nat.pow_zero,Nat.div_one];lia
 refine{_,M,16,M,(_),(_),AD (n:=16) (λi W H'=>∃v,H'=H/\W=[some (.int n),some (.int ((rv i n.toNat:Nat):Int)),some (.int ((n.toNat/2^i:Nat):Int)),v]) ?_ ?_ ?_}
 .refine{none,M,?_};rw[I];rfl
 .rintro i W H' hi ⟨v,rfl,rfl⟩;refine{_,M,_,_,M,M,.inr {(_),(_)},_,M,_,_,M,M,(by show(0:Int)<2;decide),_,_,M,M,_,M,_,_,M,M,{(_),(_)},?_};refine{some<|.int<|0+(i:Int),M,?_};rw[<-FV i n.toNat,<-FW i n.toNat];rfl
 .rintro W H' ⟨v,rfl,rfl⟩;unfold tz at k;exact{_,M,k}
def xG:Ck P w K mg base PP 1 t.AX t.vi [et] D7:=by
 let{G,z}:=T.g_PLACES;refine T.A9.okl Ee λs H vs Q E I h _=>?_;intro X;let{n,rfl,k}:=h;refine{_,(aA<|aD<|ao aQ Ca<|dn (v:= .int 65536) {_} z {_,M})
  ,?_}
 exact{_,M,_,_,M,M,(by show(0:Int)<65536;decide),k}
def vt:Ck P w K mg base PP 2 t.yD t.sf [et] Cs:=by
 refine T.yL.okl Cy λs H vs Q E z h _=>?_;intro X;let{n,rfl,k}:=h;refine{_,(aA<|aD<|aJ (uU T) z.mo {_} T.CZ T.yJ.kp T.Dt .nil az (ac (aJ (xG T) z.mo {_} T.GB T.A9.kp T.GZ .nil az (ac Ca ai)) ai))
  ,?_}
 exact{_,M,_,M,_,M,Z2 _ (_),k}
def xE:Ck P w K mg base PP 2 t.AV t.vg [et,sD] D5:=by
 refine T.vp.okl Ec λs H vs Q E z h _=>?_;intro X;let{n,m,rfl,G,k}:=h;refine{_,(aA<|aD<|ao aQ (aJ (xG T) z.mo {_} T.GB T.A9.kp T.GZ .nil az (ac Ca ai)) M2)
  ,?_}
 exact{_,M,_,M,_,M,_,_,M,M,G,k}
def xF:Ck P w K mg base PP 2 t.AW t.vh [yH,sD] D6:=by
 refine T.A8.okl Ed λs H vs Q E z h _=>?_;intro X;let{n,m,rfl,G,I,k}:=h;refine{_,(aA<|aD<|ao aQ (aJ (uU T) z.mo {_} T.CZ T.yJ.kp T.Dt .nil az (ac Ca ai)) M2)
  ,?_}
 exact{_,M,_,M,G,_,M,_,_,M,M,I,k}
def zC:Ck P w K mg base PP 2 t.ud t.mU ["slot",sD] yR:=by
 let{G,z}:=T.g_PLACES;refine T.Cc.okl zg λs H vs Q E I h _=>?_;intro X;let{n,m,rfl,O,U,h1,k}:=h;refine aj (PN 2<|aJ (uU T) I.mo {_} T.CZ T.yJ.kp T.Dt .nil az (ac Ca ai))
   (aB (aD<|bY<|ac P8<|ac (ao bx P8<|ao aP (dn (v:= .int 65536) {_} z {_,M}) M2) ai) ?_)
 intros
 exact{_,M,_,M,O,_,M,_,M,_,M,_,_,M,M,⟨U,h1⟩,_,_,M,M,(by show 2<=sizeLine;decide),λp Y=>k p Y}
def Gc(h:n<=4096):n<sizeLine:=Vq h (_)
def Bh:Sp:=λvs H Q _=>∃n:Int,vs=[.int n]/\0<=n/\n<=1000/\∀H' r A,G3 H H'->H r=none->(∀b∈A,H b=none)->PQ H' r A (List.replicate n.toNat []) n->Q (.ref r) H'
set_option tactic.hygienic true in
def tF:Ck P w K mg base PP 1 t.vD t.pz [sD] Bh:=by
 refine T.pY.okl Bq λs H vs Q E hr h _=>?_;intro X;let{n,rfl,n0,n1,q}:=h;refine{_,(aA<|aD<|mK M (PM.of (M':=["slot"]) (N:=[sD]) (N':=[sD]) (dsc:=ak jI) M M ∅) (iQ {_} T.lT (ac Ca ai))<|λ_ _ _ _ _=>eO)
  ,?_}
 refine{_,M,n,M,(),(),λD hD=>?_};refine sk (n:=n.toNat) (lo:=0) (λi ys H3=>G3 H H3/\∃as:List Addr,ys=as.map V.ref/\as.length=i/\(∀b∈as,H b=none/\b≠D/\H3 b=some (.dK []))/\∀(x y:Nat)(b:G'),as[x]?=some b->as[y]?=some b->x=y)
  {al hD,[],M,M,(λb hb=>by cases hb),λx y b e=>by simp at e} (λi ys H3 hi Z G=>?_) (λys H3 Z G=>?_)
 .let{s3,as,Y,el,hb,inj}:=Z;intro c O;have cD:c≠D:=(am G O).symm;have I:c∉as:=λz=>by
   have:=(hb c z).2.2;rw[O]at this;cases this
  have nH:H c=none:=by
   cases e:H c with
   |none=>rfl
   |some o=>rw[s3 c o e]at O;cases O
  refine QF.mk hi (by rwa[af cD.symm]) (by rw[Y,Q1];exact cv ()) {b6 (s3.trans<|al O) hD,as++ [c],by rw[Y,Z6];rfl,by rw[Q8,el];rfl,λb a0=>?_,λx y b e1 e2=>?_}
  .rcases Q6.mp a0 with z|z
   .let{h1,h2,h3}:=hb b z;exact{h1,h2,by rwa[af h2,af (λw=>I<|by rw[<-w];exact z)]}
   .rw[Q9.mp z];exact{nH,cD,by rw[af cD,ag]}
  .have U:∀x:Nat,(as++ [c])[x]?=some b->as[x]?=some b\/(x=as.length/\b=c):=λx e=>by
    rw[VU]at e;split at e
    .exact .inl e
    .rename_i w
     have:x-as.length=0:=by
      rcases V3 (x-as.length)with z|z
      .exact z
      .rw[XS (by simp;lia)]at e;cases e
     rw[this]at e;cases e;exact .inr {(),M}
   rcases U x e1 with f1|⟨f1,g1⟩<;>rcases U y e2 with f2|⟨f2,g2⟩
   .exact inj x y b f1 f2
   .subst g2;exact WN (Q2 f1) I
   .subst g1;exact WN (Q2 f2) I
   .lia
 .let{s3,as,Y,el,hb,inj}:=Z;refine q H3 D as s3 hD (λb z=>(hb b z).1) {by rw[G,Y],by rw[el];lia,by rw[Xz];lia,λj b kv e1 e2=>?_,λj kv e=>?_,inj,λj kv e p hp=>?_}
  .rw[XE (Q2 e2)];exact(hb b<|Q2 e1).2.2
  .rw[XE (Q2 e)];exact ZY
  .rw[XE (Q2 e)]at hp;cases hp
def sJ(t:PL):Sp:=λvs H Q _=>∃(a:G')(k:Int)(st:PD)(d:RJ),vs=[.ref a,.int k]/\QN t H a st d/\PY st/\∀c kv,IsCell d st k c kv->Q (.ref c) H
def qk(t:PL):Sp:=λvs H Q _=>∃(a:G')(st:PD)(d:RJ),vs=[.ref a]/\QN t H a st d/\PY st/\st.kv.length<4096/\∀H' d',QN t H' a st.one d'->d'.n=d.n->Fr (Ql a st d) (Ql a st.one d') H H'->Q .non H'
def ql(t:PL):Sp:=λvs H Q _=>∃(a:G')(st:PD)(d:RJ),vs=[.ref a]/\QN t H a st d/\PY st/\d.n=(st.kv.length:Int)/\∀H' d',QN t H' a st.three d'->d'.n=d.n->Fr (Ql a st d) (Ql a st.three d') H H'->Q .non H'
def x9{z:Int}(G:0<=z)(e:A[z.toNat]?=some c):RM (A.map V.ref) z=some (.ref c):=by
 let{j,rfl}:=X9 G;refine qj ?_;rw[Zf];have e:A[j]?=some c:=e;rw[e];rfl
def dt:Ck P w K mg base PP 3 t.lN t.gE [cC,et] (sJ t):=by
 refine T.G5.okl sS λs H vs Q E Y h _=>?_;intro X;let{a,k,st,d,rfl,hb,z,q}:=h;refine aj (PN 2<|aS aU (ar Ca M) ae<|λ_ _=>M)
   (aj (PN 3<|aJ (xE T) Y.mo {_} T.Ax T.vp.kp T.AT .nil az (ac M2<|ac (aI aE {_} T.bT bi (ac P8 ai)) ai))
   (aj (aO (ay Am PR (ar Ca M)<|au _)
    (aA<|aD<|aS aU P8 PR<|λ_ _=>M)
    aF)
   (aj (PN 4<|aS aU (ar Ca M) ae<|λ_ _=>M)
   (aB (aD<|aS aU QI (aJ (xE T) Y.mo {_} T.Ax T.vp.kp T.AT .nil az (ac M2<|ac (aI aE {_} T.bT bi (ac QI ai)) ai))<|λ_ _=>M) ?_))))
 intros
 let{dx,I}:=hb.obj;let{s4,s5}:=b7 z.pw;let{O,Z,m2}:=u9 (k:=k) s4;have t0:∃xs,H d.tb=some (.lst xs)/\RM xs 0=some (.ref d.r0):=by
  refine{_,hb.tbl,?_};cases st.nxt<;>rfl
 let{xs,hx,x0}:=t0;have a0:∀{Q':VK},Q' (.ref d.tb) H->tFld K (M3 0) u5 [some (.ref a),some (.int k),none,none,none] H Q':=λ{Q'} q=>{_,M,a,_,dx,_,_,M,I,T.aL,T.aW,jH,q};have la:((d.A0.map V.ref).length:Int)=st.size:=by rw[Q1];exact hb.row0.la
 refine{_,M,a,_,dx,_,_,M,I,T.aL,T.aW,jH,d.tb,_,_,_,M,M,Kv.of hx,x0,?_};refine{_,M,_,M,d.r0,_,M,.inl<|Kv.of hb.row0.lst,k,_,M,by rw[la];lia,?_};dsimp only;rw[la];refine{_,M,_,M,a,_,dx,_,_,M,I,T.aL,T.b9,Cw,_,_,M,M,_,M,bL (λc=>?_)<|λc=>?_}
 .have c:=WP c;let{x,G}:=eB (l:=d.A0) O (by rwa[hb.row0.la]);let{y,e2}:=eB (l:=d.C0) O (by rwa[hb.row0.lc]);exact{_,M,_,M,d.r0,_,_,_,M,M,Kv.of hb.row0.lst,x9 O G,q x y<|.inl ⟨c,G,e2⟩}
 .have c:¬st.moved<=k%65536%st.size:=λz=>c (WR z);cases e:st.nxt with
  |none=>rw[PD.moved_none e]at c;exact WN O c
  |some m=>
   have hm:=PD.moved_some e;let{pm,_}:=z.nx m e;let{s6,_}:=b7 pm;let{U,n1,n2}:=u9 (k:=k) s6;have r1:=hb.row1;rw[e]at r1;have ht:=hb.tbl;rw[e]at ht;have lb:((d.A1.map V.ref).length:Int)=m:=by rw[Q1];exact r1.la
   let{x,G}:=eB (l:=d.A1) U (by rwa[r1.la]);let{y,e2}:=eB (l:=d.C1) U (by rwa[r1.lc]);refine{_,M,a,_,dx,_,_,M,I,T.aL,T.aW,jH,d.tb,_,_,_,M,M,Kv.of ht,M,?_};refine{_,M,_,M,_,M,d.r1,_,M,.inl<|Kv.of r1.lst,k,_,M,by rw[lb];lia,?_};dsimp only;rw[lb];exact{d.r1,_,_,_,M,M,Kv.of r1.lst,x9 U G,q x y<|.inr {m,e,(),G,e2}}
def bh(h:n<=100000):n<sizeLine:=Vq h (_)
def NR{z:Int}(G:0<=z)(h1:z<n):RW n z=some z.toNat:=by unfold RW;rw[WJ G,WJ h1]
def qc{kv:R'}{k:Key}(e:(aC kv)[i]?=some (k,v)):∃n:Int,k=Sum.inl n/\kv[i]?=some (n,v):=by
 unfold aC at e;rw[Zf]at e;cases q:kv[i]? with
 |none=>rw[q]at e;cases e
 |some p=>rw[q]at e;cases e;exact⟨p.1,M,M⟩
def HF{kv:R'}{C:List (List<|Int×V)}{p:Int×V}(e:kv[i]?=some p):(kv.take<|i+1).foldl (hX m) C=hX m ((kv.take i).foldl (hX m) C) p:=by
 rw[Zg,e,Vc];rfl
def iw:Ck P w K mg base PP 3 t.jC t.fc [cC] (qk t):=by
 refine T.EN.okl qo λs H vs Q E hr h _=>?_;intro X;let{a,st,d,rfl,hb,z,hl,q}:=h;refine aj (aO (ay bJ (aI aE {_} T.bT bi (ac (ar Ca M) ai)) ae<|au _)
    (aA p7)
    aF)
   (aj (PN 1<|aS aU (ar Ca M) ae<|λ_ _=>M)
   (aj (PN 2<|aS aU (ar Ca M) ae<|λ_ _=>M)
   (bU (λx=>(tq (d9 WX M (CF<|xD Zy VD PySem.F.type_dict_items CP<|aS aU M2 (ar Ca M)<|λ_ _=>M) (El M<|je (RB 3)<|je (RB 4) Bx)
    x))) ?_)))
 refine aB (jK (iz hr) (aS aU P8 (aJ (xE T) hr.mo {_} T.Ax T.vp.kp T.AT .nil az (ac PR<|ac (aI aE {_} T.bT bi (ac P8 ai)) ai))<|λ_ _=>M) PR QI M) ?_
 intros
 refine aj (xB eO<|By M2 (ar Ca M) sQ)
   (aj (iP Ca ae yg)
   (aB (aO (ay bJ (ar Ca M) (aI aE {_} T.bT bi (ac M2 ai))<|au _)
    (oH (bp Ca (cu<|ac P8 ai) M)
    (aA<|bp Ca ae M))
    aF) ?_))
 intros
 let{dx,ho}:=hb.obj;have ht:=hb.tbl;cases e:st.nxt with
 |none=>
  rw[e]at ht;refine{_,M,a,_,dx,_,_,M,ho,T.aL,T.aW,jH,d.tb,_,M,.inl<|Kv.of ht,M,_,M,dU M ?_};have e1:st.one=st:=by unfold PD.one;rw[e]
  rw[e1]at q;exact q H d hb M Fr.refl
 |some m=>
  rw[e]at ht;refine{_,M,a,_,dx,_,_,M,ho,T.aL,T.aW,jH,d.tb,_,M,.inl<|Kv.of ht,M,_,M,a6 (λz=>by cases z) ?_};refine{_,M,a,_,dx,_,_,M,ho,T.aL,T.aW,jH,d.tb,_,_,_,M,M,Kv.of ht,M,?_};refine{_,M,a,_,dx,_,_,M,ho,T.aL,T.aW,jH,d.tb,_,_,_,M,M,Kv.of ht,M,?_};let{pm,v0,v1,_}:=z.nx m e;let{s4,s5}:=b7 z.pw;let{s6,s7}:=b7 pm;have hm:=PD.moved_some e;rw[hm]at ho;have r1:=hb.row1;rw[e]at r1;let{c0,ec}:=eB (l:=d.A0) v0 (by rwa[hb.row0.la]);let{kv,ek}:=eB (l:=d.C0) v0 (by rwa[hb.row0.lc]);have I:=hb.row0.cell _ _ _ ec ek;have lb:((d.A1.map V.ref).length:Int)=m:=by rw[Q1];exact r1.la
  have a5:c0∉d.A1:=hb.dis c0 (Q2 ec);have an:d.r1≠c0:=cX r1.lst I (by intro z;cases z);have bd:=hb.short0 z ek;have a9:∀b,b=d.r1\/b∈d.A1->∃o,H b=some o:=λb hb1=>by
   rcases hb1 with rfl|hb1
   .exact{_,r1.lst}
   .let{_,_,_,_,w}:=r1.has hb1;exact{_,w}
  refine{c0,aC kv,I,_,M,_,M,a,_,dx,_,_,M,ho,T.aL,T.b9,Cw,d.r0,_,_,_,M,M,Kv.of hb.row0.lst,x9 v0 ec,.inr<|.inr<|.inl {M,.inl {_,I}},c0,aC kv,M,M,I,λvw nv=>?_};have b2:upd H vw (SG vw c0) c0=some (.dK<|aC kv):=by rw[af (am I nv)];exact I
  refine{vw,c0,aC kv,M,ag,b2,λob=>?_};refine yk (λi W H'=>∃v3 v4,W=[some (.ref a),some (.ref d.r0),some (.ref d.r1),v3,v4]/\PQ H' d.r1 d.A1 ((kv.take i).foldl (hX m) d.C1) m/\H' c0=some (.frz ob<|.dK<|aC kv)/\∀b o,b∉d.A1->b≠c0->H b=some o->H' b=some o)
   {_,_,M,?_,ag,λb o _ n2 e=>?_} (λi W H' _ zz=>by let{_,_,_,_,hf,_}:=zz;exact hf) (λi k v p W H' ei zw np=>?_) (λW H' zw=>?_)
  .refine PQ.frame (H:=H) r1 λb hb1=>?_;let{o,w}:=a9 b hb1;have n2:b≠c0:=by
    rcases hb1 with rfl|hb1
    .exact an
    .exact λz=>a5 (z▸hb1)
   rw[af n2,af (am w nv)]
  .rwa[af n2,af (am e nv)]
  .let{v3,v4,aa,hr,hf,hk}:=zw;subst aa;let{n,rfl,en}:=qc ei;have a0:PQ (upd H' p<|.tup [kV (Sum.inl n),v]) d.r1 d.A1 ((kv.take i).foldl (hX m) d.C1) m:=hr.frame λb hb1=>af λw=>by
    have:∃o,H' b=some o:=by
     rcases hb1 with rfl|hb1
     .exact{_,hr.lst}
     .let{_,_,_,_,w}:=hr.has hb1;exact{_,w}
    let{o,q}:=this;rw[w,np]at q;cases q
   let{n0,n1,n2}:=u9 (k:=n) s6;let{c,e1}:=eB (l:=d.A1) n0 (by rwa[a0.la]);let{y,e2}:=eB (l:=(kv.take i).foldl (hX m) d.C1) n0 (by rwa[a0.lc]);let{y0,e3}:=eB (l:=d.C1) n0 (by rwa[r1.lc]);have yl:=CQ e3 e2;have be:=hb.short1 z e e3;have tl:(kv.take i).length<=kv.length:=by rw[Q7];lia
   have hc:=a0.cell _ _ _ e1 e2;have cA:c∈d.A1:=Q2 e1;refine{p,_,M,QO.of ag,M,_,_,M,_,_,M,M,?_};refine{_,M,_,M,_,M,_,M,d.r1,_,M,.inl<|Kv.of a0.lst,n,_,M,by rw[lb];lia,?_};dsimp only;rw[lb];refine{d.r1,_,_,_,M,M,Kv.of a0.lst,x9 n0 e1,_,M,c,_,M,Qs.k (k:=Sum.inl n) hc (by rw[a8];exact bh ()),?_};rw[cw];have pn:∀b o,H' b=some o->b≠p:=λb o q=>am q np;refine{_,_,M,?_,?_,λb o nA nc q=>?_}
   .rw[HF en];exact a0.mov s6 e1 e2
   .rwa[af (λw=>a5<|by rw[w];exact cA),af (pn _ _ hf)]
   .have q:=hk b o nA nc q;rw[af (λw=>nA<|by rw[w];exact cA),af (pn _ _ q)];exact q
  .let{v3,v4,aa,hr,hf,hk}:=zw;subst aa;rw[a8,Zn]at hr;refine{ob,hf,λb' O=>?_};have hF:∀b,¬Ql a st d b->b∉d.A1/\b≠c0/\b≠a/\b≠d.r0/\b≠d.tb/\b≠d.r1:=λb n=>
    {λq=>n<|.inr<|.inr<|.inr<|.inr<|.inr q,λq=>n<|.inr<|.inr<|.inr<|.inl<|q▸Q2 ec,λq=>n<|.inl q,λq=>n<|.inr<|.inr<|.inl q,λq=>n<|.inr<|.inl q,λq=>n<|.inr (.inr<|.inr<|.inr<|.inl {by rw[e];rfl,q})}
   have a2:∀b o,H b=some o->(∀kvs,o≠ .dK kvs)->b∉d.A1:=λb o q ne w=>(r1.notr w q ne) M;have K1:∀b o,b∉d.A1->b≠c0->H b=some o->upd H' c0 (.dK<|aC kv) b=some o:=λb o n1 n2 q=>by rw[af n2];exact hk b o n1 n2 q
   have a1:PQ (upd H' c0<|.dK<|aC kv) d.r1 d.A1 (kv.foldl (hX m) d.C1) m:=hr.frame λb hb1=>af (by
    rcases hb1 with rfl|hb1
    .exact an
    .exact λw=>a5<|w▸hb1)
   have aw:upd H' c0 (.dK<|aC kv) c0=some (.dK<|aC kv):=ag;generalize upd H' c0 (.dK<|aC kv)=H3 at O K1 a1 aw⊢;have U:=K1 a _ (a2 _ _ ho<|λ_ w=>by cases w) (cX ho I<|by intro w;cases w) ho;have a3:=hb.row0.lst;have G:=K1 d.r0 _ (a2 _ _ a3<|λ_ w=>by cases w) (cX a3 I<|by intro w;cases w) a3;have ah:=K1 d.tb _ (a2 _ _ ht<|λ_ w=>by cases w) (cX ht I<|by intro w;cases w) ht;have b3:¬Ql a st d b':=λw=>by
    rcases w with w|w|w|w|⟨_,w⟩|w
    .rw[w,U]at O;cases O
    .rw[w,ah]at O;cases O
    .rw[w,G]at O;cases O
    .let{j,b4,f1,f2,f3}:=hb.row0.has w;by_cases y:b'=c0
     .rw[y,aw]at O;cases O
     .rw[K1 b' _ (hb.dis b' w) y f3]at O;cases O
    .rw[w,a1.lst]at O;cases O
    .let{_,_,_,_,w'}:=a1.has w;rw[w']at O;cases O
   have lA:((d.A0.map V.ref).length:Int)=st.size:=by rw[Q1];exact hb.row0.la
   have bo:∀{x:G'}{o:HO},H3 x=some o->x≠b':=λq=>am q O;refine{_,M,_,M,a,_,dx,_,_,M,(by rwa[af (bo U)]),T.aL,T.b9,Cw,d.r0,_,_,_,M,M,(by rwa[af (bo G)]),NR v0 (by rwa[lA]),?_};have g0:H3 d.r1=some (.lst<|d.A1.map V.ref):=a1.lst;have ra:d.r0≠a:=cX a3 ho (by intro w;cases w);have b5:d.r0≠d.r1:=(hb.tr1<|by rw[e];rfl).2;have t1:d.tb≠d.r1:=(hb.tr1<|by rw[e];rfl).1;have ta:d.tb≠a:=cX ht ho (by intro w;cases w);have ax:d.r1≠a:=cX r1.lst ho (by intro w;cases w);have Z:∀b∈d.A1,b≠b'/\b≠d.r0/\b≠a:=λb w=>by
    let{_,_,_,_,f}:=a1.has w;exact{bo f,cX f G (by intro w;cases w),cX f U<|by intro w;cases w}
   have es:(d.A0.map V.ref).set st.mv.toNat (V.ref b')=(d.A0.set st.mv.toNat b').map V.ref:=by rw[VI]
   rw[es];have b1:upd (upd H3 b'<|.dK []) d.r0 (.lst<|(d.A0.set st.mv.toNat b').map V.ref) a=some (.ins t.aZ dx<|Qn d.tb st.mv d.n):=by rwa[af ra.symm,af (bo U)]
   refine{_,M,a,_,dx,_,_,M,b1,T.aL,T.b9,Cw,_,_,M,M,dx,_,b1,sO,?_};rw[Mv];have a4:∀{o:HO},upd (upd (upd H3 b'<|.dK []) d.r0<|.lst<|(d.A0.set st.mv.toNat b').map V.ref) a o d.r0=some (.lst<|(d.A0.set st.mv.toNat b').map V.ref):=by
    intro o;rw[af ra,ag]
   have lS:(((d.A0.set st.mv.toNat b').map V.ref).length:Int)=st.size:=by rw[Q1,ZD];exact hb.row0.la
   refine{_,M,a,_,dx,_,_,M,ag,T.aL,T.b9,Cw,_,M,d.r0,_,M,.inl<|Kv.of a4,M,_,M,?_};rw[lS];have Y:∀{o:HO},PQ (upd (upd (upd H3 b'<|.dK []) d.r0<|.lst<|(d.A0.set st.mv.toNat b').map V.ref) a o) d.r1 d.A1 (kv.foldl (hX m) d.C1) m:=λ{o}=>a1.frame λb hb1=>by
    have:b≠b'/\b≠d.r0/\b≠a:=by
     rcases hb1 with rfl|hb1
     .exact{bo g0,b5.symm,ax}
     .exact Z b hb1
    rw[af this.2.2,af this.2.1,af this.1]
   have K6:∀{o':HO}(b:G')(o:HO),¬Ql a st d b->H b=some o->upd (upd (upd H3 b'<|.dK []) d.r0<|.lst<|(d.A0.set st.mv.toNat b').map V.ref) a o' b=some o:=λ{o'} b o n q=>by
    let{f1,f2,f3,f4,_}:=hF b n;have q3:=K1 b o f1 f2 q;rwa[af f3,af f4,af (bo q3)]
   refine bL (λc=>?_)<|λc=>?_
   .have c:st.mv+1=st.size:=V.int.inj (WP c);refine{_,M,(by show 1<=sizeLine;decide),λtb' nt=>{_,M,a,_,dx,_,M,(by rw[af (am ag nt)];exact ag),T.aL,T.aW,sO,?_}};rw[OX];refine{_,M,a,_,dx,_,M,ag,T.aL,T.b9,sO,?_};rw[Mv,cR];have ba:tb'≠a:=(am ag nt).symm;have bb:tb'≠d.r1:=(am (Y (o:= .ins t.aZ dx<|Qn d.tb (st.mv+1) d.n)).lst nt).symm;refine q _ _ (hb.last z e ek (tb':=tb') (dx:=dx) c ag (by rw[af ba];exact ag) bb ?_) M<|λb o n w=>?_
    .refine(Y (o:= .ins t.aZ dx<|Qn d.tb (st.mv+1) d.n)).frame λb hb1=>?_;have:b≠a:=by
      rcases hb1 with rfl|hb1
      .exact ax
      .exact(Z b hb1).2.2
     rw[af this,af (λw=>?_)];obtain⟨o,f⟩:∃o,upd (upd (upd H3 b'<|.dK []) d.r0<|.lst<|(d.A0.set st.mv.toNat b').map V.ref) a (.ins t.aZ dx<|Qn d.tb (st.mv+1) d.n) b=some o:=by
      rcases hb1 with rfl|hb1
      .exact{_,Y.lst}
      .let{_,_,_,_,f}:=Y.has hb1;exact{_,f}
     rw[w,nt]at f;cases f
    .let{f1,f2,f3,f4,f5,f6}:=hF b n;have k6:=K6 (o':= .ins t.aZ dx<|Qn d.tb (st.mv+1) d.n) b o n w;have bt:b≠tb':=am k6 nt;refine{by rwa[af f3,af bt],λy=>?_};rcases y with y|y|y|y|⟨_,y⟩|y
     .exact f3 y
     .exact bt y
     .exact f6 y
     .exact f1 y
     .exact f6 y
     .cases y
   .have c:st.mv+1≠st.size:=λw=>c (WR<|by rw[w]);refine q _ _ (hb.one z e ek (b':=b') (dx:=dx) c ag (by rw[af ta,af hb.tr,af (bo ah),ah,hb.tbl,e]) a4 ?_ b3 (λj b f1 f2=>?_) Y) M<|λb o n w=>{K6 b o n w,λy=>?_}
    .have n1:b'≠a:=(bo U).symm;have n2:b'≠d.r0:=(bo G).symm;rw[af n1,af n2];exact ag
    .have bA:=Q2 f1;let{_,b4,_,_,f}:=hb.row0.has bA;have nc:b≠c0:=λw=>f2 (hb.row0.inj j _ c0 (w▸f1) ec);have f3:=K1 b _ (hb.dis b bA) nc f;rw[af (cX f3 U<|by intro w;cases w),af (cX f3 G<|by intro w;cases w),af (bo f3),f3,f]
    .let{f1,f2,f3,f4,f5,f6}:=hF b n;rcases y with y|y|y|y|⟨_,y⟩|y
     .exact f3 y
     .exact f5 y
     .exact f4 y
     .let{j,hj,ej}:=Zu (show b∈d.A0.set st.mv.toNat b' from y);rcases eQ (Q3.mpr ⟨hj,ej⟩)with⟨_,g⟩|⟨_,g⟩
      .have:=K1 b o f1 f2 w;rw[g,O]at this;cases this
      .exact n<|.inr (.inr<|.inr<|.inl<|Q2 g)
     .exact f6 y
     .exact f1 y
def iy:Ck P w K mg base PP 2 t.jD t.fe [cC] (ql t):=by
 let{U,G}:=T.g_GREATEST_SIZE;let{Z,I}:=T.g_LEAST_SIZE;refine T.EO.okl qp λs H vs Q E hr h _=>?_;intro X;let{a,st,d,rfl,hb,z,hn,q}:=h;refine aj (aO (ay bJ (aI aE {_} T.bT bi (ac (ar Ca M) ai)) ae<|au _)
    (aA p7)
    aF)
   (aj (PN 1<|aI aE {_} T.bT bi (ac (aS aU (ar Ca M) ae<|λ_ _=>M) ai))
   (E8 (λx y=>aO (PW.pt<|eV (ay Al (ar Ca M) M2<|au _)<|dh<|ay dW M2 (dn (v:= .int 256) {_} G {_,M})<|au _) x y) ?_))
 refine aB (aM<|dH Zi ZQ ZR dS (ar Ca M)<|ac (aJ (tF T) hr.mo {_} T.vz T.pY.kp T.vB .nil az (ac (ao cT M2 ae) ai)) ai) ?_
 intros
 refine lu (λx=>aO (PW.pt<|eV (ay dW (ao cT ae<|ar Ca M) M2<|au _)<|dh<|ay Al M2 (dn (v:= .int 4) {_} I {_,M})<|au _) x aF) ?_;refine aB (aM<|dH Zi ZQ ZR dS (ar Ca M)<|ac (aJ (tF T) hr.mo {_} T.vz T.pY.kp T.vB .nil az (ac (ao aP M2 ae) ai)) ai) ?_
 intros
 let{dx,O}:=hb.obj;have Y:=hb.tbl;cases e:st.nxt with
 |some m=>
  rw[e]at Y;refine{_,M,a,_,dx,_,_,M,O,T.aL,T.aW,jH,d.tb,_,M,.inl<|Kv.of Y,M,_,M,dU M ?_};have e1:st.three=st:=by unfold PD.three;rw[e]
  rw[e1]at q;exact q H d hb M Fr.refl
 |none=>
  rw[e]at Y;refine{_,M,a,_,dx,_,_,M,O,T.aL,T.aW,jH,d.tb,_,M,.inl<|Kv.of Y,M,_,M,a6 (λz=>by cases z) ?_};have la:((d.A0.map V.ref).length:Int)=st.size:=by rw[Q1];exact hb.row0.la
  let{a4,a5}:=b7 z.pw;refine{_,M,a,_,dx,_,_,M,O,T.aL,T.aW,jH,d.tb,_,_,_,M,M,Kv.of Y,M,d.r0,_,M,.inl<|Kv.of hb.row0.lst,?_};dsimp only;rw[la];have fin:∀{m:Int}{H':Hp}{r:G'}{A:Si},st.three={st with nxt:=some m,mv:=0}->G3 H H'->H r=none->(∀b∈A,H b=none)->PQ H' r A (List.replicate m.toNat []) m->H' d.tb=some (.lst [.ref d.r0])/\Q .non (upd H' d.tb<|.lst<|[.ref d.r0]++ [.ref r]):=λ{m H' r A} e3 s nr nA hr=>by
   have a1:=s _ _ Y;have a0:∀b,Ql a st d b->∃o,H b=some o:=λb w=>hb.dom w;have a2:¬Ql a st d r:=λw=>by let{o,q}:=a0 r w;rw[nr]at q;cases q
   have a3:∀b∈A,¬Ql a st d b:=λb hA w=>by let{o,q}:=a0 b w;rw[nA b hA]at q;cases q
   refine{a1,?_};have sb:=hb.begin (H':=upd H' d.tb<|.lst [.ref d.r0,.ref r]) e (m:=m) (r:=r) (A:=A) (by rw[af (cX O Y<|by intro w;cases w),s _ _ O,O]) ag (λb hb1=>?_) (hr.frame λb hb1=>af ?_) a2 a3
   .rw[<-e3]at sb;refine q _ _ sb M λb o n w=>{?_,λy=>?_}
    .rw[af (λv=>n<|.inr<|.inl v)];exact s _ _ w
    .rw[e3]at y;rcases y with y|y|y|y|⟨_,y⟩|y
     .exact n<|.inl y
     .exact n<|.inr (.inl y)
     .exact n<|.inr (.inr<|.inl y)
     .exact n<|.inr (.inr<|.inr<|.inl y)
     .have y:b=r:=y;rw[y,nr]at w;cases w
     .rw[nA b y]at w;cases w
   .let{o,q}:=a0 b (by
     rcases hb1 with w|w
     .exact .inr<|.inr (.inl w)
     .exact .inr<|.inr<|.inr<|.inl w)
    have:b≠d.tb:=by
     rcases hb1 with w|w
     .rw[w];exact hb.tr.symm
     .exact hb.row0.notr w Y<|λ_ z=>by cases z
    rw[af this,s _ _ q,q]
   .rcases hb1 with w|w
    .rw[w];exact λv=>by rw[v,Y]at nr;cases nr
    .exact λv=>by have:=nA b w;rw[v,Y]at this;cases this
  by_cases cA:st.size<d.n/\st.size<256
  .have e3:st.three={st with nxt:=some (2*st.size),mv:=0}:=by
    unfold PD.three;rw[e];exact WJ<|by rwa[<-hn]
   refine{_,M,a,_,dx,_,_,M,O,T.aL,T.bR,sP,_,M,_,_,M,M,_,M,nY cA.1 {_,M,_,_,M,M,_,M,nY cA.2 ?_}};refine{_,M,a,_,dx,_,_,M,O,T.aL,T.aW,jH,.inl {M,_,Kv.of Y},_,M,_,_,M,M,.inr {(_),(_)},_,M,(),(),λH' r A s nr nA hr=>?_};let{f1,f2}:=fin (m:=st.size*2) (by rw[e3,We]) s nr nA hr;exact{d.tb,_,_,M,M,f1,cv (by show 1<=1000;decide),f2}
  .by_cases cB:4*d.n<st.size/\4<st.size
   .have e3:st.three={st with nxt:=some (st.size/2),mv:=0}:=by
     unfold PD.three;rw[e];exact(WI<|by rwa[<-hn]).trans<|WJ (by rwa[<-hn])
    have c1:¬st.size<d.n:=();refine{_,M,a,_,dx,_,_,M,O,T.aL,T.bR,sP,_,M,_,_,M,M,_,M,a6 c1 ?_};refine{_,M,a,_,dx,_,_,M,O,T.aL,T.bR,sP,_,_,M,M,.inl {(_),(_)},_,M,_,_,M,M,_,M,nY cB.1 {_,M,_,_,M,M,_,M,nY cB.2 ?_}};refine{_,M,a,_,dx,_,_,M,O,T.aL,T.aW,jH,.inl {M,_,Kv.of Y},_,M,_,_,M,M,{(_),(_)},_,M,(),(),λH' r A s nr nA hr=>?_};let{f1,f2}:=fin (m:=st.size/2) e3 s nr nA hr;exact{d.tb,_,_,M,M,f1,cv (by show 1<=1000;decide),f2}
   .have e3:st.three=st:=by
     unfold PD.three;rw[e];exact(WI<|by rwa[<-hn]).trans<|WI (by rwa[<-hn])
    rw[e3]at q;have q0:=q H d hb M Fr.refl;by_cases c1:st.size<d.n
    .have c2:¬st.size<256:=λw=>cA ⟨c1,w⟩;have c3:¬4*d.n<st.size:=();refine{_,M,a,_,dx,_,_,M,O,T.aL,T.bR,sP,_,M,_,_,M,M,_,M,nY c1 {_,M,_,_,M,M,_,M,a6 c2 ?_}};exact{_,M,a,_,dx,_,_,M,O,T.aL,T.bR,sP,_,_,M,M,.inl {(_),(_)},_,M,_,_,M,M,_,M,a6 c3 q0}
    .refine{_,M,a,_,dx,_,_,M,O,T.aL,T.bR,sP,_,M,_,_,M,M,_,M,a6 c1 ?_};refine{_,M,a,_,dx,_,_,M,O,T.aL,T.bR,sP,_,_,M,M,.inl {(_),(_)},_,M,_,_,M,M,_,M,?_};by_cases c3:4*d.n<st.size
     .exact nY c3 {_,M,_,_,M,M,_,M,a6 (λw=>cB ⟨c3,w⟩) q0}
     .exact a6 c3 q0
section
variable{d:RJ}
def QN.put(h:QN t H a st d)(z:PY st){kv:R'}(G:IsCell d st k c kv)(v:V):
  ∃d',QN t (upd H c<|.dK<|aC<|bu kv k v) a {st with kv:=bu st.kv k v} d'/\d'.n=d.n/\∀b,Ql a {st with kv:=bu st.kv k v} d' b↔Ql a st d b:=
 h.setCell z G (xS (h.at G).2.2) (λ_ O=>xY O) (by rw[eI,eI,WJ M,WJ M]) λj I=>{by rw[eI,WI I],by rw[eI,WI I]}
def QN.drop(h:QN t H a st d)(z:PY st){kv:R'}(G:IsCell d st k c kv):
  ∃d',QN t (upd H c<|.dK<|aC<|bQ kv k) a {st with kv:=bQ st.kv k} d'/\d'.n=d.n/\∀b,Ql a {st with kv:=bQ st.kv k} d' b↔Ql a st d b:=
 h.setCell z G (tI (h.at G).2.2) (λ_ O=> .inl<|AI O) (by rw[fh,fh,WJ M,WJ M]) λj I=>{by rw[fh,WI I],by rw[fh,WI I]}
def QN.insM(h:QN t H a st d):∃dx fs,H a=some (.ins t.aZ dx fs)/\∀m,NoM m->fs.lookup m=none:=by
 let{dx,z}:=h.obj;exact{dx,_,z,λm G=>Mr G}
def PD.one_kv:st.one.kv=st.kv:=by
 unfold PD.one;cases st.nxt with
 |none=>rfl
 |some m=>show(if _ then _ else _:PD).kv=_;split<;>rfl
def PD.three_kv:st.three.kv=st.kv:=by
 unfold PD.three;cases st.nxt with
 |some m=>rfl
 |none=>show(if _ then _ else _:PD).kv=_;split;rfl;split<;>rfl
set_option tactic.hygienic true in
def Fh{kv:R'}:((bu kv k v).length:Int)=if(aH kv k).isSome=true then(kv.length:Int)else kv.length+1:=by
 have:=Y2 List.length (tP (kv:=kv) (k:=k) (v:=v));rw[Q1]at this;split
 .rename_i c;rw[WJ c,Q1]at this;lia
 .rename_i c;rw[WI c,Q8,Q1]at this;simp at this;lia
end
def qG:Ck P w K mg base PP 4 t.uq t.m6 [cC,et] (yZ K t):=by
 refine T.L8.okl zq λs H vs Q E G h _=>?_;intro X;let{a,k,F,st,rfl,{d,hb,O,U,nd,z},Z,q}:=h;refine{_,(aA<|aD<|Il<|Em (iz G) M2<|aT Ca T.aL T.gA (dt T) G.mo T.gJ .nil az<|ac M2 ai)
  ,?_}
 let{dx,fs,hi,Y}:=hb.insM;refine{_,M,_,M,a,dx,fs,M,hi,Y _ ∅,_,M,a,k,st,d,M,hb,z,λc kv I=>?_};let{hc,_,_}:=hb.at I;refine{c,_,M,Qh.k (k:=Sum.inl k) hc,?_};rw[P9,hb.val k c kv I];exact q H F ⟨d,hb,O,U,nd,z⟩ Fr.refl
def zH:Ck P w K mg base PP 4 t.ur t.m7 [cC,et] (y3 K t):=by
 refine T.L9.okl zr λs H vs Q E G h _=>?_;intro X;let{a,k,F,st,rfl,{d,hb,U,Y,nd,z},h0,Z,q2}:=h;refine aj (PN 2<|aT Ca T.aL T.gA (dt T) G.mo T.gJ .nil az<|ac M2 ai)
   (aj (aO (Ei<|Ai (iz G) M2 P8)
    (aA jL)
    aF)
   (aB (aD<|BB (iz G) P8 M2<|λ_ _=>M) ?_))
 intros
 have hA:QW K t H a F st:=⟨d,hb,U,Y,nd,z⟩;let{dx,fs,hi,hm}:=hb.insM;refine{_,M,a,dx,fs,M,hi,hm _ ∅,_,M,a,k,st,d,M,hb,z,λc kv I=>?_};let{hc,_,_}:=hb.at I;have O:=hb.val k c kv I;refine{_,M,_,M,c,_,M,Qh.k (k:=Sum.inl k) hc,?_};rw[P9,O];cases e:aH st.kv k with
 |none=>
  refine{_,M,b8 ?_};exact(q2 e).elim
 |some v=>
  refine{_,M,cm ?_};refine{_,M,_,M,c,v,M,?_,Z v e H F hA Fr.refl};have:=Qh.k (k:=Sum.inl k) hc;rw[P9,O,e]at this;exact this
def zG:Ck P w K mg base PP 4 t.uo t.m5 [cC,et,qN] (yY K t):=by
 refine T.L7.okl zp λs H vs Q E hr h _=>?_;intro X;let{a,k,i,F,st,rfl,{d,hb,hF,hn,nd,z},h0,hl,q}:=h;refine aj (aM<|bq Ca T.aL T.rV (iw T) hr.mo T.sC .nil az)
   (aj (PN 3<|aT Ca T.aL T.gA (dt T) hr.mo T.gJ .nil az<|ac M2 ai)
   (aj (aO (Ei<|Ai (iz hr) M2 PR)
    (aA<|iP Ca ae yg)
    aF)
   (aj (jK (iz hr) PR M2 P8 M)
   (aB (aM<|bq Ca T.aL T.rW (iy T) hr.mo T.sE .nil az) ?_))))
 intros
 let{dx,fs,hi,hm}:=hb.insM;refine{_,M,a,dx,fs,M,hi,hm _ ∅,a,st,d,M,hb,z,hl,λH1 Y hb1 e1 O=>?_};let{ah,an,aw,ax}:=hb1.insM;have z1:=z.one;refine{_,M,a,ah,an,M,aw,ax _ ∅,_,M,a,k,st.one,Y,M,hb1,z1,λc kv ic=>?_};let{hc,cF,_}:=hb1.at ic;have hv:=hb1.val k c kv ic;have sh:=hb1.short z1 ic;rw[PD.one_kv]at hv sh;let{U,Z}:=hb1.obj;have na:a≠c:=cX Z hc (by intro w;cases w);have key:∀(H2:Hp)(n2:Int),QN t H2 a st.one {Y with n:=n2}->Fr (Ql a st d) (Ql a st.one Y) H H2->n2=((bu st.kv k<|.int i).length:Int)->∃I,QN t (upd H2 c<|.dK<|aC<|bu kv k<|.int i) a {st.one with kv:=bu st.one.kv k (.int i)} I/\I.n=((bu st.one.kv k<|.int i).length:Int)/\
   ∀H4 d4,QN t H4 a (PD.three {st.one with kv:=bu st.one.kv k (.int i)}) d4->d4.n=I.n->Fr (Ql a {st.one with kv:=bu st.one.kv k (.int i)} I) (Ql a (PD.three {st.one with kv:=bu st.one.kv k (.int i)}) d4) (upd H2 c<|.dK<|aC<|bu kv k<|.int i) H4->Q .non H4:=λH2 n2 a0 b1 b2=>by
  let{I,G,e3,f3}:=a0.put z1 (kv:=kv) ic (.int i);have a1:I.n=((bu st.one.kv k<|.int i).length:Int):=by rwa[e3,PD.one_kv]
  refine{I,G,a1,λH4 d4 a9 e4 aa=>?_};rw[PD.one_kv]at a9 aa f3 a1;refine q H4 _ {d4,a9,λb=>Iff.rfl,?_,?_,?_} ?_
  .show d4.n=((PD.three _).kv.length:Int);rw[PD.three_kv,e4,a1]
  .show((PD.three _).kv.map (·.1)).Nodup;rw[PD.three_kv];exact xS nd
  .exact(z1.kv).three
  .have step:Fr (Ql a st.one Y) (Ql a {st.one with kv:=bu st.kv k (.int i)} I) H2 (upd H2 c<|.dK<|aC<|bu kv k<|.int i):=λb o n w=>{by rwa[af (λy=>n<|by rw[y];exact cF)],λy=>n<|(f3 b).mp y};exact Fr.trans (λb o n w=>b1 b o (λy=>n<|(hF b).mpr y) w)<|Fr.trans step aa
 refine{_,M,_,M,c,_,M,Qh.k (k:=Sum.inl k) hc,?_};rw[P9,hv];have kl:(aC kv).length<sizeLine:=by rw[a8];exact Gc ()
 cases e:aH st.kv k with
 |none=>
  refine{_,M,b8 ?_};refine{_,M,a,_,U,_,_,M,Z,T.aL,T.bR,sP,_,_,M,M,U,_,Z,sO,?_};rw[Mw];have a0:=hb1.setN (dx:=U) (n:=Y.n+1);have b3:upd H1 a (.ins t.aZ U<|Qn Y.tb st.one.moved<|Y.n+1) c=some (.dK<|aC kv):=by rwa[af na.symm]
  let{I,G,n3,fin}:=key _ _ a0 (λb o n w=>{by rw[af (λy=>(O b o n w).2<|.inl y)];exact(O b o n w).1,(O b o n w).2}) (by rw[Fh,e,e1,hn];rfl);refine{_,M,_,M,_,M,c,_,M,Qs.k (k:=Sum.inl k) b3 kl,?_};rw[cw];let{a2,a3,a4,a5}:=G.insM;exact{_,M,a,a2,a3,M,a4,a5 _ ∅,a,_,I,M,G,z1.kv,n3,fin}
 |some v=>
  refine{_,M,cm ?_};let{I,G,n3,fin}:=key H1 Y.n hb1 O (by rw[Fh,e,e1,hn];rfl);refine{_,M,_,M,_,M,c,_,M,Qs.k (k:=Sum.inl k) hc kl,?_};rw[cw];let{a2,a3,a4,a5}:=G.insM;exact{_,M,a,a2,a3,M,a4,a5 _ ∅,a,_,I,M,G,z1.kv,n3,fin}
def xL:Ck P w K mg base PP 5 t.qW t.kL [cC,et] (wS K t):=by
 refine T.KA.okl xk λs H vs Q E Y h _=>?_;intro X;let{a,k,F,st,rfl,hA,h0,Z,q2}:=h;refine aj (aO (eY<|bF<|aT Ca T.aL T.BJ (qG T) Y.mo T.B7 .nil az<|ac M2 ai)
    (aA jL)
    aF)
   (aj (aM<|bq Ca T.aL T.rV (iw T) Y.mo T.sC .nil az)
   (aj (aM<|dH Zy XA Ve BH (aT Ca T.aL T.gA (dt T) Y.mo T.gJ .nil az<|ac M2 ai)<|ac M2 ai)
   (aj (iP Ca ae NT)
   (aB (aM<|bq Ca T.aL T.rW (iy T) Y.mo T.sE .nil az) ?_))))
 intros
 let{dx,fs,hi,hm}:=hA.ins;refine{_,M,a,dx,fs,M,hi,hm _ ∅,_,M,a,k,F,st,M,hA,h0,λH0 F0 a0 a1=>?_};cases e:aH st.kv k with
 |none=>
  refine{_,M,b8 ?_};exact(q2 e).elim
 |some v=>
  refine{_,M,cm ?_};let{d,hb,hF,hn,nd,z}:=a0;let{dx,fs,hi,hm}:=hb.insM;let{hl,Z}:=Z (by rw[e];rfl);refine{_,M,a,dx,fs,M,hi,hm _ ∅,a,st,d,M,hb,z,hl,λH1 d1 hb1 e1 a2=>?_};let{a3,a4,a5,a9}:=hb1.insM;have z1:=z.one;refine{_,M,a,a3,a4,M,a5,a9 _ ∅,_,M,a,k,st.one,d1,M,hb1,z1,λc kv ic=>?_};let{hc,cF,_}:=hb1.at ic;have hv:=hb1.val k c kv ic;rw[PD.one_kv,e]at hv;let{d3,G,e3,f3}:=hb1.drop z1 ic;rw[PD.one_kv]at G f3;refine{.inr<|.inr<|.inl {M,.inl {_,hc}},_,M,c,_,Sum.inl k,v,M,M,hc,P9.trans hv,?_};rw[mQ];let{I,O}:=G.obj;refine{_,M,a,_,I,_,_,M,O,T.aL,T.bR,sP,_,_,M,M,I,_,O,sO,?_};rw[Mw];have U:=G.setN (dx:=I) (n:=d3.n-1);let{aa,ah,an,aw}:=U.insM;have dl:=AJ nd (wx e);have n4:d3.n-1=((bQ st.kv k).length:Int):=by rw[e3,e1,hn];lia
  refine{_,M,a,aa,ah,M,an,aw _ ∅,a,_,_,M,U,z1.kv,n4,λH5 d5 ax e5 b1=>?_};refine Z H5 _ {d5,ax,λb=>Iff.rfl,?_,?_,z1.kv.three} ?_
  .show d5.n=((PD.three _).kv.length:Int);rwa[PD.three_kv,e5]
  .show((PD.three _).kv.map (·.1)).Nodup;rw[PD.three_kv];exact tI nd
  .refine a1.trans<|Fr.trans (λb o n w=>a2 b o (λy=>n<|(hF b).mpr y) w) (Fr.trans (λb o n w=>?_) b1);exact{by rwa[af (λy=>n<|.inl y),af (λy=>n<|by rw[y];exact cF)],λy=>n<|(f3 b).mp y}
def oP:Ck P w K mg base PP 1 t.qU t.kJ [cC] (wQ K t):=by
 refine T.Ky.okl xi λs H vs Q E U h _=>?_;intro X;let{a,F,st,rfl,{d,hb,hF,hn,nd,z},q}:=h;refine{_,(aA<|aD<|mK M (PM.of (M':=["row"]) (N:=[cC]) (N':=[cC]) (dsc:=ak gL) M M ∅) (dj<|ar Ca M)<|λ_ _ _ _ _=>(aI (zT K M) {_} T.bT bi (ac Ca ai)))
  ,?_}
 have hA:QW K t H a F st:=⟨d,hb,hF,hn,nd,z⟩;let{dx,ho}:=hb.obj;have Y:∃xs,H d.tb=some (.lst xs)/\xs.length=st.rows.length/\∀(i:Nat)(x:V),xs[i]?=some x->∃r rs,x= .ref r/\H r=some (.lst rs)/\st.rows[i]?=some (rs.length:Int):=by
  have G:=hb.tbl;have l0:((d.A0.map V.ref).length:Int)=st.size:=by rw[Q1];exact hb.row0.la
  unfold PD.rows;have r1:=hb.row1;cases e:st.nxt with
  |none=>
   rw[e]at G;refine{_,G,M,λi x hx=>?_};cases i with
   |zero=>cases hx;exact{d.r0,_,M,hb.row0.lst,by rw[l0];rfl}
   |succ j=>simp at hx
  |some m=>
   rw[e]at G r1;have l1:((d.A1.map V.ref).length:Int)=m:=by rw[Q1];exact r1.la
   refine{_,G,M,λi x hx=>?_};cases i with
   |zero=>cases hx;exact{d.r0,_,M,hb.row0.lst,by rw[l0];rfl}
   |succ j=>
    cases j with
    |zero=>cases hx;exact{d.r1,_,M,r1.lst,by rw[l1];rfl}
    |succ j=>simp at hx
 let{xs,G,lx,look}:=Y;refine{_,M,a,_,dx,_,_,M,ho,T.aL,T.aW,jH,d.tb,M,{_,Kv.of G},λD hD=>?_};refine qg (K:=K) (a:=d.tb) (xs:=xs) (λi ys H3=>H3=upd H D (.lst ys)/\ys=(st.rows.take i).map V.int) ⟨M,M⟩ (λi ys H3 _ w=>Kv.of<|by rwa[w.1,af (am G hD)]) (λi x ys H3 hx w I=>?_)<|λys H3 w I=>?_
 .let{O,e2}:=w;let{r,rs,rfl,U,hs}:=look i x hx;have hi:i<xs.length:=(Q3.mp hx).1;have Z:H3 r=some (.lst rs):=by rwa[O,af (am U hD)]
  refine{_,M,r,_,M,.inl<|Kv.of Z,QF.mk hi I ?_ {?_,?_}}
  .rw[e2,Q1,Q7];have:st.rows.length<=2:=by(unfold PD.rows;cases st.nxt<;>simp)
   exact cv ()
  .rw[O,cR]
  .rw[e2,Zg,hs,Z6];rfl
 .let{O,e2}:=w;rw[lx,Zn]at e2;subst e2;subst O;exact q _ F D (hA.new hD) (Fr.of_same<|al hD) hD (hA.out hD) ag
def Nj{sh n:Int}:bN ("kept":Str) (.int n) (bN ("shifted":Str) (.int sh)<|bN (u5:Str) (.ref tb) [])=Qn tb sh n:=by
 have z:bN (u5:Str) (.ref tb) []=[((u5:Str),V.ref tb)]:=M;rw[z,bN,WI ∅,bN,bN,WI ∅,bN,WI ∅,bN];rfl
def xK:Ck P w K mg base PP 2 t.qV t.kK [cC] (wR K t):=by
 let{G,z}:=T.g_LEAST_SIZE;refine T.Kz.okl xj λs H vs Q E I h _=>?_;intro X;let{a,dx,rfl,ha,hd,q}:=h;refine aj (bp Ca (cu<|ac (aJ (tF T) I.mo {_} T.vz T.pY.kp T.vB .nil az (ac (dn (v:= .int 4) {_} z {_,M}) ai)) ai) M)
   (aj (bp Ca ae M)
   (aB (bp Ca ae M) ?_))
 intros
 refine{4,M,(_),(_),λH' r A s nr nA I=>{(by show 1<=sizeLine;decide),λtb Y=>?_}};have O:=s _ _ ha;have U:a≠tb:=am O Y;refine{_,M,a,_,dx,[],M,(by rwa[af U]),T.aL,T.aW,(by show 0<1000;decide),?_};refine{_,M,a,_,dx,_,M,ag,T.aL,T.b9,?_,?_}
 .show 1<1000;decide
 refine{_,M,a,_,dx,_,M,ag,T.aL,T.bR,?_,?_}
 .have h1:=oG (f:="shifted") (v:= .int 0) (bN u5 (.ref tb) []);have h2:=oG (f:=u5) (v:= .ref tb) [];have h3:([]:Sn).length=0:=M;lia
 rw[Nj,cR,cR];have a0:tb≠r:=(am I.lst Y).symm;have sb:=QN.fresh (t:=t) (H:=upd (upd H' tb<|.lst [.ref r]) a<|.ins t.aZ dx<|Qn tb 0 0) (a:=a) (tb:=tb) (r:=r) (A:=A) (dx:=dx) ag (by rw[af U.symm];exact ag) (I.frame λb hb1=>?_) a0
 .refine q _ _ {_,sb,λb=>Iff.rfl,M,ZY,PY.new} λb o n w=>?_;have Z:b≠a:=λy=>n (.inl y);have w1:=s _ _ w;have n2:b≠tb:=am w1 Y;refine{by rwa[af Z,af n2],λy=>?_};rcases y with y|y|y|y|⟨y,_⟩|y
  .exact Z y
  .exact n2 y
  .have y:b=r:=y;rw[y,nr]at w;cases w
  .rw[nA b y]at w;cases w
  .cases y
  .cases y
 .have:∃o,H' b=some o:=by
   rcases hb1 with rfl|hb1
   .exact{_,I.lst}
   .let{_,_,_,_,w}:=I.has hb1;exact{_,w}
  let{o,w}:=this;have n2:b≠tb:=am w Y;have Z:b≠a:=λy=>by
   rcases hb1 with y2|y2
   .rw[<-y2,y,ha]at nr;cases nr
   .have:=nA b y2;rw[y,ha]at this;cases this
  rw[af Z,af n2]
def oO:Ck P w K mg base PP 3 t.qS t.kH [cC,yH] (wO K t):=by
 refine T.Kw.okl xg λs H vs Q E G h _=>?_;intro X;let{a,p,F,st,rfl,I,U,Z,q}:=h;refine aj (PN 2<|aI (AN M) {_} T.z7 sw (ac (bq Ca T.aL T.zP (oP T) G.mo T.zV .nil az) ai))
   (aB (aD<|aS bG (aJ (zC T) G.mo {_} T.LB T.Cc.kp T.LQ .nil az (ac (aJ (xF T) G.mo {_} T.GA T.A8.kp T.GY .nil az (ac M2<|ac P8 ai))<|ac P8 ai)) ae<|λ_ _=>M) ?_)
 intros
 have z:PY st:=let⟨_,_,_,_,_,z⟩:=I;z
 let{s4,s5}:=b7 (hZ z);let{x,y,R}:=xA (hZ z);let{dx,fs,hi,hm}:=I.ins;refine{_,M,a,dx,fs,M,hi,hm _ ∅,a,F,st,M,I,λH1 F1 l sA fr nl oF hl=>{l,st.rows,M,Kv.of hl,?_,λM' hM O=>?_}}
 .unfold PD.rows;cases st.nxt<;>simp
 .have eM:=IT hM O;subst eM;refine{_,M,_,M,p,_,M,U,(),_,M,_,_,M,Z2 _ (),(),(),λtp Y=>?_};rw[Bf R U Z];exact{tp,_,_,_,M,M,QO.of ag,M,q _ F1 (sA.new Y)<|fr.trans (Fr.of_same<|al Y)}
set_option genInjectivity false in
structure Rw where
 r:Addr
 A:List Addr
 C:List (List<|Int×V)
 s:Int
noncomputable def gi(st:PD)(d:RJ):List Rw:=match st.nxt with|none=> [⟨d.r0,d.A0,d.C0,st.size⟩]|some m=> [⟨d.r0,d.A0,d.C0,st.size⟩,⟨d.r1,d.A1,d.C1,m⟩]
def QK(k:Int):Int:=tz (k%65536)
def wC{st:Int}{x:Nat}(h:0<st):x<sr lo hi st↔lo+(x:Int)*st<hi:=by
 unfold sr;rw[qC h];by_cases c:lo<hi
 .rw[WJ c];have a:0<=(hi-lo-1)/st:=VN (by omega) (by omega);have e:(x:Int)<=(hi-lo-1)/st↔(x:Int)*st<=hi-lo-1:=Int.le_ediv_iff_mul_le h;omega
 .rw[WI c];have:0<=(x:Int)*st:=Vt (by omega) (by omega);omega
def bC{kv:R'}(nd:(kv.map (·.1)).Nodup)(h:(k,v)∈kv):aH kv k=some v:=by
 induction kv with
 |nil=>cases h
 |cons p r z=>
  rw[Zk,ZM]at nd;by_cases e:p.1=k
  .rw[bE e];rcases Zb.mp h with h|h
   .rw[<-h]
   .exact WN (XF (f:=(·.1)) h)<|by rw[<-e]at*;exact nd.1
  .rw[bz e];rcases Zb.mp h with h|h
   .rw[<-h]at e;exact WN M e
   .exact z nd.2 h
def bH{kv:R'}(h:aH kv k=some v):(k,v)∈kv:=by
 induction kv with
 |nil=>rw[kZ]at h;cases h
 |cons p r z=>
  by_cases e:p.1=k
  .rw[bE e]at h;cases h;rw[<-e];exact Z4
  .rw[bz e]at h;exact Z7 _<|z h
def wE{d:RJ}{ri:Nat}{R:Rw}{kv:R'}(hb:QN t H a st d)(U:(gi st d)[ri]?=some R)(hk:R.C[j]?=some kv)(Y:(k,v)∈kv):
  k%65536%R.s=(j:Int)/\(kv.map (·.1)).Nodup/\∃c,IsCell d st k c kv:=by
 have O:∀{A:Si}{C:List (List<|Int×V)}{r:G'}{s:Int}{x:Nat},PQ H r A C s->C[x]?=some kv->∃b,A[x]?=some b:=λ{A C r s x} ro h=>by
  have h1:=(Q3.mp h).1;have h2:=ro.la;have h3:=ro.lc;exact{A[x]'(),Q4 _}
 have Z:kv≠[]:=λz=>by rw[z]at Y;cases Y
 have I:=hb.row1;have zero:(j:Int)<st.moved->d.C0[j]?=some kv->False:=λh1 h2=>Z (hb.old _ _ h2 h1);unfold gi at U;cases en:st.nxt with
 |none=>
  rw[en]at U;cases ri with
  |zero=>
   cases U;have G:=hb.row0.home _ _ hk _ Y;let{b,eb}:=O hb.row0 hk;refine{G,hb.row0.ndk _ _ hk,b,.inl {?_,by rwa[G],by rwa[G]}};rw[G,PD.moved_none en];lia
  |succ j=>simp at U
 |some m=>
  rw[en]at U I;cases ri with
  |zero=>
   cases U;have G:=hb.row0.home _ _ hk _ Y;let{b,eb}:=O hb.row0 hk;refine{G,hb.row0.ndk _ _ hk,b,.inl {?_,by rwa[G],by rwa[G]}};rw[G];exact Int.not_lt.mp λy=>zero y hk
  |succ j'=>
   cases j' with
   |zero=>
    cases U;have G:=I.home _ _ hk _ Y;let{b,eb}:=O I hk;exact{G,I.ndk _ _ hk,b,.inr {_,en,hb.new _ _ hk _ Y,by rwa[G],by rwa[G]}}
   |succ j=>simp at U
noncomputable def qy(C:List (List<|Int×V))(s m:Int)(x:Nat):List (Int×V):=C.getD (s+(x:Int)*m).toNat []
def K4(s m:Int)(R:Rw):List (Int×V):=(List.range<|sr s R.s m).flatMap (qy R.C s m)
def NI(st:PD)(d:RJ)(s:Int):List (Int×V):=(gi st d).flatMap (K4 s st.low)
def uS{d:RJ}(z:PY st){R:Rw}(h:R∈gi st d):R.s=st.low\/R.s=2*st.low:=by
 unfold gi at h;unfold PD.low;cases e:st.nxt with
 |none=>rw[e]at h;rw[Q9.mp h];exact .inl M
 |some m=>
  rw[e]at h;let{_,_,_,nx}:=z.nx m e;have p:=b7 z.pw;show R.s=(if m<st.size then m else st.size)\/R.s=2*(if m<st.size then m else st.size);rcases Zb.mp h with h|h
  .rw[h];show st.size=_\/st.size=_;split<;>lia
  .rw[Q9.mp h];show m=_\/m=_;split<;>lia
def Fg{x r:Int}(h:r=m\/r=2*m):x%r%m=x%m:=by
 rcases h with rfl|rfl
 .exact Int.emod_emod_of_dvd _<|Int.dvd_refl _
 .exact Int.emod_emod_of_dvd _ {2,()}
def Lu{d:RJ}{s:Int}(hb:QN t H a st d)(z:PY st)(nd:(st.kv.map (·.1)).Nodup)(s0:0<=s)(s1:s<st.low)(k:Int)(v:V):
  (k,v)∈NI st d s↔(k,v)∈st.kv/\k%65536%st.low=s:=by
 have lp:=b7 (hZ z);constructor
 .intro h;let{R,G,h}:=XW.mp h;let{x,hx,h}:=XW.mp h;have hx:=Wz.mp hx;have O:=uS z G;let{ri,U,Y}:=Zu G;have Y:(gi st d)[ri]?=some R:=by rw[Q4 U,Y]
  unfold qy at h;have xs:=(wC ()).mp hx;have xm:0<=(x:Int)*st.low:=Vt () ();cases Z:R.C[(s+(x:Int)*st.low).toNat]? with
  |none=>rw[Ze,Z]at h;cases h
  |some kv=>
   rw[Ze,Z]at h;have h:(k,v)∈kv:=h;let{h1,h2,c,I}:=wE hb Y Z h;refine{bH (by rw[<-hb.val k c kv I];exact bC h2 h),?_};rw[<-Fg O,h1,W2 (),Int.add_mul_emod_self_right];exact Int.emod_eq_of_lt s0 s1
 .rintro ⟨h,hs⟩;let{c,kv,ic}:=hb.cell z k;have hv:=hb.val k c kv ic;rw[bC nd h]at hv;have hm:=bH hv;have fin:∀R:Rw,R∈gi st d->R.C[(k%65536%R.s).toNat]?=some kv->(k,v)∈NI st d s:=λR G hk=>by
   have O:=uS z G;have j0:0<=k%65536%R.s:=Z2 _ ();have j1:k%65536%R.s<R.s:=Z0 _ ();have jm:=Fg (x:=k%65536) O;rw[hs]at jm;have dv:=VO (k%65536%R.s) st.low;have q0:0<=k%65536%R.s/st.low:=VN j0 ();have eq:s+((k%65536%R.s/st.low).toNat:Int)*st.low=k%65536%R.s:=by
    rw[W2 q0,We];lia
   refine XW.mpr {R,G,XW.mpr {(k%65536%R.s/st.low).toNat,Wz.mpr<|(wC ()).mpr (by rwa[eq]),?_}};unfold qy;rwa[eq,Ze,hk]
  rcases ic with⟨_,_,I⟩|⟨m,en,_,_,I⟩
  .refine fin ⟨d.r0,d.A0,d.C0,st.size⟩ ?_ I;unfold gi;cases st.nxt<;>simp
  .refine fin ⟨d.r1,d.A1,d.C1,m⟩ ?_ I;unfold gi;rw[en];simp
def qb{C:List (List<|Int×V)}{s:Int}{x:Nat}{p:Int×V}(h:p∈qy C s m x):∃kv,C[(s+(x:Int)*m).toNat]?=some kv/\p∈kv:=by
 unfold qy at h;cases z:C[(s+(x:Int)*m).toNat]? with
 |none=>rw[Ze,z]at h;cases h
 |some kv=>
  rw[Ze,z]at h;exact⟨kv,M,h⟩
def Gs{d:RJ}{s:Int}(hb:QN t H a st d)(z:PY st)(s0:0<=s):((NI st d s).map (·.1)).Nodup:=by
 have lp:=b7 (hZ z);refine ZE.mpr ?_;have row:∀R∈gi st d,(K4 s st.low R).Pairwise (λp q=>p.1≠q.1):=λR O=>by
  let{ri,U,G}:=Zu O;have G:(gi st d)[ri]?=some R:=by rw[Q4 U,G]
  refine List.pairwise_flatMap.mpr {λx _=>?_,?_}
  .unfold qy;cases Y:R.C[(s+(x:Int)*st.low).toNat]? with
   |none=>rw[Ze,Y];exact Y4
   |some kv=>
    rw[Ze,Y];show List.Pairwise _ kv;cases ke:kv with
    |nil=>exact Y4
    |cons p r=>
     have:=(wE hb G Y (k:=p.1) (v:=p.2)<|by rw[ke];exact Z4).2.1;rw[ke]at this;exact ZE.mp this
  .refine(List.pairwise_lt_range (n:=sr s R.s st.low)).imp λ{x y} a3 p I q hq e=>?_;let{kv,h1,h2}:=qb I;let{kv',Z,h4}:=qb hq;have a1:=(wE hb G h1 h2).1;have a2:=(wE hb G Z h4).1;have m1:(x:Int)*st.low<(y:Int)*st.low:=Int.mul_lt_mul_of_pos_right () ();have m0:0<=(x:Int)*st.low:=Vt () ();rw[e,a2]at a1;lia
 refine List.pairwise_flatMap.mpr {row,?_};have a0:=hb.row1;unfold gi;cases en:st.nxt with
 |none=>exact Xk _ _
 |some m=>
  refine XQ.mpr {λR O p I q hq e=>?_,Xk _ _};rw[Q9.mp O]at hq;let{x,_,I}:=XW.mp I;let{y,_,hq}:=XW.mp hq;let{kv,h1,h2}:=qb I;let{kv',Z,h4}:=qb hq;have n1:=hb.new _ _ Z _ h4;have n2:=hb.row0.home _ _ h1 _ h2;have n3:¬((s+(x:Int)*st.low).toNat:Int)<st.moved:=λc=>by
   have:=hb.old _ _ h1 c;rw[this]at h2;cases h2
  rw[<-e,n2]at n1;exact n3 n1
structure Ly(X:Si)(H H':Hp)(l:G')(ts:List Tp)(L:R'):Prop where
 sm:∀c o,c∉X->H c=some o->H' c=some o
 li:H' l=some (.lst<|ts.map λe=>V.ref e.p)
 tu:∀e∈ts,H' e.p=some (.tup [.int (QK e.k),.int e.k,e.v])/\H e.p=none
 eq:ts.map Tp.kv=L
section
variable{X:Si}{H'':Hp}{l:G'}{L:R'}
def Ly.same(h:Ly X H H' l ts L)(s:G3 H' H''):Ly X H H'' l ts L:={λc o n e=>s _ _<|h.sm c o n e,s _ _ h.li,λe he=>{s _ _ (h.tu e he).1,(h.tu e he).2},h.eq}
def Ly.add(h:Ly X H H' l ts L)(s:G3 H' H'')(np:H' p=none)(I:H l=none)(O:∀c∈X,∃o,H c=some o/\∃o',H' c=some o')(U:H'' p=some (.tup [.int (QK k),.int k,v])):
  Ly X H (upd H'' l<|.lst<|ts.map (λe=>V.ref e.p)++ [.ref p]) l (ts++ [⟨p,k,v⟩]) (L++ [(k,v)]):=by
 have pl:p≠l:=λz=>by rw[z,h.li]at np;cases np
 have old:H p=none:=by
  cases q:H p with
  |none=>rfl
  |some o=>
   by_cases c:p∈X
   .let{_,_,o',G}:=O p c;rw[np]at G;cases G
   .rw[h.sm _ _ c q]at np;cases np
 have h2:=h.same s;refine{λc o n e=>?_,by rw[ag,Z6];rfl,λe he=>?_,by rw[Z6,h.eq];rfl}
 .rw[af λz=>by rw[z,I]at e;cases e];exact h2.sm c o n e
 .rcases Q6.mp he with he|he
  .have q:=h2.tu e he;exact{by rw[af λz=>by rw[z,h2.li]at q;cases q.1];exact q.1,q.2}
  .rw[Q9.mp he];exact{by rwa[af pl],old}
def Ly.freeze{o':HO}(h:Ly [] H H' l ts L)(hb:H b=some o)(bl:b≠l):Ly [b] H (upd H' b o') l ts L:=
 {λc o n e=>by rw[af λz=>n (by rw[z];exact Z4)];exact h.sm c o (by simp) e,by rw[af bl.symm];exact h.li,
  λe he=>{by rw[af λz=>by have:=(h.tu e he).2;rw[z,hb]at this;cases this];exact(h.tu e he).1,(h.tu e he).2},h.eq}
def Ly.thaw(h:Ly [b] H H' l ts L)(hb:H b=some o)(bl:b≠l):Ly [] H (upd H' b o) l ts L:=by
 refine{λc o' _ e=>?_,by rw[af bl.symm];exact h.li,λe he=>{by rw[af λz=>by have:=(h.tu e he).2;rw[z,hb]at this;cases this];exact(h.tu e he).1,(h.tu e he).2},h.eq};by_cases z:c=b
 .rwa[z,ag,<-hb,<-z]
 .rw[af z];exact h.sm c o' (by simpa using z) e
end
def rq(K:FA)(t:PL):Sp:=λvs H Q _=>∃(a:G')(p:Int)(F:K')(st:PD),vs=[.ref a,.int p]/\QW K t H a F st/\0<=p/\p<65536/\st.kv.length<4096/\
 ∀(H':Hp)(F':K')(l:G')(ts:List Tp),QW K t H' a F' st->Fr F F' H H'->¬F' l->H' l=some (.lst<|ts.map λe=>V.ref e.p)->(∀e∈ts,H' e.p=some (.tup [.int (QK e.k),.int e.k,e.v])/\¬F' e.p)->
  (∀k v,(k,v)∈ts.map Tp.kv↔(k,v)∈st.kv/\k%65536%st.low=tz p%st.low)->((ts.map Tp.kv).map (·.1)).Nodup->Q (.ref l) H'
def M1{d:RJ}(hb:QN t H a st d)(sz:PY st):∃xs,H d.tb=some (.lst xs)/\xs.length=(gi st d).length/\(gi st d).length<=2/\
  ∀(i:Nat)(x:V),xs[i]?=some x->∃R:Rw,x= .ref R.r/\(gi st d)[i]?=some R/\PQ H R.r R.A R.C R.s/\R.s<=256/\∀(j:Nat)(kv:R'),R.C[j]?=some kv->kv.length<=st.kv.length:=by
 have pw:=b7 sz.pw;have z:=hb.tbl;have r1:=hb.row1;unfold gi;cases e:st.nxt with
 |none=>
  rw[e]at z;refine{_,z,M,by simp,λi x hx=>?_};cases i with
  |zero=>cases hx;exact{_,M,M,hb.row0,pw.2,λj kv h=>hb.short0 sz h}
  |succ j=>simp at hx
 |some m=>
  rw[e]at z r1;refine{_,z,M,by simp,λi x hx=>?_};cases i with
  |zero=>cases hx;exact{_,M,M,hb.row0,pw.2,λj kv h=>hb.short0 sz h}
  |succ j=>
   cases j with
   |zero=>cases hx;exact{_,M,M,r1,(b7 (sz.nx m e).1).2,λj kv h=>hb.short1 sz e h}
   |succ j=>simp at hx
def Jv{RR:List Rw}{f:Rw->List (Int×V)}{R:Rw}(e:RR[i]?=some R):(RR.take<|i+1).flatMap f=(RR.take i).flatMap f++f R:=by
 rw[Zg,e,List.flatMap_append];simp
def EE{f:Nat->List (Int×V)}{x:Nat}:(List.range<|x+1).flatMap f=(List.range x).flatMap f++f x:=by
 rw[List.range_succ,List.flatMap_append];simp
def FZ{kv:R'}{p:Int×V}(e:kv[i]?=some p):kv.take (i+1)=kv.take i++ [p]:=by
 rw[Zg,e];rfl
def rQ:Ck P w K mg base PP 3 t.jT t.fV [cC,yH] (rq K t):=by
 refine T.FM.okl rF λs H vs Q E hr h _=>?_;intro X;let{a,p,F,st,rfl,hA,p0,p1,b2,q}:=h;refine aj (PN 2<|aI (AN M) {_} T.z7 sw (ac (bq Ca T.aL T.zP (oP T) hr.mo T.zV .nil az) ai))
   (aj (PN 3<|cu ai)
   (bU (λx=>(d9 WX M (dj<|ar Ca M) (RB 4)
    x)) ?_))
 refine lu (λx=>(d9 WX M (Gk {_} T.lT (ac (aJ (xF T) hr.mo {_} T.GA T.A8.kp T.GY .nil az (ac M2<|ac P8 ai))<|ac (aI aE {_} T.bT bi (ac QI ai))<|ac P8 ai)) (RB 5)
    x)) ?_
 refine lu (λx=>(tq (d9 WX M (CF<|xD Zy VD PySem.F.type_dict_items CP<|aS aU QI RC<|λ_ _=>M) (El M<|je (RB 6)<|je (RB 7) Bx)
    x))) ?_
 refine aB (aM<|dH Zi ZQ ZR dS PR<|ac (bY<|ac (aJ (vt T) hr.mo {_} T.Ex T.yL.kp T.EI .nil az (ac RO ai))<|ac RO<|ac Rp ai) ai) ?_
 intros
 refine aB (aD PR) ?_
 intros
 have z:PY st:=let⟨_,_,_,_,_,z⟩:=hA;z
 let{s4,s5}:=b7 (hZ z);let{dx,fs,hi,hm}:=hA.ins;refine{_,M,a,dx,fs,M,hi,hm _ ∅,a,F,st,M,hA,λH1 F1 lr sA fr b3 oF a4=>{lr,st.rows,M,Kv.of a4,?_,λM' hM a5=>?_}}
 .unfold PD.rows;cases st.nxt<;>simp
 have eM:=IT hM a5;subst eM;have sB:=sA;let{d,hb,hF,hn,nd,_}:=sB;let{a9,ho}:=hb.obj;let{xs,ht,lx,l2,look}:=M1 hb z;have g0:0<=tz p%st.low:=Z2 _ ();have g1:tz p%st.low<st.low:=Z0 _ ();have U:st.low>0:=();refine{Za _,λl nl=>?_};have y0:Ly [] H1 (upd H1 l<|.lst []) l [] []:={λc o _ e=>al nl _ _ e,ag,(λe he=>by cases he),M};generalize upd H1 l (.lst [])=H2 at y0⊢;generalize hs:tz p%st.low=I at g0 g1 q;refine{_,M,a,_,a9,_,_,M,y0.sm _ _ (by simp) ho,T.aL,T.aW,jH,d.tb,M,{_,Kv.of<|y0.sm _ _ (by simp) ht},iR (K:=K) (a:=d.tb) (xs:=xs) (λi W H'=>∃(v4 v5 Y Z:Su)(ts:List Tp),W=[some (.ref a),some (.int p),some (.int st.low),some (.ref l),v4,v5,Y,Z]/\Ly [] H1 H' l ts (((gi st d).take i).flatMap<|K4 I st.low)/\ts.length<=8192*i)
  {_,_,_,_,[],M,y0,by simp} (λi W H' _ w=>by let{_,_,_,_,_,_,c,_}:=w;exact Kv.of<|c.sm _ _ (by simp) ht) (λi x W H' hx w=>?_) (λW H' w=>?_)}
 .let{v4,v5,Y,Z,ts,G,c,lt}:=w;subst G;let{R,rfl,hR,ro,b1,aa}:=look i x hx;have hr:=c.sm _ _ (by simp) ro.lst;have iL:=(Q3.mp hx).1;have lA:((R.A.map V.ref).length:Int)=R.s:=by rw[Q1];exact ro.la
  have rl:=uS z (Q2 hR);have a1:∀y:Nat,y<sr I R.s st.low->y<2:=λy hy=>by
   have:=(wC U).mp hy;refine Nat.lt_of_not_le λy2=>?_;have:(2:Int)*st.low<=(y:Int)*st.low:=Wr () ();lia
  have b4:sr I R.s st.low<=2:=by
   by_cases c0:sr I R.s st.low=0
   .lia
   .have:=a1 (sr I R.s st.low-1) ();lia
  refine{_,M,_,M,p,_,M,p0,U,_,M,R.r,_,M,.inl<|Kv.of hr,_,M,_,_,_,M,?_,?_}
  .rw[hs,lA];exact{(),(),(),(),(),()}
  rw[hs,lA];generalize ah:((gi st d).take i).flatMap (K4 I st.low)=L0 at c;refine De (n:=sr I R.s st.low) (λx W H'=>∃(v5 Y Z:Su)(ts:List Tp),W=[some (.ref a),some (.int p),some (.int st.low),some (.ref l),some (.ref R.r),v5,Y,Z]/\Ly [] H1 H' l ts (L0++(List.range x).flatMap (qy R.C I st.low))/\ts.length<=8192*i+4096*x)
   {_,_,_,ts,M,by simpa using c,()} (λx W H' hx w=>?_) (λW H' w=>?_)
  .let{v5,Y,Z,ts,G,c,lt}:=w;subst G;have b5:=(wC U).mp hx;have x2:=a1 x hx;have xm:0<=(x:Int)*st.low:=Vt () ();have la:=ro.la;have lc:=ro.lc;have eb:R.A[(I+(x:Int)*st.low).toNat]?=some (R.A[(I+(x:Int)*st.low).toNat]'()):=Q4 ();have ek:R.C[(I+(x:Int)*st.low).toNat]?=some (R.C[(I+(x:Int)*st.low).toNat]'()):=Q4 ();generalize R.A[(I+(x:Int)*st.low).toNat]'()=b at eb;generalize R.C[(I+(x:Int)*st.low).toNat]'()=kv at ek;have O:=ro.cell _ _ _ eb ek;have b9:=aa _ _ ek;have a0:=c.sm _ _ (by simp) O;have an:=c.sm _ _ (by simp) ro.lst;have bl:b≠l:=λz=>by rw[z,nl]at O;cases O
   refine{b,aC kv,a0,_,M,_,M,R.r,_,_,_,M,M,Kv.of an,x9 () eb,.inr<|.inr<|.inl {M,.inl {_,a0}},b,aC kv,M,M,a0,λvw nv=>?_};have aw:upd H' vw (SG vw b) b=some (.dK<|aC kv):=by rwa[af (am a0 nv)]
   refine{vw,b,aC kv,M,ag,aw,λob=>?_};have cF:=(c.same<|al (o:=SG vw b) nv).freeze (o':= .frz ob<|.dK<|aC kv) O bl;generalize ax:L0++(List.range x).flatMap (qy R.C I st.low)=L1 at cF;refine yk (λy W H''=>∃(Y Z:Su)(ts:List Tp),W=[some (.ref a),some (.int p),some (.int st.low),some (.ref l),some (.ref R.r),some (.int<|I+(x:Int)*st.low),Y,Z]/\Ly [b] H1 H'' l ts (L1++kv.take y)/\H'' b=some (.frz ob<|.dK<|aC kv)/\ts.length<=8192*i+4096*x+y)
    {_,_,ts,M,by simpa using cF,ag,()} (λy W H'' _ w=>by let{_,_,_,_,_,hf,_}:=w;exact hf) (λy k v p' W H'' ei w np=>?_) (λW H'' w=>?_)
   .let{Y,Z,ts,G,c,hf,lt}:=w;subst G;let{n,rfl,en}:=qc ei;have yl:=(Q3.mp en).1;refine{p',_,M,QO.of ag,M,_,_,M,_,_,M,M,?_};have c3:=c.same (al (o:= .tup [kV (Sum.inl n),v]) np);have a2:=al (o:= .tup [kV (Sum.inl n),v]) np _ _ hf;generalize upd H'' p' (.tup [kV (Sum.inl n),v])=H3 at c3 a2⊢;refine{_,M,.inl {M,_,Kv.of c3.li},_,M,n,M,_,M,_,M,(by show 3<=sizeLine;decide),λp2 a3=>?_};have s4:G3 H3 (upd H3 p2<|.tup [.int (tz<|n%65536),kV (Sum.inl n),v]):=al a3;have e4:upd H3 p2 (.tup [.int (tz<|n%65536),kV (Sum.inl n),v]) p2=some (.tup [.int (QK n),.int n,v]):=ag;generalize upd H3 p2 (.tup [.int (tz<|n%65536),kV (Sum.inl n),v])=H4 at s4 e4⊢;refine{l,_,_,M,M,s4 _ _ c3.li,bh (by rw[Q1];lia),?_};refine{_,_,ts++ [⟨p2,n,v⟩],M,?_,?_,?_}
    .rw[FZ en,<-Z9];exact c3.add s4 a3 nl (λc hc=>by rw[Q9.mp hc];exact{_,O,_,a2}) e4
    .rw[af bl];exact s4 _ _ a2
    .rw[Q8,ZS];lia
   .let{Y,Z,ts,G,c,hf,lt}:=w;subst G;rw[a8,Zn]at c;rw[a8]at lt;refine{ob,hf,_,_,_,ts,M,?_,()};rw[EE,<-Z9,show qy R.C I st.low x=kv by unfold qy;rw[Ze,ek];rfl];rw[ax];exact c.thaw O bl
  .let{v5,Y,Z,ts,G,c,lt}:=w;subst G;exact{_,_,_,_,ts,M,by rw[Jv hR,ah];exact c,()}
 .let{v4,v5,Y,Z,ts,G,c,lt}:=w;subst G;rw[lx,Zn]at c;have e:=c.eq;have sm:G3 H1 H':=λb o e=>c.sm b o (by simp) e;refine{_,M,q H' F1 l ts (sA.same sm) (fr.trans<|Fr.of_same sm) (sA.out nl) c.li (λe he=>{(c.tu e he).1,sA.out (c.tu e he).2}) (λk v=>?_) ?_}
  .rw[e];exact Lu hb z nd g0 g1 k v
  .rw[e];exact Gs hb z g0
def Bu{S p:Int}{a b:Nat}(R:Row S a b)(G:0<=p)(h1:p<65536)(hS:S<=65536):k%65536%S=tz p%S↔QK k/(65536/S)=p/(65536/S):=by
 have I:=R.wpos';have z:=Bf R G h1;have k0:0<=k%65536:=Z2 _ (_);have k1:k%65536<65536:=Z0 _ (_);have e2:=Bf R (p:=QK k) (uB _) (Mh _);rw[show tz (QK k)=k%65536 from ET k0 k1]at e2;have O:=R.mod0 (k%65536);have Y:=R.mod1 (k%65536);have U:=R.mod0 (tz p);have Z:=R.mod1 (tz p);constructor
 .intro e;rw[e,z]at e2;have:=Int.eq_of_mul_eq_mul_right (ZU I) e2;lia
 .intro e;rw[e,<-z]at e2;exact MW O () U () ()
def Nt(k:Int):0<=QK k/\QK k<65536:={uB _,Mh _}
def Bz{f:α->β}:∀{ts:List α}{l:List β},l.Perm (ts.map f)->∃us:List α,us.Perm ts/\us.map f=l:=by
 intro ts l h;generalize e:ts.map f=m at h
 induction h generalizing ts with
 |nil=>exact{[],by rw[List.map_eq_nil_iff.mp e],M}
 |cons x _ I=>
  cases ts with
  |nil=>cases e
  |cons y ts=>
   rw[Zk]at e;injection e with e1 e2;let{us,h1,h2}:=I e2;exact{y::us,h1.cons y,by rw[Zk,h2,e1]}
 |swap x y l=>
  cases ts with
  |nil=>cases e
  |cons a ts=>
   cases ts with
   |nil=>cases e
   |cons b ts=>
    rw[Zk,Zk]at e;injection e with e1 e2;injection e2 with e2 e3;exact{b::a::ts,List.Perm.swap a b ts,by rw[Zk,Zk,e1,e2,e3]}
 |trans _ _ z G=>
  let{us,h1,h2}:=G e;let{O,U,Y}:=z h2;exact{O,U.trans h1,Y}
def Ek(x y:Int×V):Prop:=QK x.1<QK y.1\/(QK x.1=QK y.1/\x.1<y.1)
def wP(K:FA)(t:PL):Sp:=λvs H Q _=>∃(a:G')(lo hi:Int)(F:K')(st:PD),vs=[.ref a,.int lo,.int hi]/\QW K t H a F st/\st.kv.length<4096/\(∀p∈st.kv,∃i:Int,p.2= .int i)/\
 ∀(H':Hp)(F':K')(l:G')(ts:List Tp),QW K t H' a F' st->Fr F F' H H'->¬F' l->(¬F l->H l=none)->H' l=some (.lst<|ts.map λe=>V.ref e.p)->(∀e∈ts,H' e.p=some (.tup [.int e.k,e.v])/\¬F' e.p)->
  (ts.map Tp.kv).Pairwise Ek->(∀k v,(k,v)∈ts.map Tp.kv↔(k,v)∈st.kv/\lo<=QK k/\QK k<hi)->Q (.ref l) H'
def Fu{x q:Int}(h:0<Dr):x/Dr=q↔q*Dr<=x/\x<(q+1)*Dr:=by
 constructor
 .rintro rfl;exact{Int.ediv_mul_le x<|ZU h,Vo x h}
 .rintro ⟨h1,h2⟩;have a:=(Int.le_ediv_iff_mul_le h).mpr h1;have b:=(Int.ediv_lt_iff_lt_mul h).mpr h2;lia
def ky3(H:Hp)(b:G'):List Int:=match H b with
 |some (.tup [.int i,.int j,.int m])=> [i,j,m]
 |_=> []
def Ey{i j:Int}(h:H b=some (.tup [.int i,.int j,.int m])):ky3 H b=[i,j,m]:=by
 unfold ky3;rw[h]
def none_of{H2:Hp}(s:G3 H H2)(n:H2 p=none):H p=none:=by
 cases e:H p with
 |none=>rfl
 |some o=>rw[s _ _ e]at n;cases n
def tU(f:Fr F F' H H')(n:¬F b)(e:H' b=none):H b=none:=by
 cases q:H b with
 |none=>rfl
 |some o=>rw[(f _ _ n q).1]at e;cases e
def Fr.upd_new(f:Fr F F' H H')(n:¬F b->H b=none):Fr F F' H (upd H' b o):=λc u G e=>{by rw[af λz=>by rw[z]at G e;rw[n G]at e;cases e];exact(f c u G e).1,(f c u G e).2}
def HZ(z:(ts.map λe=>V.ref e.p)[n]?=some v):∃e:Tp,v= .ref e.p/\ts[n]?=some e:=by
 rw[Zf]at z;cases q':ts[n]? with
 |none=>rw[q']at z;cases z
 |some e=>rw[q']at z;cases z;exact⟨e,M,M⟩
structure Rl(K:FA)(t:PL)(H H':Hp)(a l:G')(F F':K')(st:PD)(ts:List Tp)(b0 c:Int):Prop where
 sl:QW K t H' a F' st
 fr:Fr F F' H H'
 ol:¬F' l
 li:H' l=some (.lst<|ts.map λe=>V.ref e.p)
 tu:∀e∈ts,H' e.p=some (.tup [.int (QK e.k),.int e.k,e.v])/\¬F' e.p
 me:∀k v,(k,v)∈ts.map Tp.kv↔(k,v)∈st.kv/\b0<=QK k/\QK k<c
 nd:((ts.map Tp.kv).map (·.1)).Nodup
section
variable{l l1:G'}{F1:K'}{ts1:List Tp}{b0 c:Int}
def Rl.len(h:Rl K t H H' a l F F' st ts b0 c):ts.length<=st.kv.length:=by
 have:=gS h.nd (S:=st.kv.map (·.1)) λx hx=>by
  let{p,z,rfl}:=Z5.mp hx;exact XF ((h.me p.1 p.2).mp z).1
 simpa using this
def Rl.move(h:Rl K t H H' a l F F' st ts b0 c)(s1:QW K t H1 a F1 st)(z:Fr F' F1 H' H1):Rl K t H H1 a l F F1 st ts b0 c:=
 {s1,h.fr.trans z,(z _ _ h.ol h.li).2,(z _ _ h.ol h.li).1,λe he=>z _ _ (h.tu e he).2 (h.tu e he).1,h.me,h.nd}
def Rl.step{r:Int}(h:Rl K t H H' a l F F' st ts b0 (r/Dr*Dr))(nl:H l=none)(W0:0<Dr)(hb:b0<=r/Dr*Dr)(s1:QW K t H1 a F1 st)(Z:Fr F' F1 H' H1)(u1:∀e∈ts1,H1 e.p=some (.tup [.int (QK e.k),.int e.k,e.v])/\¬F1 e.p)
  (m1:∀k v,(k,v)∈ts1.map Tp.kv↔(k,v)∈st.kv/\QK k/Dr=r/Dr) (n1:((ts1.map Tp.kv).map (·.1)).Nodup):
  Rl K t H (upd H1 l<|.lst<|ts.map (λe=>V.ref e.p)++ts1.map (λe=>V.ref e.p)) a l F F1 st (ts++ts1) b0 ((r/Dr+1)*Dr):=by
 let{l1,G}:=Z _ _ h.ol h.li;have e1:(r/Dr+1)*Dr=r/Dr*Dr+Dr:=by rw[Int.add_mul,Int.one_mul]
 have I:∀{p:G'}{xs:P7},H1 p=some (.tup xs)->p≠l:=λ{p xs} e z=>by rw[z,l1]at e;cases e
 refine{s1.upd G,λb o n e=>?_,G,by rw[ag,Z6],λe he=>?_,λk v=>?_,?_}
 .let{O,Y}:=(h.fr.trans Z) b o n e;exact{by rwa[af λz=>by rw[z,nl]at e;cases e],Y}
 .rcases Q6.mp he with he|he
  .let{O,Y}:=h.tu e he;let{U,g4}:=Z _ _ Y O;exact{by rwa[af (I U)],g4}
  .let{U,g4}:=u1 e he;exact{by rwa[af (I U)],g4}
 .rw[Z6,Q6,h.me,m1,Fu W0,e1];constructor
  .rintro (⟨x,y,z⟩|⟨x,y,z⟩)
   .exact{x,y,()}
   .exact{x,(),z}
  .rintro ⟨x,y,z⟩;by_cases d:QK k<r/Dr*Dr
   .exact .inl ⟨x,y,d⟩
   .exact .inr {x,(),z}
 .rw[Z6,Z6];refine Vx.mpr {h.nd,n1,λx hx y hy e=>?_};let{p,hp,rfl}:=Z5.mp hx;let{q,hq,rfl}:=Z5.mp hy;have O:=(h.me p.1 p.2).mp hp;have Y:=(Fu W0).mp ((m1 q.1 q.2).mp hq).2;rw[e]at O;lia
end
def OL{fs us:List Tp}(up:us.Perm fs)(z:∀e∈fs,∃i:Int,H e.p=some (.tup [.int (QK e.k),.int e.k,.int i]))(nd:(fs.map (·.k)).Nodup)(pw:(us.map (·.p)).Pairwise (λa b=>HT.lexLt (ky3 H b) (ky3 H a)=false)):(us.map Tp.kv).Pairwise Ek:=by
 have I:us.Pairwise (λe f=>e.k≠f.k):=(up.pairwise_iff<|λh=>h.symm).mpr (ZE.mp nd);refine ZE.mpr<|((ZE.mp pw).and I).imp_of_mem λ{e f} he hf h=>?_;let{i,te}:=z e (up.mem_iff.mp he);let{j,O}:=z f (up.mem_iff.mp hf);let{h1,h2}:=h;rw[Ey te,Ey O,HT.lexLt_cons,HT.lexLt_cons]at h1;show QK e.k<QK f.k\/(QK e.k=QK f.k/\e.k<f.k);by_cases G:QK f.k=QK e.k
 .rw[WJ G,WI (Ne.symm h2)]at h1;have:=Y7 h1;lia
 .rw[WI G]at h1;have:=Y7 h1;lia
def xJ:Ck P w K mg base PP 4 t.qT t.kI [cC,"low","high"] (wP K t):=by
 let{a4,O}:=T.g_PLACES;refine T.Kx.okl xh λs H vs Q E hr h _=>?_;intro X;let{a,lo,hi,F,st,rfl,hA,ax,hint,q}:=h;refine aj (PN 3<|cu ai)
   (aj (PN 4<|aI (qh M) {_} T.Hs BX (ac M2<|ac ae ai))
   (aj (PN 5<|aI (lI M) {_} T.z7 sw (ac P8<|ac (dn (v:= .int 65536) {_} O {_,M}) ai))
   (bU (λx=>(oJ WX (ay dW QI RC<|au _)
    x)) ?_)))
 refine aj (aM<|dH Zi V0 V1 qa PR<|ac (aT Ca T.aL T.Fc (rQ T) hr.mo T.FD .nil az<|ac QI ai) ai)
   (aB (PN 4<|aT Ca T.aL T.zO (oO T) hr.mo T.zU .nil az<|ac QI ai) ?_)
 intros
 refine aj (PN 6<|aI zS {_} T.Ox GX (ac (tE M (PM.of (M':=["one"]) (N:=[cC,"low","high","found","reached",t7,"inside"]) (N':=[cC,"low","high","found","reached",t7,"inside"]) (dsc:=ak eJ) M M ∅) (dj PR) (λ_ _ _ _ _=>(Ie oM dW P8 (aS (BN K M) Ca ae<|λ_ _=>M) PR))<|λ_ _ _ _ _=>Ca) ai))
   (aB (aD<|mK M (PM.of (M':=["one"]) (N:=[cC,"low","high","found","reached",t7,"inside"]) (N':=[cC,"low","high","found","reached",t7,"inside"]) (dsc:=ak eJ) M M ∅) (dj RO)<|λ_ _ _ _ _=>(bY<|ac (aS (BN K M) Ca ae<|λ_ _=>M)<|ac (aS (BN K M) Ca ae<|λ_ _=>M) ai)) ?_)
 intros
 have z:PY st:=let⟨_,_,_,_,_,z⟩:=hA;z
 let{s4,s5}:=b7 (hZ z);let{x,y,R}:=xA (hZ z);have W0:=R.wpos';have a3:∀{p k:Int},0<=p->p<65536->(k%65536%st.low=tz p%st.low↔QK k/(65536/st.low)=p/(65536/st.low)):=λh0 h1=>Bu R h0 h1 ();refine{Za _,λl nl=>?_};refine{_,M,_,_,M,_,M,_,_,M,?_};have r1:0<=(if(0:Int)>lo then 0 else lo)/\lo<=(if(0:Int)>lo then 0 else lo)/\((if(0:Int)>lo then 0 else lo)=0\/(if(0:Int)>lo then 0 else lo)=lo):=by split<;>lia
 have r2:(if(65536:Int)<hi then 65536 else hi)<=65536/\((if(65536:Int)<hi then 65536 else hi)=65536\/(if(65536:Int)<hi then 65536 else hi)=hi):=by split<;>lia
 dsimp only;generalize (if(0:Int)>lo then 0 else lo)=r0 at r1⊢;generalize (if(65536:Int)<hi then 65536 else hi)=e0 at r2⊢;generalize eW:65536/st.low=Dr at W0 a3;have I0:Rl K t H (upd H l<|.lst []) a l F F st [] (r0/Dr*Dr) (r0/Dr*Dr):={hA.new nl,Fr.of_same<|al nl,hA.out nl,ag,(λe he=>by cases he),(λk v=>{λh=>by(cases h),λh=>()}),ZY};generalize upd H l (.lst [])=H1 at I0⊢;refine{λm W H'=>∃(r:Int)(F':K')(ts:List Tp),m=(e0-r).toNat/\W=[some (.ref a),some (.int lo),some (.int hi),some (.ref l),some (.int r),some (.int e0),none]/\Rl K t H H' a l F F' st ts (r0/Dr*Dr) (r/Dr*Dr)/\r0<=r/\(r=r0\/r/Dr*Dr=r),{_,r0,F,[],M,M,I0,Xs _,.inl M},λm W H' w=>?_};let{r,F',ts,rfl,b2,I,rr,rm}:=w;subst b2;refine{_,M,_,M,_,_,M,M,_,M,bL (λc=>?_)<|λc=>?_}
 .have c:=WP c;let{dx,fs,ah,hm}:=I.sl.ins;refine{λan H2=>∃(r':Int)(F2:K')(a5:List Tp),r<r'/\an=[some (.ref a),some (.int lo),some (.int hi),some (.ref l),some (.int r'),some (.int e0),none]/\Rl K t H H2 a l F F2 st a5 (r0/Dr*Dr) (r'/Dr*Dr)/\r'/Dr*Dr=r',λan H2 w=>?_,?_}
  .let{r',F2,a5,lt,e,I2,g}:=w;exact{_,(),r',F2,a5,M,e,I2,(),.inr g}
  refine{_,M,.inl {M,_,Kv.of I.li},_,M,a,dx,fs,M,ah,hm _ ∅,_,M,a,r,F',st,M,I.sl,(),(),ax,λH2 F2 l1 ts1 s2 f2 o2 e2 u2 m2 n2=>?_};have b3:r0/Dr*Dr<=r/Dr*Dr:=Wr (Ws W0 rr) ();have I2:=I.step nl W0 b3 s2 f2 u2 (λk v=>by rw[m2,a3 () ()]) n2;have ln:=I2.len;rw[Q8]at ln;refine{l,l1,_,_,M,M,(f2 _ _ I.ol I.li).1,e2,by rw[Q1,Q1];exact ZH<|bh (),?_};generalize upd H2 l (.lst<|ts.map (λe=>V.ref e.p)++ts1.map (λe=>V.ref e.p))=H3 at I2⊢;let{b4,b5,a9,b9}:=I2.sl.ins;refine{_,M,a,b4,b5,M,a9,b9 _ ∅,_,M,a,r,F2,st,M,I2.sl,(),(),λH4 F4 s4 f4=>?_};rw[eW];have ed:(r/Dr+1)*Dr/Dr*Dr=(r/Dr+1)*Dr:=by rw[Int.mul_ediv_cancel _ (ZU W0)]
  exact{(r/Dr+1)*Dr,F4,ts++ts1,Vo r W0,M,by rw[ed];exact I2.move s4 f4,ed}
 .have c:¬r<e0:=λy=>c (WR y);have hl:=I.li;have ln:=I.len;refine{_,M,l,M,{_,Kv.of hl},λD hD=>?_};refine nz (K:=K) (a:=l) (xs:=ts.map λe=>V.ref e.p) (λn ys H3=>H3=upd H' D (.lst ys)/\ys=((ts.take n).filter λe=>decide (lo<=QK e.k)&&decide (QK e.k<hi)).map (λe=>V.ref e.p)) ⟨M,M⟩
   (λn ys H3 _ w=>Kv.of<|by rwa[w.1,af (am hl hD)]) (λn v ys H3 hv w U=>?_) (λys H3 w U=>?_)
  .let{e1,e2}:=w;have hn:=(Q3.mp hv).1;let{e,rfl,Y}:=HZ hv;have te:=(I.tu e<|Q2 Y).1;have ba:H3 e.p=some (.tup [.int (QK e.k),.int e.k,e.v]):=by rwa[e1,af (am te hD)]
   have yl:ys.length<=ts.length:=by
    rw[e2,Q1];have h1:=Zd (λe:Tp=>decide (lo<=QK e.k)&&decide (QK e.k<hi)) (ts.take n);have h2:(ts.take n).length<=ts.length:=by rw[Q7];lia
    lia
   refine{_,M,_,M,e.p,_,_,_,M,M,QO.of ba,M,_,_,M,M,_,M,?_};by_cases c1:lo<=QK e.k
   .refine nY c1 {_,M,_,_,M,M,_,M,?_};by_cases c2:QK e.k<hi
    .refine nY c2 {_,M,QF.mk hn U (bh ()) {by rw[e1,cR],?_}};rw[e2,Zg,Y,Zt,Z6];simp[c1,c2]
    .refine a6 c2<|Qi.mk hn U {e1,?_};rw[e2,Zg,Y,Zt];simp[c1,c2]
   .refine a6 c1 {_,M,cm<|Qi.mk hn U {e1,?_}};rw[e2,Zg,Y,Zt];simp[c1]
  .let{e1,e2}:=w;rw[Q1,Zn]at e2;have s3:G3 H' H3:=by rw[e1];exact al hD
   have Z:(ts.filter λe=>decide (lo<=QK e.k)&&decide (QK e.k<hi)).Sublist ts:=XG;have fm:∀e,e∈(ts.filter λe=>decide (lo<=QK e.k)&&decide (QK e.k<hi))↔e∈ts/\lo<=QK e.k/\QK e.k<hi:=λe=>by
    rw[Zj,Zs,WY,WY]
   generalize (ts.filter λe=>decide (lo<=QK e.k)&&decide (QK e.k<hi))=fs at e2 Z fm;have aw:∀e∈fs,(e.k,e.v)∈st.kv:=λe he=>((I.me e.k e.v).mp<|XF (f:=Tp.kv) ((fm e).mp he).1).1;have t3:∀e∈fs,∃i:Int,e.v= .int i/\H3 e.p=some (.tup [.int (QK e.k),.int e.k,.int i]):=λe he=>by
    let{i,ei}:=hint _ (aw e he);have te:=s3 _ _ (I.tu e ((fm e).mp he).1).1;have ei:e.v= .int i:=ei;rw[ei]at te;exact⟨i,ei,te⟩
   refine{D,fs.map (·.p),ky3 H3,M,Kv.of (by rw[U,e2,Zp];rfl),λb hb=>?_,λl2 bs bb pm pw=>?_}
   .let{e,he,rfl}:=Z5.mp hb;let{i,_,te}:=t3 e he;exact{_,_,_,te,Ey te}
   let{us,up,ue}:=Bz pm;subst ue;have um:∀e,e∈us↔e∈fs:=λe=>up.mem_iff;have nk:(fs.map (·.k)).Nodup:=by
    have h0:=I.nd;rw[Zp]at h0;exact h0.sublist<|Z.map _
   have a1:=OL up (λe he=>(t3 e he).imp λ_ h=>h.2) nk pw;have aa:∀k v,(k,v)∈us.map Tp.kv↔(k,v)∈st.kv/\lo<=QK k/\QK k<hi:=λk v=>by
    constructor
    .intro h;let{e,he,Y}:=Z5.mp h;cases Y;have he:=(um e).mp he;exact{aw e he,((fm e).mp he).2}
    .rintro ⟨h1,h2,h3⟩;have pb:=Nt k;have b1:=Int.ediv_mul_le r0 (ZU W0);have h4:(k,v)∈ts.map Tp.kv:=(I.me k v).mpr {h1,(),()};let{e,he,Y}:=Z5.mp h4;cases Y;exact Z5.mpr {e,(um e).mpr<|(fm e).mpr ⟨he,h2,h3⟩,M}
   have ul:us.length<=ts.length:=by rw[up.length_eq];exact Z.length_le
   have e8:upd H3 l2 (.lst ((us.map (·.p)).map V.ref)) l2=some (.lst<|us.map λe=>V.ref e.p):=by rw[ag,Zp];rfl
   have s8:G3 H' (upd H3 l2 (.lst ((us.map (·.p)).map V.ref))):=s3.trans (al bb);have t8:∀e∈us,upd H3 l2 (.lst ((us.map (·.p)).map V.ref)) e.p=some (.tup [.int (QK e.k),.int e.k,e.v]):=λe he=>s8 _ _ (I.tu e ((fm e).mp<|(um e).mp he).1).1;generalize upd H3 l2 (.lst ((us.map (·.p)).map V.ref))=H8 at e8 s8 t8⊢;refine{_,M,l2,M,{_,Kv.of e8},λD2 a2=>?_};refine qg (K:=K) (a:=l2) (xs:=us.map λe=>V.ref e.p) (λn ys H9=>G3 H8 H9/\∃ws:List Tp,ys=ws.map (λe=>V.ref e.p)/\ws.map Tp.kv=(us.take n).map Tp.kv/\∀e∈ws,e.p≠D2/\H8 e.p=none/\H9 e.p=some (.tup [.int e.k,e.v]))
    {al a2,[],M,M,λe he=>by cases he} (λn ys H9 _ w=>Kv.of<|w.1 _ _ e8) (λn v ys H9 hv w G=>?_) (λys H9 w G=>?_)
   .let{s9,ws,ey,ek,ew}:=w;have hn:=(Q3.mp hv).1;let{e,rfl,Y}:=HZ hv;have te:=s9 _ _ (t8 e<|Q2 Y);refine{_,M,e.p,_,_,_,M,M,QO.of te,M,_,M,e.p,_,_,_,M,M,QO.of te,M,(by show 2<=sizeLine;decide),λp2 a0=>?_};have pd:p2≠D2:=λz=>by rw[z,G]at a0;cases a0
    have wl:ws.length<=us.length:=by
     have:=Y2 List.length ek;rw[Q1,Q1,Q7]at this;lia
    refine QF.mk hn (by rwa[af pd.symm]) (bh<|by rw[ey,Q1];lia) {b6 (s9.trans<|al a0) a2,ws++ [⟨p2,e.k,e.v⟩],by rw[ey,Z6];rfl,?_,λf hf=>?_}
    .rw[Z6,ek,Zg,Y,Z6];rfl
    .rcases Q6.mp hf with hf|hf
     .let{g1,g2,g3}:=ew f hf;exact{g1,g2,by rw[af g1];exact al a0 _ _ g3}
     .rw[Q9.mp hf];exact{pd,none_of s9 a0,by rw[af pd];exact ag}
   .let{s9,ws,ey,ek,ew}:=w;rw[Q1,Zn]at ek;have sm:=s8.trans s9;refine q H9 F' D2 ws (I.sl.same sm) (I.fr.trans<|Fr.of_same sm) (I.sl.out<|none_of s8 a2) (λnF=>tU (I.fr.trans<|Fr.of_same s8) nF a2) (by rw[G,ey]) (λe he=>?_) (by rwa[ek]) (by rwa[ek]);let{_,g2,g3}:=ew e he;exact{g3,I.sl.out<|none_of s8 g2}
def gO(e:A[j]?=some c):RM (A.map V.ref) (j:Int)=some (.ref c):=by
 refine qj ?_;rw[Zf,e];rfl
def FH(ne:x≠[])(e:x[x.length-1]?=some m):RM (x.map V.int) (-1)=some (.int m):=by
 have hl:=Xa.mpr ne;unfold RM RW;rw[Q1,WI (_),WJ ()];show(x.map V.int)[((-1:Int)+(x.length:Int)).toNat]?=_;have:((-1:Int)+(x.length:Int)).toNat=x.length-1:=();rw[this,Zf,e];rfl
def Fk(h:i<A.length):RW (A.map V.ref).length (i:Int)=some i:=by
 unfold RW;rw[WJ (),WJ (by rw[Q1];lia)];rfl
theorem sd:∀(A:Si)(i:Nat),(A.map V.ref).eraseIdx i=(A.eraseIdx i).map V.ref
 | [],_=>rfl
 |_::_,0=>rfl
 |a::r,i+1=>by
  show V.ref a::(r.map V.ref).eraseIdx i=V.ref a::(r.eraseIdx i).map V.ref;rw[sd r i]
theorem AG:∀(ls:Sv)(i:Nat)(y:O'),(ls.set i y).eraseIdx i=ls.eraseIdx i
 | [],_,_=>rfl
 |_::_,0,_=>rfl
 |x::r,i+1,y=>by
  show x::(r.set i y).eraseIdx i=x::r.eraseIdx i;rw[AG r i y]
def MN(a:G')(k:Int)(ls:Sv)(H:Hp):Nat->St->Hp->Prop:=λm W H'=>∃(lo hi:Nat)(v4:Su),m=hi-lo/\H'=H/\W=[some (.ref a),some (.int k),some (.int (lo:Int)),some (.int (hi:Int)),v4]/\lo<=hi/\hi<=ls.length/\
 (∀(j:Nat)(x:O'),j<lo->ls[j]?=some x->∀y∈x,y<k)/\∀(j:Nat)(x:O'),hi<=j->ls[j]?=some x->∃y∈x,k<=y
def rA(t:PL):Sp:=λvs H Q _=>∃(a:G')(k:Int)(L:G')(A:Si)(ls:Sv),vs=[.ref a,.int k]/\Qj t H a L A ls/\(∀l∈ls,l≠[])/\dD ls.flatten/\∀i:Nat,QT ls k i->Q (.int (i:Int)) H
def cn:Ck P w K mg base PP 1 t.jU t.fW [cC,et] (rA t):=by
 refine T.FN.okl rG λs H vs Q E hr h _=>?_;intro X;let{a,k,L,A,ls,rfl,hb,ne,up,q}:=h;refine aj (PN 2 ae)
   (aj (PN 3<|aI aE {_} T.bT bi (ac (ar Ca M) ai))
   (bU (λx=>(oJ WX (ay dW P8 PR<|au _)
    x)) ?_))
 refine aj (PN 4<|ao aP (ao bx P8 PR) ae)
   (aB (aO (ay dW (aS aU (aS aU (ar Ca M) QI<|λ_ _=>M) (Ij DY ae)<|λ_ _=>M) M2<|au _)
    (aA<|PN 2<|ao bx QI ae)
    (aA<|PN 3 QI)) ?_)
 intros
 refine aB (aD P8) ?_
 intros
 let{dx,ho}:=hb.obj;have lA:((A.map V.ref).length:Int)=(ls.length:Int):=by rw[Q1,hb.len]
 refine{_,M,a,_,dx,_,_,M,ho,T.aN,T.aG,dw,L,_,M,.inl<|Kv.of hb.lst,?_};dsimp only;rw[lA];refine{MN a k ls H,{_,0,ls.length,none,M,M,M,Za _,Q5 _,λj x h=>WN h (),λj x h e=>?_},?_}
 .have:=(Q3.mp e).1;lia
 rintro m W H' ⟨lo,hi,v4,rfl,rfl,rfl,h1,h2,h3,h4⟩;refine{_,M,_,M,_,_,M,M,_,M,bL (λc=>?_)<|λc=>?_}
 .have c:lo<hi:=by have:=WP c;lia
  refine{λY H''=>∃m',m'<hi-lo/\MN a k ls H' m' Y H'',λ_ _ h=>h,?_};refine{_,M,_,M,_,_,M,M,_,_,M,M,{(_),(_)},?_};obtain⟨G,em,m1,m2⟩:∃G:Nat,((lo:Int)+(hi:Int))/2=(G:Int)/\lo<=G/\G<hi:={(lo+hi)/2,(),(),()};dsimp only;rw[em];have hm:G<ls.length:=();have ex:ls[G]?=some ls[G]:=Q4 hm;let{b,eb,Z}:=hb.at ex;have I:=ne _ (Xu hm);let{g,eg,gm,O}:=Jb (K5 up ex) I;refine{_,M,a,_,dx,_,_,M,ho,T.aN,T.aG,dw,_,M,L,_,_,_,M,M,Kv.of hb.lst,gO eb,_,M,b,_,_,_,M,M,Kv.of Z,FH I eg,_,M,_,_,M,M,_,M,bL (λU=>?_)<|λU=>?_}
  .have U:=WP U;refine{_,M,_,_,M,M,hi-(G+1),(),G+1,hi,_,M,M,M,(),h2,λj x hj e y hy=>?_,h4};rcases(show j<G\/j=G by lia)with h|h
   .have:=Ae up e ex h y hy g gm;lia
   .subst h;rw[ex]at e;cases e;have:=O y hy;lia
  .have U:¬g<k:=λz=>U (WR z);refine{_,M,G-lo,(),lo,G,_,M,M,M,(),(),h3,λj x hj e=>?_};rcases(show j=G\/G<j by lia)with h|h
   .subst h;rw[ex]at e;cases e;exact{g,gm,()}
   .let{y,hy}:=List.exists_mem_of_ne_nil x (ne x<|Q2 e);have:=Ae up ex e h g gm y hy;exact{y,hy,()}
 .have c:¬lo<hi:=λz=>c (WR ());have:lo=hi:=();subst this;exact{_,M,q lo {h2,h3,λx e=>h4 lo x (Q5 _) e}}
theorem Dd{k:Int}:∀{x:O'},inV (.int k) (x.map V.int)=decide (k∈x)
 | []=>rfl
 |a::r=>by
  have G:=Dd (k:=k) (x:=r);unfold inV at G⊢;rw[Zk,Vh,G];have:Rr (.int a) (.int k)=decide (k=a):=by
   show(a==k)=_;by_cases c:a=k
   .subst c;simp
   .have I:¬k=a:=λz=>c z.symm;simp[c,I]
  rw[this];by_cases c:k=a
  .simp[c]
  .simp[c]
def GO:(x.map V.int).all tY=true:=by
 rw[List.all_map];exact XJ.mpr λ_ _=>rfl
def oR:Ck P w K mg base PP 2 t.qZ t.kO [cC,et] (wV K t):=by
 refine T.KD.okl xo λs H vs Q E hr h _=>?_;intro X;let{a,k,F,ks,rfl,I,q}:=h;refine aj (PN 2<|aT Ca T.aN T.du (cn T) hr.mo T.dC .nil az<|ac M2 ai)
   (aB (aD<|fO (bI dW P8 (aI aE {_} T.bT bi (ac (ar Ca M) ai))<|au _)<|c7<|bI Go M2 (aS aU (ar Ca M) P8<|λ_ _=>M) M) ?_)
 intros
 let{dx,fs,hi,hm}:=I.ins;have q:=q H F I Fr.refl;let{L,A,ls,hb,ok,U,hF}:=I;let{G,Y}:=hb.obj;have lA:((A.map V.ref).length:Int)=(ls.length:Int):=by rw[Q1,hb.len]
 refine{_,M,a,dx,fs,M,hi,hm _ ∅,_,M,a,k,L,A,ls,M,hb,ok.ne,ok.up,λi Z=>?_};refine{_,M,_,M,a,_,G,_,_,M,Y,T.aN,T.aG,dw,L,_,M,.inl<|Kv.of hb.lst,_,_,M,M,_,M,bL (λc=>?_)<|λc=>?_}
 .have c:=WP c;have hi:i<ls.length:=();have ex:ls[i]?=some ls[i]:=Q4 hi;let{b,eb,O}:=hb.at ex;refine{_,M,_,M,a,_,G,_,_,M,Y,T.aN,T.aG,dw,_,M,L,_,_,_,M,M,Kv.of hb.lst,gO eb,b,_,M,.inl<|Kv.of O,M,GO,?_};show Q (.bl<|inV (.int k)<|ls[i].map V.int) H;rw[Dd];have:k∈ls[i]↔k∈ks:=by
   rw[<-U,Z.mem ok];constructor
   .exact λz=>{_,ex,z}
   .rintro ⟨x,e,z⟩;rw[ex]at e;cases e;exact z
  rw[decide_eq_decide.mpr this];exact q
 .have c:¬(i:Int)<((A.map V.ref).length:Int):=λz=>c (WR z);have:k∉ks:=λz=>by
   rw[<-U,Z.mem ok]at z;let{x,e,_}:=z;have:=(Q3.mp e).1;lia
  rw[WU this]at q;exact q
def wn:Ck P w K mg base PP 1 t.pS t.jy [cC] (vN K t):=by
 refine T.J8.okl vY λs H vs Q E Y h _=>?_;intro X;let{a,dx,rfl,ha,hd,q}:=h;refine{_,(aA<|bp Ca (cu ai) M)
  ,?_}
 refine{Za _,λL G=>{_,M,a,_,dx,[],M,(by rwa[af (am ha G)]),T.aN,T.aG,(by show 0<1000;decide),?_}};have U:=am ha G;refine q _ (Qy a L []) {L,[],[],{⟨dx,ag⟩,by rw[af U.symm];exact ag,M,(λj b l e=>by simp at e),(λi j b e=>by simp at e),(λz=>by cases z)},QH.nil,M,λb=>Iff.rfl} λb o n w=>?_;have I:b≠a:=λy=>n (.inl y);have O:b≠L:=am w G;refine{by rwa[af I,af O],λy=>?_};rcases y with y|y|y
 .exact I y
 .exact O y
 .cases y
def oe(t:PL):Sp:=λvs H Q _=>∃(a L:G')(A:Si)(ls:Sv)(i:Nat)(x:O'),vs=[.ref a,.int (i:Int)]/\Qj t H a L A ls/\ls[i]?=some x/\x.length=9/\ls.length<5000/\
 ∀H' A',Qj t H' a L A' ((ls.set i<|x.take 4).take (i+1)++x.drop 4::(ls.set i<|x.take 4).drop (i+1))->Fr (Qy a L A) (Qy a L A') H H'->Q .non H'
def oQ:Ck P w K mg base PP 1 t.iB t.eD [cC,qP] (oe t):=by
 refine T.DO.okl ot λs H vs Q E hr h _=>?_;intro X;let{a,L,A,ls,i,x,rfl,hb,ex,lx,ll,q}:=h;refine aj (PN 2<|aS aU (ar Ca M) M2<|λ_ _=>M)
   (aj (PN 3<|ao aP (aI aE {_} T.bT bi (ac P8 ai)) ae)
   (aj (xB (eK gK P8 iG<|fL PR)<|By (ar Ca M) M2 sQ)
   (aB (aM<|dH Zi PySem.F.slot_list_insert PySem.F.type_list_insert Ar (ar Ca M)<|ac (ao bx M2 ae)<|ac (eK gK P8 (fL PR) iG) ai) ?_)))
 intros
 let{dx,ho}:=hb.obj;let{c,ec,hc}:=hb.at ex;have b1:i<A.length:=(Q3.mp ec).1;have a0:((x.map V.int).length:Int)=9:=by rw[Q1,lx];rfl
 refine{_,M,a,_,dx,_,_,M,ho,T.aN,T.aG,dw,_,M,L,_,_,_,M,M,Kv.of hb.lst,gO ec,?_};refine{_,M,c,_,M,.inl<|Kv.of hc,_,_,M,M,{(_),(_)},?_};dsimp only;rw[a0];have a1:qt (x.map V.int) none (some<|9/2)=(x.take 4).map V.int:=by
  unfold qt;rw[Q1,lx];show((x.map V.int).drop 0).take (4-0)=_;rw[Xj,Xg]
 have a2:qt (x.map V.int) (some<|9/2) none=(x.drop 4).map V.int:=by
  unfold qt;rw[Q1,lx];show((x.map V.int).drop 4).take (9-4)=_;rw[Vi,Zo (by rw[Zw,Q1,lx];exact Q5 _)]
 refine{_,M,_,M,_,M,c,_,M,Kv.of hc,λG O=>?_};rw[a1];have s1:G3 H (upd H G<|.lst<|(x.take 4).map V.int):=al O;have hb1:=hb.same s1;have a3:upd H G (.lst<|(x.take 4).map V.int) G=some (.lst<|(x.take 4).map V.int):=ag;have b2:=hb.out O;have a4:=s1 _ _ ho;have a5:=s1 _ _ hc;have a9:=s1 _ _ hb.lst;generalize upd H G (.lst<|(x.take 4).map V.int)=H1 at s1 hb1 a3 a4 a5 a9⊢;refine{_,M,a,_,dx,_,_,M,a4,T.aN,T.aG,dw,_,M,L,_,_,_,M,M,a9,Fk b1,?_};have es:(A.map V.ref).set i (V.ref G)=(A.set i G).map V.ref:=by rw[VI]
 rw[es];have I:=hb1.swap ec ex a3 b2;have cL:c≠L:=λz=>hb.nL (z▸Q2 ec);have aa:upd H1 L (.lst<|(A.set i G).map V.ref) c=some (.lst<|x.map V.int):=by rwa[af cL]
 let{b3,ah}:=I.obj;have U:=I.lst;have f2:Fr (Qy a L A) (Qy a L<|A.set i G) H (upd H1 L<|.lst<|(A.set i G).map V.ref):=λb o n w=>by
  have w1:=s1 _ _ w;refine{by rwa[af (λy=>n<|.inr<|.inl y)],λy=>?_};rcases y with y|y|y
  .exact n<|.inl y
  .exact n<|.inr (.inl y)
  .rcases List.mem_or_eq_of_mem_set y with y|y
   .exact n<|.inr (.inr y)
   .rw[y,O]at w;cases w
 generalize upd H1 L (.lst<|(A.set i G).map V.ref)=H2 at I aa ah U f2⊢;refine{_,M,a,_,b3,_,_,M,ah,T.aN,T.aG,dw,.inl {M,_,Kv.of U},_,M,_,_,M,M,_,M,_,M,_,M,c,_,M,Kv.of aa,λZ Y=>?_};rw[a2];have s3:G3 H2 (upd H2 Z<|.lst<|(x.drop 4).map V.int):=al Y;have an:=I.same s3;have aw:upd H2 Z (.lst<|(x.drop 4).map V.int) Z=some (.lst<|(x.drop 4).map V.int):=ag;have b4:=I.out Y;have ax:=s3 _ _ U;generalize upd H2 Z (.lst<|(x.drop 4).map V.int)=H3 at s3 an aw ax⊢;have lS:(A.set i G).length=A.length:=ZD;refine{L,_,_,_,M,M,ax,(),(by rw[Q1,lS];lia),(by rw[Q1,lS,hb.len];exact bh ()),?_};have ei:((i:Int)+1).toNat=i+1:=();have b5:=an.insert (i:=i+1) (by rw[lS];lia) aw b4;rw[ei];have em:((A.set i G).map V.ref).take (i+1)++V.ref Z::((A.set i G).map V.ref).drop (i+1)=((A.set i G).take (i+1)++Z::(A.set i G).drop (i+1)).map V.ref:=by
  rw[Z6,Zk,Xg,Vi]
 rw[em];refine q _ _ b5<|f2.trans (λb o n w=>?_);have w3:=s3 _ _ w;refine{by rwa[af (λy=>n<|.inr<|.inl y)],λy=>?_};rcases y with y|y|y
 .exact n<|.inl y
 .exact n<|.inr (.inl y)
 .rcases Q6.mp y with y|y
  .exact n<|.inr (.inr<|ZB y)
  .rcases Zb.mp y with y|y
   .rw[y,Y]at w;cases w
   .exact n<|.inr (.inr<|Vm y)
def Qj.insM{L:G'}(h:Qj t H a L A ls):∃dx fs,H a=some (.ins t.bK dx fs)/\∀m,m≠(gt:Str)->fs.lookup m=none:=by
 let{dx,z}:=h.obj;exact{dx,_,z,λm G=>MC G}
def xO:Ck P w K mg base PP 3 t.q9 t.kP [cC,et] (wX K t):=by
 let{I,G}:=T.g_MOST_IN_LEAF;refine T.KF.okl xp λs H vs Q E hr h _=>?_;intro X;let{a,k,F,ks,rfl,hA,hl,q1,q2}:=h;refine aj (aO (bF<|aT Ca T.aN T.zQ (oR T) hr.mo T.zW .nil az<|ac M2 ai)
    (aA jL)
    aF)
   (bU (λx=>aO (ay bJ (aI aE {_} T.bT bi (ac (ar Ca M) ai)) ae<|au _) x aF) ?_)
 refine aj (aM<|dH Zi ZQ ZR dS (ar Ca M)<|ac (cu<|ac M2 ai) ai)
   (aB p7 ?_)
 intros
 refine aj (PN 2<|aI (lI M) {_} T.z7 sw (ac (aT Ca T.aN T.du (cn T) hr.mo T.dC .nil az<|ac M2 ai)<|ac (ao jf (aI aE {_} T.bT bi (ac (ar Ca M) ai)) ae) ai))
   (aj (PN 3<|aS aU (ar Ca M) P8<|λ_ _=>M)
   (aj (aM<|dH Zi PySem.F.slot_list_insert PySem.F.type_list_insert Ar PR<|ac (aI aE {_} T.bT bi (ac (tE M (PM.of (M':=["one"]) (N:=[cC,et,qP,"leaf"]) (N':=[cC,et,qP,"leaf"]) (dsc:=ak gM) M M ∅) (dj PR) (λ_ _ _ _ _=>(ay dW Ca P8<|au _))<|λ_ _ _ _ _=>Ca) ai))<|ac M2 ai)
   (aB (aO (ay Al (aI aE {_} T.bT bi (ac PR ai)) (dn (v:= .int 8) {_} G {_,M})<|au _)
    (aA<|aM<|aT Ca T.aN T.DG (oQ T) hr.mo T.DL .nil az<|ac P8 ai)
    aF) ?_)))
 intros
 let{dx,fs,hi,hm}:=hA.ins;refine{_,M,a,dx,fs,M,hi,hm _ ∅,_,M,a,k,F,ks,M,hA,λH0 F0 a5 a0=>?_};by_cases ck:k∈ks
 .rw[WR ck];refine{_,M,b8 ?_};exact(q2 ck).elim
 rw[WU ck];refine{_,M,cm ?_};have q:=q1 ck;let{L,A,ls,hb,ok,ef,hF}:=a5;let{O,ho}:=hb.obj;have lA:((A.map V.ref).length:Int)=(ls.length:Int):=by rw[Q1,hb.len]
 have sh:=ok.short;rw[ef]at sh;have fr:Fr F (Qy a L A) H H0:=λb o n e=>{(a0 b o n e).1,λy=>(a0 b o n e).2<|(hF b).mpr y};have nk:k∉ls.flatten:=by rwa[ef]
 by_cases ce:ls=[]
 .subst ce;have eA:A=[]:=List.length_eq_zero_iff.mp hb.len;subst eA;refine{_,M,a,_,O,_,_,M,ho,T.aN,T.aG,dw,L,_,M,.inl<|Kv.of hb.lst,M,_,M,dU M ?_};refine{_,M,a,_,O,_,_,M,ho,T.aN,T.aG,dw,.inl {M,_,Kv.of hb.lst},_,M,(by show 1<=sizeLine;decide),λn nn=>?_};have s1:G3 H0 (upd H0 n<|.lst [.int k]):=al nn;have hb1:=hb.same s1;have a9:upd H0 n (.lst [.int k]) n=some (.lst<|([k]:O').map V.int):=ag;have nF:=hb.out nn;have aa:=s1 _ _ hb.lst;refine{L,_,_,M,M,aa,cv (by show 0<=1000;decide),?_};have ah:=hb1.insert (i:=0) (Za _) a9 nF;have an:QH [[k]]:={(λl hl=>by rw[Q9.mp hl];simp),(λl hl=>by rw[Q9.mp hl];simp),(λi x y e1 e2=>by simp at e2),by show dD [k];exact Xk _ _};refine q _ (Qy a L [n]) [k] {L,[n],[[k]],ah,an,M,λb=>Iff.rfl} (λz=>?_)<|fr.trans λb o n' w=>?_
  .rw[<-ef];simp
  .have w1:=s1 _ _ w;refine{by rwa[af (λy=>n'<|.inr<|.inl y)],λy=>?_};rcases y with y|y|y
   .exact n'<|.inl y
   .exact n'<|.inr (.inl y)
   .rw[Q9.mp y,nn]at w;cases w
 .have bl:=Xa.mpr ce;refine{_,M,a,_,O,_,_,M,ho,T.aN,T.aG,dw,L,_,M,.inl<|Kv.of hb.lst,M,_,M,a6 (λw=>?_) ?_}
  .have:=V.int.inj w;lia
  let{aw,ax,b1,b2}:=hb.insM;refine{_,M,a,aw,ax,M,b1,b2 _ ∅,_,M,a,k,L,A,ls,M,hb,ok.ne,ok.up,λi li=>?_};refine{_,M,a,_,O,_,_,M,ho,T.aN,T.aG,dw,L,_,M,.inl<|Kv.of hb.lst,_,_,M,M,_,_,M,?_};let{x,ad}:=li.add ok ce;have em:(if((A.map V.ref).length:Int)-1<(i:Int)then((A.map V.ref).length:Int)-1 else(i:Int))=((min i (ls.length-1):Nat):Int):=by
   rw[lA];split<;>lia
  dsimp only;rw[em];generalize min i (ls.length-1)=j at ad⊢;let{c,ec,hc}:=hb.at ad.at_;have jl:j<ls.length:=(Q3.mp ad.at_).1;have x8:=ok.le x (Q2 ad.at_);refine{_,M,a,_,O,_,_,M,ho,T.aN,T.aG,dw,_,M,L,_,_,_,M,M,Kv.of hb.lst,gO ec,?_};refine{_,M,.inl {M,_,Kv.of hc},_,M,c,M,{_,Kv.of hc},λD hD=>?_};refine nz (K:=K) (a:=c) (xs:=x.map V.int) (λn ys H3=>H3=upd H0 D (.lst ys)/\ys=((x.take n).filter<|λz=>decide (z<k)).map V.int) ⟨M,M⟩ (λn ys H3 _ w=>Kv.of<|by rwa[w.1,af (am hc hD)]) (λn v ys H3 hv w U=>?_)<|λys H3 w U=>?_
  .let{e1,e2}:=w;obtain⟨g,rfl,eg⟩:∃g:Int,v= .int g/\x[n]?=some g:=by
    rw[Zf]at hv;cases e:x[n]? with
    |none=>rw[e]at hv;cases hv
    |some g=>rw[e]at hv;cases hv;exact⟨g,M,M⟩
   have hn:n<(x.map V.int).length:=(Q3.mp hv).1;refine{_,M,_,M,_,_,M,M,_,M,?_};have fl:ys.length<=8:=by
    rw[e2,Q1];have h1:=Zd (λz=>decide (z<k)) (x.take n);have h2:(x.take n).length<=x.length:=by rw[Q7];lia
    lia
   by_cases cg:g<k
   .refine nY cg {_,M,QF.mk hn U (cv ()) {by rw[e1,cR],?_}};rw[e2,Zg,eg,Zt,Z6];simp[cg]
   .refine a6 cg<|Qi.mk hn U {e1,?_};rw[e2,Zg,eg,Zt];simp[cg]
  .let{e1,e2}:=w;rw[Q1,Zn]at e2;have s3:G3 H0 H3:=by rw[e1];exact al hD
   have b3:=hb.same s3;have b4:=s3 _ _ hc;have yl:(ys.length:Int)=((x.filter<|λz=>decide (z<k)).length:Int):=by rw[e2,Q1]
   have bn:=Zd (λz=>decide (z<k)) x;refine{D,_,M,.inl<|Kv.of U,_,M,c,_,_,_,M,M,b4,(),(by rw[Q1];lia),(by rw[Q1];exact cv ()),?_};have ei:(x.map V.int).take (ys.length:Int).toNat++V.int k::(x.map V.int).drop (ys.length:Int).toNat=(gT x k).map V.int:=by
    rw[yl,Zx];unfold gT;rw[Z6,Zk,Xg,Vi]
   dsimp only;rw[ei];have Y:=b3.write (y:=gT x k) ec ad.at_;have il:=Jj (l:=x) (k:=k);let{a1,Z}:=ad.set ok nk;have cF:Qy a L A c:= .inr (.inr<|Q2 ec);have f4:Fr (Qy a L A) (Qy a L A) H0 (upd H3 c<|.lst<|(gT x k).map V.int):=λb o n w=>{by rw[af (λy=>n<|by rwa[y])];exact s3 _ _ w,n};have a2:upd H3 c (.lst<|(gT x k).map V.int) c=some (.lst<|(gT x k).map V.int):=ag;generalize upd H3 c (.lst<|(gT x k).map V.int)=H4 at Y f4 a2⊢;refine{_,M,c,_,M,.inl<|Kv.of a2,_,_,M,M,_,M,?_};have ll:((gT x k).map V.int).length=x.length+1:=by rw[Q1,il]
   by_cases c9:x.length=8
   .refine nY (by rw[ll];lia) ?_;let{b5,b9,ba,bb}:=Y.insM;have e5:(ls.set j<|gT x k)[j]?=some (gT x k):=by rw[Zm,WJ M,WJ jl]
    refine{_,M,a,b5,b9,M,ba,bb _ ∅,_,M,a,L,A,_,j,_,M,Y,e5,(),by rw[ZD];lia,λH6 A6 a3 f6=>?_};have er:(ls.set j<|gT x k).set j ((gT x k).take 4)=ls.set j ((gT x k).take 4):=List.set_set _;rw[er]at a3;have bd:dD (ls.set j<|(gT x k).take 4++(gT x k).drop 4).flatten:=by rwa[ZI]
    let{be,a4}:=ok.parted ad.at_ (a:=(gT x k).take 4) (b:=(gT x k).drop 4) (by rw[Q7];lia) (by rw[Zw];lia) bd;rw[ZI]at a4;refine q H6 _ _ {L,A6,_,a3,be,M,λb=>Iff.rfl} (λz=>?_)<|fr.trans (f4.trans f6);rw[a4,Z,ef]
   .refine a6 (by rw[ll];lia) ?_;have bf:=ok.grown ad.at_ (y:=gT x k) () () a1;exact q H4 _ _ {L,A,_,Y,bf,M,λb=>Iff.rfl} (λz=>by rw[Z,ef])<|fr.trans f4
def nS(t:PL):Sp:=λvs H Q _=>∃(a L:G')(A:Si)(ls:Sv)(i:Int),vs=[.ref a,.int i]/\Qj t H a L A ls/\-1<=i/\i<(ls.length:Int)/\(∀l∈ls,l.length<=8)/\ls.length<5000/\
 ∀H' A' ls',Qj t H' a L A' ls'->ls'=(if 0<=i then qL ls i.toNat else ls)->Fr (Qy a L A) (Qy a L A') H H'->Q .non H'
def IJ{n:G'}(h:b∈A.set i n):b∈A\/b=n:=List.mem_or_eq_of_mem_set h
def nW:Ck P w K mg base PP 1 t.gU t.dL [cC,qP] (nS t):=by
 let{I,z}:=T.g_LEAST_IN_TWO;refine T.DD.okl nV λs H vs Q E hr h _=>?_;intro X;let{a,L,A,ls,i,rfl,hb,i0,i1,l8,ll,q}:=h;refine aj (aO (PW.pt<|jJ (ay dW M2 ae<|au _)<|jc<|ay bJ (ao bx M2 ae) (aI aE {_} T.bT bi (ac (ar Ca M) ai))<|au _)
    (aA p7)
    aF)
   (aj (PN 2<|ao Nz (aS aU (ar Ca M) M2<|λ_ _=>M)<|aS aU (ar Ca M) (ao bx M2 ae)<|λ_ _=>M)
   (lu (λx=>aO (ay dW (aI aE {_} T.bT bi (ac P8 ai)) (dn (v:= .int 5) {_} z {_,M})<|au _) x aF) ?_))
 refine aj (xB P8<|By (ar Ca M) M2 sQ)
   (aB (aM<|dH Zi PySem.F.slot_list_pop PySem.F.type_list_pop CO (ar Ca M)<|ac (ao bx M2 ae) ai) ?_)
 intros
 let{dx,ho}:=hb.obj;have lA:((A.map V.ref).length:Int)=(ls.length:Int):=by rw[Q1,hb.len]
 by_cases c0:i<0
 .refine{_,M,_,_,M,M,_,M,nY c0 ?_};exact b8<|q H A ls hb (by rw[WI ()]) Fr.refl
 refine{_,M,_,_,M,M,_,M,a6 c0 ?_};let{n,rfl}:=X9 (show 0<=i by lia);have en:((n:Int)).toNat=n:=Zx n;rw[WJ (),en]at q;refine{_,M,_,_,M,M,_,M,a,_,dx,_,_,M,ho,T.aN,T.aG,dw,L,_,M,.inl<|Kv.of hb.lst,M,_,M,?_};by_cases c1:n+1=ls.length
 .refine dU (Y2 V.int<|by rw[lA];lia) ?_;exact q H A ls hb (ye ()).symm Fr.refl
 refine a6 (λw=>c1<|by have:=V.int.inj w;rw[lA]at this;lia) ?_;have hn:n<ls.length:=();have U:n+1<ls.length:=();have ex:ls[n]?=some ls[n]:=Q4 hn;have ey:ls[n+1]?=some ls[n+1]:=Q4 U;have x8:=l8 _ (Xu hn);have y8:=l8 _ (Xu U);generalize ls[n]=x at ex x8;generalize ls[n+1]=y at ey y8;let{c,ec,hc}:=hb.at ex;let{d,ed,hd}:=hb.at ey;have ah:(n:Int)+1=((n+1:Nat):Int):=M;refine{_,M,a,_,dx,_,_,M,ho,T.aN,T.aG,dw,_,M,L,_,_,_,M,M,Kv.of hb.lst,gO ec,_,M,a,_,dx,_,_,M,ho,T.aN,T.aG,dw,_,M,_,_,M,M,L,_,_,_,M,M,Kv.of hb.lst,gO ed,c,d,_,_,M,M,hc,hd,ZH<|cv (by rw[Q1,Q1];lia),λG Y=>?_};rw[<-Z6];have s1:G3 H (upd H G<|.lst<|(x++y).map V.int):=al Y;have hb1:=hb.same s1;have Z:upd H G (.lst<|(x++y).map V.int) G=some (.lst<|(x++y).map V.int):=ag;have nF:=hb.out Y;have a1:=s1 _ _ ho;have a2:=s1 _ _ hb.lst;generalize upd H G (.lst<|(x++y).map V.int)=H1 at s1 hb1 Z a1 a2⊢;refine{_,M,G,_,M,.inl<|Kv.of Z,_,_,M,M,_,M,?_};have a3:(((x++y).map V.int).length:Int)=(x.length:Int)+(y.length:Int):=by rw[Q1,Q8];rfl
 rw[Db ex ey]at q;by_cases c5:x.length+y.length<5
 .refine nY (by rw[a3];lia) ?_;rw[WJ c5]at q;have nA:n<A.length:=by rwa[hb.len]
  refine{_,M,_,M,a,_,dx,_,_,M,a1,T.aN,T.aG,dw,_,M,L,_,_,_,M,M,a2,Fk nA,?_};have es:(A.map V.ref).set n (V.ref G)=(A.set n G).map V.ref:=by rw[VI]
  rw[es];have O:=hb1.swap ec ex Z nF;let{a5,a4}:=O.obj;have a0:=O.lst;have f2:Fr (Qy a L A) (Qy a L<|A.set n G) H (upd H1 L<|.lst<|(A.set n G).map V.ref):=λb o n' w=>by
   have w1:=s1 _ _ w;refine{by rwa[af (λy=>n'<|.inr<|.inl y)],λy=>?_};rcases y with y|y|y
   .exact n'<|.inl y
   .exact n'<|.inr (.inl y)
   .rcases IJ y with y|y
    .exact n'<|.inr (.inr y)
    .rw[y,Y]at w;cases w
  generalize upd H1 L (.lst<|(A.set n G).map V.ref)=H2 at O a4 a0 f2⊢;have lS:((A.set n G).map V.ref).length=ls.length:=by rw[Q1,ZD,hb.len]
  have a9:n+1<(A.set n G).length:=by rwa[ZD,hb.len]
  have sx:seqIndex? ((n:Int)+1) ((A.set n G).map V.ref).length=some (n+1):=by
   have:=seqIndex_of (k:=(n:Int)+1) (n:=((A.set n G).map V.ref).length) () (by rw[lS];lia);rw[this];congr 1
  refine{_,M,a,_,a5,_,_,M,a4,T.aN,T.aG,dw,.inl {M,_,Kv.of a0},_,M,_,_,M,M,L,_,_,n+1,_,M,M,a0,(),(),sx,(by rw[Zf,Q4 a9];rfl),?_};have aa:=O.erase (i:=n+1);have em:((A.set n G).map V.ref).eraseIdx (n+1)=((A.set n G).eraseIdx<|n+1).map V.ref:=sd _ _;rw[em];refine q _ _ _ aa M<|f2.trans λb o n' w=>?_;refine{by rwa[af (λy=>n'<|.inr<|.inl y)],λy=>?_};rcases y with y|y|y
  .exact n'<|.inl y
  .exact n'<|.inr (.inl y)
  .exact n'<|.inr (.inr<|Xf y)
 .refine a6 (by rw[a3];lia) ?_;rw[WI c5]at q;exact q H1 A ls hb1 M<|Fr.of_same s1
def rS:Ck P w K mg base PP 3 t.jW t.fY [cC,et] (rC K t):=by
 refine T.FP.okl rH λs H vs Q E hr h _=>?_;intro X;let{a,k,F,ks,rfl,hA,hl,q1,q2}:=h;refine aj (aO (eY<|bF<|aT Ca T.aN T.zQ (oR T) hr.mo T.zW .nil az<|ac M2 ai)
    (aA jL)
    aF)
   (aj (PN 2<|aT Ca T.aN T.du (cn T) hr.mo T.dC .nil az<|ac M2 ai)
   (aj (aM<|dH Zi PySem.F.slot_list_remove PySem.F.type_list_remove Gy (aS aU (ar Ca M) P8<|λ_ _=>M)<|ac M2 ai)
   (bU (λx=>aO (ay bJ (aI aE {_} T.bT bi (ac (aS aU (ar Ca M) P8<|λ_ _=>M) ai)) ae<|au _) x aF) ?_)))
 refine aj (aM<|dH Zi PySem.F.slot_list_pop PySem.F.type_list_pop CO (ar Ca M)<|ac P8 ai)
   (aB p7 ?_)
 intros
 refine aj (aM<|aT Ca T.aN T.oX (nW T) hr.mo T.pJ .nil az<|ac P8 ai)
   (aB (aM<|aT Ca T.aN T.oX (nW T) hr.mo T.pJ .nil az<|ac (ao jf P8 ae) ai) ?_)
 intros
 let{dx,fs,hi,hm}:=hA.ins;refine{_,M,a,dx,fs,M,hi,hm _ ∅,_,M,a,k,F,ks,M,hA,λH0 F0 a9 a1=>?_};by_cases ck:k∈ks
 case neg=>
  rw[WU ck];refine{_,M,b8 ?_};exact(q2 ck).elim
 rw[WR ck];refine{_,M,cm ?_};have q:=q1 ck;let{L,A,ls,hb,ok,ef,hF}:=a9;let{aa,ho}:=hb.obj;have sh:=ok.short;rw[ef]at sh;have fr:Fr F (Qy a L A) H H0:=λb o n e=>{(a1 b o n e).1,λy=>(a1 b o n e).2<|(hF b).mpr y};let{ah,an,aw,ax}:=hb.insM;refine{_,M,a,ah,an,M,aw,ax _ ∅,_,M,a,k,L,A,ls,M,hb,ok.ne,ok.up,λi li=>?_};let{x,ex,hx}:=(li.mem ok).mp (by rwa[ef]);let{c,ec,hc}:=hb.at ex;have il:i<ls.length:=(Q3.mp ex).1;have bo:i<A.length:=by rwa[hb.len]
 refine{_,M,a,_,aa,_,_,M,ho,T.aN,T.aG,dw,_,M,L,_,_,_,M,M,Kv.of hb.lst,gO ec,.inl {M,_,Kv.of hc},_,M,c,x,k,M,M,hc,hx,?_};have hb1:=hb.write (y:=x.erase k) ec ex;let{up1,G}:=ok.gone ex hx;have cF:Qy a L A c:= .inr (.inr<|Q2 ec);have f1:Fr (Qy a L A) (Qy a L A) H0 (upd H0 c<|.lst<|(x.erase k).map V.int):=λb o n w=>{by rwa[af (λy=>n<|by rw[y];exact cF)],n};have a2:upd H0 c (.lst<|(x.erase k).map V.int) c=some (.lst<|(x.erase k).map V.int):=ag;let{a3,Y}:=hb1.obj;have O:=hb1.lst;generalize upd H0 c (.lst<|(x.erase k).map V.int)=H1 at hb1 f1 a2 Y O⊢;have le:=List.length_erase_of_mem hx;refine{_,M,a,_,a3,_,_,M,Y,T.aN,T.aG,dw,_,M,L,_,_,_,M,M,Kv.of O,gO ec,c,_,M,.inl<|Kv.of a2,M,_,M,?_};have px:=List.length_pos_of_mem hx;by_cases c0:x.length=1
 .refine dU (Y2 V.int<|by rw[Q1,le,c0];rfl) ?_;have en:x.erase k=[]:=List.length_eq_zero_iff.mp ();rw[en]at up1 G hb1;have sx:seqIndex? (i:Int) (A.map V.ref).length=some i:=by
   have:=seqIndex_of (k:=(i:Int)) (n:=(A.map V.ref).length) () (by rw[Q1];lia);rw[this,Zx]
  refine{_,M,a,_,a3,_,_,M,Y,T.aN,T.aG,dw,.inl {M,_,Kv.of O},_,M,L,_,_,i,_,M,M,O,(),(),sx,(by rw[Zf,ec];rfl),?_};have I:=hb1.erase (i:=i);have e2:(ls.set i ([]:O')).eraseIdx i=ls.eraseIdx i:=AG _ _ _;rw[e2]at I;rw[sd];let{b1,b2}:=ok.out ex c0 up1;refine q _ _ _ {L,_,_,I,b1,M,λb=>Iff.rfl} (λz=>by rw[b2,G,ef])<|(fr.trans f1).trans λb o n w=>?_;refine{by rwa[af (λy=>n<|.inr<|.inl y)],λy=>?_};rcases y with y|y|y
  .exact n<|.inl y
  .exact n<|.inr (.inl y)
  .exact n<|.inr (.inr<|Xf y)
 .refine a6 (λw=>c0<|by have:=V.int.inj w;rw[Q1,le]at this;lia) ?_;have ny:x.erase k≠[]:=XC ();have w1:=ok.shrunk ex ny () up1;let{b3,b4,b5,b9}:=hb1.insM;have Z:(ls.set i<|x.erase k).length=ls.length:=ZD;refine{_,M,a,b3,b4,M,b5,b9 _ ∅,_,M,a,L,A,_,(i:Int),M,hb1,(),by rw[Z];lia,w1.le,by rw[Z];lia,λH2 A2 U I e2 f2=>?_};rw[WJ (),Zx]at e2;let{w2,a4}:=w1.join (i:=i) (λj h=>h);rw[<-e2]at w2 a4;have l2:i<=U.length/\U.length<=ls.length:=by
   have:=GI (ls:=ls.set i<|x.erase k) (i:=i);rw[<-e2,Z]at this;lia
  let{ba,bb,bd,be}:=I.insM;refine{_,M,a,ba,bb,M,bd,be _ ∅,_,M,_,_,M,M,a,L,A2,U,(i:Int)-1,M,I,(),(),w2.le,(),λH3 A3 a0 bf e3 f3=>?_};have fin:QH a0/\a0.flatten=U.flatten:=by
   by_cases ci:i=0
   .subst ci;rw[WI ()]at e3;subst e3;exact{w2.ok λj h=>(),M}
   .have ei:((i:Int)-1).toNat=i-1:=();rw[WJ (),ei]at e3;let{w3,a5}:=w2.join (i:=i-1) (λj h=>());rw[<-e3]at w3 a5;exact{w3.ok λj h=>(),a5}
  let{bl,bn}:=fin;refine q H3 _ _ {L,A3,a0,bf,bl,M,λb=>Iff.rfl} (λz=>by rw[bn,a4,G,ef])<|((fr.trans f1).trans f2).trans f3
def MO(a l:G')(k n:Int)(ls:Sv)(H:Hp):Nat->St->Hp->Prop:=λm W H'=>∃(i:Nat),m=ls.length-i/\G3 H H'/\H l=none/\W=[some (.ref a),some (.int k),some (.int n),some (.ref l),some (.int (i:Int))]/\i<=ls.length/\H' l=some (.lst<|(((ls.take i).flatten).filter λz=>decide (k<=z)).map V.int)
def ve(e:ls[i]?=some x):(ls.take<|i+1).flatten=(ls.take i).flatten++x:=by
 rw[Zg,e,Xp];simp
def tX(ls:Sv)(i:Nat):ls.flatten=(ls.take i).flatten++(ls.drop i).flatten:=by rw[<-Xp,ZI]
def rR:Ck P w K mg base PP 2 t.jV t.fX [cC,et,yz] (rB K t):=by
 refine T.FO.okl QX λs H vs Q E hr h _=>?_;intro X;let{a,k,n,F,ks,rfl,hA,hl,n0,q}:=h;refine aj (PN 3<|cu ai)
   (aj (PN 4<|aT Ca T.aN T.du (cn T) hr.mo T.dC .nil az<|ac M2 ai)
   (bU (λx=>(oJ WX (PW.pt<|eV (ay dW QI (aI aE {_} T.bT bi (ac (ar Ca M) ai))<|au _)<|dh<|ay dW (aI aE {_} T.bT bi (ac PR ai)) P8<|au _)
    x)) ?_))
 refine aj (aM<|dH Zi V0 V1 qa PR<|ac (tE M (PM.of (M':=["one"]) (N:=[cC,et,yz,"told",qP]) (N':=[cC,et,yz,"told",qP]) (dsc:=ak de) M M ∅) (dj<|aS aU (ar Ca M) QI<|λ_ _=>M) (λ_ _ _ _ _=>(ay Am Ca P8<|au _))<|λ_ _ _ _ _=>Ca) ai)
   (aB (Ej (i:=4) QX.nd M (Or.inl M) ae Ji) ?_)
 intros
 refine aB (aD<|eK gK PR iG<|fL P8) ?_
 intros
 let{L,A,ls,hb,ok,ef,hF}:=hA;refine{Za _,λl Z=>?_};have s0:G3 H (upd H l<|.lst []):=al Z;have e0:upd H l (.lst []) l=some (.lst<|([]:O').map V.int):=ag;have O:=hb.same s0;generalize upd H l (.lst [])=H0 at s0 e0 O⊢;let{a3,a4,a5,a9}:=O.insM;refine{_,M,a,a3,a4,M,a5,a9 _ ∅,_,M,a,k,L,A,ls,M,O,ok.ne,ok.up,λi0 li=>?_};have f0:((ls.take i0).flatten).filter (λz=>decide (k<=z))=[]:=Vb.mpr λz hz=>by
  have:=GN ok li z hz;simpa using this
 have lA:((A.map V.ref).length:Int)=(ls.length:Int):=by rw[Q1,hb.len]
 refine{MO a l k n ls H,{_,i0,M,s0,Z,M,li.le,by rwa[f0]},?_};rintro m W H' ⟨i,rfl,s1,_,rfl,il,e1⟩;have hb1:=hb.same s1;let{a0,a1}:=hb1.obj;have fin:∀(done:((((ls.take i).flatten).filter λz=>decide (k<=z)).take n.toNat)=(ks.filter λz=>decide (k<=z)).take n.toNat),∀p,H' p=none->Q (.ref p) (upd H' p<|.lst<|qt ((((ls.take i).flatten).filter λz=>decide (k<=z)).map V.int) none<|some n):=λdone p np=>by
  refine q _ p (s1.trans<|al np) ?_ ?_
  .cases e:H p with
   |none=>rfl
   |some o=>rw[s1 _ _ e]at np;cases np
  .rw[ag,lH n0,<-Xg,done]
 refine{_,M,_,M,a,_,a0,_,_,M,a1,T.aN,T.aG,dw,L,_,M,.inl<|Kv.of hb1.lst,_,_,M,M,_,M,?_};by_cases c:i<ls.length
 .refine nY (by rw[lA];lia) ?_;refine{_,M,l,_,M,.inl<|Kv.of e1,_,M,_,_,M,M,_,M,?_};by_cases c2:((((((ls.take i).flatten).filter λz=>decide (k<=z)).map V.int).length:Nat):Int)<n
  .refine nY c2 ?_;refine{λaa H''=>∃m',m'<ls.length-i/\MO a l k n ls H m' aa H'',λ_ _ h=>h,?_};have ex:ls[i]?=some ls[i]:=Q4 c;let{b,eb,G}:=hb1.at ex;have lb:l≠b:=λz=>by
    let{b',a2,h'}:=hb.at ex;rw[eb]at a2;cases a2;rw[<-z,Z]at h';cases h'
   have an:=Zd (λz=>decide (k<=z)) (ls.take i).flatten;have ah:(ls.take i).flatten.length+ls[i].length<=ks.length:=by
    rw[<-ef,tX ls (i+1),ve ex,Q8,Q8];lia
   refine{_,M,.inl {M,_,Kv.of e1},_,M,a,_,a0,_,_,M,a1,T.aN,T.aG,dw,_,M,L,_,_,_,M,M,Kv.of hb1.lst,gO eb,b,M,{_,Kv.of G},λD hD=>?_};generalize ls[i]=x at ex G ah⊢;refine nz (K:=K) (a:=b) (xs:=x.map V.int) (λm ys H3=>H3=upd H' D (.lst ys)/\ys=((x.take m).filter<|λz=>decide (k<=z)).map V.int) ⟨M,M⟩ (λm ys H3 _ w=>Kv.of<|by rwa[w.1,af (am G hD)]) (λm v ys H3 Y w I=>?_)<|λys H3 w I=>?_
   .let{w1,U}:=w;obtain⟨g,rfl,eg⟩:∃g:Int,v= .int g/\x[m]?=some g:=by
     rw[Zf]at Y;cases e:x[m]? with
     |none=>rw[e]at Y;cases Y
     |some g=>rw[e]at Y;cases Y;exact⟨g,M,M⟩
    have hn:m<(x.map V.int).length:=(Q3.mp Y).1;refine{_,M,_,M,_,_,M,M,_,M,?_};have fl:ys.length<=100000:=by
     rw[U,Q1];have h1:=Zd (λz=>decide (k<=z)) (x.take m);have h2:(x.take m).length<=x.length:=by rw[Q7];lia
     lia
    by_cases cg:k<=g
    .refine nY cg {_,M,QF.mk hn I (bh fl) {by rw[w1,cR],?_}};rw[U,Zg,eg,Zt,Z6];simp[cg]
    .refine a6 cg<|Qi.mk hn I {w1,?_};rw[U,Zg,eg,Zt];simp[cg]
   .let{w1,U}:=w;rw[Q1,Zn]at U;have s3:G3 H' H3:=by rw[w1];exact al hD
    have e3:=s3 _ _ e1;have aw:=Zd (λz=>decide (k<=z)) x;have hsz:((((ls.take i).flatten).filter λz=>decide (k<=z)).map V.int).length+ys.length<=sizeLine:=by
     rw[U,Q1,Q1];exact ZH<|bh ()
    refine{l,D,_,_,M,M,e3,I,hsz,?_};have hE:(((ls.take i).flatten).filter λz=>decide (k<=z)).map V.int++ys=(((ls.take<|i+1).flatten).filter λz=>decide (k<=z)).map V.int:=by
     rw[U,ve ex,Zt,Z6]
    rw[hE];refine{_,M,_,_,M,M,_,?_,i+1,M,?_,Z,M,c,ag}
    .lia
    .exact b6 (s1.trans s3) Z
  .refine a6 c2 ?_;refine{_,M,_,M,_,M,l,_,M,Kv.of e1,fin ?_};have:ks.filter (λz=>decide (k<=z))=((ls.take i).flatten).filter (λz=>decide (k<=z))++((ls.drop i).flatten).filter (λz=>decide (k<=z)):=by rw[<-ef,tX ls i,Zt]
   rw[this,Zv];rw[Q1]at c2;lia
 .refine a6 (by rw[lA];lia) ?_;have ei:i=ls.length:=();subst ei;refine{_,M,_,M,_,M,l,_,M,Kv.of e1,fin ?_};rw[Zn,ef]
def WDn(a l:G')(k:Sz)(n:Int)(ls:Sv)(H:Hp):Nat->St->Hp->Prop:=λm W H'=>G3 H H'/\H l=none/\m<=ls.length/\W=[some (.ref a),some (vDn k),some (.int n),some (.ref l),some (.int<|(m:Int)-1)]/\H' l=some (.lst<|(((ls.drop m).flatten).reverse.filter<|fv k).map V.int)
def LF{c:Prop}[Decidable c]{D:nZ}{A:Prop}(Pv:SZ)(main:∀z H',Pv z H'->D.nx z H')(G:c->(∀z H',Pv z H'->D.nx z H')->A)(I:Pv W H):if c then A else sI D W H:=bL (λh=>G h main) (λ_=>main _ _ I)
def GP(e:ls[i]?=some x):((ls.drop i).flatten).reverse=((ls.drop<|i+1).flatten).reverse++x.reverse:=by
 let{h,e}:=Q3.mp e;rw[Xd h,e,Xm,List.reverse_append]
def GR(ok:QH ls)(G:QT ls k i0):((ls.drop<|i0+1).flatten).reverse.filter (fv<|some k)=[]:=Vb.mpr λz hz=>by
 have:=G.behind ok z (Vg.mp hz);simp only[fv,WY];lia
def JH{len:Nat}:(if((len:Int)-1<(i0:Int))then((len:Int)-1)else(i0:Int))=((min (i0+1) len:Nat):Int)-1:=by
 split<;>lia
def GS(ok:QH ls)(z:QT ls k i0):((ls.drop<|min (i0+1) ls.length).flatten).reverse.filter (fv<|some k)=[]:=by
 rcases Nat.le_total (i0+1) ls.length with c|c
 .rw[Xn c];exact GR ok z
 .rw[Wq c,List.drop_length];rfl
def oS:Ck P w K mg base PP 2 t.iC t.eE [cC,et,yz] (oh K t):=by
 refine T.DP.okl QQ λs H vs Q E hr h _=>?_;intro X;let{a,k,n,F,ks,rfl,hA,hl,n0,q}:=h;refine aj (PN 3<|cu ai)
   (aj (PN 4<|ao jf (aI aE {_} T.bT bi (ac (ar Ca M) ai)) ae)
   (bU (λx=>aO (ay jM M2 bc<|au _) x aF) ?_))
 refine aB (PN 4<|aI (lI M) {_} T.z7 sw (ac (aT Ca T.aN T.du (cn T) hr.mo T.dC .nil az<|ac M2 ai)<|ac QI ai)) ?_
 intros
 refine bU (λx=>(oJ WX (PW.pt<|eV (ay Am QI ae<|au _)<|dh<|ay dW (aI aE {_} T.bT bi (ac PR ai)) P8<|au _)
    x)) ?_
 refine aj (aM<|dH Zi V0 V1 qa PR<|ac (tE M (PM.of (M':=["one"]) (N:=[cC,et,yz,"told",qP]) (N':=[cC,et,yz,"told",qP]) (dsc:=ak cH) M M ∅) (Nu {_} T.MT (ac (aS aU (ar Ca M) QI<|λ_ _=>M) ai)) (λ_ _ _ _ _=>(PW.pt<|jJ (ay eh P8 bc<|au _)<|jc<|ay oM Ca P8<|au _))<|λ_ _ _ _ _=>Ca) ai)
   (aB (Ej (i:=4) QQ.nd M (Or.inl M) ae NS) ?_)
 intros
 refine aB (aD<|eK gK PR iG<|fL P8) ?_
 intros
 let{L,A,ls,hb,ok,ef,hF}:=hA;refine{Za _,λl nl=>?_};have s0:G3 H (upd H l<|.lst []):=al nl;have e0:upd H l (.lst []) l=some (.lst<|([]:O').map V.int):=ag;have z:=hb.same s0;generalize upd H l (.lst [])=H0 at s0 e0 z⊢;let{a1,a2}:=z.obj;have lA:((A.map V.ref).length:Int)=(ls.length:Int):=by rw[Q1,hb.len]
 refine{_,M,a,_,a1,_,_,M,a2,T.aN,T.aG,dw,L,_,M,.inl<|Kv.of z.lst,_,_,M,M,?_};rw[lA];refine{_,M,M,_,M,LF (λG H'=>∃m,WDn a l k n ls H m G H') (λG H' wW=>?main) (λc key=>?A) {ls.length,s0,nl,Q5 _,M,by rwa[List.drop_length]}}
 case A=>
  cases k with
  |none=>exact WN c (_)
  |some k=>
   let{a3,a4,a5,a9}:=z.insM;refine{_,M,a,a3,a4,M,a5,a9 _ ∅,_,M,a,k,L,A,ls,M,z,ok.ne,ok.up,λi0 li=>?_};refine{_,M,_,_,M,?_};dsimp only;rw[JH];exact key _ _ {min (i0+1) ls.length,s0,nl,Nat.min_le_right _ _,M,by rwa[GS ok li]}
 case main=>
  let{m0,w0}:=wW;refine{WDn a l k n ls H,⟨m0,w0⟩,?_};rintro m W H' ⟨s1,_,ml,rfl,e1⟩;have hb1:=hb.same s1;let{aa,ah}:=hb1.obj;have fin:∀(done:((((ls.drop m).flatten).reverse.filter<|fv k).take n.toNat)=(ks.reverse.filter<|fv k).take n.toNat),∀p,H' p=none->Q (.ref p) (upd H' p<|.lst<|qt ((((ls.drop m).flatten).reverse.filter<|fv k).map V.int) none<|some n):=λdone p np=>by
   refine q _ p (s1.trans<|al np) ?_ ?_
   .cases e:H p with
    |none=>rfl
    |some o=>rw[s1 _ _ e]at np;cases np
   .rw[ag,lH n0,<-Xg,done]
  refine{_,M,_,_,M,M,_,M,?_};cases m with
  |zero=>
   refine a6 (_) ?_;refine{_,M,_,M,_,M,l,_,M,Kv.of e1,fin ?_};rw[Xj,ef]
  |succ i=>
   have im:((i+1:Nat):Int)-1=(i:Int):=();rw[im];refine nY () ?_;refine{_,M,l,_,M,.inl<|Kv.of e1,_,M,_,_,M,M,_,M,?_};by_cases c2:((((((ls.drop<|i+1).flatten).reverse.filter<|fv k).map V.int).length:Nat):Int)<n
   .refine nY c2 ?_;refine{λG H''=>∃m',m'<i+1/\WDn a l k n ls H m' G H'',λ_ _ h=>h,?_};have ex:ls[i]?=some ls[i]:=Q4 ml;let{b,eb,I}:=hb1.at ex;have ax:=Zd (fv k) ((ls.drop<|i+1).flatten).reverse;have an:((ls.drop<|i+1).flatten).reverse.length+ls[i].length<=ks.length:=by
     rw[<-ef,tX ls (i+1),ve ex,Q8,Q8,Xb];lia
    refine{_,M,.inl {M,_,Kv.of e1},_,M,a,_,aa,_,_,M,ah,T.aN,T.aG,dw,_,M,L,_,_,_,M,M,Kv.of hb1.lst,gO eb,b,_,M,Kv.of I,λD hD=>?_};generalize ls[i]=x at ex I an⊢;refine GV (K:=K) (a:=b) (xs:=x.map V.int) (λm ys H3=>H3=upd H' D (.lst ys)/\ys=((x.reverse.take m).filter<|fv k).map V.int) ⟨M,M⟩ (λm ys H3 _ w=>Kv.of<|by rw[w.1,af (am I hD)];exact I) (λm v ys H3 Z w O=>?_)<|λys H3 w O=>?_
    .let{w1,Y}:=w;obtain⟨g,rfl,eg⟩:∃g:Int,v= .int g/\x.reverse[m]?=some g:=by
      rw[<-List.map_reverse,Zf]at Z;cases e:x.reverse[m]? with
      |none=>rw[e]at Z;cases Z
      |some g=>rw[e]at Z;cases Z;exact⟨g,M,M⟩
     have hn:m<(x.map V.int).length:=by
      have:=(Q3.mp Z).1;rwa [Xb]at this
     have fl:ys.length<=100000:=by
      rw[Y,Q1];have h1:=Zd (fv k) (x.reverse.take m);have h2:(x.reverse.take m).length<=x.reverse.length:=by rw[Q7];lia
      rw[Xb]at h2;lia
     have a0:fv k g=true->QF (x.map V.int).length m ys D (λm ys H3=>H3=upd H' D (.lst ys)/\ys=((x.reverse.take m).filter<|fv k).map V.int) (.int g) H3:=λU=>by
      refine QF.mk hn O (bh fl) {by rw[w1,cR],?_};rw[Y,Zg,eg,Zt,Z6];simp[U]
     have no:fv k g=false->Qi (x.map V.int).length m ys D (λm ys H3=>H3=upd H' D (.lst ys)/\ys=((x.reverse.take m).filter<|fv k).map V.int) H3:=λU=>by
      refine Qi.mk hn O {w1,?_};rw[Y,Zg,eg,Zt];simp[U]
     refine{_,M,M,_,M,?_};cases k with
     |none=>exact b8<|b8 {_,M,a0 M}
     |some k=>
      refine cm {_,M,_,M,_,_,M,M,_,M,?_};by_cases U:g<=k
      .exact nY U {_,M,a0<|WR U}
      .exact a6 U<|no (WU U)
    .let{w1,Y}:=w;rw[Q1,show x.length=x.reverse.length from Xb.symm,Zn]at Y;have s3:G3 H' H3:=by rw[w1];exact al hD
     have e3:=s3 _ _ e1;have aw:=Zd (fv k) x.reverse;have hsz:((((ls.drop<|i+1).flatten).reverse.filter<|fv k).map V.int).length+ys.length<=sizeLine:=by
      rw[Y,Q1,Q1];rw[Xb]at aw;exact ZH<|bh ()
     refine{l,D,_,_,M,M,e3,O,hsz,?_};have hE:(((ls.drop<|i+1).flatten).reverse.filter<|fv k).map V.int++ys=(((ls.drop i).flatten).reverse.filter<|fv k).map V.int:=by
      rw[Y,GP ex,Zt,Z6]
     rw[hE];refine{_,M,_,_,M,M,i,XI _,b6 (s1.trans s3) nl,nl,ZH ml,M,ag}
   .refine a6 c2 ?_;refine{_,M,_,M,_,M,l,_,M,Kv.of e1,fin ?_};have:ks.reverse.filter (fv k)=((ls.drop<|i+1).flatten).reverse.filter (fv k)++((ls.take<|i+1).flatten).reverse.filter (fv k):=by rw[<-ef,tX ls (i+1),List.reverse_append,Zt]
    rw[this,Zv];rw[Q1]at c2;lia
def wJ:(0:Int)<10^(39:Int).toNat:=by decide
theorem CB:∀{a b:O'},dD a->dD b->(∀z,z∈a↔z∈b)->a=b
 | [],[],_,_,_=>rfl
 | [],y::r,_,_,h=>by have:=(h y).mpr Z4;cases this
 |x::r,[],_,_,h=>by have:=(h x).mp Z4;cases this
 |x::r,y::r',ha,hb,h=>by
  let{I,U}:=XQ.mp ha;let{O,Y}:=XQ.mp hb;have G:x=y:=by
   rcases Zb.mp ((h x).mp Z4)with e|e
   .exact e
   .rcases Zb.mp ((h y).mpr Z4)with e2|e2
    .exact e2.symm
    .have h1:=O x e;have h2:=I y e2;lia
  subst G;rw[CB U Y λz=>?_];constructor
  .intro hz;rcases Zb.mp ((h z).mp<|Z7 _ hz)with e|e
   .have:=I z hz;lia
   .exact e
  .intro hz;rcases Zb.mp ((h z).mpr<|Z7 _ hz)with e|e
   .have:=O z hz;lia
   .exact e
def Qt.rise(h:Qt K t H a F ks):dD ks:=by
 let{_,_,ls,_,ok,z,_}:=h;rw[<-z];exact ok.up
def JK(ms:O')(lo hi:Sz):∃z:List Int,qt (ms.map V.int) lo hi=z.map V.int/\z.Sublist ms:=by
 refine{(ms.drop<|HT.sIx (ms.map V.int).length 0 lo).take<|HT.sIx (ms.map V.int).length (ms.map V.int).length hi-HT.sIx (ms.map V.int).length 0 lo,?_,?_}
 .unfold qt;rw[Xg,Vi]
 .exact(Vv _ _).trans<|List.drop_sublist _ _
def CK:Ck P w K mg base PP 1 t.yE t.si ["thing"] Ct:=by
 refine T.EL.okl Cz λs H vs Q E z h _=>?_;intro X;let{x,rfl,hx,k}:=h;refine{_,(aA<|aD<|fO (aI jR {_} T.dO cG (ac Ca<|ac (wA (v:= .ty "int") {_} T.Oy JO M) ai))<|c7<|BA<|aI jR {_} T.dO cG (ac Ca<|ac (wA (v:= .ty "bool") {_} T.MU FC M) ai))
  ,?_}
 cases x with
 |int i=>
  refine{_,M,_,_,_,_,M,QG.int _,Je,true,M,b8 ?_};exact{_,M,_,_,_,_,M,QG.int _,Jf,_,M,k}
 |bl c=>
  refine{_,M,_,_,_,_,M,QG.bl _,NL,true,M,b8 ?_};exact{_,M,_,_,_,_,M,QG.bl _,NM,_,M,k}
 |str c=>exact{_,M,_,_,_,_,M,QG.str _,NJ,false,M,cm k}
 |non=>exact{_,M,_,_,_,_,M,QG.non,NK,false,M,cm k}
 |_=>exact hx.elim
def rP:Ck P w K mg base PP 2 t.AZ t.vk ["thing","low"] D9:=by
 refine T.iS.okl Eg λs H vs Q E z h _=>?_;intro X;let{x,lo,rfl,hx,k}:=h;refine{_,(aA<|aD<|fO (aJ (CK T) z.mo {_} T.NG T.EL.kp T.Ob .nil az (ac Ca ai))<|c7<|bI Am Ca M2<|au _)
  ,?_}
 cases x with
 |int i=>exact{_,M,_,M,hx,true,M,b8 {_,M,_,M,_,_,M,M,k}}
 |bl c=>exact{_,M,_,M,hx,false,M,cm k}
 |str c=>exact{_,M,_,M,hx,false,M,cm k}
 |non=>exact{_,M,_,M,hx,false,M,cm k}
 |_=>exact hx.elim
def jg:Ck P w K mg base PP 1 t.kW t.kG [cC,"kind",qP,t7] (iU K):=by
 refine T.kY.okl xf λs H vs Q E Y h _=>?_;intro X;let{p,C,dx,kd,a,e,rfl,G,cl,I,O,U,k}:=h;refine aj (bp Ca M2 M)
   (aj (bp Ca P8 M)
   (aB (bp Ca PR M) ?_))
 intros
 refine{_,M,_,M,p,C,dx,[],M,G,cl,I,(by show 0<1000;decide),_,M,_,M,p,C,dx,_,M,ag,cl,O,(by show 1<1000;decide),_,M,_,M,p,C,dx,_,M,ag,cl,U,?_,?_}
 .have h1:=oG (f:=qP) (v:=a) (bN "kind" (.str kd) []);have h2:=oG (f:="kind") (v:= .str kd) [];have Z:([]:Sn).length=0:=M;lia
 rw[cR,cR];refine k _ _ (λb o q z=>by rw[af z];exact q) ag {?_,?_,?_,?_,?_}
 .rw[bD,WI ∅,bD,WI ∅,bD,WJ M]
 .rw[bD,WI ∅,bD,WJ M]
 .rw[bD,WJ M]
 .rw[bD,WI ∅,bD,WI ∅,bD,WI ∅];rfl
 .rw[bD,WI ∅,bD,WI ∅,bD,WI ∅];rfl
def qd{x:V}(h:isF lo x=true):∃i,x= .int i/\lo<=i:=by
 cases x with
 |int i=>exact{i,M,WP h}
 |_=>cases h
def lq:Ck P w K mg base PP 3 t.nR t.c4 [cC,qP,t7] (uH t):=by
 let{G,z}:=T.g_PLACES;have a0:=QZ.nd;refine T.Hr.ok QZ (λvs H Q E h=>?_)<|λa1 A outer s H vs Q E U h=>?_
 .let{p,dx,a,e,rfl,_}:=h;rfl
 .let{p,dx,a,e,rfl,hp,sa,se,k1,k2}:=h;refine aj (aO (eY<|PW.pt<|eV (bF<|aJ (rP T) U.mo {_} T.lF T.iS.kp T.lJ .nil az (ac M2<|ac ae ai))<|eV (bF<|aJ (rP T) U.mo {_} T.lF T.iS.kp T.lJ .nil az (ac P8<|ac M2 ai))<|dh<|ay oM P8 (dn (v:= .int 65536) {_} z {_,M})<|au _)
   (aA jL)
   aF)
     (aB (aM<|BC {_} T.CW T.qI T.kY.kp (jg T) U.mo T.qQ .nil az (ac Ca<|ac fN<|ac M2<|ac P8 ai)) ?_)
  intros
  refine{_,M,a,0,M,sa,_,M,bL (λc=>?_)<|λc=>?_}
  .let{i,rfl,i0}:=qd c;refine{_,M,_,M,e,i,M,se,_,M,bL (λc=>?_)<|λc=>?_}
   .let{j,rfl,ij}:=qd c;refine{_,M,_,_,M,M,_,M,?_};by_cases I:j<=65536
    .rw[WR I];exact cm {_,M,_,M,_,M,p,_,dx,_,.int i,.int j,M,hp,T.bZ,T.Ha,T.kC,T.cN,λH' fs k h f=>k1 ⟨i,j,M,M,i0,ij,I⟩ H' fs k h f}
    .rw[WU I];exact b8<|(k2 λzz=>by let{Z,j',O,e2,_,_,h}:=zz;cases e2;exact I h)
   .exact b8<|(k2 λY=>by let{Z,j',O,e2,_,h,_}:=Y;exact c<|by cases O;rw[e2];exact WR h)
  .exact b8<|(k2 λY=>by let{Z,j',O,_,h,_}:=Y;exact c<|by rw[O];exact WR h)
def vv:Ck P w K mg base PP 3 t.yG t.jx [cC,qP,t7] (Cv t):=by
 have Y:=Qu.nd;refine T.Op.ok Qu (λvs H Q E h=>?_)<|λZ A outer s H vs Q E G h=>?_
 .let{p,dx,a,e,rfl,_}:=h;rfl
 .let{p,dx,a,e,rfl,hp,sa,se,k1,k2}:=h;refine aj (aO (eY<|PW.pt<|eV (bF<|aJ (rP T) G.mo {_} T.lF T.iS.kp T.lJ .nil az (ac M2<|ac ae ai))<|dh<|PW.pt<|jJ (ay eh P8 bc<|au _)<|jc<|bF<|aJ (rP T) G.mo {_} T.lF T.iS.kp T.lJ .nil az (ac P8<|ac M2 ai))
   (aA jL)
   aF)
     (aB (aM<|BC {_} T.CW T.qI T.kY.kp (jg T) G.mo T.qQ .nil az (ac Ca<|ac fN<|ac M2<|ac P8 ai)) ?_)
  intros
  refine{_,M,a,0,M,sa,_,M,bL (λc=>?_)<|λc=>?_}
  .let{i,rfl,i0}:=qd c;have fin:RD (.int i) e->iU K [.ref p,.str "up",.int i,e] H (λ_ H'=>Q .non H') E0:=λok=>{p,_,dx,"up",.int i,e,M,hp,T.jB,T.NE,T.tJ,T.lw,λH' fs k h f=>k1 ok H' fs k h f};by_cases z:e= .non
   .exact{_,M,M,_,M,dU z<|cm {_,M,_,M,_,M,fin {i,M,i0,.inl z}}}
   .refine{_,M,M,_,M,a6 z {_,M,_,M,e,i,M,se,_,M,?_}};cases I:isF i e with
    |true=>
     let{j,rfl,ij}:=qd I;exact cm {_,M,_,M,_,M,fin {i,M,i0,.inr ⟨j,M,ij⟩}}
    |false=>
     refine b8<|(k2 λO=>?_);let{i',U,_,e2}:=O;cases U;rcases e2 with e2|⟨j',e2,h⟩
     .exact z e2
     .rw[e2]at I;exact Y7 I h
  .exact b8<|(k2 λO=>by let{i',U,h,_}:=O;exact c<|by rw[U];exact WR h)
def qH:Ck P w K mg base PP 3 t.ux t.gb [cC,qP,t7] (ze t):=by
 have Z:=Qk.nd;refine T.Me.ok Qk (λvs H Q E h=>?_)<|λa0 A outer s H vs Q E G h=>?_
 .let{p,dx,a,e,rfl,_}:=h;rfl
 .let{p,dx,a,e,rfl,hp,sa,se,k1,k2}:=h;refine aj (aO (eY<|PW.pt<|eV (bF<|aJ (rP T) G.mo {_} T.lF T.iS.kp T.lJ .nil az (ac P8<|ac ae ai))<|dh<|PW.pt<|jJ (ay eh M2 bc<|au _)<|jc<|bF<|aJ (rP T) G.mo {_} T.lF T.iS.kp T.lJ .nil az (ac M2<|ac P8 ai))
   (aA jL)
   aF)
     (aB (aM<|BC {_} T.CW T.qI T.kY.kp (jg T) G.mo T.qQ .nil az (ac Ca<|ac fN<|ac M2<|ac P8 ai)) ?_)
  intros
  refine{_,M,e,0,M,se,_,M,bL (λc=>?_)<|λc=>?_}
  .let{j,rfl,Y}:=qd c;have fin:RE a (.int j)->iU K [.ref p,.str "down",a,.int j] H (λ_ H'=>Q .non H') E0:=λok=>{p,_,dx,"down",a,.int j,M,hp,T.cW,T.Lp,T.ji,T.jP,λH' fs k h f=>k1 ok H' fs k h f};by_cases z:a= .non
   .exact{_,M,M,_,M,dU z<|cm {_,M,_,M,_,M,fin {j,M,Y,.inl z}}}
   .refine{_,M,M,_,M,a6 z {_,M,_,M,a,j,M,sa,_,M,?_}};cases I:isF j a with
    |true=>
     let{i,rfl,ij}:=qd I;exact cm {_,M,_,M,_,M,fin {j,M,Y,.inr ⟨i,M,ij⟩}}
    |false=>
     refine b8<|(k2 λO=>?_);let{j',U,_,e2}:=O;cases U;rcases e2 with e2|⟨i',e2,h⟩
     .exact z e2
     .rw[e2]at I;exact Y7 I h
  .exact b8<|(k2 λO=>by let{j',U,h,_}:=O;exact c<|by rw[U];exact WR h)
def fQ:Ck P w K mg base PP 3 t.lR t.gI [cC,et] (fB t):=by
 refine T.G9.okl sW λs H vs Q E I h _=>?_;intro X;let{p,dx,fs,a,e,k,rfl,z,G,{i,j,rfl,rfl,i0,O,U},Y,q}:=h;refine{_,(aA<|aD<|Im oM dW (ar Ca M) (aJ (vt T) I.mo {_} T.Ex T.yL.kp T.EI .nil az (ac M2 ai))<|ar Ca M)
  ,?_}
 have q:Q (.bl<|decide (i<=tz (k%65536))&&decide (tz (k%65536)<j)) H:=q H (G3.refl H);refine{_,M,p,_,dx,fs,_,M,z,T.bZ,T.kC,G.at_,_,M,k,M,_,_,M,M,_,M,bL (λc=>?_)<|λc=>?_}
 .refine{_,M,p,_,dx,fs,_,M,z,T.bZ,T.cN,G.end_,_,_,M,M,?_};rw[c,Vj]at q;exact q
 .rw[ZV.mpr c,XH]at q;exact q
def iH:Ck P w K mg base PP 1 t.vG t.pC [cC,et] (dP t):=by
 refine T.MS.okl Bt λs H vs Q E O h _=>?_;intro X;let{p,dx,fs,a,e,k,rfl,G,I,{i,rfl,i0,he},U,q}:=h;refine{_,(aA<|aD<|fO (bI oM (ar Ca M) M2<|au _)<|c7<|CG (bI eh (ar Ca M) bc<|au _)<|c7<|bI dW M2 (ar Ca M)<|au _)
  ,?_}
 have q:=q H (G3.refl H);rcases he with rfl|⟨j,rfl,Y⟩
 .have q:Q (.bl<|decide (i<=k)) H:=q;refine{_,M,p,_,dx,fs,_,M,G,T.jB,T.tJ,I.at_,_,M,_,_,M,M,_,M,bL (λc=>{_,M,p,_,dx,fs,_,M,G,T.jB,T.lw,I.end_,M,_,M,dU M ?_})<|λc=>?_}
  .rw[c]at q;exact q
  .rw[ZV.mpr c]at q;exact q
 .have q:Q (.bl<|decide (i<=k)&&decide (k<j)) H:=q;refine{_,M,p,_,dx,fs,_,M,G,T.jB,T.tJ,I.at_,_,M,_,_,M,M,_,M,bL (λc=>{_,M,p,_,dx,fs,_,M,G,T.jB,T.lw,I.end_,M,_,M,a6 (λz=>by cases z) {_,M,_,M,p,_,dx,fs,_,M,G,T.jB,T.lw,I.end_,_,_,M,M,?_}})<|λc=>?_}
  .rw[c,Vj]at q;exact q
  .rw[ZV.mpr c,XH]at q;exact q
def fP:Ck P w K mg base PP 1 t.rj t.kT [cC,et] (cJ t):=by
 refine T.KJ.okl xv λs H vs Q E O h _=>?_;intro X;let{p,dx,fs,a,e,k,rfl,G,I,{j,rfl,U,ha},Y,q}:=h;refine{_,(aA<|aD<|fO (bI oM (ar Ca M) M2<|au _)<|c7<|CG (bI eh (ar Ca M) bc<|au _)<|c7<|bI oM M2 (ar Ca M)<|au _)
  ,?_}
 have q:=q H (G3.refl H);rcases ha with rfl|⟨i,rfl,Z⟩
 .have q:Q (.bl<|decide (j<=k)) H:=q;refine{_,M,p,_,dx,fs,_,M,G,T.cW,T.jP,I.end_,_,M,_,_,M,M,_,M,bL (λc=>{_,M,p,_,dx,fs,_,M,G,T.cW,T.ji,I.at_,M,_,M,dU M ?_})<|λc=>?_}
  .rw[c]at q;exact q
  .rw[ZV.mpr c]at q;exact q
 .have q:Q (.bl<|decide (j<=k)&&decide (k<=i)) H:=q;refine{_,M,p,_,dx,fs,_,M,G,T.cW,T.jP,I.end_,_,M,_,_,M,M,_,M,bL (λc=>{_,M,p,_,dx,fs,_,M,G,T.cW,T.ji,I.at_,M,_,M,a6 (λz=>by cases z) {_,M,_,M,p,_,dx,fs,_,M,G,T.cW,T.ji,I.at_,_,_,M,M,?_}})<|λc=>?_}
  .rw[c,Vj]at q;exact q
  .rw[ZV.mpr c,XH]at q;exact q
set_option genInjectivity false in
structure Rn where
 p:Addr
 mo:Int
 v:V
structure Rh(t:PL)(H:Hp)(m l:G')(es:List Rn):Prop where
 ob:∃dx,H m=some (.ins t.gQ dx [("made",.ref l)])
 li:H l=some (.lst<|es.map λe=>V.ref e.p)
 tu:∀e∈es,H e.p=some (.tup [.int e.mo,e.v])
def Rh.keep{m l:G'}{es:List Rn}(h:Rh t H m l es)(z:H' m=H m)(e2:H' l=H l)(G:∀b xs,H b=some (.tup xs)->H' b=some (.tup xs)):Rh t H' m l es:={h.ob.imp λ_ e=>z.trans e,e2.trans h.li,λe he=>G _ _<|h.tu e he}
def wU(t:PL):Sp:=λvs H Q _=>∃(a dx:G'),vs=[.ref a]/\H a=some (.ins t.gQ dx [])/\∀(H':Hp)(l:G'),Rh t H' a l []->H l=none->(∀b o,b≠a->H b=some o->H' b=some o)->Q .non H'
def xN:Ck P w K mg base PP 1 t.qY t.kN [cC] (wU t):=by
 refine T.KC.okl xn λs H vs Q E I h _=>?_;intro X;let{a,dx,rfl,ha,q}:=h;refine{_,(aA<|bp Ca (cu ai) M)
  ,?_}
 refine{Za _,λl z=>{_,M,a,_,dx,[],M,(by rwa[af (am ha z)]),T.Dp,T.zM,(by show 0<1000;decide),?_}};have G:a≠l:=am ha z;exact q _ l {⟨dx,ag⟩,by rw[af G.symm];exact ag,λe he=>by cases he} z λb o n e=>by rwa[af n,af (am e z)]
def wT(t:PL):Sp:=λvs H Q _=>∃(m l:G')(es:List Rn)(mo:Int)(v:V),vs=[.ref m,.int mo,v]/\Rh t H m l es/\es.length<100000/\
 ∀(H':Hp)(p:G'),Rh t H' m l (es++ [⟨p,mo,v⟩])->H p=none->(∀b o,b≠l->H b=some o->H' b=some o)->Q .non H'
def xM:Ck P w K mg base PP 1 t.qX t.kM [cC,"moment",qN] (wT t):=by
 refine T.KB.okl xl λs H vs Q E O h _=>?_;intro X;let{m,l,es,mo,v,rfl,M',le,q}:=h;refine{_,(aA<|aM<|dH Zi ZQ ZR dS (ar Ca M)<|ac (bY<|ac M2<|ac P8 ai) ai)
  ,?_}
 let{dx,G}:=M'.ob;refine{_,M,m,_,dx,_,_,M,G,T.Dp,T.zM,M,.inl {M,_,Kv.of M'.li},_,M,_,M,(by show 2<=sizeLine;decide),λp np=>?_};have s1:=al (o:= .tup [.int mo,v]) np;have pl:p≠l:=λz=>by rw[z,M'.li]at np;cases np
 have I:m≠l:=λz=>by have:=M'.li;rw[<-z,G]at this;cases this
 refine{l,_,_,M,M,s1 _ _ M'.li,bh (by rw[Q1];lia),?_};refine q _ p {{dx,by rw[af I];exact s1 _ _ G},by rw[ag,Z6];rfl,λe he=>?_} np λb o n e=>by rw[af n];exact s1 _ _ e
 rcases Q6.mp he with he|he
 .have te:=s1 _ _ (M'.tu e he);rwa[af (λz=>by rw[z,s1 _ _ M'.li]at te;cases te)]
 .rw[Q9.mp he];rw[af pl];exact ag
def QW.notup(h:QW K t H a F st)(e:H b=some (.tup xs)):¬F b:=λhb=>by
 let{d,h1,h2,_}:=h;let{dx,I}:=h1.obj;have no:∀o,H b=some o->(∀ys,o≠ .tup ys)->False:=λo q n=>by rw[e]at q;exact n _ (WL q).symm
 rcases(h2 b).mp hb with rfl|rfl|rfl|hb|⟨hs,rfl⟩|hb
 .exact no _ I<|λ_ z=>by cases z
 .exact no _ h1.tbl<|λ_ z=>by cases z
 .exact no _ h1.row0.lst<|λ_ z=>by cases z
 .let{_,_,_,_,q}:=h1.row0.has hb;exact no _ q<|λ_ z=>by cases z
 .have r1:=h1.row1;cases G:st.nxt with
  |none=>rw[G]at hs;cases hs
  |some m=>rw[G]at r1;exact no _ r1.lst<|λ_ z=>by cases z
 .have r1:=h1.row1;cases G:st.nxt with
  |none=>rw[G]at r1;rw[r1.1]at hb;cases hb
  |some m=>
   rw[G]at r1;let{_,_,_,_,q}:=r1.has hb;exact no _ q<|λ_ z=>by cases z
def Qt.notup(h:Qt K t H a F ks)(e:H b=some (.tup xs)):¬F b:=λhb=>by
 let{L,A,ls,h1,_,_,h2}:=h;let{dx,G}:=h1.obj;have no:∀o,H b=some o->(∀ys,o≠ .tup ys)->False:=λo q n=>by rw[e]at q;exact n _ (WL q).symm
 rcases(h2 b).mp hb with rfl|rfl|hb
 .exact no _ G<|λ_ z=>by cases z
 .exact no _ h1.lst<|λ_ z=>by cases z
 .let{_,_,_,_,q}:=h1.has hb;exact no _ q<|λ_ z=>by cases z
set_option genInjectivity false in
structure Pk where
 k:Int
 m:Addr
 l:Addr
 es:List Rn
set_option genInjectivity false in
structure QA where
 now:Int
 fl:Int
 ma:Int
 st:PD
 ks:List Int
 di:List (Addr×List V)
 pa:List Pk
 ho:List (Int×V)
noncomputable def fR:List Pk->Int->List Rn
 | [],_=> []
 |e::r,k=>if e.k=k then e.es else fR r k
noncomputable def RF(pa:List Pk):List (Int×V):=pa.map λe=>(e.k,V.ref e.m)
def Qo(now fl:Int)(s l w:G')(mk:Int)(p h:G'):List (Str×V):=[("now",.int now),("floor",.int fl),("slots",.ref s),(gt,.ref l),("written",.ref w),("marks",.int mk),("past",.ref p),("holders",.ref h)]
def NoH(m:Str):Prop:=m≠("now":Str)/\m≠("floor":Str)/\m≠("slots":Str)/\m≠(gt:Str)/\m≠("written":Str)/\m≠("marks":Str)/\m≠("past":Str)/\m≠("holders":Str)
instance {m:Str}:Decidable (NoH m):=by unfold NoH;infer_instance
section
variable{now now' fl mk mk':Int}{s l w h:G'}{m:Str}
def wD:(Qo now fl s l w mk p h).lookup ("now":Str)=some (.int now):=gP
def NY:(Qo now fl s l w mk p h).lookup ("floor":Str)=some (.int fl):=by unfold Qo;rw[bP ∅,gP]
def yh:(Qo now fl s l w mk p h).lookup ("slots":Str)=some (.ref s):=by unfold Qo;rw[bP ∅,bP ∅,gP]
def ED:(Qo now fl s l w mk p h).lookup (gt:Str)=some (.ref l):=by unfold Qo;rw[bP ∅,bP ∅,bP ∅,gP]
def EB:(Qo now fl s l w mk p h).lookup ("written":Str)=some (.ref w):=by unfold Qo;rw[bP ∅,bP ∅,bP ∅,bP ∅,gP]
def EC:(Qo now fl s l w mk p h).lookup ("marks":Str)=some (.int mk):=by unfold Qo;rw[bP ∅,bP ∅,bP ∅,bP ∅,bP ∅,gP]
def NX:(Qo now fl s l w mk p h).lookup ("past":Str)=some (.ref p):=by unfold Qo;rw[bP ∅,bP ∅,bP ∅,bP ∅,bP ∅,bP ∅,gP]
def Jk(n:NoH m):(Qo now fl s l w mk p h).lookup m=none:=by
 let{h1,h2,z,G,I,O,U,Y}:=n;unfold Qo;rw[bP h1,bP h2,bP z,bP G,bP I,bP O,bP U,bP Y];rfl
def Lc:bN ("now":Str) (.int now') (Qo now fl s l w mk p h)=Qo now' fl s l w mk p h:=by unfold Qo;rw[bN,WJ M]
def Nq:bN ("marks":Str) (.int mk') (Qo now fl s l w mk p h)=Qo now fl s l w mk' p h:=by
 unfold Qo;rw[bN,WI ∅,bN,WI ∅,bN,WI ∅,bN,WI ∅,bN,WI ∅,bN,WJ M]
def Fo:(Qo now fl s l w mk p h).length<1000:=by show 8<1000;decide
end
def Ow(a w p h:G')(pa:List Pk):Addr->Prop:=λb=>b=a\/b=w\/b=p\/b=h\/∃e∈pa,b=e.m\/b=e.l
structure Qq(t:PL)(H:Hp)(a s l w p h:G')(x:QA):Prop where
 ob:∃dx,H a=some (.ins t.a9 dx<|Qo x.now x.fl s l w x.ma p h)
 wr:H w=some (.lst<|x.di.map λe=>V.ref e.1)
 dr:∀e∈x.di,H e.1=some (.tup e.2)
 pa:H p=some (.dK<|aC<|RF x.pa)
 ho:H h=some (.dK<|aC x.ho)
 mx:∀e∈x.pa,Rh t H e.m e.l e.es
 ph:p≠h
 wl:∀e∈x.pa,e.l≠w
 kd:(x.pa.map (·.k)).Nodup
 md:(x.pa.map (·.m)).Nodup
 ld:(x.pa.map (·.l)).Nodup
def dQ{t u:TS}{D:nZ}(M':SZ)(h1:∀nx,(∀z H',M' z H'->nx z H')->t {D with nx:=nx} W H)(h2:∀z H',M' z H'->u D z H'):Bd t u D W H:=h1 (u D) h2
def Ay:tQ (aC kvs)=(kvs.map (·.1)).map V.int:=by
 unfold tQ aC;rw[Zp,Zp];rfl
def bM{g:Str}{x:V}{r:Sn}(n:g≠f):bN f v ((g,x)::r)=(g,x)::bN f v r:=by rw[bN,WI n]
def cV{H2:Hp}(s:G3 H H2)(n:H2 p=none):H p=none:=by
 cases e:H p with
 |none=>rfl
 |some o=>rw[s _ _ e]at n;cases n
def Ix{f:α->β}{l:List α}(n:(l.map f).Nodup){x y:α}(hx:x∈l)(hy:y∈l)(e:f x=f y):x=y:=by
 induction l with
 |nil=>cases hx
 |cons z r I=>
  let{G,O}:=ZM.mp n;rcases Zb.mp hx with rfl|hx'<;>rcases Zb.mp hy with rfl|hy'
  .rfl
  .exact WN (Z5.mpr ⟨y,hy',e.symm⟩) G
  .exact WN (Z5.mpr ⟨x,hx',e⟩) G
  .exact I O hx' hy'
section
variable{s l w h:G'}{x:QA}{pa:List Pk}{y:Rn}
def Qq.dom(A:Qq t H a s l w p h x)(hb:Ow a w p h x.pa b):∃o,H b=some o/\∀ys,o≠ .tup ys:=by
 let{dx,G}:=A.ob;rcases hb with rfl|rfl|rfl|rfl|⟨e,he,rfl|rfl⟩
 .exact{_,G,λ_ z=>by cases z}
 .exact{_,A.wr,λ_ z=>by cases z}
 .exact{_,A.pa,λ_ z=>by cases z}
 .exact{_,A.ho,λ_ z=>by cases z}
 .let{O,I}:=(A.mx e he).ob;exact{_,I,λ_ z=>by cases z}
 .exact{_,(A.mx e he).li,λ_ z=>by cases z}
def Qq.keep(A:Qq t H a s l w p h x)(g:∀b,Ow a w p h x.pa b->H' b=H b)(z:∀b xs,H b=some (.tup xs)->H' b=some (.tup xs)):Qq t H' a s l w p h x:=
 {A.ob.imp λ_ e=>(g a<|.inl M).trans e,(g w<|.inr<|.inl M).trans A.wr,λe he=>z _ _<|A.dr e he,(g p<|.inr<|.inr<|.inl M).trans A.pa,(g h<|.inr<|.inr<|.inr<|.inl M).trans A.ho,
  λe he=>(A.mx e he).keep (g _<|.inr<|.inr<|.inr<|.inr {e,he,.inl M}) (g _<|.inr<|.inr<|.inr<|.inr {e,he,.inr M}) z,A.ph,A.wl,A.kd,A.md,A.ld}
def Qq.same(A:Qq t H a s l w p h x)(m:G3 H H'):Qq t H' a s l w p h x:=A.keep (λb hb=>by
 let{o,e,_}:=A.dom hb;rw[e];exact m _ _ e) λb xs e=>m _ _ e
def Qq.set(A:Qq t H a s l w p h x){now mk:Int}{fl:Int}:Qq t (upd H a<|.ins t.a9 dx<|Qo now fl s l w mk p h) a s l w p h {x with now:=now,fl:=fl,ma:=mk}:=by
 let{U,I}:=A.ob;have n:∀{b:G'}{o:HO},H b=some o->(∀c d fs,o= .ins c d fs->fs.length=1)->b≠a:=λe i z=>by
  rw[z,I]at e;have:=i _ _ _ (WL e).symm;cases this
 have G:∀{b:G'}{o:HO},H b=some o->(∀c d fs,o≠ .ins c d fs)->b≠a:=λe i=>n e λc d fs z=>WN z (i c d fs);refine{⟨dx,ag⟩,by rw[af (G A.wr λ_ _ _ z=>by cases z)];exact A.wr,λe he=>by rw[af (G (A.dr e he) λ_ _ _ z=>by cases z)];exact A.dr e he,by rw[af (G A.pa λ_ _ _ z=>by cases z)];exact A.pa,
  by rw[af (G A.ho λ_ _ _ z=>by cases z)];exact A.ho,λe he=>?_,A.ph,A.wl,A.kd,A.md,A.ld}
 have M':=A.mx e he;let{Y,O}:=M'.ob;exact M'.keep (af<|n O λ_ _ _ z=>by cases z;rfl) (af<|G M'.li λ_ _ _ z=>by cases z) λb xs e=>by rwa[af (G e λ_ _ _ z=>by cases z)]
def Qq.row(A:Qq t H a s l w p h x)(I:H r=some (.tup xs)):Qq t (upd H w<|.lst<|x.di.map (λe=>V.ref e.1)++ [.ref r]) a s l w p h {x with di:=x.di++ [(r,xs)]}:=by
 let{U,O}:=A.ob;have G:∀{b:G'}{o:HO},H b=some o->(∀ys,o≠ .lst ys)->b≠w:=λe i z=>by
  rw[z,A.wr]at e;exact i _ (WL e).symm
 refine{{U,by rwa[af (G O λ_ z=>by cases z)]},by rw[ag,Z6];rfl,λe he=>?_,by rw[af (G A.pa λ_ z=>by cases z)];exact A.pa,by rw[af (G A.ho λ_ z=>by cases z)];exact A.ho,λe he=>?_,A.ph,A.wl,A.kd,A.md,A.ld}
 .rcases Q6.mp he with he|he
  .rw[af (G (A.dr e he) λ_ z=>by cases z)];exact A.dr e he
  .rw[Q9.mp he,af (G I λ_ z=>by cases z)];exact I
 .have M':=A.mx e he;let{Z,Y}:=M'.ob;exact M'.keep (af<|G Y λ_ z=>by cases z) (af<|A.wl e he) λb xs e=>by rwa[af (G e λ_ z=>by cases z)]
noncomputable def RN(pa:List Pk)(k:Int)(y:Rn):List Pk:=pa.map λe=>if e.k=k then{e with es:=e.es++ [y]}else e
def Aj{f:Pk->β}(hf:∀e es,f {e with es:=es}=f e):(RN pa k y).map f=pa.map f:=by
 unfold RN;rw[Zp];refine Xo λe _=>?_;show f (if e.k=k then _ else e)=_;split
 .exact hf _ _
 .rfl
set_option tactic.hygienic true in
def BD{e:Pk}(h:e∈RN pa k y):∃g∈pa,e.k=g.k/\e.m=g.m/\e.l=g.l/\((g.k=k/\e.es=g.es++ [y])\/(g.k≠k/\e.es=g.es)):=by
 let{g,z,rfl}:=Z5.mp h;refine{g,z,?_};split
 .rename_i c;exact{M,M,M,.inl ⟨c,M⟩}
 .rename_i c;exact{M,M,M,.inr ⟨c,M⟩}
def Nw(hb:Ow a w p h (RN pa k y) b):Ow a w p h pa b:=by
 rcases hb with z|z|z|z|⟨e,he,z⟩
 .exact .inl z
 .exact .inr<|.inl z
 .exact .inr<|.inr (.inl z)
 .exact .inr<|.inr (.inr<|.inl z)
 .let{g,G,_,e2,I,_}:=BD he;rw[e2,I]at z;exact .inr<|.inr (.inr<|.inr ⟨g,G,z⟩)
def Qq.noted(A:Qq t H a s l w p h x){e:Pk}(he:e∈x.pa)(ek:e.k=k)(M':Rh t H' e.m e.l (e.es++ [y]))(Y:∀b o,b≠e.l->H b=some o->H' b=some o):Qq t H' a s l w p h {x with pa:=RN x.pa k y}:=by
 let{dy,ho}:=A.ob;have hl:=(A.mx e he).li;have G:∀{b:G'}{o:HO},H b=some o->(∀ys,o≠ .lst ys)->H' b=some o:=λe i=>Y _ _ (λz=>by
  rw[z,hl]at e;exact i _ (WL e).symm) e
 refine{{dy,G ho<|λ_ z=>by cases z},Y _ _ (A.wl e he).symm A.wr,λe he=>G (A.dr e he) (λ_ z=>by cases z),?_,G A.ho (λ_ z=>by cases z),λf hf=>?_,A.ph,λf hf=>?_,?_,?_,?_}
 .show H' p=some (.dK<|aC<|RF<|RN x.pa k y);unfold RF;rw[Aj λ_ _=>rfl];exact G A.pa λ_ z=>by cases z
 .obtain⟨g,I,e1,e2,O,⟨c,Z⟩|⟨c,Z⟩⟩:=BD hf
  .have:g=e:=Ix A.kd I he (c.trans ek.symm);subst this;rw[e2,O,Z];exact M'
  .have U:=A.mx g I;let{dm,hm}:=U.ob;rw[e2,O,Z];exact U.keep ((G hm λ_ z=>by cases z).trans hm.symm) ((Y _ _ (λz=>c<|by rwa[Ix A.ld I he z]) U.li).trans U.li.symm) λb xs e=>G e λ_ z=>by cases z
 .let{g,I,_,_,O,_}:=BD hf;rw[O];exact A.wl g I
 .show((RN x.pa k y).map (·.k)).Nodup;rw[Aj λ_ _=>rfl];exact A.kd
 .show((RN x.pa k y).map (·.m)).Nodup;rw[Aj λ_ _=>rfl];exact A.md
 .show((RN x.pa k y).map (·.l)).Nodup;rw[Aj λ_ _=>rfl];exact A.ld
def E6(pa:List Pk)(k:Int):(aH (RF pa) k=none/\k∉pa.map (·.k))\/∃e∈pa,e.k=k/\aH (RF pa) k=some (.ref e.m)/\fR pa k=e.es:=by
 induction pa with
 |nil=>exact .inl {kZ,λz=>by cases z}
 |cons e r O=>
  show(aH ((e.k,V.ref e.m)::RF r) k=none/\_)\/∃g∈e::r,g.k=k/\aH ((e.k,V.ref e.m)::RF r) k=_/\(if e.k=k then e.es else fR r k)=_;by_cases c:e.k=k
  .exact .inr {e,Z4,c,bE c,WJ c}
  .rw[bz c,WI c];rcases O with⟨G,I⟩|⟨g,U,G,I,Y⟩
   .refine .inl {G,λz=>?_};rw[Zk]at z;rcases Zb.mp z with z|z
    .exact c z.symm
    .exact I z
   .exact .inr {g,Z7 _ U,G,I,Y}
theorem Au:∀{pa:List Pk},k∉pa.map (·.k)->fR pa k=[]
 | [],_=>rfl
 |e::r,n=>by
  rw[Zk]at n;show(if e.k=k then e.es else fR r k)=[];rw[WI λz=>n (by rw[z];exact Z4)];exact Au λz=>n (Z7 _ z)
theorem tL{j:Int}:∀{pa:List Pk},k∈pa.map (·.k)->fR (RN pa k y) j=if j=k then fR pa k++ [y]else fR pa j
 |e::r,n=>by
  show(if(if e.k=k then{e with es:=e.es++ [y]}else e:Pk).k=j then(if e.k=k then{e with es:=e.es++ [y]}else e:Pk).es else fR (RN r k y) j)=if j=k then(if e.k=k then e.es else fR r k)++ [y]else(if e.k=j then e.es else fR r j)
  by_cases c:e.k=k
  .rw[WJ c,WJ c];show(if e.k=j then e.es++ [y]else fR (RN r k y) j)=_;by_cases d:j=k
   .rw[WJ d,WJ (c.trans d.symm)]
   .rw[WI d,WI λz=>d (z.symm.trans c),WI λz=>d (z.symm.trans c)];by_cases m:k∈r.map (·.k)
    .rw[tL m,WI d]
    .have:RN r k y=r:=by
      unfold RN
      conv=>rhs;rw[<-List.map_id r]
      refine Xo λg G=>WI λz=>m ?_;rw[<-z];exact Z5.mpr ⟨g,G,M⟩
     rw[this]
  .rw[WI c,WI c];have m:k∈r.map (·.k):=by
    rw[Zk]at n;rcases Zb.mp n with z|z
    .exact WN z.symm c
    .exact z
   rw[tL m];by_cases d:j=k
   .rw[WJ d,WJ d,WI λz=>c (z.trans d)]
   .rw[WI d,WI d]
theorem xW{e:Pk}{j:Int}:∀{pa:List Pk},e.k∉pa.map (·.k)->fR (pa++ [e]) j=if j=e.k then e.es else fR pa j
 | [],_=>by
  show(if e.k=j then e.es else[])=if j=e.k then e.es else[]
  by_cases c:e.k=j
  .rw[WJ c,WJ c.symm]
  .rw[WI c,WI (Ne.symm c)]
 |g::r,n=>by
  rw[Zk]at n;show(if g.k=j then g.es else fR (r++ [e]) j)=if j=e.k then e.es else(if g.k=j then g.es else fR r j)
  rw[xW λz=>n (Z7 _ z)];by_cases c:g.k=j
  .rw[WJ c,WJ c,WI λz=>n (by rw[<-z,<-c];exact Z4)]
  .rw[WI c,WI c]
def Qq.newk(A:Qq t H a s l w p h x){m g:G'}(nk:k∉x.pa.map (·.k))(M':Rh t H m g [])(n1:¬Ow a w p h x.pa m)(U:¬Ow a w p h x.pa g):Qq t (upd H p<|.dK<|aC<|RF x.pa++ [(k,.ref m)]) a s l w p h {x with pa:=x.pa++ [⟨k,m,g,[]⟩]}:=by
 let{dy,Y}:=A.ob;have G:∀{b:G'}{o:HO},H b=some o->(∀ys,o≠ .dK ys)->b≠p:=λe i z=>by
  rw[z,A.pa]at e;exact i _ (WL e).symm
 have Z:∀{m' l':G'}{es:List Rn}{o:HO},Rh t H m' l' es->Rh t (upd H p o) m' l' es:=λM'=>by
  let{dm,hm}:=M'.ob;exact M'.keep (af<|G hm λ_ z=>by cases z) (af<|G M'.li λ_ z=>by cases z) λb xs e=>by rwa[af (G e λ_ z=>by cases z)]
 refine{{dy,by rwa[af (G Y λ_ z=>by cases z)]},by rw[af (G A.wr λ_ z=>by cases z)];exact A.wr,λe he=>by rw[af (G (A.dr e he) λ_ z=>by cases z)];exact A.dr e he,?_,by rw[af A.ph.symm];exact A.ho,λe he=>?_,A.ph,λe he=>?_,?_,?_,?_}
 .rw[ag];show _=some (HO.dK<|aC<|RF<|x.pa++ [{k,m,g,[]}]);unfold RF;rw[Z6];rfl
 .rcases Q6.mp he with he|he
  .exact Z<|A.mx e he
  .rw[Q9.mp he];exact Z M'
 .rcases Q6.mp he with he|he
  .exact A.wl e he
  .rw[Q9.mp he];exact λz=>U (.inr<|.inl z)
 all_goals
  rw[Z6];refine Vx.mpr {?_,by simp,λu hu v I z=>?_}
 .exact A.kd
 .cases Q9.mp I;rw[z]at hu;exact nk hu
 .exact A.md
 .cases Q9.mp I;let{e,he,O}:=Z5.mp hu;exact n1<|.inr (.inr<|.inr<|.inr {e,he,.inl<|z.symm.trans O.symm})
 .exact A.ld
 .cases Q9.mp I;let{e,he,O}:=Z5.mp hu;exact U<|.inr (.inr<|.inr<|.inr {e,he,.inr<|z.symm.trans O.symm})
end
structure QP(pa pa':List Pk)(k:Int)(y:Rn):Prop where
 of:∀j,fR pa' j=if j=k then fR pa k++ [y]else fR pa j
 ky:pa'.map (·.k)=if k∈pa.map (·.k)then pa.map (·.k)else pa.map (·.k)++ [k]
structure RH(K:FA)(t:PL)(H:Hp)(a s l w p h:G')(Fs Fl:K')(x:QA):Prop where
 o:Qq t H a s l w p h x
 sl:QW K t H s Fs x.st
 lv:Qt K t H l Fl x.ks
 a1:∀b,Fs b->¬Fl b
 a2:∀b,Ow a w p h x.pa b->¬Fs b
 a3:∀b,Ow a w p h x.pa b->¬Fl b
def RL(a w p h:G')(Fs Fl:K')(pa:List Pk):Addr->Prop:=λb=>Fs b\/Fl b\/Ow a w p h pa b
section
variable{s l w h:G'}{Fs Fs' Fl Fl':K'}{x:QA}
def RH.slots(JZ:RH K t H a s l w p h Fs Fl x)(S:QW K t H' s Fs' st)(f:Fr Fs Fs' H H'):RH K t H' a s l w p h Fs' Fl {x with st:=st}/\Fr (RL a w p h Fs Fl x.pa) (RL a w p h Fs' Fl x.pa) H H':=by
 have k1:∀b,Fl b->H' b=H b/\¬Fs' b:=λb hb=>by
  let{o,e}:=JZ.lv.dom hb;have:=f b o (λz=>JZ.a1 b z hb) e;exact{this.1.trans e.symm,this.2}
 have k2:∀b,Ow a w p h x.pa b->H' b=H b/\¬Fs' b:=λb hb=>by
  let{o,e,_}:=JZ.o.dom hb;have:=f b o (JZ.a2 b hb) e;exact{this.1.trans e.symm,this.2}
 have O:=JZ.o.keep (H':=H') (λb hb=>(k2 b hb).1) λb xs e=>(f b _ (JZ.sl.notup e) e).1;exact{{⟨O.ob,O.wr,O.dr,O.pa,O.ho,O.mx,O.ph,O.wl,O.kd,O.md,O.ld⟩,S,JZ.lv.frame λb hb=>(k1 b hb).1,λb h1 h2=>(k1 b h2).2 h1,λb hb=>(k2 b hb).2,JZ.a3},λb o n e=>{(f b o (λz=>n<|.inl z) e).1,λz=>z.elim (f b o (λz=>n<|.inl z) e).2 λz=>n<|.inr z}}
def RH.leaves(JZ:RH K t H a s l w p h Fs Fl x)(S:Qt K t H' l Fl' ks)(f:Fr Fl Fl' H H'):RH K t H' a s l w p h Fs Fl' {x with ks:=ks}/\Fr (RL a w p h Fs Fl x.pa) (RL a w p h Fs Fl' x.pa) H H':=by
 have k1:∀b,Fs b->H' b=H b/\¬Fl' b:=λb hb=>by
  let{o,e}:=JZ.sl.dom hb;have:=f b o (JZ.a1 b hb) e;exact{this.1.trans e.symm,this.2}
 have k2:∀b,Ow a w p h x.pa b->H' b=H b/\¬Fl' b:=λb hb=>by
  let{o,e,_}:=JZ.o.dom hb;have:=f b o (JZ.a3 b hb) e;exact{this.1.trans e.symm,this.2}
 have O:=JZ.o.keep (H':=H') (λb hb=>(k2 b hb).1) λb xs e=>(f b _ (JZ.lv.notup e) e).1;exact{{⟨O.ob,O.wr,O.dr,O.pa,O.ho,O.mx,O.ph,O.wl,O.kd,O.md,O.ld⟩,JZ.sl.frame λb hb=>(k1 b hb).1,S,λb h1=>(k1 b h1).2,JZ.a2,λb hb=>(k2 b hb).2},λb o n e=>{(f b o (λz=>n<|.inr<|.inl z) e).1,λz=>z.elim (λz=>n<|.inl z) λz=>z.elim (f b o (λz=>n<|.inr<|.inl z) e).2 λz=>n<|.inr (.inr z)}}
def RH.own(JZ:RH K t H a s l w p h Fs Fl x)(O:Qq t H' a s l w p h x')(G:x'.st=x.st)(e2:x'.ks=x.ks)(f:Fr (Ow a w p h x.pa) (Ow a w p h x'.pa) H H'):RH K t H' a s l w p h Fs Fl x'/\Fr (RL a w p h Fs Fl x.pa) (RL a w p h Fs Fl x'.pa) H H':=by
 have k1:∀b,Fs b->H' b=H b/\¬Ow a w p h x'.pa b:=λb hb=>by
  let{o,e}:=JZ.sl.dom hb;have:=f b o (λz=>JZ.a2 b z hb) e;exact{this.1.trans e.symm,this.2}
 have k2:∀b,Fl b->H' b=H b/\¬Ow a w p h x'.pa b:=λb hb=>by
  let{o,e}:=JZ.lv.dom hb;have:=f b o (λz=>JZ.a3 b z hb) e;exact{this.1.trans e.symm,this.2}
 exact{{O,by rw[G];exact JZ.sl.frame λb hb=>(k1 b hb).1,by rw[e2];exact JZ.lv.frame λb hb=>(k2 b hb).1,JZ.a1,λb h1 h2=>(k1 b h2).2 h1,λb h1 h2=>(k2 b h2).2 h1},λb o n e=>{(f b o (λz=>n<|.inr<|.inr z) e).1,λz=>z.elim (λz=>n<|.inl z) λz=>z.elim (λz=>n<|.inr<|.inl z) (f b o (λz=>n<|.inr<|.inr z) e).2}}
def RH.dom(JZ:RH K t H a s l w p h Fs Fl x)(hb:RL a w p h Fs Fl x.pa b):∃o,H b=some o/\∀ys,o≠ .tup ys:=by
 have no:∀F:Addr->Prop,F b->(∀xs,H b=some (.tup xs)->¬F b)->∀o,H b=some o->∃o,H b=some o/\∀ys,o≠ .tup ys:=λF G n o e=>{o,e,λys z=>n ys (by rw[e,z]) G};rcases hb with hb|hb|hb
 .let{o,e}:=JZ.sl.dom hb;exact no Fs hb (λxs e=>JZ.sl.notup e) o e
 .let{o,e}:=JZ.lv.dom hb;exact no Fl hb (λxs e=>JZ.lv.notup e) o e
 .exact JZ.o.dom hb
def RH.keep(JZ:RH K t H a s l w p h Fs Fl x)(g:∀b,RL a w p h Fs Fl x.pa b->H' b=H b)(z:∀b xs,H b=some (.tup xs)->H' b=some (.tup xs)):RH K t H' a s l w p h Fs Fl x:=
 {JZ.o.keep (λb hb=>g b<|.inr<|.inr hb) z,JZ.sl.frame λb hb=>g b<|.inl hb,JZ.lv.frame λb hb=>g b<|.inr<|.inl hb,JZ.a1,JZ.a2,JZ.a3}
end
structure QU(x:QA):Prop where
 ks:∀z,z∈x.ks↔(aH x.st.kv z).isSome=true
 n0:0<=x.now
 m0:0<=x.ma
 dl:(x.di.length:Int)=x.now+x.ma
 pl:(x.pa.length:Int)<=x.now
 el:∀j,((fR x.pa j).length:Int)<=x.now
 sl:(x.st.kv.length:Int)<=x.now
 hn:(x.ho.map (·.1)).Nodup
 hv:∀p∈x.ho,x.fl<=p.1/\p.1<=x.now/\∃n:Int,p.2= .int n/\0<n
 fb:0<=x.fl/\x.fl<=x.now
 up:∀j,(fR x.pa j).Pairwise (λa b=>a.mo<b.mo)/\∀y∈fR x.pa j,y.mo<=x.now
def QC(K:FA)(t:PL)(H:Hp)(a:G')(F:K')(x:QA):Prop:=∃s l w p h Fs Fl,RH K t H a s l w p h Fs Fl x/\QU x/\∀b,F b↔RL a w p h Fs Fl x.pa b
section
variable{x:QA}
def QC.ins(A:QC K t H a F x):∃dx fs,H a=some (.ins t.a9 dx fs)/\(∀m,NoH m->fs.lookup m=none)/\fs.lookup ("now":Str)=some (.int x.now)/\fs.lookup ("floor":Str)=some (.int x.fl):=by
 let{s,l,w,p,h,Fs,Fl,JZ,_}:=A;let{dx,e}:=JZ.o.ob;exact{dx,_,e,λm z=>Jk z,wD,NY}
def QC.ok(A:QC K t H a F x):QU x:=by
 let{s,l,w,p,h,Fs,Fl,JZ,O,_}:=A;exact O
def QC.dom(A:QC K t H a F x)(hb:F b):∃o,H b=some o/\∀ys,o≠ .tup ys:=by
 let{s,l,w,p,h,Fs,Fl,JZ,_,g}:=A;exact JZ.dom<|(g b).mp hb
def QC.out(A:QC K t H a F x)(e:H b=none):¬F b:=λz=>by
 let{o,q,_}:=A.dom z;rw[q]at e;cases e
def QC.keep(A:QC K t H a F x)(g:∀b,F b->H' b=H b)(z:∀b xs,H b=some (.tup xs)->H' b=some (.tup xs)):QC K t H' a F x:=by
 let{s,l,w,p,h,Fs,Fl,JZ,O,f}:=A;exact{s,l,w,p,h,Fs,Fl,JZ.keep (λb hb=>g b<|(f b).mpr hb) z,O,f}
def QC.same(A:QC K t H a F x)(m:G3 H H'):QC K t H' a F x:=A.keep (λb hb=>by
 let{o,e,_}:=A.dom hb;rw[e];exact m _ _ e) λb xs e=>m _ _ e
def QC.upd(A:QC K t H a F x)(n:¬F q)(G:∀xs,H q≠some (.tup xs)):QC K t (L2.upd H q o) a F x:=A.keep (λb hb=>af λz=>n<|z▸hb) λb xs e=>by rwa[af λz=>G xs (by rw[<-z];exact e)]
end
def w5(t:PL):Sp:=λvs H Q _=>∃(a s l w p h r:G')(k:Int)(x:QA)(v:V)(xs:P7),vs=[.ref a,.ref r,v]/\Qq t H a s l w p h x/\H r=some (.tup xs)/\RM xs 1=some (.int k)/\x.di.length<50000/\x.pa.length<50000/\(fR x.pa k).length<50000/\
 ∀(H':Hp)(pa':List Pk)(q:G'),Qq t H' a s l w p h {x with now:=x.now+1,di:=x.di++ [(r,xs)],pa:=pa'}->QP x.pa pa' k {q,x.now+1,v}->Fr (Ow a w p h x.pa) (Ow a w p h pa') H H'->Q (.int<|x.now+1) H'
def oU:Ck P w K mg base PP 3 t.rh t.kS [cC,"row",qN] (w5 t):=by
 refine T.KI.okl xu λs H vs Q E hr h _=>?_;intro X;let{a,s,l,I,p,h,r,k,x,v,xs,rfl,A,ht,hk,l1,l2,l3,q}:=h;refine aj (PN 3<|aS bG M2 ae<|λ_ _=>M)
   (aj (iP Ca ae yg)
   (aj (aM<|dH Zi ZQ ZR dS (ar Ca M)<|ac M2 ai)
   (aj (aM<|aT (dH Zy Wx PySem.F.type_dict_setdefault Gx (ar Ca M)<|ac PR<|ac (tD T.O6 (xN T) hr.mo {_} T.O9 T.Kq .nil az) ai) T.Dp T.Kg (xM T) hr.mo T.Kp .nil az<|ac (ar Ca M)<|ac P8 ai)
   (aB (aD<|ar Ca M) ?_))))
 intros
 let{dx,ho}:=A.ob;refine{_,M,r,_,_,_,M,M,QO.of ht,hk,?_};refine{_,M,a,_,dx,_,_,M,ho,T.aV,T.mM,wD,_,_,M,M,dx,_,ho,Fo,?_};rw[Lc];have A1:=A.set (now:=x.now+1) (mk:=x.ma) (fl:=x.fl) (dx:=dx);have o1:∀b o,b≠a->H b=some o->upd H a (.ins t.a9 dx<|Qo (x.now+1) x.fl s l I x.ma p h) b=some o:=λb o n e=>by rwa[af n]
 have ra:r≠a:=λz=>by rw[z,ho]at ht;cases ht
 have U:=o1 _ _ ra ht;generalize upd H a (.ins t.a9 dx<|Qo (x.now+1) x.fl s l I x.ma p h)=H1 at A1 o1 U⊢;let{a3,a0}:=A1.ob;refine{_,M,a,_,a3,_,_,M,a0,T.aV,T.gy,EB,.inl {M,_,Kv.of A1.wr},_,M,I,_,_,M,M,A1.wr,bh (by rw[Q1];show x.di.length<=_;lia),?_};have Y:=A1.row U;have o2:∀b o,¬Ow a I p h x.pa b->H b=some o->upd H1 I (.lst<|x.di.map (λe=>V.ref e.1)++ [.ref r]) b=some o:=λb o n e=>by rw[af λz=>n (.inr<|.inl z)];exact o1 _ _ (λz=>n<|.inl z) e
 generalize upd H1 I (.lst<|x.di.map (λe=>V.ref e.1)++ [.ref r])=H2 at Y o2⊢;let{a4,a1}:=Y.ob;refine{_,M,a,_,a4,_,_,M,a1,T.aV,T.zN,NX,.inr<|.inr<|.inl {M,.inl {_,Y.pa}},_,M,λm dm nm nd a5=>{m,dm,M,ag,λH4 g M4 ng o4=>{M,?_}}};have s3:G3 H2 (upd (upd H2 dm<|.own m) m<|.ins t.gQ dm []):=b6 (al nd) nm;have s4:G3 H2 H4:=λb o e=>o4 b o (λz=>by rw[z,nm]at e;cases e) (s3 b o e);have Z:=cV s3 ng;have A4:=Y.same s4;have om:¬Ow a I p h x.pa m:=λz=>by let{o,e,_}:=Y.dom z;rw[nm]at e;cases e
 have og:¬Ow a I p h x.pa g:=λz=>by let{o,e,_}:=Y.dom z;rw[Z]at e;cases e
 have o5:∀b o,¬Ow a I p h x.pa b->H b=some o->H4 b=some o/\b≠m/\b≠g:=λb o n e=>{s4 _ _<|o2 b o n e,λz=>(by have:=o2 b o n e;rw[z,nm]at this;cases this),λz=>(by have:=o2 b o n e;rw[z,Z]at this;cases this)};clear s3 s4 o4 o2 o1 A1 Y a1 a0 ho A ng nm nd a5 Z U ht;refine{p,_,Sum.inl k,.ref m,M,M,A4.pa,(by rw[a8];exact bh<|by show(RF x.pa).length<=_;unfold RF;rw[Q1];lia),λu hu=>?A,λhn=>?JZ}
 case' A=>
  have hu:aH (aC<|RF x.pa) (Sum.inl k:Key)=some u:=hu;rw[P9]at hu;obtain⟨e,he,O,ev,em⟩:∃e∈x.pa,e.k=k/\aH (RF x.pa) k=some (.ref e.m)/\fR x.pa k=e.es:=by
   rcases E6 x.pa k with⟨z,_⟩|z
   .rw[z]at hu;cases hu
   .exact z
  rw[ev]at hu;cases hu;obtain⟨G,A5,he,N,f5⟩:∃G,Qq t H4 a s l I p h {x with now:=x.now+1,di:=x.di++ [(r,xs)],pa:=G}/\e∈G/\(∀y,QP x.pa (RN G k y) k y)/\Fr (Ow a I p h x.pa) (Ow a I p h G) H H4:=
   {x.pa,A4,he,λy=>{λj=>tL<|Z5.mpr ⟨e,he,O⟩,by rw[Aj λ_ _=>M,WJ (Z5.mpr ⟨e,he,O⟩)]},λb o n e=>{(o5 b o n e).1,n}}
  have le:e.es.length<50000:=by rwa[<-em]
  clear A4 em ev o5
 case' JZ=>
  have hn:aH (aC<|RF x.pa) (Sum.inl k:Key)=none:=hn;rw[P9]at hn;have nk:k∉x.pa.map (·.k):=by
   rcases E6 x.pa k with⟨_,z⟩|⟨e,_,_,z,_⟩
   .exact z
   .rw[z]at hn;cases hn
  have ep:bu (aC<|RF x.pa) (Sum.inl k:Key) (.ref m)=aC (RF x.pa++ [(k,.ref m)]):=by
   rw[cw];unfold bu;rw[dE,hn];rfl
  rw[ep];obtain⟨e,ee,O,le⟩:∃e:Pk,e={k,m,g,[]}/\e.k=k/\e.es.length<50000:={_,M,M,by show 0<50000;decide};obtain⟨G,A5,he,N,f5⟩:∃G,Qq t (upd H4 p<|.dK<|aC<|RF x.pa++ [(k,.ref m)]) a s l I p h {x with now:=x.now+1,di:=x.di++ [(r,xs)],pa:=G}/\e∈G/\(∀y,QP x.pa (RN G k y) k y)/\Fr (Ow a I p h x.pa) (Ow a I p h G) H (upd H4 p<|.dK<|aC<|RF x.pa++ [(k,.ref m)]):=by
   refine{x.pa++ [e],ee▸A4.newk nk M4 om og,Zq _ Z4,λy=>{λj=>?_,?_},λb o n eb=>{?_,λz=>?_}}
   .have a2:e.k∉x.pa.map (·.k):=by rwa[O]
    rw[tL (by rw[Z6];exact Zq _<|Q9.mpr O.symm),xW a2,xW a2,WJ O.symm,Au nk,ee];by_cases c:j=k
    .rw[WJ c,WJ c]
    .rw[WI c,WI c,WI c]
   .rw[Aj λ_ _=>M,WI nk,Z6,<-O];rfl
   .rw[af λz=>n (.inr<|.inr<|.inl z)];exact(o5 b o n eb).1
   .rcases z with z|z|z|z|⟨e',aa,z⟩
    .exact n<|.inl z
    .exact n<|.inr (.inl z)
    .exact n<|.inr (.inr<|.inl z)
    .exact n<|.inr (.inr<|.inr<|.inl z)
    .rcases Q6.mp aa with y|y
     .exact n<|.inr (.inr<|.inr<|.inr ⟨e',y,z⟩)
     .rw[Q9.mp y,ee]at z;exact z.elim (o5 b o n eb).2.1 (o5 b o n eb).2.2
  have em:V.ref m=V.ref e.m:=by rw[ee]
  clear A4 M4 o5 om og hn nk ep;generalize upd H4 p (.dK<|aC<|RF x.pa++ [(k,.ref m)])=H5 at A5 f5⊢;rw[em]
 all_goals
  have M5:=A5.mx e he;let{dy,hm}:=M5.ob;let{ah,an}:=A5.ob;refine{e.m,dy,_,M,hm,bP ∅,_,M,a,_,ah,_,_,M,an,T.aV,T.mM,wD,_,M,e.m,e.l,e.es,_,v,M,M5,(),λH6 y M6 ny o6=>?_};have A6:=A5.noted he O M6 o6;let{aw,ax}:=A6.ob;refine{_,M,a,_,aw,_,_,M,ax,T.aV,T.mM,wD,q _ _ y A6 (N _)<|f5.trans λb o n eb=>{o6 b o (λz=>n<|.inr<|.inr<|.inr<|.inr {e,he,.inr z}) eb,λz=>n<|Nw z}}
def QA.new:QA:={0,0,0,PD.new,[],[],[],[]}
def QA.new_ok:QU QA.new:={λz=>{(λy=>by cases y),(λy=>by cases y)},(_),(_),M,(_),λ_=>by show((0:Nat):Int)<=0;decide,(_),ZY,(λ_ z=>by cases z),(_),λ_=>{Y4,(λy z=>by cases z)}}
def cU{nx:Hp->Prop}(k:∀H',H' a=some (.ins C dx<|bN f v fs)->(∀b,b≠a->H' b=H b)->nx H'):nx (upd H a<|.ins C dx<|bN f v fs):=k _ ag λ_ n=>af n
def mP{m:Nat}(h:Nat.ble (n+1) m=true):n<m:=Nat.le_of_ble_eq_true h
def wY(K:FA)(t:PL):Sp:=λvs H Q _=>∃(a dx:G'),vs=[.ref a]/\H a=some (.ins t.a9 dx [])/\∀H' F,QC K t H' a F QA.new->Fr (λb=>b=a) F H H'->Q .non H'
def xP:Ck P w K mg base PP 4 t.rc t.kQ [cC] (wY K t):=by
 refine T.KG.okl xq λs H vs Q E hr h _=>?_;intro X;let{a,dx,rfl,ha,q}:=h;refine aj (bp Ca ae M)
   (aj (bp Ca ae M)
   (aj (bp Ca (tD T.O1 (xK T) hr.mo {_} T.O8 T.Kn .nil az) M)
   (aj (bp Ca (tD T.Os (wn T) hr.mo {_} T.Ou T.JV .nil az) M)
   (aj (bp Ca (cu ai) M)
   (aj (bp Ca ae M)
   (aj (bp Ca eO M)
   (aB (bp Ca eO M) ?_)))))))
 intros
 refine{_,M,a,_,dx,[],M,ha,T.aV,T.mM,mP (by kernel_rfl),cU λH1 h1 o1=>?_};refine{_,M,a,_,dx,_,M,h1,T.aV,T.Iy,mP (by kernel_rfl),cU λH2 h2 o2=>?_};refine λs ds ns G a0=>{s,ds,M,ag,by rw[af a0];exact ag,λH3 Fs S3 f3=>{M,?_}};have k3:∀b o,H2 b=some o->H3 b=some o/\¬Fs b:=λb o e=>f3 b o (λz=>z.elim (λz=>by rw[z,ns]at e;cases e) λz=>by rw[z,G]at e;cases e) (b6 (al G) ns _ _ e);let{h3,na}:=k3 _ _ h2;refine{_,M,a,_,dx,_,M,h3,T.aV,T.dI,mP (by kernel_rfl),cU λH4 h4 o4=>?_};have S4:=S3.frame (H':=H4) λb hb=>o4 b λz=>na (z▸hb);refine λl dl nl I a1=>{l,dl,M,ag,by rw[af a1];exact ag,λH5 Fl L5 f5=>{M,?_}};have k5:∀b o,H4 b=some o->H5 b=some o/\¬Fl b:=λb o e=>f5 b o (λz=>z.elim (λz=>by rw[z,nl]at e;cases e) λz=>by rw[z,I]at e;cases e) (b6 (al I) nl _ _ e);let{h5,nb}:=k5 _ _ h4;refine{_,M,a,_,dx,_,M,h5,T.aV,T.hV,mP (by kernel_rfl),cU λH6 h6 o6=>?_};have L6:=L5.frame (H':=H6) λb hb=>o6 b λz=>nb (z▸hb);have S6:=(S4.same λb o e=>(k5 b o e).1).frame (H':=H6) λb hb=>o6 b λz=>na (z▸hb);have ap:∀b,Fs b->¬Fl b:=λb hb=>by
  let{o,e}:=S4.dom hb;exact(k5 b o e).2
 have k6:∀b o,b≠a->H b=some o->H6 b=some o/\¬Fs b/\¬Fl b:=λb o n e=>by
  let{e3,n3}:=k3 b o (by rwa[o2 b n,o1 b n]);let{e5,n5}:=k5 b o (by rwa[o4 b n]);exact{by rwa[o6 b n],n3,n5}
 clear f3 k3 f5 k5 S4 L5 S3 ns G a0 nl I a1 h1 h2 h3 h4 h5 o1 o2 o4 o6;refine{Za _,λwr nw=>{_,M,a,_,dx,_,M,al nw _ _ h6,T.aV,T.gy,mP (by kernel_rfl),cU λH7 h7 o7=>?_}};refine{_,M,a,_,dx,_,M,h7,T.aV,T.jh,mP (by kernel_rfl),cU λH8 h8 o8=>?_};refine λp np=>{_,M,a,_,dx,_,M,al np _ _ h8,T.aV,T.zN,mP (by kernel_rfl),cU λH9 h9 o9=>?_};refine λh nh=>{_,M,a,_,dx,_,M,al nh _ _ h9,T.aV,T.Gv,mP (by kernel_rfl),cU λa2 a4 a3=>?_};have kk:∀{A JZ:Hp}{q:G'}{u:HO},A q=none->(∀b,b≠a->JZ b=upd A q u b)->∀b o,b≠a->A b=some o->JZ b=some o:=λnq e b o n h=>by rwa[e b n,af (am h nq)]
 have wa:=(am h6 nw).symm;have pa':=(am h8 np).symm;have U:=(am h9 nh).symm;have e8:∀b o,b≠a->H6 b=some o->H8 b=some o:=λb o n e=>by rw[o8 b n];exact kk nw o7 b o n e
 have e9:=kk np o9;have Y:=kk nh a3;have w8:H8 wr=some (.lst []):=by rw[o8 _ wa,o7 _ wa];exact ag
 have p9:H9 p=some (.dK []):=by rw[o9 _ pa'];exact ag
 have Z:∀b o,b≠a->H6 b=some o->a2 b=some o:=λb o n e=>Y b o n (e9 b o n<|e8 b o n e);have O:Qq t a2 a s l wr p h QA.new:={{dx,a4.trans<|by kernel_rfl},Y _ _ wa<|e9 _ _ wa w8,(λe he=>by cases he),Y _ _ pa' p9,by rw[a3 _ U];exact ag,(λe he=>by cases he),am p9 nh,(λe he=>by cases he),ZY,ZY,ZY};have fresh:∀b,(b=wr\/b=p\/b=h)->H6 b=none:=λb hb=>by
  cases e:H6 b with
  |none=>rfl
  |some o=>
   rcases hb with rfl|rfl|rfl
   .rw[nw]at e;cases e
   .rw[e8 _ _ pa' e]at np;cases np
   .rw[e9 _ _ U (e8 _ _ U e)]at nh;cases nh
 have ow:∀b,Ow a wr p h [] b->b=a\/H6 b=none:=λb hb=>by
  rcases hb with z|z|z|z|⟨e,he,_⟩
  .exact .inl z
  .exact .inr<|fresh b (.inl z)
  .exact .inr<|fresh b (.inr<|.inl z)
  .exact .inr<|fresh b (.inr<|.inr z)
  .cases he
 refine q _ (RL a wr p h Fs Fl []) {s,l,wr,p,h,Fs,Fl,{O,S6.frame λb hb=>?_,L6.frame λb hb=>?_,ap,λb hb z=>?_,λb hb z=>?_},QA.new_ok,λ_=>Iff.rfl} λb o n e=>?_
 .let{o,e}:=S6.dom hb;rw[e];exact Z b o (λz=>na<|z▸hb) e
 .let{o,e}:=L6.dom hb;rw[e];exact Z b o (λz=>nb<|z▸hb) e
 .rcases ow b hb with y|y
  .exact na<|y▸z
  .exact S6.out y z
 .rcases ow b hb with y|y
  .exact nb<|y▸z
  .exact L6.out y z
 .let{c1,c2,c3}:=k6 b o n e;refine{Z b o n c1,λz=>?_};rcases z with z|z|z
  .exact c2 z
  .exact c3 z
  .rcases ow b z with y|y
   .exact n y
   .rw[c1]at y;cases y
def rD(K:FA)(t:PL):Sp:=λvs H Q _=>∃(a:G')(F:K')(x:QA),vs=[.ref a]/\QC K t H a F x/\x.now+x.ma<40000/\
 ∀(H':Hp)(F':K')(r:G'),QC K t H' a F' {x with ma:=x.ma+1,di:=x.di++ [(r,[.str "mark",.int (x.ma+1)])]}->Fr F F' H H'->Q (.int<|x.ma+1) H'
def eZ:Ck P w K mg base PP 1 t.jX t.fZ [cC] (rD K t):=by
 refine T.FQ.okl rJ λs H vs Q E hr h _=>?_;intro X;let{a,F,x,rfl,A,l1,q}:=h;refine aj (iP Ca ae yg)
   (aj (aM<|dH Zi ZQ ZR dS (ar Ca M)<|ac (bY<|ac fN<|ac (ar Ca M) ai) ai)
   (aB (aD<|ar Ca M) ?_))
 intros
 let{s,l,G,p,h,Fs,Fl,JZ,O,g}:=A;let{dx,ho}:=JZ.o.ob;refine{_,M,a,_,dx,_,_,M,ho,T.aV,T.jh,EC,_,_,M,M,dx,_,ho,Fo,?_};rw[Nq];have A1:=JZ.o.set (now:=x.now) (mk:=x.ma+1) (fl:=x.fl) (dx:=dx);have f1:Fr (Ow a G p h x.pa) (Ow a G p h x.pa) H (upd H a<|.ins t.a9 dx<|Qo x.now x.fl s l G (x.ma+1) p h):=λb o n e=>{by rwa[af λz=>n (.inl z)],n};generalize upd H a (.ins t.a9 dx<|Qo x.now x.fl s l G (x.ma+1) p h)=H1 at A1 f1⊢;let{I,U}:=A1.ob;have dl:=O.dl;refine{_,M,a,_,I,_,_,M,U,T.aV,T.gy,EB,.inl {M,_,Kv.of A1.wr},?_};refine{_,M,a,_,I,_,_,M,U,T.aV,T.jh,EC,(by show 2<=sizeLine;decide),λr nr=>?_};have s2:=al (o:= .tup [.str "mark",.int (x.ma+1)]) nr;have Y:=A1.same s2;have f2:=f1.trans (Fr.of_same s2);have ht:upd H1 r (.tup [.str "mark",.int (x.ma+1)]) r=some (.tup [.str "mark",.int (x.ma+1)]):=ag;generalize upd H1 r (.tup [.str "mark",.int (x.ma+1)])=H2 at Y f2 ht⊢;refine{G,_,_,M,M,Y.wr,bh (by rw[Q1];show x.di.length<=_;lia),?_};have Z:=Y.row ht;have f3:Fr (Ow a G p h x.pa) (Ow a G p h x.pa) H (upd H2 G<|.lst<|x.di.map (λe=>V.ref e.1)++ [.ref r]):=λb o n e=>{by rw[af λz=>n (.inr<|.inl z)];exact(f2 b o n e).1,n};generalize upd H2 G (.lst<|x.di.map (λe=>V.ref e.1)++ [.ref r])=H3 at Z f3⊢;let{a0,a1}:=Z.ob;let{B3,f4}:=JZ.own Z M M f3;refine{_,M,a,_,a0,_,_,M,a1,T.aV,T.jh,EC,q H3 F r {s,l,G,p,h,Fs,Fl,B3,{O.ks,O.n0,?_,?_,O.pl,O.el,O.sl,O.hn,O.hv,O.fb,O.up},g} ?_}
 .have:=O.m0;show 0<=x.ma+1;lia
 .show((x.di++ [(r,_)]).length:Int)=x.now+(x.ma+1);rw[Q8,ZS];lia
 .exact λb o n e=>{(f4 b o (λz=>n<|(g b).mpr z) e).1,n}
def QC.klen{x:QA}(A:QC K t H a F x):(x.ks.length:Int)<=x.now:=by
 let{s,l,w,p,h,Fs,Fl,JZ,O,_}:=A;let{L,A,ls,_,ok,e,_}:=JZ.lv;have nd:x.ks.Nodup:=by
  rw[<-e];exact List.Pairwise.imp (λh z=>()) ok.up
 have:=gS (S:=x.st.kv.map (·.1)) nd λz hz=>mem_keys.mpr ((O.ks z).mp hz);rw[Q1]at this;have:=O.sl;lia
def QU.noted{x:QA}{y:Rn}(O:QU x)(N:QP x.pa pa' k y):(pa'.length:Int)<=x.now+1/\∀j,((fR pa' j).length:Int)<=x.now+1:=by
 constructor
 .have h1:=O.pl;have h2:=Y2 List.length N.ky;rw[Q1]at h2;split at h2
  .rw[Q1]at h2;lia
  .rw[Q8,Q1,ZS]at h2;lia
 .intro j;rw[N.of];split
  .have:=O.el k;rw[Q8,ZS];lia
  .have:=O.el j;lia
def QU.hv1{x:QA}(O:QU x):∀p∈x.ho,x.fl<=p.1/\p.1<=x.now+1/\∃n:Int,p.2= .int n/\0<n:=λp z=>{(O.hv p z).1,by have:=(O.hv p z).2.1;lia,(O.hv p z).2.2}
def QU.fb1{x:QA}(O:QU x):0<=x.fl/\x.fl<=x.now+1:={O.fb.1,by have:=O.fb.2;lia}
def QU.up1{x:QA}{y:Rn}(O:QU x)(N:QP x.pa pa' k y)(e:y.mo=x.now+1):∀j,(fR pa' j).Pairwise (λa b=>a.mo<b.mo)/\∀z∈fR pa' j,z.mo<=x.now+1:=λj=>by
 rw[N.of];let{I,G}:=O.up k;split
 .refine{Zc.mpr {I,Xk _ _,λa ha b hb=>?_},λz hz=>?_}
  .rw[Q9.mp hb,e];have:=G a ha;lia
  .rcases Q6.mp hz with hz|hz
   .have:=G z hz;lia
   .rw[Q9.mp hz,e];exact Xs _
 .let{U,Y}:=O.up j;exact{U,λz hz=>by have:=Y z hz;lia}
def zb(K:FA)(t:PL):Sp:=λvs H Q _=>∃(a:G')(k i:Int)(F:K')(x:QA),vs=[.ref a,.int k,.int i]/\QC K t H a F x/\0<=k/\x.now+x.ma<4000/\
 ∀(H':Hp)(F':K')(ks':O')(r q:G')(pa':List Pk),QC K t H' a F' {x with now:=x.now+1,st:=x.st.put k (.int i),ks:=ks',di:=x.di++ [(r,[.str "put",.int k,.int i])],pa:=pa'}->QP x.pa pa' k {q,x.now+1,.int i}->Fr F F' H H'->Q (.int<|x.now+1) H'
set_option tactic.hygienic true in
def zK:Ck P w K mg base PP 5 t.uv t.ni [cC,et,qN] (zb K t):=by
 refine T.Mc.okl zx λs H vs Q E hr h _=>?_;intro X;let{a,k,i,F,x,rfl,A,k0,l1,q}:=h;refine aj (aO (eY<|bF<|aT (ar Ca M) T.aL T.BJ (qG T) hr.mo T.B7 .nil az<|ac M2 ai)
    (aA<|aM<|aT (ar Ca M) T.aN T.Kh (xO T) hr.mo T.Kr .nil az<|ac M2 ai)
    aF)
   (aj (aM<|aT (ar Ca M) T.aL T.Lv (zG T) hr.mo T.LT .nil az<|ac M2<|ac P8 ai)
   (aB (aD<|aT Ca T.aV T.zR (oU T) hr.mo T.zX .nil az<|ac (bY<|ac fN<|ac M2<|ac P8 ai)<|ac P8 ai) ?_))
 intros
 have kl:=A.klen;let{s,l,Y,p,h,Fs,Fl,JZ,O,g}:=A;have n0:=O.n0;have m0:=O.m0;have sl:=O.sl;let{dx,ho}:=JZ.o.ob;let{ds,fs,hs,hm}:=JZ.sl.ins
 (try dsimp only)
 refine dQ (λW H2=>∃(U G:K')(I:O'),W=[some (.ref a),some (.int k),some (.int i)]/\RH K t H2 a s l Y p h U G {x with ks:=I}/\(∀z,z∈I↔z=k\/z∈x.ks)/\Fr (RL a Y p h Fs Fl x.pa) (RL a Y p h U G x.pa) H H2) (λnx go=>?_)<|λW H2 w=>?_
 .refine{_,M,a,_,dx,_,_,M,ho,T.aV,T.dI,yh,s,ds,fs,M,hs,hm _ ∅,_,M,s,k,Fs,x.st,M,JZ.sl,k0,λH1 a0 S1 f1=>?_};let{B1,g1}:=JZ.slots S1 f1;let{a1,a2}:=B1.o.ob;let{dl,fl,hl,a3}:=B1.lv.ins;cases ev:(aH x.st.kv k).isSome with
  |true=>
   refine{_,M,bL (λc=>?_)<|λ_=>?_}
   .cases c
   .exact go _ _ {a0,Fl,x.ks,M,B1,λz=>{.inr,λy=>y.elim (λy=>by rw[y];exact(O.ks k).mpr ev) id},g1}
  |false=>
   have nk:k∉x.ks:=λz=>by have:=(O.ks k).mp z;rw[ev]at this;cases this
   refine{_,M,bL (λ_=>?_)<|λc=>?_}
   .refine{_,M,a,_,a1,_,_,M,a2,T.aV,T.hV,ED,l,dl,fl,M,hl,a3 _ ∅,_,M,l,k,Fl,x.ks,M,B1.lv,(),λ_ H2 G I L2 mem f2=>?_,λz=>WN z nk};let{B2,g2}:=B1.leaves L2 f2;exact go _ _ {a0,G,I,M,B2,mem,g1.trans g2}
   .exact WN M c
 .let{U,G,I,rfl,B2,mem,g2}:=w;let{a4,a5}:=B2.o.ob;let{a9,aa,ah,an}:=B2.sl.ins;refine{_,M,a,_,a4,_,_,M,a5,T.aV,T.dI,yh,s,a9,aa,M,ah,an _ ∅,_,M,_,M,s,k,i,U,x.st,M,B2.sl,k0,(),λH3 Z S3 f3=>?_};let{B3,g3}:=B2.slots S3 f3;let{aw,ax}:=B3.o.ob;refine{_,M,a,aw,_,M,ax,Jk ∅,_,M,_,M,(by show 3<=sizeLine;decide),λr nr=>?_};have s4:=al (o:= .tup [.str "put",.int k,.int i]) nr;have ht:upd H3 r (.tup [.str "put",.int k,.int i]) r=some (.tup [.str "put",.int k,.int i]):=ag;have B4:RH K t (upd H3 r<|.tup [.str "put",.int k,.int i]) a s l Y p h Z G _:=B3.keep (λb hb=>by
   let{o,e,_}:=B3.dom hb;rw[e];exact s4 _ _ e) λb xs e=>s4 _ _ e
  have g4:=(g2.trans g3).trans (Fr.of_same s4);generalize upd H3 r (.tup [.str "put",.int k,.int i])=H4 at B4 ht g4⊢;have dl:=O.dl;have pl:=O.pl;have el:=O.el k;refine{_,M,a,s,l,Y,p,h,r,k,_,.int i,_,M,B4.o,ht,M,by show x.di.length<50000;lia,by show x.pa.length<50000;lia,by show(fR x.pa k).length<50000;lia,λH5 pa' y O5 N f5=>?_};let{B5,g5}:=B4.own O5 M M f5;let{N1,N2}:=O.noted N;have ek:(x.st.put k<|.int i).kv=bu x.st.kv k (.int i):=PD.three_kv;refine q H5 (RL a Y p h Z G pa') I r y pa' {s,l,Y,p,h,Z,G,B5,{λz=>?_,by show 0<=x.now+1;lia,m0,?_,N1,N2,?_,O.hn,O.hv1,O.fb1,O.up1 N M},λ_=>Iff.rfl} N ?_
  .show z∈I↔(aH (x.st.put k<|.int i).kv z).isSome=true;rw[mem,ek,<-mem_keys,tP,O.ks];split
   .rename_i c
    rw[mem_keys];exact{λy=>y.elim (λy=>y▸c) id,.inr}
   .rw[Q6,Q9,mem_keys];exact{λy=>y.elim .inr .inl,λy=>y.elim .inr .inl}
  .show((x.di++ [(r,_)]).length:Int)=x.now+1+x.ma;rw[Q8,ZS];lia
  .show((x.st.put k<|.int i).kv.length:Int)<=x.now+1;rw[ek];have:=cy x.st.kv k (.int i);lia
  .exact λb o n e=>(g4.trans g5) b o (λz=>n<|(g b).mpr z) e
def wZ(K:FA)(t:PL):Sp:=λvs H Q E=>∃(a:G')(k:Int)(F:K')(x:QA),vs=[.ref a,.int k]/\QC K t H a F x/\0<=k/\x.now+x.ma<4000/\
 ((aH x.st.kv k).isSome=true->∀(H':Hp)(F':K')(ks':O')(r q:G')(pa':List Pk),QC K t H' a F' {x with now:=x.now+1,st:=x.st.drop k,ks:=ks',di:=x.di++ [(r,[.str "drop",.int k])],pa:=pa'}->QP x.pa pa' k {q,x.now+1,.non}->Fr F F' H H'->Q (.int<|x.now+1) H')/\
 (aH x.st.kv k=none->False)
def xQ:Ck P w K mg base PP 6 t.re t.kR [cC,et] (wZ K t):=by
 refine T.KH.okl xt λs H vs Q E hr h _=>?_;intro X;let{a,k,F,x,rfl,A,k0,l1,q,qx}:=h;refine aj (aM<|aT (ar Ca M) T.aL T.Kf (xL T) hr.mo T.Ko .nil az<|ac M2 ai)
   (aj (aM<|aT (ar Ca M) T.aN T.Fe (rS T) hr.mo T.FF .nil az<|ac M2 ai)
   (aB (aD<|aT Ca T.aV T.zR (oU T) hr.mo T.zX .nil az<|ac (bY<|ac fN<|ac M2 ai)<|ac bc ai) ?_))
 intros
 have kl:=A.klen;let{s,l,Y,p,h,Fs,Fl,JZ,O,g}:=A;have n0:=O.n0;have m0:=O.m0;have sl:=O.sl;let{dx,ho}:=JZ.o.ob;let{ds,fs,hs,hm}:=JZ.sl.ins
 (try dsimp only)
 refine{_,M,a,_,dx,_,_,M,ho,T.aV,T.dI,yh,s,ds,fs,M,hs,hm _ ∅,_,M,s,k,Fs,x.st,M,JZ.sl,k0,λev=>{(),λH1 G S1 f1=>?_},λhn=>(qx hn).elim}
 .let{Z,g1}:=JZ.slots S1 f1;let{a0,a1}:=Z.o.ob;let{dl,fl,hl,a2}:=Z.lv.ins;refine{_,M,a,_,a0,_,_,M,a1,T.aV,T.hV,ED,l,dl,fl,M,hl,a2 _ ∅,_,M,l,k,Fl,x.ks,M,Z.lv,(),λ_ H2 I U L2 mem f2=>?_,λz=>WN ((O.ks k).mpr ev) z};let{B3,g3}:=Z.leaves L2 f2;let{a3,a4}:=B3.o.ob;refine{_,M,a,a3,_,M,a4,Jk ∅,_,M,(by show 2<=sizeLine;decide),λr nr=>?_};have s4:=al (o:= .tup [.str "drop",.int k]) nr;have ht:upd H2 r (.tup [.str "drop",.int k]) r=some (.tup [.str "drop",.int k]):=ag;have B4:RH K t (upd H2 r<|.tup [.str "drop",.int k]) a s l Y p h G I _:=B3.keep (λb hb=>by
   let{o,e,_}:=B3.dom hb;rw[e];exact s4 _ _ e) λb xs e=>s4 _ _ e
  have g4:=(g1.trans g3).trans (Fr.of_same s4);generalize upd H2 r (.tup [.str "drop",.int k])=H4 at B4 ht g4⊢;have dl:=O.dl;have pl:=O.pl;have el:=O.el k;refine{a,s,l,Y,p,h,r,k,_,.non,_,M,B4.o,ht,M,by show x.di.length<50000;lia,by show x.pa.length<50000;lia,by show(fR x.pa k).length<50000;lia,λH5 pa' y O5 N f5=>?_};let{B5,g5}:=B4.own O5 M M f5;let{N1,N2}:=O.noted N;have ek:(x.st.drop k).kv=bQ x.st.kv k:=PD.three_kv;refine q ev H5 (RL a Y p h G I pa') U r y pa' {s,l,Y,p,h,G,I,B5,{λz=>?_,by show 0<=x.now+1;lia,m0,?_,N1,N2,?_,O.hn,O.hv1,O.fb1,O.up1 N M},λ_=>Iff.rfl} N ?_
  .show z∈U↔(aH (x.st.drop k).kv z).isSome=true;rw[mem,ek,fh,O.ks];by_cases c:z=k
   .rw[WJ c];exact{λy=>WN c y.1,λy=>by cases y}
   .rw[WI c];exact{λy=>y.2,λy=>⟨c,y⟩}
  .show((x.di++ [(r,_)]).length:Int)=x.now+1+x.ma;rw[Q8,ZS];lia
  .show((x.st.drop k).kv.length:Int)<=x.now+1;rw[ek];have:(bQ x.st.kv k).length<=x.st.kv.length:=Zd _ _;lia
  .exact λb o n e=>(g4.trans g5) b o (λz=>n<|(g b).mpr z) e
def JL{f:α->V}{ms:List α}{g:Int}(h:0<=g):qt (ms.map f) (some g) none=(ms.drop g.toNat).map f:=by
 unfold qt HT.sIx;dsimp only;rw[WI (),Vi];rcases Nat.le_total g.toNat (ms.map f).length with c|c
 .rw[Xn c];exact Zo<|by rw[Zw];lia
 .rw[Wq c,VJ c,VJ (Q5 _),VA]
def vO(K:FA)(t:PL):Sp:=λvs H Q _=>∃(a:G')(lo:Int)(F:K')(x:QA),vs=[.ref a,.int lo]/\QC K t H a F x/\0<=lo/\
 ∀(H':Hp)(r:G'),G3 H H'->H r=none->H' r=some (.lst<|(x.di.drop lo.toNat).map λe=>V.ref e.1)->Q (.ref r) H'
def g9:Ck P w K mg base PP 1 t.pT t.f9 [cC,"low"] (vO K t):=by
 have z:=Qf.nd;refine T.J9.ok Qf (λvs H Q E h=>?_)<|λG A outer s H vs Q E Z h=>?_
 .let{a,lo,F,x,rfl,_}:=h;rfl
 .let{a,lo,F,x,rfl,A,I,q}:=h;refine{_,(aA<|aD<|eK gK (ar Ca M) (fL<|aI (qh M) {_} T.Hs BX (ac M2<|ac ae ai)) iG)
   ,?_}
  let{s,l,U,p,h,Fs,Fl,JZ,O,g}:=A;let{dx,Y}:=JZ.o.ob;refine{_,M,a,_,dx,_,_,M,Y,T.aV,T.gy,EB,?_};have e0:(if(0:Int)>lo then(0:Int)else lo)=lo:=WI ();refine{_,M,_,_,M,lo,by rw[e0],U,_,M,Kv.of JZ.o.wr,λr nr=>q _ r (al nr) nr ?_};rw[ag,JL I]
def QC.di{x:QA}(A:QC K t H a F x):∀e∈x.di,H e.1=some (.tup e.2):=by
 let{s,l,z,p,h,Fs,Fl,JZ,O,g}:=A;exact JZ.o.dr
def Ra(t:PL)(H:Hp)(p:G')(up:Bool)(a e:V):Prop:=∃dx fs,H p=some (.ins (if up=true then t.eP else t.cQ) dx fs)/\Cb (if up=true then "up" else "down") fs a e/\if up=true then RD a e else RE a e
def vx(up:Bool)(a:V)(ks:O'):List Int:=match up,a with
 |true,.int i=>ks.filter λz=>decide (i<=z)
 |false,.int i=>ks.reverse.filter (fv<|some i)
 |_,_=>ks.reverse.filter (fv none)
def Bg(K:FA)(t:PL):Sp:=λvs H Q _=>∃(l p:G')(n:Int)(up:Bool)(a e:V)(F:K')(ks:O'),vs=[.ref l,.ref p,.int n]/\Qt K t H l F ks/\Ra t H p up a e/\ks.length<4096/\0<=n/\
 ∀(H':Hp)(r:G'),G3 H H'->H r=none->H' r=some (.lst<|((vx up a ks).take n.toNat).map V.int)->Q (.ref r) H'
def BF:Ck P w K mg base PP 3 t.vC t.pj [gt,fx,yz] (Bg K t):=by
 refine T.Dz.okl Bp λs H vs Q E I h _=>?_;intro X;let{l,p,n,up,a,e,F,ks,rfl,L,Y,l1,G,q}:=h;refine bU (λx=>aO (bF<|aI (nB K M) {_} T.dO cG (ac M2<|ac (dn (v:= .ref t.eP) {_} T.IE M) ai)) x aF) ?_;refine aB (aD<|aT Ca T.aN T.Fd (rR T) I.mo T.FE .nil az<|ac (ar M2 M)<|ac P8 ai) ?_
 intros
 refine aB (aD<|aT Ca T.aN T.DH (oS T) I.mo T.DM .nil az<|ac (ar M2 M)<|ac P8 ai) ?_
 intros
 let{dx,fs,z,O,ok}:=Y;let{dl,fl,hl,U}:=L.ins;cases up with
 |true=>
  have z:H p=some (.ins t.eP dx fs):=z;let{i,rfl,i0,_}:=(show RD a e from ok);exact{_,M,_,_,_,_,M,QG.ins z T.jB T.n8.1 T.n8.2 T.n8.3 T.n8.4,T.Jg,_,M,b8 {_,M,l,dl,fl,M,hl,U _ ∅,_,M,p,_,dx,fs,_,M,z,T.jB,T.tJ,O.at_,_,M,l,i,n,F,ks,M,L,l1,G,q}}
 |false=>
  have z:H p=some (.ins t.cQ dx fs):=z;let{j,rfl,Z,ha}:=(show RE a e from ok);refine{_,M,_,_,_,_,M,QG.ins z T.cW T.fw.1 T.fw.2 T.fw.3 T.fw.4,T.Ez,_,M,cm {_,M,l,dl,fl,M,hl,U _ ∅,_,M,p,_,dx,fs,_,M,z,T.cW,T.ji,O.at_,_,M,?_}};rcases ha with rfl|⟨i,rfl,_⟩
  .exact⟨l,none,n,F,ks,M,L,l1,G,q⟩
  .exact{l,some i,n,F,ks,M,L,l1,G,q}
def vH(t:PL):Sp:=λvs H Q _=>∃(p:G')(up:Bool)(a e:V)(k:Int),vs=[.ref p,.int k]/\Ra t H p up a e/\(if up=true then RD (.int<|k+1) e else RE (.int<|k-1) e)/\
 ∀(H':Hp)(r:G'),G3 H H'->H r=none->Ra t H' r up (.int<|if up=true then k+1 else k-1) e->Q (.ref r) H'
def we:Ck P w K mg base PP 5 t.pL t.jq [fx,et] (vH t):=by
 refine T.yK.okl vS λs H vs Q E hr h _=>?_;intro X;let{p,up,a,e,k,rfl,TK,G,q}:=h;refine bU (λx=>aO (bF<|aI (nB K M) {_} T.dO cG (ac Ca<|ac (dn (v:= .ref t.eP) {_} T.IE M) ai)) x aF) ?_;refine aB (aD<|gN T.O0 (vv T) hr.mo {_} T.IE T.EJ .nil az (ac (ao bx M2 ae)<|ac (ar Ca M) ai)) ?_
 intros
 refine aB (aD<|gN T.Lq (qH T) hr.mo {_} T.Lr T.B8 .nil az (ac (ao jf M2 ae)<|ac (ar Ca M) ai)) ?_
 intros
 let{dx,fs,I,tf,ok}:=TK;have kp:∀{H1 H':Hp}{r:G'},G3 H H1->H r=none->R7 r H1 H'->G3 H H':=λs n k b o e=>k b o (s b o e) λz=>by rw[z,n]at e;cases e
 cases up with
 |true=>
  have I:H p=some (.ins t.eP dx fs):=I;have G:RD (.int<|k+1) e:=G;have Z:Sc e:=by
   obtain⟨_,_,_,he|⟨j,he,_⟩⟩:=G
   .rw[he];exact Y1
   .rw[he];exact T0 _
  refine{_,M,_,_,_,_,M,QG.ins I T.jB T.n8.1 T.n8.2 T.n8.3 T.n8.4,T.Jg,_,M,b8 {_,M,_,_,M,M,_,M,p,_,dx,fs,_,M,I,T.jB,T.lw,tf.end_,λr Y nr nd a0=>{r,Y,_,_,M,ag,T0 _,Z,λ_ H' fs' O h' U=>{M,?_},λz=>WN G z}}};exact q H' r (kp (b6 (al nd) nr) nr O) nr ⟨Y,fs',h',U,G⟩
 |false=>
  have I:H p=some (.ins t.cQ dx fs):=I;have G:RE (.int<|k-1) e:=G;have Z:Sc e:=by
   let{_,he,_}:=G;rw[he];exact T0 _
  refine{_,M,_,_,_,_,M,QG.ins I T.cW T.fw.1 T.fw.2 T.fw.3 T.fw.4,T.Ez,_,M,cm {_,M,_,_,M,M,_,M,p,_,dx,fs,_,M,I,T.cW,T.jP,tf.end_,λr Y nr nd a0=>{r,Y,_,_,M,ag,T0 _,Z,λ_ H' fs' O h' U=>{M,?_},λz=>WN G z}}};exact q H' r (kp (b6 (al nd) nr) nr O) nr ⟨Y,fs',h',U,G⟩
def hK(up:Bool):V->V->Int->Bool:=if up=true then hU else hD
def cO(up:Bool)(a e:V)(ks:O'):List Int:=(if up=true then ks else ks.reverse).filter (hK up a e)
theorem jG{α:Type}{h:α->Bool}:∀{xs:List α}{n:Nat},xs.Pairwise (λx y=>h y=true->h x=true)->(xs.take n).filter h=(xs.filter h).take n
 | [],n,_=>by rw[VA,List.filter_nil,VA]
 |x::r,0,_=>rfl
 |x::r,n+1,w=>by
  let{I,G}:=XQ.mp w;rw[W8];by_cases c:h x=true
  .rw[List.filter_cons_of_pos c,List.filter_cons_of_pos c,W8,jG G]
  .have z:r.filter h=[]:=Vb.mpr λy hy O=>c (I y hy O);rw[List.filter_cons_of_neg c,List.filter_cons_of_neg c,jG G,z,VA,VA]
def Gu{up:Bool}{a:V}(ok:if up=true then RD a e else RE a e)(r:dD ks):((vx up a ks).take n).filter (hK up a e)=(cO up a e ks).take n:=by
 cases up with
 |true=>
  let{i,rfl,i0,he}:=(show RD a e from ok);have q:∀z,hU (.int i) e z=true->decide (i<=z)=true:=λz hz=>by
   rcases he with rfl|⟨j,rfl,_⟩
   .exact hz
   .exact(ZC.mp hz).1
  show((ks.filter λz=>decide (i<=z)).take n).filter (hU (.int i) e)=(ks.filter<|hU (.int i) e).take n;rw[jG,List.filter_filter]
  .congr 1;refine Wl λz _=>?_;cases c:hU (.int i) e z with
   |true=>rw[q z c];rfl
   |false=>rfl
  .have I:(ks.filter λz=>decide (i<=z)).Pairwise (· < ·):=List.Pairwise.filter _ r;refine List.Pairwise.imp_of_mem (λ{x y} hx hy lt G=>?_) I;have hx:=(Zj.mp hx).2;rcases he with rfl|⟨j,rfl,_⟩
   .exact hx
   .refine ZC.mpr {hx,WR ?_};have:=WP (ZC.mp G).2;lia
 |false=>
  let{j,rfl,Y,ha}:=(show RE a e from ok);have O:ks.reverse.Pairwise (λx y=>y<x):=VQ.mpr r;obtain⟨k,U,ea⟩:∃k,vx false a ks=ks.reverse.filter (fv k)/\∀z,hD a (.int j) z=(decide (j<=z)&&fv k z):=by
   rcases ha with rfl|⟨i,rfl,_⟩
   .exact{none,M,λz=>(Bool.and_true _).symm}
   .exact{some i,M,λz=>M}
  rw[U];show((ks.reverse.filter<|fv k).take n).filter (hD a<|.int j)=(ks.reverse.filter<|hD a<|.int j).take n;rw[jG,List.filter_filter]
  .congr 1;refine Wl λz _=>?_;rw[ea];cases fv k z<;>cases decide (j<=z)<;>rfl
  .have I:(ks.reverse.filter<|fv k).Pairwise (λx y=>y<x):=List.Pairwise.filter _ O;refine List.Pairwise.imp_of_mem (λ{x y} hx hy lt G=>?_) I;have hx:=(Zj.mp hx).2;rw[ea]at G⊢;refine ZC.mpr {WR ?_,hx};have:=WP (ZC.mp G).1;lia
def Gp{up:Bool}{a:V}{k':Int}(ok:if up=true then RD a e else RE a e)(r:dD ks)(h:(cO up a e ks)[i]?=some k)(h':(cO up a e ks)[i+1]?=some k'):if up=true then RD (.int<|k+1) e else RE (.int<|k-1) e:=by
 let{hi,G}:=Q3.mp h;let{hi',z}:=Q3.mp h';have m:=(Zj.mp (G▸Xu hi:k∈cO up a e ks)).2;have m':=(Zj.mp (z▸Xu hi':k'∈cO up a e ks)).2;cases up with
 |true=>
  let{i,rfl,i0,he}:=(show RD a e from ok);have lt:k<k':=by
   have:=(ZW.mp<|List.Pairwise.filter (hU (.int i) e) r) _ _ hi hi' (XI _);rwa[<-G,<-z]
  have m:hU (.int i) e k=true:=m;have m':hU (.int i) e k'=true:=m';rcases he with rfl|⟨j,rfl,_⟩
  .have:=WP m;exact{k+1,M,(),.inl M}
  .have:=WP (ZC.mp m).1;have:=WP (ZC.mp m').2;exact{k+1,M,(),.inr {j,M,()}}
 |false=>
  let{j,rfl,I,ha}:=(show RE a e from ok);have O:ks.reverse.Pairwise (λx y=>y<x):=VQ.mpr r;have lt:k'<k:=by
   have:=(ZW.mp<|List.Pairwise.filter (hD a<|.int j) O) _ _ hi hi' (XI _);rwa[<-G,<-z]
  have m':hD a (.int j) k'=true:=m';have:j<=k':=by
   rcases ha with rfl|⟨i,rfl,_⟩
   .exact WP m'
   .exact WP (ZC.mp m').1
  exact{j,M,I,.inr {k-1,M,()}}
def NxK(t:PL)(H H':Hp)(p:G')(up:Bool)(e:V)(hs:O')(m:Nat)(v:V):Prop:=if hs.length<=m then v= .non else if m=0 then v= .ref p else ∃(q:G')(k:Int),hs[m-1]?=some k/\v= .ref q/\H q=none/\Ra t H' q up (.int<|if up=true then k+1 else k-1) e
def Fn{xs:O'}{x:V}(h:(xs.map V.int)[i]?=some x):∃k:Int,x= .int k/\xs[i]?=some k:=by
 rw[Zf]at h;cases e:xs[i]? with
 |none=>rw[e]at h;cases h
 |some k=>rw[e]at h;cases h;exact⟨k,M,M⟩
def AF{P:Sw}{xs:O'}(e:xs[i]?=some k):(xs.take<|i+1).filter P=(xs.take i).filter P++(if P k=true then[k]else[]):=by
 rw[Zg,e,Zt];by_cases c:P k=true
 .rw[WJ c];simp[c]
 .rw[WI c];simp[c]
def Jw(P:Sw)(xs:O')(i:Nat):((xs.take i).filter P).length<=xs.length:=by
 have h1:=Zd P (xs.take i);have h2:(xs.take i).length<=xs.length:=by rw[Q7];lia
 lia
def Ra.same{up:Bool}{a:V}(h:Ra t H p up a e)(s:G3 H H'):Ra t H' p up a e:=by
 let{dx,fs,z,r}:=h;exact{dx,fs,s _ _ z,r}
def Ra.ok{up:Bool}{a:V}(h:Ra t H p up a e):if up=true then RD a e else RE a e:=by
 let{dx,fs,z,G,ok}:=h;exact ok
def Iv{up:Bool}{a:V}{z:Int}(h:z∈vx up a ks):z∈ks:=by
 unfold vx at h;split at h
 .exact(Zj.mp h).1
 .exact Vg.mp (Zj.mp h).1
 .exact Vg.mp (Zj.mp h).1
def Iw{up:Bool}{a:V}:(vx up a ks).length<=ks.length:=by
 unfold vx;split
 .exact Zd _ _
 .exact Zl (Zd _ _)<|ZT Xb
 .exact Zl (Zd _ _)<|ZT Xb
def dHK{up:Bool}:DOr (D1 t.eP<|dP t) (D1 t.cQ<|cJ t) (if up=true then t.eP else t.cQ) (if up=true then dP t else cJ t):=by
 cases up
 .exact .inr ⟨M,M⟩
 .exact .inl ⟨M,M⟩
def LG{up:Bool}{a:V}{E:XK}(h:H p=some (.ins (if up=true then t.eP else t.cQ) dx fs))(f:Cb (if up=true then "up" else "down") fs a e)(ok:if up=true then RD a e else RE a e)(z:0<=k)
  (q:∀H',G3 H H'->Q (.bl<|hK up a e k) H'):(if up=true then dP t else cJ t) [.ref p,.int k] H Q E:=by
 cases up
 .exact⟨p,dx,fs,a,e,k,M,h,f,ok,z,q⟩
 .exact⟨p,dx,fs,a,e,k,M,h,f,ok,z,q⟩
def vI(K:FA)(t:PL):Sp:=λvs H Q _=>∃(l p:G')(n:Int)(up:Bool)(a e:V)(F:K')(ks:O'),vs=[.ref l,.ref p,.int n]/\Qt K t H l F ks/\Ra t H p up a e/\ks.length<4096/\(∀k∈ks,0<=k)/\
 ∀(H':Hp)(r g:G')(v:V),G3 H H'->H r=none->H g=none->H' r=some (.tup [.ref g,v])->H' g=some (.lst<|((cO up a e ks).take n.toNat).map V.int)->NxK t H H' p up e (cO up a e ks) n.toNat v->Q (.ref r) H'
def wg:Ck P w K mg base PP 6 t.pN t.js [gt,fx,l9] (vI K t):=by
 refine T.yN.okl Qe λs H vs Q E hr h _=>?_;intro X;let{l,p,n,up,a,e,F,ks,rfl,L,TK,l1,k0,q}:=h;refine aj (PN 3<|aI (qh M) {_} T.Hs BX (ac P8<|ac ae ai))
   (aj (Ih (i:=4) M (PM.of (M':=[et]) (N:=[gt,fx,l9,yz,"held","page"]) (N':=[gt,fx,l9,yz,"held","page"]) (dsc:=ak fF) M M ∅) (dj<|aJ (BF T) hr.mo {_} T.MA T.Dz.kp T.MI .nil az (ac Ca<|ac M2<|ac (ao bx PR ae) ai)) (λ_ _ _ _ _=>(bF<|tx (kk:=1) (mT (dJ T.jB T.oW (iH T) T.pI (_))<|dJ T.cW T.kD (fP T) T.kU (_)) hr.mo P8<|ac Ca ai)) (λ_ _ _ _ _=>Ca) Qe.nd M M)
   (aj (PN 5<|eK gK QI iG<|fL PR)
   (aj (aO (ay bJ (aI aE {_} T.bT bi (ac QI ai)) (aI aE {_} T.bT bi (ac RC ai))<|au _)
    (aA<|aD<|bY<|ac RC<|ac bc ai)
    aF)
   (aj (aO (ay bJ (aI aE {_} T.bT bi (ac RC ai)) ae<|au _)
    (aA<|aD<|bY<|ac RC<|ac M2 ai)
    aF)
   (aB (aD<|bY<|ac RC<|ac (aJ (we T) hr.mo {_} T.IL T.yK.kp T.JP .nil az (ac M2<|ac (aS aU RC (Ij DY ae)<|λ_ _=>M) ai)) ai) ?_)))))
 intros
 have RK:=L.rise;refine{_,M,n,0,M,?_};obtain⟨m,em⟩:∃m:Nat,n.toNat=m:={_,M};have e0:(if(0:Int)>n then(0:Int)else n)=(m:Int):=by
  rw[<-em];split<;>lia
 rw[e0];rw[em]at q;have ok:=TK.ok;refine{_,M,_,M,_,M,_,_,M,M,l,p,(m:Int)+1,up,a,e,F,ks,M,L,TK,l1,(),λH1 g1 s1 a3 h1=>?_};rw[show((m:Int)+1).toNat=m+1 by lia]at h1;obtain⟨ns,O⟩:∃ns,(vx up a ks).take (m+1)=ns:={_,M};have fl:=Gu (n:=m+1) ok RK;rw[O]at h1 fl;have nl:ns.length<=4096:=by
  rw[<-O];have h1:=Iw (up:=up) (a:=a) (ks:=ks);rw[Q7];lia
 have n0:∀z∈ns,0<=z:=λz hz=>k0 z (Iv<|ZB<|O▸hz);refine{g1,M,{_,Kv.of h1},λD hD=>?_};refine nz (K:=K) (a:=g1) (xs:=ns.map V.int) (λi ys H2=>G3 H1 H2/\ys=((ns.take i).filter<|hK up a e).map V.int) {al hD,M} (λi ys H2 _ w=>Kv.of<|w.1 _ _ h1) (λi x ys H2 hx w G=>?_)<|λys H2 w G=>?_
 .let{s2,ey}:=w;have hi:i<(ns.map V.int).length:=(Q3.mp hx).1;let{g,rfl,eg}:=Fn hx;let{dx,fs,hp,tf,_}:=TK.same (s1.trans s2);have a4:=Jw (hK up a e) ns i;refine{_,M,p,_,dx,fs,_,M,hp,tf.ho,dHK,_,M,LG hp tf ok (n0 g<|Q2 eg) λH3 s3=>{_,M,?_}};by_cases c:hK up a e g=true
  .rw[c];refine b8 {_,M,QF.mk hi (s3 _ _ G) (bh<|by rw[ey,Q1];lia) {b6 (s2.trans s3) hD,?_}};rw[ey,AF eg,WJ c,Z6];rfl
  .rw[ZV.mpr c];refine cm<|Qi.mk hi (s3 _ _ G) {s2.trans s3,?_};rw[ey,AF eg,WI c,ZL]
 let{s2,ey}:=w;rw[ey,Q1,Zn,fl]at G;clear ey h1 O fl nl n0;have U:=s1.trans s2;obtain⟨hs,Y⟩:∃hs,cO up a e ks=hs:={_,M};rw[Y]at G q;refine{_,M,_,M,(m:Int),M,D,_,M,Kv.of G,λg ng=>?_};rw[lH (Wa m),<-Xg,show((m:Int)).toNat=m by lia,VW,Xn (Xc m)];have Z:H g=none:=cV U ng;have I:upd H2 g (.lst<|(hs.take m).map V.int) g=some (.lst<|(hs.take m).map V.int):=ag;have a0:upd H2 g (.lst<|(hs.take m).map V.int) D=some (.lst<|(hs.take<|m+1).map V.int):=by rwa[af (am G ng)]
 have s3:=U.trans (al (o:= .lst<|(hs.take m).map V.int) ng);generalize upd H2 g (.lst<|(hs.take m).map V.int)=H3 at I a0 s3⊢;clear G ng s2 U s1 hD;refine{_,M,D,_,M,.inl<|Kv.of a0,_,M,g,_,M,.inl<|Kv.of I,M,_,M,?_};by_cases c:hs.length<=m
 .refine dU ?_ {_,M,(by show 2<=sizeLine;decide),λr nr=>?_}
  .rw[Zo (),Zo c]
  .refine q _ r g .non (s3.trans<|al nr) (cV s3 nr) Z ag (by rw[af (am I nr)];exact I) ?_;unfold NxK;rw[WJ c]
 refine a6 ?_ ?_
 .intro z;have z:=V.int.inj z;rw[Q1,Q1,Q7,Q7]at z;lia
 refine{_,M,g,_,M,.inl<|Kv.of I,M,_,M,?_};by_cases d:m=0
 .refine dU ?_ {_,M,_,M,(by show 2<=sizeLine;decide),λr nr=>?_}
  .rw[d];rfl
  .refine q _ r g (.ref p) (s3.trans<|al nr) (cV s3 nr) Z ag (by rw[af (am I nr)];exact I) ?_;unfold NxK;rw[WI c,WJ d]
 refine a6 ?_ ?_
 .intro z;have z:=V.int.inj z;rw[Q1,Q7]at z;lia
 obtain⟨k,ek⟩:∃k,hs[m-1]?=some k:={_,Q4 ()};obtain⟨k',a1⟩:∃k',hs[m-1+1]?=some k':={_,Q4 ()};have ob:=Gp ok RK (Y▸ek) (Y▸a1);refine{_,M,_,M,_,M,_,M,g,_,_,.int k,M,M,Kv.of I,?_,p,up,a,e,k,M,TK.same s3,ob,λH4 b s4 nb a2=>{(by show 2<=sizeLine;decide),λr nr=>?_}}
 .refine FH (λz=>?_) ?_
  .have:=Y2 List.length z;rw[Q7]at this;have:([]:O').length=0:=M;lia
  .rwa[Q7,Xn (),Vz ()]
 refine q _ r g (.ref b) ((s3.trans s4).trans<|al nr) (cV (s3.trans s4) nr) Z ag (by rw[af (am (s4 _ _ I) nr)];exact s4 _ _ I) ?_;unfold NxK;rw[WI c,WI d];exact{b,k,ek,M,cV s3 nb,a2.same<|al nr}
def zd(K:FA)(t:PL):Sp:=λvs H Q _=>∃(a:G')(k:Int)(v:V)(F:K')(x:QA),vs=[.ref a,.int k]/\QC K t H a F x/\0<=k/\aH x.st.kv k=some v/\∀H' F',QC K t H' a F' x->Fr F F' H H'->Q v H'
def zL:Ck P w K mg base PP 5 t.uw t.nu [cC,et] (zd K t):=by
 refine T.Md.okl zy λs H vs Q E Z h _=>?_;intro X;let{a,k,v,F,x,rfl,A,k0,U,q}:=h;refine{_,(aA<|aD<|aT (ar Ca M) T.aL T.Lw (zH T) Z.mo T.LU .nil az<|ac M2 ai)
  ,?_}
 let{s,l,Y,p,h,Fs,Fl,JZ,O,g}:=A;let{dx,ho}:=JZ.o.ob;let{ds,fs,hs,hm}:=JZ.sl.ins;refine{_,M,a,_,dx,_,_,M,ho,T.aV,T.dI,yh,s,ds,fs,M,hs,hm _ ∅,_,M,s,k,Fs,x.st,M,JZ.sl,k0,λv' G H1 I S1 f1=>?_,λz=>by rw[U]at z;cases z};rw[U]at G;cases G;let{B1,g1}:=JZ.slots S1 f1;exact q H1 (RL a Y p h I Fl x.pa) {s,l,Y,p,h,I,Fl,B1,O,λ_=>Iff.rfl} λb o n e=>g1 b o (λz=>n<|(g b).mpr z) e
def NxH(t:PL)(H H':Hp)(F':K')(p:G')(up:Bool)(e:V)(hs:O')(m:Nat)(v:V):Prop:=if hs.length<=m then v= .non else if m=0 then v= .ref p else ∃(q:G')(k:Int),hs[m-1]?=some k/\v= .ref q/\H q=none/\¬F' q/\Ra t H' q up (.int<|if up=true then k+1 else k-1) e
def Ni(K:FA)(t:PL)(more:P7):Sp:=λvs H Q _=>∃(a p:G')(n:Int)(up:Bool)(av e:V)(F:K')(x:QA),vs=[.ref a,.ref p,.int n]++more/\QC K t H a F x/\Ra t H p up av e/\¬F p/\x.ks.length<4096/\(∀k∈x.ks,0<=k)/\
 ∀(H':Hp)(F':K')(r g:G')(v:V)(ts:List Tp),QC K t H' a F' x->Fr F F' H H'->PgA H H' F F' r g v ts->ts.map (·.k)=(cO up av e x.ks).take n.toNat->(∀e∈ts,aH x.st.kv e.k=some e.v)->NxH t H H' F' p up e (cO up av e x.ks) n.toNat v->Q (.ref r) H'
def nG(K:FA)(t:PL):Sp:=Ni K t []
def QC.lvs{x:QA}(A:QC K t H a F x):∃(dx:G')(fs:Sn)(l:G')(Fl:K'),H a=some (.ins t.a9 dx fs)/\fs.lookup (gt:Str)=some (.ref l)/\Qt K t H l Fl x.ks:=by
 let{s,l,G,p,h,Fs,Fl,JZ,O,g}:=A;let{dx,z}:=JZ.o.ob;exact{dx,_,l,Fl,z,ED,JZ.lv}
def Jn{up:Bool}{a:V}{z:Int}(h:z∈cO up a e ks):z∈ks:=by
 have h:=(Zj.mp h).1;cases up
 .exact Vg.mp h
 .exact h
def Jo{up:Bool}{a:V}:(cO up a e ks).length<=ks.length:=by
 refine Zl (Zd _ _) ?_;cases up
 .exact ZT Xb
 .exact Q5 _
def wf:Ck P w K mg base PP 7 t.pM t.jr [mu,fx,l9] (nG K t):=by
 refine T.yM.okl vT λs H vs Q E hr h _=>?_;intro X;let{a,p,n,up,av,e,F,x,rfl,A,TK,np,l1,k0,q}:=h;refine aj (PN 3<|aJ (wg T) hr.mo {_} T.IP T.yN.kp T.JR .nil az (ac (ar Ca M)<|ac M2<|ac P8 ai))
   (aB (aD<|bY<|ac (mK M (PM.of (M':=[et]) (N:=[mu,fx,l9,"page"]) (N':=[mu,fx,l9,"page"]) (dsc:=ak fE) M M ∅) (dj<|aS bG PR ae<|λ_ _=>M)<|λ_ _ _ _ _=>(bY<|ac Ca<|ac (aT M2 T.aV T.LA (zL T) hr.mo T.LY .nil az<|ac Ca ai) ai))<|ac (aS bG PR ae<|λ_ _=>M) ai) ?_)
 intros
 let{dx,fs,l,Fl,ho,hl,L}:=A.lvs;refine{_,M,a,_,dx,fs,_,M,ho,T.aV,T.hV,hl,_,M,_,M,l,p,n,up,av,e,Fl,x.ks,M,L,TK,l1,k0,λH1 r1 g1 v s1 a4 a5 a1 U nx=>?_};have A1:=A.same s1;have f1:Fr F F H H1:=Fr.of_same s1;clear TK;obtain⟨pk,Y⟩:∃pk,(cO up av e x.ks).take n.toNat=pk:={_,M};have pm:∀z∈pk,z∈x.ks:=λz hz=>Jn (ZB<|Y▸hz);have pl:pk.length<=4096:=by
  have:=Jo (up:=up) (a:=av) (e:=e) (ks:=x.ks);rw[<-Y,Q7];lia
 rw[Y]at U q;refine{_,M,r1,_,_,_,M,M,QO.of a1,M,g1,M,{_,Kv.of U},λD hD=>?_};refine qg (K:=K) (a:=g1) (xs:=pk.map V.int) (λi ys H2=>∃(G:K')(ts:List Tp),QC K t H2 a G x/\Fr F G H1 H2/\¬G D/\ys=ts.map (λe=>V.ref e.p)/\ts.map (·.k)=pk.take i/\∀e∈ts,H2 e.p=some (.tup [.int e.k,e.v])/\¬G e.p/\aH x.st.kv e.k=some e.v) {F,[],A1.same<|al hD,Fr.of_same<|al hD,A1.out hD,M,M,λe he=>WN he Xv} (λi ys H2 _ w=>?_) (λi y ys H2 hy w I=>?_)<|λys H2 w I=>?_
 .let{G,ts,A2,O,_}:=w;exact Kv.of (O _ _ (A.out a5) U).1
 .let{G,ts,A2,O,nD,ey,Z,tu}:=w;have hi:i<(pk.map V.int).length:=(Q3.mp hy).1;let{k,rfl,hk}:=Fn hy;have km:=pm k (Q2 hk);let{v2,a2}:=XY.mp ((A1.ok.ks k).mp km);let{d2,a9,aa,ah,_}:=A2.ins;refine{_,M,_,M,a,d2,a9,M,aa,ah _ ∅,_,M,a,k,v2,G,x,M,A2,k0 k km,a2,λH3 F3 A3 f3=>{(by show 2<=sizeLine;decide),λb nb=>?_}};let{an,a3}:=f3 _ _ nD I;have sb:G3 H3 (upd H3 b<|.tup [.int k,v2]):=al nb;have hb:upd H3 b (.tup [.int k,v2]) b=some (.tup [.int k,v2]):=ag;generalize upd H3 b (.tup [.int k,v2])=H4 at sb hb⊢;have A4:=A3.same sb;have aw:=A3.out nb;have f4:Fr F F3 H1 H4:=O.trans (f3.trans<|Fr.of_same sb);have a0:=sb _ _ an;have tl:ts.length<=4096:=by
   have:=Y2 List.length Z;rw[Q1,Q7]at this;lia
  refine QF.mk hi a0 (bh<|by rw[ey,Q1];lia) {F3,ts++ [⟨b,k,v2⟩],A4.upd a3 (λxs z=>by rw[a0]at z;cases z),λc o n e=>{by rw[af (am e hD)];exact(f4 c o n e).1,(f4 c o n e).2},a3,by rw[ey,Z6];rfl,by rw[Z6,Z,Zg,hk];rfl,λe he=>?_};have key:H4 e.p=some (.tup [.int e.k,e.v])/\¬F3 e.p/\aH x.st.kv e.k=some e.v:=by
   rcases Q6.mp he with he|he
   .let{t1,t2,t3}:=tu e he;let{t4,t5}:=f3 _ _ t2 t1;exact{sb _ _ t4,t5,t3}
   .rw[Q9.mp he];exact⟨hb,aw,a2⟩
  refine{?_,key.2};rw[af (λz=>by rw[z,a0]at key;cases key.1)];exact key.1
 let{G,ts,A2,O,nD,ey,Z,tu}:=w;rw[ey]at I;rw[Q1,Zn]at Z;have ax:=O _ _ (A.out a4) a1;refine{_,M,r1,_,_,_,M,M,QO.of ax.1,M,(by show 2<=sizeLine;decide),λr nr=>?_};have s3:G3 H2 (upd H2 r<|.tup [.ref D,v]):=al nr;have hr:upd H2 r (.tup [.ref D,v]) r=some (.tup [.ref D,v]):=ag;have nF:=A2.out nr;generalize upd H2 r (.tup [.ref D,v])=H3 at s3 hr⊢;have f3:Fr F G H H3:=f1.trans (O.trans<|Fr.of_same s3);refine q H3 G r D v ts (A2.same s3) f3 {hr,s3 _ _ I,λe he=>{s3 _ _ (tu e he).1,(tu e he).2.1},{λz=>?_,nF},{λ_=>cV s1 hD,nD}} Z (λe he=>(tu e he).2.2) ?_
 .cases eo:H r with
  |none=>rfl
  |some o=>rw[((f1.trans O) _ _ z eo).1]at nr;cases nr
 .unfold NxK at nx;unfold NxH;by_cases c:(cO up av e x.ks).length<=n.toNat
  .rw[WJ c]at nx⊢;exact nx
  .rw[WI c]at nx⊢;by_cases d:n.toNat=0
   .rw[WJ d]at nx⊢;exact nx
   .rw[WI d]at nx⊢;let{b,k,Z,ev,nb,dy,fy,hy,ry}:=nx;let{h2,n2}:=O _ _ (A.out nb) hy;exact{b,k,Z,ev,nb,n2,dy,fy,s3 _ _ h2,ry}
noncomputable def yQ(Dr j r:Int):Int:=if j<(r/Dr+1)*Dr then j else(r/Dr+1)*Dr
def a7(Dr j i:Int):Nat->Int
 |0=>i
 |n+1=>yQ Dr j (a7 Dr j i n)
def HQ{j r:Int}(z:0<Dr)(h:r<j):r<yQ Dr j r/\yQ Dr j r<=j:=by
 have:=Vo r z;unfold yQ;split<;>lia
theorem tj{Dr j i:Int}(G:0<Dr)(h:i<=j):∀n:Nat,(∀x<n,a7 Dr j i x<j)->i<=a7 Dr j i n/\a7 Dr j i n<=j/\(0<n->yQ Dr j i<=a7 Dr j i n)
 |0,_=>{Xs _,h,λz=>WN z (_)}
 |n+1,w=>by
  let{a,b,c}:=tj G h n λx hx=>w x ();let{d,e}:=HQ G (w n ());refine{show i<=yQ Dr j (a7 Dr j i n) by lia,e,λ_=>?_};cases n with
  |zero=>exact Xs _
  |succ m=>exact Int.le_trans (c ()) (VH d)
structure RY(st:PD)(lo hi:Int)(ps:R'):Prop where
 so:ps.Pairwise Ek
 me:∀k v,(k,v)∈ps↔(k,v)∈st.kv/\lo<=QK k/\QK k<hi
def RY.app(h:RY st lo m ps)(g:RY st m hi qs)(l1:lo<=m)(G:m<=hi):RY st lo hi (ps++qs):=by
 refine{Zc.mpr {h.so,g.so,λx hx y hy=> .inl ?_},λk v=>?_}
 .have a:=((h.me x.1 x.2).mp hx).2;have b:=((g.me y.1 y.2).mp hy).2;lia
 .rw[Q6,h.me,g.me];constructor
  .rintro (⟨x,y,z⟩|⟨x,y,z⟩)
   .exact{x,y,()}
   .exact{x,(),z}
  .rintro ⟨x,y,z⟩;by_cases d:QK k<m
   .exact .inl ⟨x,y,d⟩
   .exact .inr {x,(),z}
def RY.uniq(h:RY st lo hi ps)(g:RY st lo hi qs):ps=qs:=by
 have nd:∀{l:R'},l.Pairwise Ek->l.Nodup:=λw=>w.imp λ{a b} z e=>by
  rw[e]at z;unfold Ek at z;lia
 refine List.Perm.eq_of_pairwise (λx y _ _ h1 h2=>?_) h.so g.so<|(Vu (nd h.so)<|nd g.so).mpr λx=>(h.me x.1 x.2).trans (g.me x.1 x.2).symm;unfold Ek at h1 h2;lia
def RY.len(h:RY st lo hi ps):ps.length<=st.kv.length:=by
 refine gS (h.so.imp λ{a b} z e=>?_) λx hx=>((h.me x.1 x.2).mp hx).1;rw[e]at z;unfold Ek at z;lia
structure PgS(st:PD)(i j n:Int)(m:Nat)(ps:R'):Prop where
 rw:RY st i (a7 (65536/st.low) j i m) ps
 go:∀x<m,a7 (65536/st.low) j i x<j
 le:∀x,0<x->x<m->∀qs,RY st i (a7 (65536/st.low) j i x) qs->(qs.length:Int)<n/\(x:Int)<4*n
 st:a7 (65536/st.low) j i m=j\/(0<m/\(n<=ps.length\/4*n<=m))
def SU(t:PL)(H:Hp)(p:G')(i j:Int):Prop:=∃(dx:G')(fs:Sn),H p=some (.ins t.aX dx fs)/\Cb "slots" fs (.int i) (.int j)/\0<=i/\i<=j/\j<=65536
def SU.fr{i j:Int}(h:SU t H p i j)(n:¬F p)(f:Fr F F' H H'):SU t H' p i j/\¬F' p:=by
 let{dx,fs,z,r}:=h;exact{{dx,fs,(f _ _ n z).1,r},(f _ _ n z).2}
def SH(t:PL)(H H':Hp)(F F':K')(r j:Int)(v:V):Prop:=if r=j then v= .non else ∃q:Addr,v= .ref q/\(¬F q->H q=none)/\¬F' q/\SU t H' q r j
def uC(K:FA)(t:PL):Sp:=λvs H Q _=>∃(a p:G')(n i j:Int)(F:K')(st:PD),vs=[.ref a,.ref p,.int n]/\QW K t H a F st/\SU t H p i j/\¬F p/\1<=n/\n<=1000/\st.kv.length<4096/\(∀p∈st.kv,∃i:Int,p.2= .int i)/\
 ∀(H':Hp)(F':K')(r g:G')(v:V)(ts:List Tp)(m:Nat),QW K t H' a F' st->Fr F F' H H'->PgA H H' F F' r g v ts->PgS st i j n m (ts.map Tp.kv)->SH t H H' F F' (a7 (65536/st.low) j i m) j v->Q (.ref r) H'
structure Rz(K:FA)(t:PL)(H H':Hp)(a p l:G')(F F':K')(st:PD)(i j:Int)(m:Nat)(ts:List Tp):Prop where
 sl:QW K t H' a F' st
 fr:Fr F F' H H'
 tk:SU t H' p i j
 np:¬F' p
 ol:¬F' l
 li:H' l=some (.lst<|ts.map λe=>V.ref e.p)
 tu:∀e∈ts,H' e.p=some (.tup [.int e.k,e.v])/\¬F' e.p
 rw:RY st i (a7 (65536/st.low) j i m) (ts.map Tp.kv)
 go:∀x<m,a7 (65536/st.low) j i x<j
def Rz.move{l:G'}{F1:K'}{i j:Int}{m:Nat}(h:Rz K t H H' a p l F F' st i j m ts)(s1:QW K t H1 a F1 st)(z:Fr F' F1 H' H1):Rz K t H H1 a p l F F1 st i j m ts:=
 {s1,h.fr.trans z,(h.tk.fr h.np z).1,(h.tk.fr h.np z).2,(z _ _ h.ol h.li).2,(z _ _ h.ol h.li).1,λe he=>z _ _ (h.tu e he).2 (h.tu e he).1,h.rw,h.go}
def uV:Ck P w K mg base PP 5 t.nM t.ie ["slots",fx,l9] (uC K t):=by
 let{I,G}:=T.g_STRETCHES_A_KEY;refine T.wv.okl Qa λs H vs Q E hr h _=>?_;intro X;let{a,p,n,i,j,F,st,rfl,hA,TK,np,n1,n2,l4,iv,q}:=h;refine aj (PN 3<|cu ai)
   (aj (PN 4<|ar M2 M)
   (aj (PN 5 ae)
   (bU (λx=>(oJ WX (ay dW QI (ar M2 M)<|au _)
    x)) ?_)))
 refine aj (PN 6<|aI (lI M) {_} T.z7 sw (ac (aT Ca T.aL T.zO (oO T) hr.mo T.zU .nil az<|ac QI ai)<|ac (ar M2 M) ai))
   (aj (aM<|dH Zi V0 V1 qa PR<|ac (aT Ca T.aL T.Ke (xJ T) hr.mo T.Km .nil az<|ac QI<|ac RO ai) ai)
   (aj (PN 4 RO)
   (aj (Ej (i:=5) Qa.nd M (Or.inl M) ae Ji)
   (aB (aO (PW.pt<|jJ (ay Am (aI aE {_} T.bT bi (ac PR ai)) P8<|au _)<|jc<|ay Am RC (ao cT (dn (v:= .int 4) {_} G {_,M}) P8)<|au _)
    (aA Ii)
    aF) ?_))))
 intros
 refine aj (aO (ay bJ QI (ar M2 M)<|au _)
    (aA<|aD<|bY<|ac PR<|ac bc ai)
    aF)
   (aB (aD<|bY<|ac PR<|ac (gN T.Es (lq T) hr.mo {_} T.xX T.wu .nil az (ac QI<|ac (ar M2 M) ai)) ai) ?_)
 intros
 have z:PY st:=let⟨_,_,_,_,_,z⟩:=hA;z
 let{s4,Z}:=b7 (hZ z);let{_,_,R}:=xA (hZ z);have W0:=R.wpos';let{dx,fs,O,tf,i0,ij,j1}:=id TK;refine{Za _,λl nl=>?_};have W1:Rz K t H (upd H l<|.lst []) a p l F F st i j 0 []:={hA.new nl,Fr.of_same<|al nl,{dx,fs,by rwa[af (am O nl)],tf,i0,ij,j1},np,hA.out nl,ag,(λe he=>by cases he),{Y4,λk v=>{λh=>by(cases h),λh=>by have:=h.2;simp only[a7]at this;lia}},λx hx=>WN hx<|Nat.not_lt_zero x};refine{_,M,p,_,dx,fs,_,M,by rwa[af (am O nl)],T.bZ,T.kC,tf.at_,?_}
 (try dsimp only)
 generalize upd H l (.lst [])=H1 at W1⊢;clear O tf dx fs;show Bd (HH _ _) _ _ _ H1;refine dQ (λW H'=>∃(F':K')(m:Nat)(ts:List Tp)(Y:Su),W=[some (.ref a),some (.ref p),some (.int n),some (.ref l),some (.int<|a7 (65536/st.low) j i m),some (.int m),Y]/\Rz K t H H' a p l F F' st i j m ts/\PgS st i j n m (ts.map Tp.kv)) (λnx go=>?_)<|λW H2 w=>?_
 .refine{λmm W H'=>∃(F':K')(m:Nat)(ts:List Tp)(Y:Su),mm=(j-a7 (65536/st.low) j i m).toNat/\W=[some (.ref a),some (.ref p),some (.int n),some (.ref l),some (.int<|a7 (65536/st.low) j i m),some (.int m),Y]/\Rz K t H H' a p l F F' st i j m ts/\(∀x,0<x->x<=m->∀qs,RY st i (a7 (65536/st.low) j i x) qs->(qs.length:Int)<n/\(x:Int)<4*n),{_,F,0,[],none,M,M,W1,λx x0 xm=>WN x0 ()},λmm W H' w=>?_};let{F',m,ts,Y,rfl,a9,w,lt}:=w;subst a9;let{dx,fs,O,tf,_}:=id w.tk;let{r0,r1,_}:=tj W0 ij m w.go;refine{_,M,_,M,p,_,dx,fs,_,M,O,T.bZ,T.cN,tf.end_,_,_,M,M,_,M,bL (λc=>?_)<|λc=>?_}
  .have c:=WP c;let{r2,r3}:=HQ W0 c;refine{λa2 H2=>∃(F2:K')(a0:List Tp)(Y:Su),a2=[some (.ref a),some (.ref p),some (.int n),some (.ref l),some (.int<|a7 (65536/st.low) j i<|m+1),some (.int (m+1:Nat)),Y]/\Rz K t H H2 a p l F F2 st i j (m+1) a0/\(a0.length:Int)<n/\((m+1:Nat):Int)<4*n,λa2 H2 g=>?_,?_}
   .let{F2,a0,Y,e,w2,b1,b2}:=g;refine{_,?_,F2,m+1,a0,Y,M,e,w2,λx x0 xm qs hq=>?_}
    .show(j-yQ (65536/st.low) j (a7 (65536/st.low) j i m)).toNat<_;lia
    .rcases Wb xm with xm|rfl
     .exact lt x x0 () qs hq
     .rw[hq.uniq w2.rw,Q1];exact⟨b1,b2⟩
   let{aa,ah,an,aw}:=w.sl.ins;refine{_,M,a,aa,ah,M,an,aw _ ∅,_,M,a,_,F',st,M,w.sl,(),(),λH2 F2 s2 f2=>?_};have w2:=w.move s2 f2;let{ax,b3,b4,b5,_}:=id w2.tk;refine{_,M,p,_,ax,b3,_,M,b4,T.bZ,T.cN,b5.end_,_,_,M,?_}
   (try dsimp only)
   change dA 6 (V.int<|a7 (65536/st.low) j i<|m+1) _ _ _;let{b9,ba,bb,bd}:=w2.sl.ins;refine{_,M,.inl {M,_,Kv.of w2.li},_,M,a,b9,ba,M,bb,bd _ ∅,_,M,_,M,a,_,_,F2,st,M,w2.sl,l4,iv,λH3 F3 l1 ts1 s3 f3 o3 n3 e3 u3 be bf=>?_};have U:=w2.move s3 f3;have a1:RY st i (a7 (65536/st.low) j i<|m+1) ((ts++ts1).map Tp.kv):=by
    rw[Z6];exact U.rw.app ⟨be,bf⟩ r0<|VH r2
   have ln:=a1.len;rw[Q1,Q8]at ln;have a3:∀{p:G'}{xs:P7},H3 p=some (.tup xs)->p≠l:=λ{p xs} e z=>by rw[z,U.li]at e;cases e
   have w4:Rz K t H (upd H3 l<|.lst<|ts.map (λe=>V.ref e.p)++ts1.map (λe=>V.ref e.p)) a p l F F3 st i j (m+1) (ts++ts1):=by
    refine{U.sl.upd U.ol,U.fr.upd_new λ_=>nl,?_,U.np,U.ol,by rw[ag,Z6],λe he=>?_,a1,λx hx=>?_}
    .let{dx,fs,O,r}:=U.tk;exact{dx,fs,by rwa[af λz=>by rw[z,U.li]at O;cases O],r}
    .rcases Q6.mp he with he|he
     .exact{by rw[af (a3 (U.tu e he).1)];exact(U.tu e he).1,(U.tu e he).2}
     .exact{by rw[af (a3 (u3 e he).1)];exact(u3 e he).1,(u3 e he).2}
    .rcases Wb (Nat.le_of_lt_succ hx)with hx|rfl
     .exact w.go x hx
     .exact c
   refine{l,l1,_,_,M,M,U.li,e3,by rw[Q1,Q1];exact ZH<|bh (),?_}
   (try dsimp only)
   generalize upd H3 l (.lst<|ts.map (λe=>V.ref e.p)++ts1.map (λe=>V.ref e.p))=H4 at w4⊢;have pg:(n<=((ts++ts1).length:Int)\/4*n<=((m+1:Nat):Int))->PgS st i j n (m+1) ((ts++ts1).map Tp.kv):=λo=>{a1,w4.go,λx x0 xm=>lt x x0 (),.inr {Nat.succ_pos m,by rw[Q1];exact o}};refine{_,M,_,M,_,_,M,M,?_}
   (try dsimp only)
   have em:((m:Int)+1)=((m+1:Nat):Int):=();rw[em];refine{_,M,l,_,M,.inl<|Kv.of w4.li,_,M,_,_,M,M,_,M,bL (λc1=>?_)<|λc1=>?_}
   .have c1:=WP c1;rw[Q1]at c1;exact b8<|go _ _ {F3,m+1,ts++ts1,_,M,w4,pg<|.inl c1}
   refine{_,M,_,M,_,_,M,M,.inl {(_),(_)},_,_,M,M,_,M,bL (λc2=>?_)<|λc2=>?_}
   .exact go _ _ {F3,m+1,ts++ts1,_,M,w4,pg<|.inr (WP c2)}
   .have c1:¬n<=(((ts++ts1).map λe=>V.ref e.p).length:Int):=λy=>c1 (WR y);have c2:¬4*n<=((m+1:Nat):Int):=λy=>c2 (WR y);rw[Q1]at c1;exact{F3,ts++ts1,_,M,w4,(),()}
  .have c:¬a7 (65536/st.low) j i m<j:=λy=>c (WR y);exact go _ _ {F',m,ts,Y,M,w,w.rw,w.go,λx x0 xm=>lt x x0 (),.inl ()}
 let{F2,m,ts,Y,rfl,w,pg}:=w;let{r0,r1,_}:=tj W0 ij m w.go;let{dx,fs,O,tf,_}:=id w.tk;refine{_,M,_,M,p,_,dx,fs,_,M,O,T.bZ,T.cN,tf.end_,M,_,M,bL (λc=>?_)<|λc=>?_}
 .have c:a7 (65536/st.low) j i m=j:=V.int.inj (WP c);refine{_,M,(by show 2<=sizeLine;decide),λr nr=>?_};have Z:=al (o:= .tup [.ref l,.non]) nr;refine q _ F2 r l .non ts m (w.sl.new nr) (w.fr.trans<|Fr.of_same Z) {ag,Z _ _ w.li,λe he=>{Z _ _ (w.tu e he).1,(w.tu e he).2},{λnF=>tU w.fr nF nr,w.sl.out nr},{λ_=>nl,w.ol}} pg ?_;unfold SH;rw[WJ c]
 .have c:¬a7 (65536/st.low) j i m=j:=λz=>c (WR<|by rw[z]);have ok:okS (.int<|a7 (65536/st.low) j i m) (.int j):={_,_,M,M,(),(),j1};refine{_,M,_,M,_,M,p,_,dx,fs,_,M,O,T.bZ,T.cN,tf.end_,λx dr nx nd bn=>?_};refine{x,dr,_,_,M,ag,T0 _,T0 _,λ_ H' fs' a4 h' bl=>{M,(by show 2<=sizeLine;decide),λr nr=>?_},λz=>WN ok z};have Z:G3 H2 (upd H' r<|.tup [.ref l,.ref x]):=(uM nx nd a4).trans (al nr);have a5:H2 r=none:=cV (uM nx nd a4) nr;have xr:x≠r:=λz=>by rw[z,nr]at h';cases h'
  refine q _ F2 r l (.ref x) ts m (w.sl.same Z) (w.fr.trans<|Fr.of_same Z) {ag,Z _ _ w.li,λe he=>{Z _ _ (w.tu e he).1,(w.tu e he).2},{λnF=>tU w.fr nF a5,w.sl.out a5},{λ_=>nl,w.ol}} pg ?_;unfold SH;rw[WI c];exact{x,M,λnF=>tU w.fr nF nx,w.sl.out nx,dr,fs',by rwa[af xr],bl,(),(),j1}
def RH.newb{s l w h:G'}{Fs Fs' Fl:K'}{x:QA}(JZ:RH K t H a s l w p h Fs Fl x)(n:¬Fs b->H b=none)(n':¬Fs' b):¬RL a w p h Fs' Fl x.pa b:=λz=>by
 rcases z with z|z|z
 .exact n' z
 .let{o,e}:=JZ.lv.dom z;rw[n λy=>JZ.a1 b y z]at e;cases e
 .let{o,e,_}:=JZ.o.dom z;rw[n (JZ.a2 b z)]at e;cases e
noncomputable def RZ:V->Int
 | .int i=>i|_=>0
def Tell(st:PD)(ks:O')(kd n:Int)(av e:V)(ps:R')(r:Su):Prop:=
 (kd=0/\∃m,PgS st (RZ av) (RZ e) n m ps/\r=if a7 (65536/st.low) (RZ e) (RZ av) m=RZ e then none else some (.int<|a7 (65536/st.low) (RZ e) (RZ av) m))\/
 ∃up:Bool,kd=(if up=true then 1 else 2)/\ps.map (·.1)=(cO up av e ks).take n.toNat/\(∀p∈ps,aH st.kv p.1=some p.2)/\r=if(cO up av e ks).length<=n.toNat then none else((cO up av e ks)[n.toNat-1]?).map λk=> .int (if up=true then k+1 else k-1)
structure DF(t:PL)(H':Hp)(F':K')(st:PD)(kd n:Int)(av e v:V)(ts:List Tp)(a':V)(R:Sw):Prop where
 rest:(v= .non/\R=λ_=>false)\/∃q:Addr,v= .ref q/\QL t H' q kd a' e/\Qp kd a' e/\¬F' q/\R=hN kd a' e/\(kd=0->RZ av<=RZ a')
 less:∀k,0<=k->R k=true->hN kd av e k=true
 nd:(ts.map (·.k)).Nodup
 me:∀k v,(k,v)∈ts.map Tp.kv↔(k,v)∈st.kv/\hN kd av e k=true/\R k=false
 tell:∀ks,dD ks->(∀z,z∈ks↔(aH st.kv z).isSome=true)->Tell st ks kd n av e (ts.map Tp.kv) (if v= .non then none else some a')
 far:v= .non\/n<=ts.length\/(kd=0/\RZ av/(65536/st.low)+4*n<=RZ a'/(65536/st.low))
theorem Af{Dr j i:Int}(z:0<Dr):∀m:Nat,(∀x≤m,a7 Dr j i x≠j)->a7 Dr j i m/Dr=i/Dr+m
 |0,_=>(Int.add_zero _).symm
 |m+1,h=>by
  have G:=Af z m λx hx=>h x ();have e:a7 Dr j i (m+1)=(a7 Dr j i m/Dr+1)*Dr:=by
   have:=h (m+1) (Q5 _);show yQ Dr j (a7 Dr j i m)=_;change yQ Dr j (a7 Dr j i m)≠j at this;unfold yQ at this⊢;split
   .rw[WJ (by assumption)]at this;exact WN M this
   .rfl
  rw[e,Int.mul_ediv_cancel _ (ZU z),G];lia
def BP{i j:Int}:hN 0 (.int i) (.int j) k=true↔i<=QK k/\QK k<j:=by
 show(decide (i<=tz (k%65536))&&decide (tz (k%65536)<j))=true↔_;rw[Zs,WY,WY];exact Iff.rfl
def EK{n i j:Int}{m:Nat}(G:0<65536/st.low)(i0:0<=i)(O:i<=j)(g:PgS st i j n m (ts.map Tp.kv))(x:SH t H H' F F' (a7 (65536/st.low) j i m) j v):∃a' R,DF t H' F' st 0 n (.int i) (.int j) v ts a' R:=by
 let{r1,r2,_}:=tj G O m g.go;have nd:(ts.map (·.k)).Nodup:=by
  refine ZE.mpr<|(ZE.mp g.rw.so).imp λ{a b} h e=>?_;have h:QK a.k<QK b.k\/(QK a.k=QK b.k/\a.k<b.k):=h;rw[e]at h;lia
 unfold SH at x;by_cases ej:a7 (65536/st.low) j i m=j
 .rw[WJ ej]at x;refine{.non,λ_=>false,.inl ⟨x,M⟩,λk _ h=>WN h Z1,nd,λk v=>?_,(λks _ _=> .inl {M,m,g,by rw[WJ x];exact(WJ ej).symm}),.inl x};rw[g.rw.me,ej,BP];exact{λh=>⟨h.1,h.2,M⟩,λh=>⟨h.1,h.2.1⟩}
 .rw[WI ej]at x;let{q,I,_,U,dx,fs,hq,Y,Z,q1,q2}:=x;refine{_,hN 0 (.int<|a7 (65536/st.low) j i m)<|.int j,.inr {q,I,⟨dx,fs,hq,Y⟩,.inl {M,_,_,M,M,Z,q1,q2},U,M,λ_=>r1},λk _ h=>?_,nd,λk v=>?_,(λks _ _=> .inl {M,m,g,by rw[WI λz=>by rw[I]at z;cases z];exact(WI ej).symm}),?_}
  .rw[BP]at h⊢;lia
  .rw[g.rw.me,BP,<-Bool.not_eq_true,BP];constructor
   .rintro ⟨h1,h2,h3⟩;exact{h1,{h2,()},()}
   .rintro ⟨h1,⟨h2,h3⟩,h4⟩;exact{h1,h2,()}
  .rcases g.st with z|⟨_,z|z⟩
   .exact WN z ej
   .rw[Q1]at z;exact .inr<|.inl z
   .refine .inr<|.inr {M,?_};have ne:∀x≤m,a7 (65536/st.low) j i x≠j:=λx hx=>by
     rcases Wb hx with h|rfl
     .have:=g.go x h;lia
     .exact ej
    show i/(65536/st.low)+4*n<=a7 (65536/st.low) j i m/(65536/st.low);rw[Af G m ne];lia
def zB(up:Bool)(x y:Int):Prop:=if up=true then x<y else y<x
def Jm{up:Bool}{a:V}(r:dD ks):(cO up a e ks).Pairwise (zB up):=by
 unfold cO zB;cases up
 .exact List.Pairwise.filter _<|VQ.mpr r
 .exact List.Pairwise.filter _ r
def R9{up:Bool}{a:V}{z:Int}:z∈cO up a e ks↔z∈ks/\hK up a e z=true:=by
 unfold cO;rw[Zj];cases up
 .rw[WI Z1,Vg]
 .rw[WJ M]
def HE{up:Bool}{l:O'}{m:Nat}{z:Int}(r:l.Pairwise (zB up))(h:l[m-1]?=some k)(I:1<=m):z∈l.take m↔z∈l/\(z=k\/zB up z k):=by
 have w:=ZW.mp r;let{hk,G}:=Q3.mp h;have as:∀{x y:Int},zB up x y->¬(y=x\/zB up y x):=λ{x y} h1 h2=>by
  unfold zB at h1 h2;cases up
  .rw[WI Z1]at h1 h2;lia
  .rw[WJ M]at h1 h2;lia
 constructor
 .intro hz;let{i,hi,e}:=Zu hz;rw[Q7]at hi;rw[XT]at e;refine{ZB hz,?_};rcases Nat.lt_or_ge i (m-1)with c|c
  .have:=w i (m-1) () hk c;rw[e,G]at this;exact .inr this
  .have:i=m-1:=();subst this;exact .inl<|e.symm.trans G
 .rintro ⟨hz,o⟩;let{i,hi,rfl}:=Zu hz;rcases Nat.lt_or_ge i m with c|c
  .exact List.mem_take_iff_getElem.mpr {i,(),M}
  .have:=w (m-1) i hk hi ();rw[G]at this;exact WN o<|as this
def M0{up:Bool}{a:V}(h:Ra t H p up a e):QL t H p (if up=true then 1 else 2) a e/\Qp (if up=true then 1 else 2) a e:=by
 let{dx,fs,z,G,ok}:=h;cases up
 .exact{⟨dx,fs,z,G⟩,.inr<|.inr ⟨M,ok⟩}
 .exact{⟨dx,fs,z,G⟩,.inr<|.inl ⟨M,ok⟩}
def NZ{up:Bool}:hN (if up=true then 1 else 2)=hK up:=by cases up<;>rfl
def yA{up:Bool}{a:V}{z:Int}(ok:if up=true then RD a e else RE a e)(hk:hK up a e k=true):hK up (.int<|if up=true then k+1 else k-1) e z=true↔hK up a e z=true/\¬(z=k\/zB up z k):=by
 unfold zB;cases up with
 |true=>
  rw[WJ M,WJ M];let{i,rfl,i0,he}:=(show RD a e from ok);rcases he with rfl|⟨j,rfl,_⟩
  .have h1:=WP (show decide (i<=k)=true from hk);show decide (k+1<=z)=true↔decide (i<=z)=true/\_;rw[WY,WY];omega
  .have h1:=WP (ZC.mp<|show(decide (i<=k)&&decide (k<j))=true from hk).1;show(decide (k+1<=z)&&decide (z<j))=true↔(decide (i<=z)&&decide (z<j))=true/\_;rw[Zs,Zs,WY,WY,WY];omega
 |false=>
  rw[WI Z1,WI Z1];let{j,rfl,G,ha}:=(show RE a e from ok);rcases ha with rfl|⟨i,rfl,_⟩
  .show(decide (j<=z)&&decide (z<=k-1))=true↔decide (j<=z)=true/\_;rw[Zs,WY,WY];omega
  .have h1:=WP (ZC.mp<|show(decide (j<=k)&&decide (k<=i))=true from hk).2;show(decide (j<=z)&&decide (z<=k-1))=true↔(decide (j<=z)&&decide (z<=i))=true/\_;rw[Zs,Zs,WY,WY,WY];omega
def G2{n:Int}{up:Bool}(nd:(st.kv.map (·.1)).Nodup)(r:dD ks)(mk:∀z,z∈ks↔(aH st.kv z).isSome=true)(n1:1<=n)(ok:if up=true then RD av e else RE av e)
  (Y:ts.map (·.k)=(cO up av e ks).take n.toNat) (Z:∀e∈ts,aH st.kv e.k=some e.v) (x:NxH t H H' F' p up e (cO up av e ks) n.toNat v):∃a' R,DF t H' F' st (if up=true then 1 else 2) n av e v ts a' R:=by
 have ho:=Jm (up:=up) (a:=av) (e:=e) r;have I:(ts.map (·.k)).Nodup:=by
  rw[Y];refine(ho.sublist<|Vv _ _).imp λ{a b} h e=>?_;unfold zB at h;rw[e]at h;split at h<;>lia
 have me:∀(k:Int)(v:V),(k,v)∈ts.map Tp.kv↔(k,v)∈st.kv/\k∈(cO up av e ks).take n.toNat:=λk v=>by
  rw[<-Y,Z5,Z5];constructor
  .rintro ⟨d,hd,h1⟩;have h2:d.k=k:=Y2 Prod.fst h1;have O:d.v=v:=Y2 Prod.snd h1;have:=bH (Z d hd);rw[h2,O]at this;exact⟨this,d,hd,h2⟩
  .rintro ⟨h1,d,hd,rfl⟩;have:=Z d hd;rw[bC nd h1]at this;exact{d,hd,by unfold Tp.kv;rw[WL this]}
 have ik:∀{k:Int}{v:V},(k,v)∈st.kv->k∈ks:=λh=>(mk _).mpr (by rw[bC nd h];rfl);have tl:∀{r:Su},(r=if(cO up av e ks).length<=n.toNat then none else((cO up av e ks)[n.toNat-1]?).map λk=> .int<|if up=true then k+1 else k-1)->∀G,dD G->(∀z,z∈G↔(aH st.kv z).isSome=true)->Tell st G (if up=true then 1 else 2) n av e (ts.map Tp.kv) r:=λ{q} hq G r' mk'=>by
  have e1:G=ks:=CB r' r λz=>(mk' z).trans (mk z).symm;subst e1;refine .inr {up,M,by rwa[Zp],λp hp=>?_,hq};let{d,hd,rfl}:=Z5.mp hp;exact Z d hd
 unfold NxH at x;split at x
 .refine{.non,λ_=>false,.inl ⟨x,M⟩,λk _ h=>WN h Z1,I,λk v=>?_,tl (by rw[WJ x,WJ (by assumption)]),.inl x};rw[me,Zo (by assumption),R9,NZ];exact{λh=>⟨h.1,h.2.2,M⟩,λh=>{h.1,ik h.1,h.2.1}}
 .rw[WI ()]at x;let{q,k0,h0,U,_,nq,TQ}:=x;have hk:=(R9.mp<|Q2 h0).2;let{t1,t2}:=M0 TQ;refine{_,hN (if up=true then 1 else 2) (.int<|if up=true then k0+1 else k0-1) e,.inr {q,U,t1,t2,nq,M,λz=>by cases up<;>cases z},λk _ h=>?_,I,λk v=>?_,tl (by rw[WI (show ¬v= .non from λz=>by rw[U]at z;cases z),WI (show ¬(cO up av e ks).length<=n.toNat by assumption),h0];rfl),.inr<|.inl ?_}
  .rw[NZ]at h⊢;exact((yA ok hk).mp h).1
  .rw[me,HE ho h0 (),R9,NZ,<-Bool.not_eq_true,yA ok hk];constructor
   .rintro ⟨h1,⟨_,h2⟩,O⟩;exact{h1,h2,λz=>z.2 O}
   .rintro ⟨h1,h2,O⟩;exact{h1,{ik h1,h2},Classical.byContradiction λz=>O ⟨h2,z⟩}
  .have:=Y2 List.length Y;rw[Q1,Q7]at this;lia
def Nh(K:FA)(t:PL):Sp:=λvs H Q _=>∃(a p:G')(n kd:Int)(av e:V)(F:K')(x:QA),vs=[.ref a,.ref p,.int n,.non]/\QC K t H a F x/\QL t H p kd av e/\Qp kd av e/\¬F p/\1<=n/\n<=1000/\x.st.kv.length<4096/\x.ks.length<4096/\(∀k∈x.ks,0<=k)/\(∀p∈x.st.kv,∃i:Int,p.2= .int i)/\
 ∀(H':Hp)(F':K')(r g:G')(v:V)(ts:List Tp)(a':V)(R:Sw),QC K t H' a F' x->Fr F F' H H'->PgA H H' F F' r g v ts->DF t H' F' x.st kd n av e v ts a' R->Q (.ref r) H'
def ND:Ck P w K mg base PP 8 t.MM t.Dm [mu,fx,l9,"sieve"] (Nh K t):=by
 have a2:=Rk.nd;refine T.Pt.ok Rk (λvs H Q E h=>?_)<|λa3 A outer s H vs Q E hr h=>?_
 .let{a,p,n,kd,av,e,F,x,rfl,_}:=h;rfl
 .let{a,p,n,kd,av,e,F,x,rfl,A,TK,Y,np,n1,n2,l4,lk,k0,iv,q}:=h;refine Iu (λx y=>aO (bF<|aI (nB K M) {_} T.dO cG (ac M2<|ac (dn (v:= .ref t.aX) {_} T.xX M) ai)) x y) ?_;refine aB (PN 4<|aJ (uV T) hr.mo {_} T.He T.wv.kp T.Hh .nil az (ac (ar Ca M)<|ac M2<|ac P8 ai)) ?_
  intros
  refine aB (PN 4<|aJ (wf T) hr.mo {_} T.IM T.yM.kp T.JQ .nil az (ac Ca<|ac M2<|ac P8 ai)) ?_
  intros
  refine aj (aO (ay eh PR bc<|au _)
   (aA<|aD QI)
   aF)
     (aB jL ?_)
  intros
  let{dx,fs,G,tf}:=id TK;have nd:(x.st.kv.map (·.1)).Nodup:=by
   let{s,l,Z,p,h,Fs,Fl,JZ,O,g}:=A;let{_,_,_,_,nd,_}:=JZ.sl;exact nd
  have ri:dD x.ks:=by
   let{_,_,_,_,_,_,L}:=A.lvs;exact L.rise
  have I:∀(up:Bool){Q':VK}{E':XK},kd=(if up=true then 1 else 2)->(∀v H',Q v H'->Q' v H')->nG K t [.ref a,.ref p,.int n] H Q' E':=λup Q' E' eu hQ=>by
   have ok:if up=true then RD av e else RE av e:=by
    subst eu;cases up
    .exact Y.d
    .exact Y.u
   refine{a,p,n,up,av,e,F,x,M,A,{dx,fs,?_,?_,ok},np,lk,k0,λH' F' r g v ts A' f' pg ek ev nx=>?_}
   .subst eu;cases up<;>exact G
   .subst eu;cases up<;>exact tf
   .let{a',R,U}:=G2 nd ri A.ok.ks n1 ok ek ev nx;rw[<-eu]at U;exact hQ _ _<|q H' F' r g v ts a' R A' f' pg U
  rcases Y.kd with rfl|rfl|rfl
  .have G:H p=some (.ins t.aX dx fs):=G;let{i,j,rfl,rfl,i0,ij,j1}:=Y.s;let{s,l,Z,pp,h,Fs,Fl,JZ,O,g}:=A;let{a0,ho}:=JZ.o.ob;have W0:0<65536/x.st.low:=by
    have z:PY x.st:=let⟨_,_,_,_,_,z⟩:=JZ.sl;z
    let{_,_,R}:=xA (hZ z);exact R.wpos'
   refine{_,M,_,_,_,_,M,QG.ins G T.bZ T.rp.1 T.rp.2 T.rp.3 T.rp.4,T.EA,_,M,b8 {_,M,a,_,a0,_,_,M,ho,T.aV,T.dI,yh,_,M,_,M,s,p,n,i,j,Fs,x.st,M,JZ.sl,⟨dx,fs,G,tf,i0,ij,j1⟩,λz=>np<|(g p).mpr<|.inl z,n1,n2,l4,iv,λH' Fs' r gg v ts m S' f' pg ps nx=>{_,M,M,_,M,dU M {_,M,?_}}}};let{B1,g1}:=JZ.slots S' f';have up:∀{b:G'},¬F b->¬Fs b:=λn z=>n ((g _).mpr<|.inl z);have A':QC K t H' a (RL a Z pp h Fs' Fl x.pa) x:={s,l,Z,pp,h,Fs',Fl,B1,O,λ_=>Iff.rfl};have a1:SH t H H' F (RL a Z pp h Fs' Fl x.pa) (a7 (65536/x.st.low) j i m) j v:=by
    unfold SH at nx⊢;split
    .rw[WJ (by assumption)]at nx;exact nx
    .rw[WI (by assumption)]at nx;let{y,e1,e2,e3,e4}:=nx;exact{y,e1,λn=>e2<|up n,JZ.newb e2 e3,e4}
   let{a',R,U}:=EK W0 i0 ij ps a1;refine q H' _ r gg v ts a' R A' (λb o n e=>g1 b o (λz=>n<|(g b).mpr z) e) {pg.tu,pg.li,λe he=>{(pg.rw e he).1,λz=>?_},{λn=>pg.nr.1<|up n,JZ.newb pg.nr.1 pg.nr.2},λn=>pg.ng.1<|up n,JZ.newb pg.ng.1 pg.ng.2} U;let{o,e',n}:=A'.dom z;rw[(pg.rw e he).1]at e';exact n _ (WL e').symm
  .have G:H p=some (.ins t.eP dx fs):=G;refine{_,M,_,_,_,_,M,QG.ins G T.jB T.n8.1 T.n8.2 T.n8.3 T.n8.4,T.Kk,_,M,cm {_,M,_,M,_,M,I true M λv H' h=>{_,M,M,_,M,dU M {_,M,h}}}}
  .have G:H p=some (.ins t.cQ dx fs):=G;refine{_,M,_,_,_,_,M,QG.ins G T.cW T.fw.1 T.fw.2 T.fw.3 T.fw.4,T.Hg,_,M,cm {_,M,_,M,_,M,I false M λv H' h=>{_,M,M,_,M,dU M {_,M,h}}}}
def vM(K:FA):Sp:=λvs H Q _=>∃(a:G')(ns:O')(k:Int),vs=[.ref a,.int k]/\Kv K H a (ns.map V.int)/\0<=k/\Q (.int<|ns.getD k.toNat 0) H
def wm:Ck P w K mg base PP 1 t.pR t.jw [nj,qO] (vM K):=by
 refine T.pZ.okl vX λs H vs Q E I h _=>?_;intro X;let{a,ns,i,rfl,hS,G,k}:=h;refine aj (aO (ay dW M2 (aI aE {_} T.bT bi (ac Ca ai))<|au _)
    (aA<|aD<|aS aU Ca M2<|λ_ _=>M)
    aF)
   (aB (aD ae) ?_)
 intros
 refine{_,M,_,M,a,_,M,.inl hS,_,_,M,M,_,M,?_};refine bL (λc=>?_)<|λc=>?_
 .have c:=WP c;rw[Q1]at c;exact{_,M,_,M,a,_,_,_,M,M,hS,ua G c,k}
 .have c:¬i<((ns.map V.int).length:Int):=λz=>c (WR z);rw[Q1]at c;rw[JM c]at k;exact k
def FK(x y:Nat):x&&&y=((x/256)&&&(y/256))*256+((x%256)&&&(y%256)):=by
 have h:=Nat.div_add_mod (x&&&y) 256;rw[show(256:Nat)=2^8 from rfl,Nat.and_div_two_pow,Nat.and_mod_two_pow]at h;rw[<-h];show 2^8*_+_=_*2^8+_;rw[V7]
def RA(p s x:Nat):Nat:=(x&&&p)*s+(x&&&(p*s))/s
def Be{p s:Nat}(h1:∀x<256,RA p s x<256/\s∣(x&&&(p*s)))(Y:p<256)(hq:p*s<256)(hs:0<s){a b:Nat}(ha:a<256)(hb:b<256):RA (p*257) s (a*256+b)=RA p s a*256+RA p s b:=by
 let{_,c,hc}:=h1 a ha;have z:(a*256+b)/256=a:=();have G:(a*256+b)%256=b:=();have I:p*257/256=p:=();have e2:p*257%256=p:=();have Z:p*257*s=p*s*256+p*s:=by rw[Nat.mul_right_comm,show(257:Nat)=256+1 from rfl,Nat.mul_add,Nat.mul_one]
 have O:p*257*s/256=p*s:=();have U:p*257*s%256=p*s:=();unfold RA;rw[FK (a*256+b) (p*257),FK (a*256+b) (p*257*s),z,G,I,e2,O,U,hc,Nat.mul_div_cancel_left c hs,Nat.mul_assoc s c 256,Nat.add_comm (s*(c*256)),Nat.add_mul_div_left _ _ hs,Wt,Nat.mul_right_comm,Wt];lia
def Mi:∀x<256,RA 85 2 (RA 51 4<|RA 15 16 x)=rv 8 x:=by decide+kernel
def Ng:∀x<256,RA 15 16 x<256/\16∣(x&&&(15*16)):=by decide+kernel
def Nf:∀x<256,RA 51 4 x<256/\4∣(x&&&(51*4)):=by decide+kernel
def sw85:∀x<256,RA 85 2 x<256/\2∣(x&&&(85*2)):=by decide+kernel
def MY(h:n<65536):RA (85*257) 2 (RA (51*257) 4<|RA (15*257) 16<|n%256*256+n/256)=rv 16 n:=by
 have e:rv 16 n=rv 8 n*256+rv 8 (n/256):=sY 8 8 n;have e2:rv 8 (n%256)=rv 8 n:=Eh 8 n;rw[e,<-e2];have a:=Nat.mod_lt n (show 0<256 by decide);have b:n/256<256:=();clear e e2 h;generalize n%256=x at a⊢;generalize n/256=y at b⊢;have z:=(Ng x a).1;have G:=(Ng y b).1;have I:=(Nf _ z).1;have O:=(Nf _ G).1;rw[<-Mi x a,<-Mi y b,Be Ng (_) (_) (_) a b];generalize RA 15 16 x=U at z I⊢;generalize RA 15 16 y=Y at G O⊢;rw[Be Nf (_) (_) (_) z G];generalize RA 51 4 U=Z at I⊢;generalize RA 51 4 Y=y2 at O⊢;exact Be sw85 (_) (_) (_) I O
def sw1(x:Nat):Builtin.bitAnd (x:Int) 3855*16+Builtin.bitAnd (x:Int) 61680/16=((RA (15*257) 16 x:Nat):Int):=by
 show((x&&&3855:Nat):Int)*16+((x&&&61680:Nat):Int)/16=(((x&&&3855)*16+(x&&&61680)/16:Nat):Int);lia
def sw2(x:Nat):Builtin.bitAnd (x:Int) 13107*4+Builtin.bitAnd (x:Int) 52428/4=((RA (51*257) 4 x:Nat):Int):=by
 show((x&&&13107:Nat):Int)*4+((x&&&52428:Nat):Int)/4=(((x&&&13107)*4+(x&&&52428)/4:Nat):Int);lia
def sw3(x:Nat):Builtin.bitAnd (x:Int) 21845*2+Builtin.bitAnd (x:Int) 43690/2=((RA (85*257) 2 x:Nat):Int):=by
 show((x&&&21845:Nat):Int)*2+((x&&&43690:Nat):Int)/2=(((x&&&21845)*2+(x&&&43690)/2:Nat):Int);lia
def yU:Sp:=λvs H Q _=>∃k:Int,vs=[.int k]/\Q (.int<|tz<|k%65536) H
def zE:Ck P w K mg base PP 1 t.uh t.mX [lG] yU:=by
 refine T.uy.okl zj λs H vs Q E Y h _=>?_;intro X;let{n,rfl,q}:=h;refine aj (PN 1<|ao aQ Ca ae)
   (aj (PN 1<|ao bx (ao cT (ao aQ M2 ae) ae)<|ao aP M2 ae)
   (aj (PN 1<|ao bx (ao cT (ao uT M2 ae) ae)<|ao aP (ao uT M2 ae) ae)
   (aj (PN 1<|ao bx (ao cT (ao uT M2 ae) ae)<|ao aP (ao uT M2 ae) ae)
   (aB (aD<|ao bx (ao cT (ao uT M2 ae) ae)<|ao aP (ao uT M2 ae) ae) ?_))))
 intros
 have z:=Z2 n (show(65536:Int)≠0 by decide);have G:=Z0 n (show(0:Int)<65536 by decide);refine{_,M,_,_,M,M,(by show(0:Int)<65536;decide),?_}
 (try dsimp only)
 let{m,I}:=X9 z;rw[I]at G q⊢;have te:=MY (n:=m) ();unfold tz at q;rw[Zx,<-te]at q;refine{_,M,_,_,M,M,(by show(0:Int)<256;decide),_,_,M,M,.inr {(_),(_)},_,M,_,_,M,M,{(_),(_)},_,_,M,M,?_}
 (try dsimp only)
 rw[show(m:Int)%256*256+(m:Int)/256=((m%256*256+m/256:Nat):Int) by lia];generalize m%256*256+m/256=O at q⊢
 (try dsimp only)
 refine{_,M,_,_,M,M,_,_,M,M,.inr {(_),(_)},_,M,_,_,M,M,_,_,M,M,{(_),(_)},_,_,M,M,?_}
 (try dsimp only)
 rw[sw1];generalize RA (15*257) 16 O=U at q⊢
 (try dsimp only)
 refine{_,M,_,_,M,M,_,_,M,M,.inr {(_),(_)},_,M,_,_,M,M,_,_,M,M,{(_),(_)},_,_,M,M,?_}
 (try dsimp only)
 rw[sw2];generalize RA (51*257) 4 U=Z at q⊢
 (try dsimp only)
 refine{_,M,_,_,M,M,_,_,M,M,.inr {(_),(_)},_,M,_,_,M,M,_,_,M,M,{(_),(_)},_,_,M,M,?_}
 (try dsimp only)
 rw[sw3];exact q
inductive Dw where
 |put(k v:Int)
 |drop(k:Int)
 |mark(i:Int)
noncomputable def Dw.vs:Dw->List V
 | .put k v=> [.str "put",.int k,.int v]
 | .drop k=> [.str "drop",.int k]
 | .mark i=> [.str "mark",.int i]
noncomputable def Dw.key:Dw->Option Int
 | .put k _=>some k
 | .drop k=>some k
 | .mark _=>none
noncomputable def Dw.eff:Dw->Option V
 | .put _ v=>some (.int v)
 |_=>none
set_option genInjectivity false in
structure DR where
 p:Addr
 r:Dw
def ap(R1:R')(e:DR):List (Int×V):=match e.r with
 | .put k v=>bu R1 k (.int v)
 | .drop k=>bQ R1 k
 | .mark _=>R1
def tbl(l:List DR):List (Int×V):=l.foldl ap []
noncomputable def cZ(k:Int):List DR->Option DR
 | []=>none
 |e::r=>match cZ k r with
  |some x=>some x
  |none=>if e.r.key=some k then some e else none
def B9{e:DR}:aH (ap R1 e) k=if e.r.key=some k then e.r.eff else aH R1 k:=by
 unfold ap;cases e.r with
 |put j v=>
  show aH (bu R1 j<|.int v) k=if some j=some k then some (V.int v)else _
  rw[eI];by_cases h:k=j
  .rw[WJ h,WJ (by rw[h])]
  .rw[WI h,WI λz=>h (WL z).symm]
 |drop j=>
  show aH (bQ R1 j) k=if some j=some k then none else _
  rw[fh];by_cases h:k=j
  .rw[WJ h,WJ (by rw[h])]
  .rw[WI h,WI λz=>h (WL z).symm]
 |mark i=>exact(WI λz=>by cases z).symm
def MK{e:DR}(h:(R1.map (·.1)).Nodup):((ap R1 e).map (·.1)).Nodup:=by
 unfold ap;cases e.r with
 |put j v=>exact xS h
 |drop j=>exact h.sublist<|XG.map _
 |mark i=>exact h
def Oe{e:DR}:(ap R1 e).length<=R1.length+1:=by
 unfold ap;cases e.r with
 |put j v=>exact cy _ _ _
 |drop j=>exact Xl<|Dk _ _
 |mark i=>exact Xc _
theorem tV{k:Int}:∀{l:List DR}{R1:R'},aH (l.foldl ap R1) k=match cZ k l with|some x=>x.r.eff|none=>aH R1 k
 | [],_=>rfl
 |e::r,R1=>by
  show aH (r.foldl ap<|ap R1 e) k=match (match cZ k r with|some x=>some x|none=>if e.r.key=some k then some e else none)with|some x=>x.r.eff|none=>aH R1 k
  rw[tV];cases c:cZ k r with
  |some x=>rfl
  |none=>
   show aH (ap R1 e) k=_;rw[B9];by_cases h:e.r.key=some k
   .rw[WJ h,WJ h]
   .rw[WI h,WI h]
theorem BR:∀{l:List DR}{R1:R'},(R1.map (·.1)).Nodup->((l.foldl ap R1).map (·.1)).Nodup
 | [],_,h=>h
 |e::r,R1,h=>BR (l:=r) (R1:=ap R1 e) (MK h)
theorem tW:∀{l:List DR}{R1:R'},(l.foldl ap R1).length<=R1.length+l.length
 | [],_=>Q5 _
 |e::r,R1=>by
  have h1:=tW (l:=r) (R1:=ap R1 e);have h2:=Oe (R1:=R1) (e:=e);show(r.foldl ap<|ap R1 e).length<=R1.length+(r.length+1);lia
def D4:((tbl l).map (·.1)).Nodup:=BR ZY
def wz:(tbl l).length<=l.length:=by
 have:=tW (l:=l) (R1:=[]);rwa [Vn,Vp]at this
def sH{e:DR}:tbl (l++ [e])=ap (tbl l) e:=by
 unfold tbl;rw[Vc];rfl
def KO{m:List DR}:tbl (l++m)=m.foldl ap (tbl l):=Vc
theorem mS{k:Int}{e:DR}:∀{l:List DR},cZ k (l++ [e])=if e.r.key=some k then some e else cZ k l
 | []=>rfl
 |x::r=>by
  show(match cZ k (r++ [e])with|some x=>some x|none=>_)=_;rw[mS];by_cases h:e.r.key=some k
  .rw[WJ h,WJ h]
  .rw[WI h,WI h];rfl
theorem gB{k:Int}{x:DR}:∀{l:List DR},cZ k l=some x->x∈l/\x.r.key=some k
 | [],h=>by cases h
 |e::r,h=>by
  change (match cZ k r with|some x=>some x|none=>if e.r.key=some k then some e else none)=some x at h;cases c:cZ k r with
  |some y=>
   rw[c]at h;cases h;exact{Z7 _ (gB c).1,(gB c).2}
  |none=>
   rw[c]at h;by_cases g:e.r.key=some k
   .change (if e.r.key=some k then some e else none)=some x at h;rw[WJ g]at h;cases h;exact⟨Z4,g⟩
   .change (if e.r.key=some k then some e else none)=some x at h;rw[WI g]at h;cases h
theorem rY{k:Int}:∀{l:List DR},cZ k l=none->∀x∈l,x.r.key≠some k
 | [],_,x,hx=>WN hx Xv
 |e::r,h,x,hx=>by
  change (match cZ k r with|some x=>some x|none=>if e.r.key=some k then some e else none)=none at h;cases c:cZ k r with
  |some y=>rw[c]at h;cases h
  |none=>
   rw[c]at h;change (if e.r.key=some k then some e else none)=none at h;rcases Zb.mp hx with rfl|hx
   .intro g;rw[WJ g]at h;cases h
   .exact rY c x hx
def Cn(h:k∈(tbl l).map (·.1)):∃x∈l,x.r.key=some k:=by
 have h:=mem_keys.mp h;unfold tbl at h;rw[tV]at h;cases c:cZ k l with
 |none=>rw[c]at h;cases h
 |some x=>exact{x,gB c}
set_option genInjectivity false in
structure QY where
 g:Addr
 nd:Addr
 tk:Addr
 ta:V
 fd:Option (Addr×List Tp)
 ah:V
 aa:V
 no:List (Int×DR)
 cl:Option Int
set_option genInjectivity false in
structure PX where
 rv:V
 ra:V
 n:Nat
 cp:List (Int×V)
 pg:Option QY
def hO(v:V)(kd:Int)(a e:V)(k:Int):Bool:=if v= .non then false else hN kd a e k
def QY.inp(P:QY)(kd:Int)(e:V)(k:Int):Bool:=P.fd.isSome&&(hN kd P.ta e k&&!hO P.ah kd P.aa e k)
def PX.cov(X:PX)(kd:Int)(av e:V)(k:Int):Bool:=hN kd av e k&&!hO X.rv kd X.ra e k
noncomputable def QY.rows(P:QY):List (Int×V):=match P.fd with
 |some y=>y.2.map Tp.kv
 |none=> []
def QY.out(P:QY):List (Int×V):=(P.no.map (·.2)).foldl ap P.rows
def xU(a b:R'):List (Int×V):=b.foldl (λR1 p=>bu R1 p.1 p.2) a
noncomputable def zA(l:List (Int×DR))(k:Int)(e:DR):List (Int×DR):=if(l.any λz=>decide (z.1=k))=true then l.map λz=>if z.1=k then(z.1,e)else z else l++ [(k,e)]
def R3{l:List (Int×DR)}{j:Int}{e x:DR}:(j,x)∈zA l k e↔(j=k/\x=e)\/(j≠k/\(j,x)∈l):=by
 unfold zA;by_cases c:(l.any λz=>decide (z.1=k))=true
 .rw[WJ c,Z5];constructor
  .rintro ⟨z,hz,G⟩;by_cases h:z.1=k
   .rw[WJ h]at G;cases G;exact .inl ⟨h,M⟩
   .rw[WI h]at G;subst G;exact .inr ⟨h,hz⟩
  .rintro (⟨rfl,rfl⟩|⟨h,hz⟩)
   .let{z,hz,G}:=VC.mp c;have G:=WP G;exact{z,hz,by rw[WJ G,G]}
   .exact{(j,x),hz,by rw[WI h]}
 .rw[WI c,Q6];constructor
  .rintro (h|h)
   .refine .inr {λz=>c<|VC.mpr {(j,x),h,WR z},h}
   .cases Q9.mp h;exact .inl ⟨M,M⟩
  .rintro (⟨rfl,rfl⟩|⟨_,h⟩)
   .exact .inr<|Q9.mpr M
   .exact .inl h
def Ic{l:List (Int×DR)}{e:DR}:(zA l k e).length<=l.length+1:=by
 unfold zA;split
 .rw[Q1];exact Xc _
 .rw[Q8];exact Q5 _
def Ib{l:List (Int×DR)}{e:DR}:(zA l k e).map (λz=>(z.1,V.ref z.2.p))=bu (l.map λz=>(z.1,V.ref z.2.p)) k (.ref e.p):=by
 unfold zA bu;rw[List.any_map];have:(l.any λz=>decide (z.1=k))=l.any ((λkv:Int×V=>decide (kv.1=k))∘λz=>(z.1,V.ref z.2.p)):=M;rw[<-this];split
 .rw[Zp,Zp];refine Xo λz _=>?_;show((if z.1=k then(z.1,e)else z).1,V.ref (if z.1=k then(z.1,e)else z).2.p)=if z.1=k then(z.1,V.ref e.p)else(z.1,V.ref z.2.p)
  split<;>rfl
 .rw[Z6];rfl
def PX.chg(X:PX)(kd:Int)(av e:V)(k:Int)(x:DR):PX:=
 if X.cov kd av e k=true then{X with n:=X.n+1,cp:=ap X.cp x}else match X.pg with
  |none=>{X with n:=X.n+1}
  |some P=>if P.inp kd e k=true then{X with n:=X.n+1,pg:=some {P with no:=zA P.no k x}}else{X with n:=X.n+1}
def PX.mrk(X:PX)(i:Int):PX:=match X.pg with
 |none=>{X with n:=X.n+1}
 |some P=>if P.cl=some i then{P.ah,P.aa,X.n+1,xU X.cp P.out,none}else{X with n:=X.n+1}
def bg(kd:Int)(av e:V)(X:PX)(x:DR):PX:=match x.r with
 | .put k _=>X.chg kd av e k x
 | .drop k=>X.chg kd av e k x
 | .mark i=>X.mrk i
theorem xT{k:Int}:∀{b a:R'},(b.map (·.1)).Nodup->aH (xU a b) k=match aH b k with|some v=>some v|none=>aH a k
 | [],_,_=>rfl
 |p::r,a,h=>by
  let{h1,h2}:=ZM.mp h;show aH (xU (bu a p.1 p.2) r) k=_;rw[xT h2];by_cases e:p.1=k
  .have:aH r k=none:=by
    cases c:aH r k with
    |none=>rfl
    |some v=>exact WN (mem_keys.mpr<|by rw[c];rfl)<|by rwa[<-e]
   rw[this,bE e,eI,WJ e.symm]
  .rw[bz e];cases aH r k with
   |some v=>rfl
   |none=>
    show aH (bu a p.1 p.2) k=aH a k;rw[eI,WI λz=>e z.symm]
theorem Fa:∀{b a:R'},(a.map (·.1)).Nodup->((xU a b).map (·.1)).Nodup
 | [],_,h=>h
 |p::r,a,h=>Fa (b:=r) (a:=bu a p.1 p.2) (xS h)
theorem As:∀{b a:R'},u8 (aC a) (aC b)=aC (xU a b)
 | [],_=>rfl
 |p::r,a=>by
  show u8 (bu (aC a) (Sum.inl p.1) p.2) (aC r)=aC (xU (bu a p.1 p.2) r);rw[cw,As]
structure SK(kd:Int)(av e:V)(ds:List DR)(X:PX)(P:QY):Prop where
 rn:X.rv= .ref P.tk
 ra:P.ta=X.ra
 nl:P.no.length<=X.n
 nk:∀z∈P.no,z.2.r.key=some z.1
 un:P.fd=none->P.no=[]/\P.cl=none
 fd:∀y,P.fd=some y->∃nr mr,nr<=X.n/\nr<=mr/\mr<=ds.length/\(y.2.map (·.k)).Nodup/\(∀k v,(k,v)∈y.2.map Tp.kv↔(k,v)∈tbl (ds.take mr)/\hN kd P.ta e k=true/\hO P.ah kd P.aa e k=false)/\(∀k,0<=k->hO P.ah kd P.aa e k=true->hN kd P.ta e k=true)/\(∀k x,(k,x)∈P.no↔P.inp kd e k=true/\cZ k ((ds.take X.n).drop nr)=some x)/\∀m,P.cl=some m->∃c x,ds[c]?=some x/\x.r= .mark m/\mr<=c/\X.n<=c
structure Inv(kd:Int)(av e:V)(ds:List DR)(X:PX):Prop where
 le:X.n<=ds.length
 nd:(X.cp.map (·.1)).Nodup
 cp:∀k,0<=k->aH X.cp k=if X.cov kd av e k=true then aH (tbl<|ds.take X.n) k else none
 kp:∀k∈X.cp.map (·.1),0<=k
 su:∀k,0<=k->hO X.rv kd X.ra e k=true->hN kd av e k=true
 pg:∀P,X.pg=some P->SK kd av e ds X P
structure Rb(ds:List DR):Prop where
 kb:∀x∈ds,∀k,x.r.key=some k->0<=k
 un:∀(i j:Nat)(x y:DR)(m:Int),ds[i]?=some x->ds[j]?=some y->x.r= .mark m->y.r= .mark m->i=j
 dr:∀(i:Nat)(x:DR)(k:Int),ds[i]?=some x->x.r= .drop k->(aH (tbl<|ds.take i) k).isSome=true
def wK{x:DR}(h:ds[i]?=some x):tbl (ds.take<|i+1)=ap (tbl<|ds.take i) x:=by
 rw[Zg,h];exact sH
def xa{nr:Nat}{x:DR}(h:ds[i]?=some x)(l:nr<=i):(ds.take<|i+1).drop nr=(ds.take i).drop nr++ [x]:=by
 have hi:=(Q3.mp h).1;rw[Zg,h,List.drop_append_of_le_length (by rw[Q7];lia)];rfl
def Bo{nr m:Nat}(l:nr<=m):aH (tbl<|ds.take m) k=match cZ k ((ds.take m).drop nr)with|some x=>x.r.eff|none=>aH (tbl<|ds.take nr) k:=by
 have e:ds.take m=ds.take nr++(ds.take m).drop nr:=by
  conv=>lhs;rw[<-ZI nr (ds.take m),VW,Xn l]
 conv=>lhs;rw[e,KO,tV]
def Nx{P:QY}(h:∀y,P.fd=some y->(y.2.map (·.k)).Nodup):(P.out.map (·.1)).Nodup:=by
 refine BR ?_;unfold QY.rows;cases c:P.fd with
 |none=>exact ZY
 |some y=>
  show((y.2.map Tp.kv).map (·.1)).Nodup;rw[Zp];exact h y c
def Li{kd:Int}{P:QY}(I:SK kd av e ds X P)(Y:P.cl=some m){x:DR}(D:Rb ds)(hx:ds[X.n]?=some x)(xm:x.r= .mark m)(k:Int):aH P.out k=if P.inp kd e k=true then aH (tbl<|ds.take X.n) k else none:=by
 cases U:P.fd with
 |none=>rw[(I.un U).2]at Y;cases Y
 |some y=>
  let{nr,G,l1,l2,l3,ny,Z,le,no,cl}:=I.fd y U;let{c,x',hc,xc,l4,l5}:=cl m Y;have ec:c=X.n:=D.un c X.n x' x m hc hx xc xm;subst ec;have a0:((y.2.map Tp.kv).map (·.1)).Nodup:=by
   rwa[Zp]
  have er:P.rows=y.2.map Tp.kv:=by
   unfold QY.rows;rw[U]
  have ei:P.inp kd e k=(hN kd P.ta e k&&!hO P.ah kd P.aa e k):=by
   unfold QY.inp;rw[U];rfl
  unfold QY.out;rw[tV,er];cases O:cZ k (P.no.map (·.2))with
  |some z=>
   let{hz,kz}:=gB O;let{w,hw,ew}:=Z5.mp hz;have kw:=I.nk w hw;rw[ew,kz]at kw;have a1:(k,z)∈P.no:=by
    rwa[WL kw,<-ew]
   let{i1,i2}:=(no k z).mp a1;rw[WJ i1,Bo l1,i2]
  |none=>
   show aH (y.2.map Tp.kv) k=_;by_cases hi:P.inp kd e k=true
   .rw[WJ hi];have hn:cZ k ((ds.take X.n).drop nr)=none:=by
     cases c:cZ k ((ds.take X.n).drop nr)with
     |none=>rfl
     |some z=>exact WN (gB c).2<|rY O z (Z5.mpr {(k,z),(no k z).mpr ⟨hi,c⟩,M})
    have a2:cZ k ((ds.take G).drop nr)=none:=by
     cases c:cZ k ((ds.take G).drop nr)with
     |none=>rfl
     |some z=>
      let{z1,z2}:=gB c;refine WN z2<|rY hn z ?_;have:(ds.take G).drop nr=((ds.take X.n).drop nr).take (G-nr):=by
       rw[<-List.drop_take,VW,Xn ()]
      rw[this]at z1;exact ZB z1
    rw[Bo (ds:=ds) l1,hn];show _=aH (tbl<|ds.take nr) k;have h1:=Bo (ds:=ds) (k:=k) l2;rw[a2]at h1;change aH (tbl<|ds.take G) k=aH (tbl<|ds.take nr) k at h1;rw[<-h1];rw[ei,Zs,Wm]at hi;cases c:aH (tbl<|ds.take G) k with
    |some v=>exact bC a0<|(Z k v).mpr {bH c,hi}
    |none=>
     cases c2:aH (y.2.map Tp.kv) k with
     |none=>rfl
     |some v=>
      have h3:=((Z k v).mp<|bH c2).1;rw[bC D4 h3]at c;cases c
   .rw[WI hi];cases c2:aH (y.2.map Tp.kv) k with
    |none=>rfl
    |some v=>
     have h3:=((Z k v).mp<|bH c2).2;rw[ei,Zs,Wm]at hi;exact WN h3 hi
def SK.more{kd:Int}{more:List DR}{P:QY}(I:SK kd av e ds X P)(le:X.n<=ds.length):SK kd av e (ds++more) X P:=
 {I.rn,I.ra,I.nl,I.nk,I.un,λy hy=>by
  let{nr,z,l1,G,O,h1,h2,U,Y,Z}:=I.fd y hy;refine{nr,z,l1,G,by rw[Q8];lia,h1,by rwa[Zv O],U,by rwa[Zv le],λm hm=>?_};let{c,x,hc,hr}:=Z m hm;exact{c,x,by rwa[ZP (Q3.mp hc).1],hr}}
def Inv.more{kd:Int}{more:List DR}(I:Inv kd av e ds X):Inv kd av e (ds++more) X:=
 {by rw[Q8];exact Zl I.le<|Nat.le_add_right _ _,I.nd,by rw[Zv I.le];exact I.cp,I.kp,I.su,λP z=>(I.pg P z).more I.le}
def Inv.chg{kd:Int}{x:DR}(I:Inv kd av e ds X)(k0:0<=k)(hx:ds[X.n]?=some x)(hk:x.r.key=some k):Inv kd av e ds (X.chg kd av e k x):=by
 have hn:=(Q3.mp hx).1;have tv:∀j,aH (tbl<|ds.take<|X.n+1) j=if j=k then x.r.eff else aH (tbl<|ds.take X.n) j:=λj=>by
  rw[wK hx,B9,hk];by_cases h:j=k
  .rw[WJ h,WJ (by rw[h])]
  .rw[WI h,WI λz=>h (WL z).symm]
 have Z:∀P,SK kd av e ds X P->P.inp kd e k=false->∀cp,SK kd av e ds {X with n:=X.n+1,cp:=cp} P:=λP q hi cp=>by
  refine{q.rn,q.ra,Xl q.nl,q.nk,q.un,λy hy=>?_};let{nr,mr,l1,l2,l3,h1,h2,h3,h4,h5}:=q.fd y hy;refine{nr,mr,Xl l1,l2,l3,h1,h2,h3,λj z=>?_,λm hm=>?_}
  .show _↔_/\cZ j ((ds.take<|X.n+1).drop nr)=some z;rw[h4,xa hx l1,mS,hk];by_cases h:some k=some j
   .rw[<-WL h,hi];constructor<;>(rintro ⟨z,_⟩;cases z)
   .rw[WI h]
  .let{c,z,hc,zc,l4,l5}:=h5 m hm;have l5:X.n<=c:=l5;refine{c,z,hc,zc,l4,ZF l5 λh=>?_};rw[<-h,hx]at hc;cases hc;rw[zc]at hk;cases hk
 have a0:∀P,X.pg=some P->X.cov kd av e k=true->P.inp kd e k=false:=λP U hc=>by
  have q:=I.pg P U;unfold PX.cov at hc;rw[Zs,Wm]at hc;have h:=hc.2;unfold hO at h;rw[q.rn,WI (λz=>by cases z),<-q.ra]at h;unfold QY.inp;rw[h];cases P.fd.isSome<;>rfl
 unfold PX.chg;by_cases hc:X.cov kd av e k=true
 .rw[WJ hc];refine{hn,MK I.nd,λj j0=>?_,λj Y=>?_,I.su,λP U=>Z P (I.pg P U) (a0 P U hc) _}
  .show aH (ap X.cp x) j=if X.cov kd av e j=true then aH (tbl<|ds.take<|X.n+1) j else none
   rw[B9,tv,hk,I.cp j j0];by_cases h:j=k
   .rw[WJ (by rw[h]),WJ h,h,WJ hc]
   .rw[WI (λz=>h (WL z).symm),WI h]
  .have Y:=mem_keys.mp Y;change (aH (ap X.cp x) j).isSome=true at Y;rw[B9,hk]at Y;by_cases h:some k=some j
   .rwa[<-WL h]
   .rw[WI h]at Y;exact I.kp j<|mem_keys.mpr Y
 .rw[WI hc];have G:∀j,0<=j->aH X.cp j=if X.cov kd av e j=true then aH (tbl<|ds.take<|X.n+1) j else none:=λj j0=>by
   rw[I.cp j j0,tv];by_cases h:j=k
   .rw[h,WI hc,WI hc]
   .rw[WI h]
  cases hp:X.pg with
  |none=>exact{hn,I.nd,G,I.kp,I.su,λP U=>by cases U}
  |some P=>
   show Inv kd av e ds (if P.inp kd e k=true then _ else _);have q:=I.pg P hp;by_cases hi:P.inp kd e k=true
   .rw[WJ hi];refine{hn,I.nd,G,I.kp,I.su,λP' O=>?_};cases O;refine{q.rn,q.ra,Zl Ic<|Nat.succ_le_succ q.nl,λz hz=>?_,λh=>?_,λy hy=>?_}
    .rcases R3.mp (show(z.1,z.2)∈zA P.no k x from hz)with⟨h1,h2⟩|⟨_,h⟩
     .rwa[h1,h2]
     .exact q.nk z h
    .unfold QY.inp at hi;rw[show P.fd=none from h]at hi;cases hi
    .let{nr,mr,l1,l2,l3,h1,h2,h3,h4,h5}:=q.fd y hy;refine{nr,mr,Xl l1,l2,l3,h1,h2,h3,λj z=>?_,λm hm=>?_}
     .show(j,z)∈zA P.no k x↔P.inp kd e j=true/\cZ j ((ds.take<|X.n+1).drop nr)=some z;rw[R3,h4,xa hx l1,mS,hk];by_cases h:j=k
      .rw[WJ (by rw[h]),h];exact{λg=>g.elim (λg=>{hi,by rw[g.2]}) λg=>WN M g.1,λg=> .inl {M,(WL g.2).symm}}
      .rw[WI λz=>h (WL z).symm];exact{λg=>g.elim (λg=>WN g.1 h) λg=>g.2,λg=> .inr ⟨h,g⟩}
     .let{c,z,hc,zc,l4,l5}:=h5 m hm;refine{c,z,hc,zc,l4,ZF l5 λh=>?_};rw[<-h,hx]at hc;cases hc;rw[zc]at hk;cases hk
   .rw[WI hi];exact{hn,I.nd,G,I.kp,I.su,λP' O=>by
     cases O;have z:=Z P q (by cases h:P.inp kd e k<;>simp_all) X.cp;rw[hp]at z;exact z}
def Inv.mrk{kd:Int}{x:DR}(I:Inv kd av e ds X)(D:Rb ds)(hx:ds[X.n]?=some x)(U:x.r= .mark m):Inv kd av e ds (X.mrk m):=by
 have hn:=(Q3.mp hx).1;have tv:tbl (ds.take<|X.n+1)=tbl (ds.take X.n):=by
  rw[wK hx];unfold ap;rw[U]
 have Y:∀j,0<=j->aH X.cp j=if X.cov kd av e j=true then aH (tbl<|ds.take<|X.n+1) j else none:=λj j0=>by
  rw[I.cp j j0,tv]
 unfold PX.mrk;cases hp:X.pg with
 |none=>exact{hn,I.nd,Y,I.kp,I.su,λP hP=>by cases hP}
 |some P=>
  show Inv kd av e ds (if P.cl=some m then _ else _);have q:=I.pg P hp;by_cases O:P.cl=some m
  .rw[WJ O];have ov:=Li q O D hx U;obtain⟨y,hy⟩:∃y,P.fd=some y:=by
    cases c:P.fd with
    |none=>rw[(q.un c).2]at O;cases O
    |some y=>exact⟨y,M⟩
   let{nr,mr,l1,l2,l3,h1,h2,h3,h4,h5}:=q.fd y hy;have on:(P.out.map (·.1)).Nodup:=Nx λz hz=>by rw[hy]at hz;cases hz;exact h1
   have rk:∀k,hO X.rv kd X.ra e k=hN kd P.ta e k:=λk=>by
    unfold hO;rw[q.rn,WI (λz=>by cases z),q.ra]
   have ei:∀k,P.inp kd e k=(hN kd P.ta e k&&!hO P.ah kd P.aa e k):=λk=>by
    unfold QY.inp;rw[hy];rfl
   refine{hn,Fa I.nd,λk k0=>?_,λk hk=>?_,λk k0 hk=>I.su k k0 (by rw[rk];exact h3 k k0 hk),λP' G=>by cases G}
   .show aH (xU X.cp P.out) k=if(hN kd av e k&&!hO P.ah kd P.aa e k)=true then aH (tbl<|ds.take<|X.n+1) k else none
    rw[xT on,ov,tv,I.cp k k0];unfold PX.cov;rw[rk,ei];have s1:=I.su k k0;rw[rk]at s1;have s2:=h3 k k0;cases c1:hN kd P.ta e k<;>cases c2:hO P.ah kd P.aa e k<;>cases c3:hN kd av e k<;>simp_all<;>(cases aH (tbl<|ds.take X.n) k<;>rfl)
   .have hk:=mem_keys.mp hk;change (aH (xU X.cp P.out) k).isSome=true at hk;rw[xT on]at hk;cases c:aH P.out k with
    |none=>rw[c]at hk;exact I.kp k<|mem_keys.mpr hk
    |some v=>
     rw[ov]at c;split at c
     .let{z,hz,kz}:=Cn (mem_keys.mpr<|by rw[c];rfl);exact D.kb z (ZB hz) k kz
     .cases c
  .rw[WI O];refine{hn,I.nd,Y,I.kp,I.su,λP' G=>?_};cases G;refine{q.rn,q.ra,Xl q.nl,q.nk,q.un,λy hy=>?_};let{nr,mr,l1,l2,l3,h1,h2,h3,h4,h5}:=q.fd y hy;refine{nr,mr,Xl l1,l2,l3,h1,h2,h3,λj z=>?_,λm' Z=>?_}
   .show _↔_/\cZ j ((ds.take<|X.n+1).drop nr)=some z;rw[h4,xa hx l1,mS,U,WI λz=>by cases z]
   .let{c,z,hc,zc,l4,l5}:=h5 m' Z;refine{c,z,hc,zc,l4,ZF l5 λh=>?_};rw[<-h,hx]at hc;cases hc;rw[zc]at U;cases U;exact O Z
def Inv.step{kd:Int}{x:DR}(I:Inv kd av e ds X)(D:Rb ds)(hx:ds[X.n]?=some x):Inv kd av e ds (bg kd av e X x):=by
 have z:=Q2 hx;unfold bg;cases c:x.r with
 |put k v=>exact I.chg (D.kb x z k<|by rw[c];rfl) hx<|by rw[c];rfl
 |drop k=>exact I.chg (D.kb x z k<|by rw[c];rfl) hx<|by rw[c];rfl
 |mark m=>exact I.mrk D hx c
def MF{kd:Int}{x:DR}:(X.chg kd av e k x).n=X.n+1:=by
 unfold PX.chg;split
 .rfl
 .cases X.pg with
  |none=>rfl
  |some P=>
   dsimp only;split<;>rfl
def OZ{i:Int}:(X.mrk i).n=X.n+1:=by
 unfold PX.mrk;cases X.pg with
 |none=>rfl
 |some P=>
  dsimp only;split<;>rfl
def wM{kd:Int}{x:DR}:(bg kd av e X x).n=X.n+1:=by
 unfold bg;cases x.r with
 |put k v=>exact MF
 |drop k=>exact MF
 |mark i=>exact OZ
def RG(t:PL)(H:Hp)(v:V)(kd:Int)(a e:V):Prop:=v= .non\/∃p,v= .ref p/\QL t H p kd a e/\Qp kd a e
def RG.same{kd:Int}{a:V}(h:RG t H v kd a e)(s:G3 H H'):RG t H' v kd a e:=by
 rcases h with h|⟨p,h1,h2,z⟩
 .exact .inl h
 .exact .inr {p,h1,h2.same s,z}
noncomputable def Lm:Option (Addr×List Tp)->V
 |some y=> .ref y.1
 |none=> .non
noncomputable def CM:Option Int->V
 |some i=> .int i
 |none=> .non
def oPg:Option QY->V
 |some P=> .ref P.g
 |none=> .non
structure RQ(t:PL)(H:Hp)(kd:Int)(e:V)(P:QY):Prop where
 ob:∃dx,H P.g=some (.ins t.bV dx [("asked",.ref P.tk),("found",Lm P.fd),("ahead",P.ah),("noted",.ref P.nd),("closing",CM P.cl)])
 no:H P.nd=some (.dK<|aC<|P.no.map λz=>(z.1,V.ref z.2.p))
 tk:QL t H P.tk kd P.ta e/\Qp kd P.ta e
 ah:RG t H P.ah kd P.aa e
 fd:∀y,P.fd=some y->H y.1=some (.lst<|y.2.map λe=>V.ref e.p)/\∀z∈y.2,H z.p=some (.tup [.int z.k,z.v])
 ro:∀z∈P.no,H z.2.p=some (.tup z.2.r.vs)
structure QD(t:PL)(H:Hp)(c a p dd:G')(kd:Int)(av e:V)(X:PX):Prop where
 ob:∃dx,H c=some (.ins t.aR dx [(mu,.ref a),("first",.ref p),("rest",X.rv),("followed",.int X.n),("copied",.ref dd),("page",oPg X.pg)])
 cp:H dd=some (.dK<|aC X.cp)
 tk:QL t H p kd av e/\Qp kd av e
 rt:RG t H X.rv kd X.ra e
 pg:∀P,X.pg=some P->RQ t H kd e P/\P.nd≠dd
def RQ.same{kd:Int}{P:QY}(h:RQ t H kd e P)(s:G3 H H'):RQ t H' kd e P:=by
 let{dx,o}:=h.ob;exact{{dx,s _ _ o},s _ _ h.no,{h.tk.1.same s,h.tk.2},h.ah.same s,λy hy=>{s _ _ (h.fd y hy).1,λz hz=>s _ _<|(h.fd y hy).2 z hz},λz hz=>s _ _<|h.ro z hz}
def QD.same{kd:Int}(h:QD t H c a p dd kd av e X)(s:G3 H H'):QD t H' c a p dd kd av e X:=by
 let{dx,o}:=h.ob;exact{{dx,s _ _ o},s _ _ h.cp,{h.tk.1.same s,h.tk.2},h.rt.same s,λP z=>{(h.pg P z).1.same s,(h.pg P z).2}}
def D8(t:PL):Sp:=λvs H Q _=>∃(v:V)(kd k:Int)(av e:V),vs=[v,.int k]/\RG t H v kd av e/\0<=k/\∀H',G3 H H'->Q (.bl<|hO v kd av e k) H'
def xH:Ck P w K mg base PP 4 t.AY t.vj [fx,et] (D8 t):=by
 refine T.Ba.okl Ef λs H vs Q E O h _=>?_;intro X;let{v,kd,k,av,e,rfl,TO,k0,q}:=h;refine{_,(aA<|aD<|fO (bI jM Ca bc<|au _)<|c7<|tx (kk:=3) (mT (dJ T.bZ T.lE (fQ T) T.lM (_))<|mT (dJ T.jB T.oW (iH T) T.pI (_))<|dJ T.cW T.kD (fP T) T.kU (_)) O.mo Ca<|ac M2 ai)
  ,?_}
 unfold hO at q;rcases TO with rfl|⟨p,rfl,U,I⟩
 .rw[WJ M]at q;exact{_,M,M,_,M,pf M<|q H (G3.refl _)}
 rw[WI (by intro z;cases z)]at q;let{Y,fr,G,tr}:=U;refine{_,M,M,_,M,?_};rw[show decide (V.ref p=V.non)=false from WU λz=>by cases z];exact b8 {_,M,p,_,Y,fr,_,M,G,tr.ho,dHN I.kd,_,M,Bk I G tr k0 λH2 Z=>q H2 Z}
def sM(t:PL):Sp:=λvs H Q _=>∃(c a p dd:G')(kd k:Int)(av e:V)(X:PX),vs=[.ref c,.int k]/\QD t H c a p dd kd av e X/\0<=k/\∀H',G3 H H'->Q (.bl<|X.cov kd av e k) H'
def jO:Ck P w K mg base PP 5 t.lQ t.gH [cC,et] (sM t):=by
 refine T.G8.okl sV λs H vs Q E I h _=>?_;intro X;let{c,a,p,dd,kd,k,av,e,X,rfl,C,k0,q}:=h;refine{_,(aA<|aD<|fO (tx (kk:=3) (mT (dJ T.bZ T.lE (fQ T) T.lM (_))<|mT (dJ T.jB T.oW (iH T) T.pI (_))<|dJ T.cW T.kD (fP T) T.kU (_)) I.mo (ar Ca M)<|ac M2 ai)<|c7<|BA<|aJ (xH T) I.mo {_} T.GC T.Ba.kp T.G0 .nil az (ac (ar Ca M)<|ac M2 ai))
  ,?_}
 let{dx,O}:=C.ob;let{{Y,fr,z,tr},U}:=C.tk;unfold PX.cov at q;refine{_,M,c,_,dx,_,_,M,O,T.aw,T.wq,M,p,_,Y,fr,_,M,z,tr.ho,dHN U.kd,_,M,Bk U z tr k0 λH2 G=>{_,M,?_}};cases hc:hN kd av e k with
 |false=>
  rw[hc]at q;exact cm<|q H2 G
 |true=>
  rw[hc]at q;exact b8 {_,M,c,_,dx,_,_,M,G _ _ O,T.aw,T.cq,M,_,M,X.rv,kd,k,X.ra,e,M,C.rt.same G,k0,λH3 s3=>{_,M,q H3<|G.trans s3}}
def sK(t:PL):Sp:=λvs H Q _=>∃(kd k:Int)(e:V)(P:QY),vs=[.ref P.g,.int k]/\RQ t H kd e P/\0<=k/\∀H',G3 H H'->Q (.bl<|P.inp kd e k) H'
def tH:Ck P w K mg base PP 5 t.lO t.gF [cC,et] (sK t):=by
 refine T.G6.okl sT λs H vs Q E U h _=>?_;intro X;let{kd,k,e,P',rfl,C,k0,q}:=h;refine{_,(aA<|aD<|fO (bI jM (ar Ca M) bc<|au _)<|fO (tx (kk:=3) (mT (dJ T.bZ T.lE (fQ T) T.lM (_))<|mT (dJ T.jB T.oW (iH T) T.pI (_))<|dJ T.cW T.kD (fP T) T.kU (_)) U.mo (ar Ca M)<|ac M2 ai)<|c7<|BA<|aJ (xH T) U.mo {_} T.GC T.Ba.kp T.G0 .nil az (ac (ar Ca M)<|ac M2 ai))
  ,?_}
 let{dx,O}:=C.ob;let{{Z,fr,G,tr},Y}:=C.tk;unfold QY.inp at q;refine{_,M,P'.g,_,dx,_,_,M,O,T.bn,T.bS,M,M,_,M,?_};cases hf:P'.fd with
 |none=>
  rw[hf]at q;exact pf M<|q H (G3.refl _)
 |some y=>
  rw[hf]at q;refine vd (λz=>by cases z) ?_;refine{_,M,P'.g,_,dx,_,_,M,O,T.bn,T.qK,M,P'.tk,_,Z,fr,_,M,G,tr.ho,dHN Y.kd,_,M,Bk Y G tr k0 λH2 I=>{_,M,?_}};cases hc:hN kd P'.ta e k with
  |false=>
   rw[hc]at q;exact cm<|q H2 I
  |true=>
   rw[hc]at q;exact b8 {_,M,P'.g,_,dx,_,_,M,I _ _ O,T.bn,T.kB,M,_,M,P'.ah,kd,k,P'.aa,e,M,C.ah.same I,k0,λH3 s3=>{_,M,q H3<|I.trans s3}}
def PX.mut(X:PX)(c dd:G'):Addr->Prop:=λb=>b=c\/b=dd\/∃P,X.pg=some P/\(b=P.g\/b=P.nd)
def PX.adr(X:PX)(c p dd:G'):Addr->Prop:=λb=>X.mut c dd b\/b=p\/X.rv= .ref b\/∃P,X.pg=some P/\(b=P.tk\/P.ah= .ref b\/∃y,P.fd=some y/\b=y.1)
def SI(a p:G')(rv:V)(n:Int)(dd:G')(pg:V):List (Str×V):=[(mu,.ref a),("first",.ref p),("rest",rv),("followed",.int n),("copied",.ref dd),("page",pg)]
noncomputable def Rj(tk:G')(fd ah:V)(nd:G')(cl:V):List (Str×V):=[("asked",.ref tk),("found",fd),("ahead",ah),("noted",.ref nd),("closing",cl)]
def cx{o':HO}(h1:H b=some o)(h2:H q=some o')(n:o≠o'):b≠q:=λz=>by
 rw[z,h2]at h1;exact n (WL h1).symm
def QL.ne{d:G'}{kd:Int}{a:V}(h:QL t H p kd a e)(hc:H c=some (.ins C d fs))(n:fs.lookup (qP:Str)=none):p≠c:=λz=>by
 let{dx,G,h1,h2}:=h;rw[z,hc]at h1;have:=h2.at_;rw[<-(HO.ins.inj<|WL h1).2.2,n]at this;cases this
def QL.nd{kd:Int}{a:V}(h:QL t H p kd a e)(hc:H c=some o)(n:∀C d fs,o≠ .ins C d fs):p≠c:=λz=>by
 let{dx,G,h1,h2}:=h;rw[z,hc]at h1;exact n _ _ _<|WL h1
def QL.up{kd:Int}{a:V}(h:QL t H p kd a e)(n:p≠c):QL t (upd H c o) p kd a e:=by
 let{dx,z,h1,h2}:=h;exact{dx,z,by rwa[af n],h2}
def RG.up{kd:Int}{a:V}(h:RG t H v kd a e)(n:∀p,QL t H p kd a e->p≠c):RG t (upd H c o) v kd a e:=by
 rcases h with h|⟨p,h1,h2,z⟩
 .exact .inl h
 .exact .inr {p,h1,h2.up<|n p h2,z}
section
variable{kd:Int}
def RQ.go{P:QY}(h:RQ t H kd e P)(k:∀b o,H b=some o->(b=P.g\/b=P.nd\/b=P.tk\/P.ah= .ref b\/(∃y,P.fd=some y/\b=y.1)\/∃xs,o= .tup xs)->H' b=some o):RQ t H' kd e P:=by
 let{dx,G}:=h.ob;refine{{dx,k _ _ G<|.inl M},k _ _ h.no<|.inr<|.inl M,{?_,h.tk.2},?_,λy hy=>{k _ _ (h.fd y hy).1<|.inr<|.inr<|.inr<|.inr<|.inl ⟨y,hy,M⟩,λz hz=>k _ _ ((h.fd y hy).2 z hz)<|.inr (.inr<|.inr<|.inr<|.inr {_,M})},λz hz=>k _ _ (h.ro z hz)<|.inr (.inr<|.inr<|.inr<|.inr {_,M})}
 .let{d,fs,h1,h2}:=h.tk.1;exact{d,fs,k _ _ h1<|.inr<|.inr<|.inl M,h2}
 .rcases h.ah with h|⟨q,h1,⟨d,fs,h2,I⟩,O⟩
  .exact .inl h
  .exact .inr {q,h1,{d,fs,k _ _ h2<|.inr<|.inr<|.inr<|.inl h1,I},O}
def QD.go(C:QD t H c a p dd kd av e X)(k:∀b o,H b=some o->(X.adr c p dd b\/∃xs,o= .tup xs)->H' b=some o):QD t H' c a p dd kd av e X:=by
 let{dx,G}:=C.ob;refine{{dx,k _ _ G<|.inl (.inl<|.inl M)},k _ _ C.cp<|.inl<|.inl<|.inr<|.inl M,{?_,C.tk.2},?_,λP z=>{(C.pg P z).1.go λb o e h=>k b o e ?_,(C.pg P z).2}}
 .let{d,fs,h1,h2}:=C.tk.1;exact{d,fs,k _ _ h1<|.inl<|.inr<|.inl M,h2}
 .rcases C.rt with h|⟨q,h1,⟨d,fs,h2,I⟩,O⟩
  .exact .inl h
  .exact .inr {q,h1,{d,fs,k _ _ h2<|.inl<|.inr<|.inr<|.inl h1,I},O}
 .rcases h with h|h|h|h|h|h
  .exact .inl<|.inl (.inr<|.inr {P,z,.inl h})
  .exact .inl<|.inl (.inr<|.inr {P,z,.inr h})
  .exact .inl<|.inr (.inr<|.inr {P,z,.inl h})
  .exact .inl<|.inr (.inr<|.inr {P,z,.inr<|.inl h})
  .exact .inl<|.inr (.inr<|.inr {P,z,.inr<|.inr h})
  .exact .inr h
def RQ.offc{P:QY}{rv pg:V}{n:Int}(h:RQ t H kd e P)(hc:H c=some (.ins t.aR dx<|SI a p rv n dd pg)):RQ t (upd H c o) kd e P:=by
 let{I,G}:=h.ob;refine{{I,by rwa[af (cx G hc λz=>WN (Y2 List.length (HO.ins.inj z).2.2)<|by show ¬5=6;decide)]},by rw[af (cx h.no hc λz=>by cases z)];exact h.no,{h.tk.1.up<|h.tk.1.ne hc M,h.tk.2},h.ah.up λq hq=>hq.ne hc M,λy hy=>{?_,λz hz=>?_},λz hz=>?_}
 .have:=(h.fd y hy).1;rwa[af (cx this hc λz=>by cases z)]
 .have:=(h.fd y hy).2 z hz;rwa[af (cx this hc λz=>by cases z)]
 .have:=h.ro z hz;rwa[af (cx this hc λz=>by cases z)]
def RQ.offd{P:QY}{d:G'}{kvs:Sm}(h:RQ t H kd e P)(hd:H d=some (.dK kvs))(n:P.nd≠d):RQ t (upd H d o) kd e P:=by
 let{I,G}:=h.ob;refine{{I,by rwa[af (cx G hd λz=>by cases z)]},by rw[af n];exact h.no,{h.tk.1.up (h.tk.1.nd hd λ_ _ _ z=>by cases z),h.tk.2},h.ah.up (λq hq=>hq.nd hd λ_ _ _ z=>by cases z),λy hy=>{?_,λz hz=>?_},λz hz=>?_}
 .have:=(h.fd y hy).1;rwa[af (cx this hd λz=>by cases z)]
 .have:=(h.fd y hy).2 z hz;rwa[af (cx this hd λz=>by cases z)]
 .have:=h.ro z hz;rwa[af (cx this hd λz=>by cases z)]
def QD.setc(C:QD t H c a p dd kd av e X){rv ra:V}{pg:Option QY}(rt:RG t H rv kd ra e)(I:∀P,pg=some P->RQ t H kd e P/\P.nd≠dd):QD t (upd H c<|.ins t.aR dx<|SI a p rv n dd<|oPg pg) c a p dd kd av e ⟨rv,ra,n,X.cp,pg⟩:=by
 let{U,G}:=C.ob;exact{⟨dx,ag⟩,by rw[af (cx C.cp G λz=>by cases z)];exact C.cp,{C.tk.1.up<|C.tk.1.ne G M,C.tk.2},rt.up λq hq=>hq.ne G M,λP O=>{(I P O).1.offc G,(I P O).2}}
def QD.setd(C:QD t H c a p dd kd av e X){kv:R'}:QD t (upd H dd<|.dK<|aC kv) c a p dd kd av e {X with cp:=kv}:=by
 let{O,I}:=C.ob;exact{{O,by rw[af (cx I C.cp λz=>by cases z)];exact I},ag,{C.tk.1.up (C.tk.1.nd C.cp λ_ _ _ z=>by cases z),C.tk.2},C.rt.up (λq hq=>hq.nd C.cp λ_ _ _ z=>by cases z),λP G=>{(C.pg P G).1.offd C.cp (C.pg P G).2,(C.pg P G).2}}
def QD.setn(C:QD t H c a p dd kd av e X){P:QY}(O:X.pg=some P){no:List (Int×DR)}(Y:∀z∈no,H z.2.p=some (.tup z.2.r.vs)):QD t (upd H P.nd<|.dK<|aC<|no.map λz=>(z.1,V.ref z.2.p)) c a p dd kd av e {X with pg:=some {P with no:=no}}:=by
 let{Z,G}:=C.ob;let{R,nn}:=C.pg P O;let{dg,U}:=R.ob;rw[O]at G;refine{{Z,by rwa[af (cx G R.no λz=>by cases z)]},by rw[af nn.symm];exact C.cp,{C.tk.1.up (C.tk.1.nd R.no λ_ _ _ z=>by cases z),C.tk.2},C.rt.up (λq hq=>hq.nd R.no λ_ _ _ z=>by cases z),λP' I=>?_};cases I;refine{{{dg,by rwa[af (cx U R.no λz=>by cases z)]},ag,{R.tk.1.up (R.tk.1.nd R.no λ_ _ _ z=>by cases z),R.tk.2},R.ah.up (λq hq=>hq.nd R.no λ_ _ _ z=>by cases z),λy hy=>{?_,λz hz=>?_},λz hz=>?_},nn}
 .have:=(R.fd y hy).1;rwa[af (cx this R.no λz=>by cases z)]
 .have:=(R.fd y hy).2 z hz;rwa[af (cx this R.no λz=>by cases z)]
 .have:=Y z hz;rwa[af (cx this R.no λz=>by cases z)]
def QD.setg(C:QD t H c a p dd kd av e X){P:QY}(U:X.pg=some P){fd:Option (Addr×List Tp)}{ah aa:V}{cl:Sz}(hf:∀y,fd=some y->H y.1=some (.lst<|y.2.map λe=>V.ref e.p)/\∀z∈y.2,H z.p=some (.tup [.int z.k,z.v]))(ha:RG t H ah kd aa e):QD t (upd H P.g<|.ins t.bV dx<|Rj P.tk (Lm fd) ah P.nd<|CM cl) c a p dd kd av e {X with pg:=some {P with fd:=fd,ah:=ah,aa:=aa,cl:=cl}}:=by
 let{Y,I}:=C.ob;let{R,nn}:=C.pg P U;let{dg,G}:=R.ob;rw[U]at I;have Z:=cx I G λz=>WN (Y2 List.length (HO.ins.inj z).2.2) (by show ¬6=5;decide);refine{{Y,by rw[af Z];exact I},by rw[af (cx C.cp G λz=>by cases z)];exact C.cp,{C.tk.1.up<|C.tk.1.ne G M,C.tk.2},C.rt.up λq hq=>hq.ne G M,λP' O=>?_};cases O;refine{{⟨dx,ag⟩,by rw[af (cx R.no G λz=>by cases z)];exact R.no,{R.tk.1.up<|R.tk.1.ne G M,R.tk.2},ha.up λq hq=>hq.ne G M,λy hy=>{?_,λz hz=>?_},λz hz=>?_},nn}
 .have:=(hf y hy).1;rwa[af (cx this G λz=>by cases z)]
 .have:=(hf y hy).2 z hz;rwa[af (cx this G λz=>by cases z)]
 .have:=R.ro z hz;rwa[af (cx this G λz=>by cases z)]
end
theorem IA:∀{more acc:R'},((acc++more).map (·.1)).Nodup->u8 (aC acc) (aC more)=aC (acc++more)
 | [],acc,_=>by rw[ZL];rfl
 |p::r,acc,h=>by
  have n:aH acc p.1=none:=by
   cases c:aH acc p.1 with
   |none=>rfl
   |some w=>
    rw[Z6,Vx]at h;exact WN M (h.2.2 p.1 (Z5.mpr {(p.1,w),bH c,M}) p.1 Z4)
  show u8 (bu (aC acc) (Sum.inl p.1) p.2) (aC r)=_;rw[cw,tm p.2 n,IA (by rwa[Z9]),Z9];rfl
def mH{x:V}{r:Sn}:bN f v ((f,x)::r)=(f,v)::r:=by rw[bN,WJ M]
def F9:Sp:=λvs H Q _=>∃(d:G')(D:R')(x:DR)(k:Int),vs=[.ref d,.ref x.p]/\H d=some (.dK<|aC D)/\H x.p=some (.tup x.r.vs)/\x.r.key=some k/\D.length<50000/\Q .non (upd H d<|.dK<|aC<|ap D x)
def An:Ck P w K mg base PP 1 t.Dv t.yv [u5,"row"] F9:=by
 refine T.DA.okl Gf λs H vs Q E G h _=>?_;intro X;let{d,D,x,k,rfl,hd,hx,hk,dl,q}:=h;refine lu (λx=>aO (ay bJ (aS bG M2 ae<|λ_ _=>M) fN<|au _) (aA<|jK (iz G) Ca (aS bG M2 ae<|λ_ _=>M) (aS bG M2 ae<|λ_ _=>M) M) x) ?_;refine aB (aM<|dH Zy XA Ve Iz Ca<|ac (aS bG M2 ae<|λ_ _=>M)<|ac bc ai) ?_
 intros
 unfold ap at q;cases G:x.r with
 |put j v=>
  rw[G]at q hx;refine{_,M,x.p,_,_,_,M,M,QO.of hx,M,M,_,M,dU M ?_};refine{_,M,x.p,_,_,_,M,M,QO.of hx,M,_,M,_,M,x.p,_,_,_,M,M,QO.of hx,M,d,_,M,Qs.k (k:=Sum.inl j) hd (by rw[a8];exact bh ()),?_};rw[cw];exact q
 |drop j=>
  rw[G]at q hx;refine{_,M,x.p,_,_,_,M,M,QO.of hx,M,M,_,M,a6 (λz=>WN (V.str.inj z) ∅) ?_};refine{_,M,.inr<|.inr<|.inl {M,.inl {_,hd}},_,M,x.p,_,_,_,M,M,QO.of hx,M,d,_,Sum.inl j,.non,M,M,hd,λv _=>?_,λI=>?_}
  .rw[mQ];exact q
  .rw[P9]at I;have e:bQ D j=D:=List.filter_eq_self.mpr λz hz=>WR λe=>by
    have:=mem_keys.mp (XF (f:=(·.1)) hz);rw[e,I]at this;cases this
   have q:Q .non (upd H d<|.dK<|aC<|bQ D j):=q;rw[e]at q;have u:upd H d (.dK<|aC D)=H:=funext λb=>by
    by_cases c:b=d
    .rw[c,ag,hd]
    .rw[af c]
   rw[u]at q;exact q
 |mark i=>rw[G]at hk;cases hk
def Dw.at1{r:Dw}(h:r.key=some k):RM r.vs 1=some (.int k):=by
 cases r with
 |put j v=>cases h;rfl
 |drop j=>cases h;rfl
 |mark i=>cases h
structure CSz(X:PX):Prop where
 cl:X.cp.length<=5000
 pg:∀P,X.pg=some P->P.no.length<=5000/\(∀z∈P.no,∃k,z.2.r.key=some k)/\(P.fd=none->P.cl=none)/\∀y,P.fd=some y->(y.2.map (·.k)).Nodup/\y.2.length<=5000
def Inv.sz{kd:Int}(I:Inv kd av e ds X)(l:ds.length<=5000):CSz X:=by
 refine{?_,λP U=>?_}
 .have h1:X.cp.length<=((tbl<|ds.take X.n).map (·.1)).length:=Pb I.nd λk hk=>by
   have k0:=I.kp k hk;have hk:=mem_keys.mp hk;rw[I.cp k k0]at hk;split at hk
   .exact mem_keys.mpr hk
   .cases hk
  have h2:=wz (l:=ds.take X.n);rw[Q1]at h1;rw[Q7]at h2;lia
 .have q:=I.pg P U;have:=I.le;have:=q.nl;refine{(),λz hz=>{_,q.nk z hz},λh=>(q.un h).2,λy hy=>?_};let{nr,G,l1,Z,l3,O,Y,_}:=q.fd y hy;refine{O,?_};have h1:=gS O (S:=(tbl<|ds.take G).map (·.1)) λk hk=>by
   let{z,hz,rfl}:=Z5.mp hk;exact Z5.mpr {_,((Y z.k z.v).mp<|XF (f:=Tp.kv) hz).1,M}
  have h2:=wz (l:=ds.take G);rw[Q1,Q1]at h1;rw[Q7]at h2;lia
def uE(K:FA)(t:PL):Sp:=λvs H Q _=>∃(kd:Int)(e:V)(P:QY)(y:Addr×List Tp),vs=[.ref P.g]/\RQ t H kd e P/\P.fd=some y/\(y.2.map (·.k)).Nodup/\(∀z∈P.no,∃k,z.2.r.key=some k)/\y.2.length<=5000/\P.no.length<=5000/\
 ∀(H':Hp)(r:G'),G3 H H'->H r=none->H' r=some (.dK<|aC P.out)->Q (.ref r) H'
def uX:Ck P w K mg base PP 2 t.nO t.ii [cC] (uE K t):=by
 refine T.Hn.okl uJ λs H vs Q E I h _=>?_;intro X;let{kd,e,P',y,rfl,R,hy,nt,nk,l1,l2,q}:=h;refine aj (PN 1<|gx (EG I.hd) {_} T.DT wF (ac (ar Ca M) ai))
   (aj (tq (d9 WX M (Le<|xD Zy XZ VB u7<|ar Ca M) (RB 2)
    (aA<|aM<|aJ (An T) I.mo {_} T.IQ T.DA.kp T.JS .nil az (ac M2<|ac P8 ai))))
   (aB (aD M2) ?_))
 intros
 let{dg,hg}:=R.ob;let{hf,tu}:=R.fd y hy;have ef:Lm P'.fd= .ref y.1:=by rw[hy];rfl
 rw[ef]at hg;refine{_,M,P'.g,_,dg,_,_,M,hg,T.bn,T.bS,M,y.1,y.2.map λu=>(u.p,Sum.inl u.k,u.v),M,by rw[Zp];exact Kv.of hf,(λu' a0=>by let{u,hu,rfl}:=Z5.mp a0;exact QO.of<|tu u hu),λr nr=>?_};rw[Zp];have el:y.2.map ((λx:Addr×Key×V=>x.2)∘λu:Tp=>(u.p,(Sum.inl u.k:Key),u.v))=aC (y.2.map Tp.kv):=by unfold aC;rw[Zp];rfl
 have er:P'.rows=y.2.map Tp.kv:=by unfold QY.rows;rw[hy]
 rw[el,show u8 [] (aC<|y.2.map Tp.kv)=_ from IA (acc:=[]) (by rwa[Ww,Zp]),Ww,<-er];have lr:P'.rows.length<=5000:=by rwa[er,Q1]
 have s1:=al (o:= .dK<|aC P'.rows) nr;have h1:upd H r (.dK<|aC P'.rows) r=some (.dK<|aC P'.rows):=ag;generalize upd H r (.dK<|aC P'.rows)=H1 at s1 h1⊢;have G:=s1 _ _ R.no;have O:r≠P'.nd:=λz=>by rw[z,R.no]at nr;cases nr
 refine{P'.nd,_,G,_,M,P'.g,_,dg,_,_,M,s1 _ _ hg,T.bn,T.qJ,M,.inr<|.inr<|.inl {M,.inl {_,G}},P'.nd,_,M,M,G,λY nv=>{Y,P'.nd,_,M,ag,al nv _ _ G,λob=>?_}};have s2:=s1.trans (al (o:=Ro Y P'.nd) nv);have h2:=al (o:=Ro Y P'.nd) nv _ _ h1;have Z:=al (o:=Ro Y P'.nd) nv _ _ G;generalize upd H1 Y (Ro Y P'.nd)=H2 at s2 h2 Z⊢;refine Jt (ob:=ob) (d:=P'.nd) (kvs:=aC<|P'.no.map λz=>(z.1,V.ref z.2.p)) (λi W H'=>∃u:Option V,W=[some (.ref P'.g),some (.ref r),u]/\H' P'.nd=some (.frz ob<|.dK<|aC<|P'.no.map λz=>(z.1,V.ref z.2.p))/\H' r=some (.dK (aC (((P'.no.map (·.2)).take i).foldl ap P'.rows)))/\∀b o,b≠P'.nd->b≠r->H2 b=some o->H' b=some o) ?_ (λi W H' _ w=>by let{u,_,w,_}:=w;exact w) (λi k v W H' hk w=>?_)<|λW H' w=>?_
 .exact{none,M,ag,by rwa[af O],λb o n1 n2 e=>by rwa[af n1]}
 .let{u,rfl,fz,I,kp}:=w;obtain⟨z,hz,rfl⟩:∃z,P'.no[i]?=some z/\v= .ref z.2.p:=by
   unfold aC at hk;rw[Zf,Zf]at hk;cases c:P'.no[i]? with
   |none=>rw[c]at hk;cases hk
   |some z=>rw[c]at hk;cases hk;exact⟨z,M,M⟩
  have hm:=Q2 hz;have hi:=(Q3.mp hz).1;let{k',kz}:=nk z hm;have U:=s2 _ _ (R.ro z hm);have hx:=kp _ _ (cx U Z λz=>by cases z) (cx U h2 λz=>by cases z) U;have lf:=tW (l:=(P'.no.map (·.2)).take i) (R1:=P'.rows);rw[Q7]at lf;unfold dA
  (try dsimp only)
  refine{_,M,_,M,r,_,z.2,k',M,I,hx,kz,(),?_};refine{_,M,by rwa[af O.symm],?_,λb o n1 n2 e=>by rw[af n2];exact kp b o n1 n2 e};rw[ag,Zg,Zf,hz,Vc];rfl
 .let{u,rfl,fz,I,kp}:=w;refine{ob,fz,?_};rw[a8,Q1,Zo (by rw[Q1];exact Q5 _)]at I;refine{_,M,q _ r (λb o e=>?_) nr<|by rw[af O];exact I};by_cases c:b=P'.nd
  .rwa[c,ag,<-R.no,<-c]
  .rw[af c];exact kp b o c (am e nr)<|s2 _ _ e
def lW(K:FA)(t:PL):Sp:=λvs H Q _=>∃(c a p dd:G')(kd m:Int)(av e:V)(X:PX),vs=[.ref c,.int m]/\QD t H c a p dd kd av e X/\CSz X/\
 ∀H',QD t H' c a p dd kd av e {X.mrk m with n:=X.n}->(∀b o,¬X.mut c dd b->H b=some o->H' b=some o)->Q .non H'
def mL:Ck P w K mg base PP 3 t.gk t.c8 [cC,"number"] (lW K t):=by
 refine T.Ch.okl lX λs H vs Q E hr h _=>?_;intro X;let{c,a,p,dd,kd,m,av,e,X',rfl,C,Z,q}:=h;refine aj (PN 2<|ar Ca M)
   (aj (aO (PW.pt<|jJ (ay eh P8 bc<|au _)<|jc<|ay Mx (ar P8 M) M2<|au _)
    (aA p7)
    aF)
   (aj (aM<|dH Zy PySem.F.slot_dict_update PySem.F.type_dict_update Gw (ar Ca M)<|ac (bq P8 T.bn T.Hb (uX T) hr.mo T.Hk .nil az) ai)
   (aj (bp Ca (ar P8 M) M)
   (aB (bp Ca bc M) ?_))))
 intros
 let{dx,U}:=C.ob;refine{_,M,c,_,dx,_,_,M,U,T.aw,T.aY,M,?_};cases G:X'.pg with
 |none=>
  have q:=q H;unfold PX.mrk at q;rw[G]at q U;refine{_,M,M,_,M,dU M<|q ?_ λ_ _ _ e=>e};have h:=C;rw[show X'={X' with pg:=none} by rw[<-G]]at h;exact h
 |some P'=>
  let{R,nn}:=C.pg P' G;let{z1,z2,z3,z4}:=Z.pg P' G;let{dg,hg}:=R.ob;unfold PX.mrk at q;rw[G]at q U
  (try dsimp only at q)
  refine{_,M,M,_,M,a6 (λz=>by cases z) {_,M,P'.g,_,dg,_,_,M,hg,T.bn,T.cY,M,_,M,?_}};by_cases O:P'.cl=some m
  case neg=>
   rw[WI O]at q;have q:=q H (by have h:=C;rw[show X'={X' with pg:=some P'} by rw[<-G]]at h;exact h) λ_ _ _ e=>e;cases cc:P'.cl with
   |none=>exact{M,_,M,b8 q}
   |some z=>
    refine{M,_,M,?_};rw[WU λh=>O (by rw[cc,V.int.inj h])];exact b8 q
  rw[WJ O]at q;rw[O]at hg⊢;obtain⟨y,hy⟩:∃y,P'.fd=some y:=by
   cases cf:P'.fd with
   |none=>rw[z3 cf]at O;cases O
   |some y=>exact⟨y,M⟩
  let{ny,ly}:=z4 y hy;refine{M,_,M,pf M ?_};unfold sI
  (try dsimp only)
  refine{_,M,c,_,dx,_,_,M,U,T.aw,T.cM,M,.inr<|.inr<|.inl {M,.inl {_,C.cp}},_,M,P'.g,dg,_,M,hg,{_},kd,e,P',y,M,R,hy,ny,z2,ly,z1,λH2 o s2 no I=>?_};have od:dd≠o:=am C.cp no;have lo:P'.out.length<=10000:=by
   have h1:=tW (l:=P'.no.map (·.2)) (R1:=P'.rows);have h2:P'.rows.length=y.2.length:=by unfold QY.rows;rw[hy];exact Q1 _
   rw[Q1]at h1;show((P'.no.map (·.2)).foldl ap P'.rows).length<=10000;lia
  have zc:=Z.cl;refine{dd,o,_,_,M,M,od,s2 _ _ C.cp,I,(by rw[a8,a8];exact ZH<|bh ()),?_};rw[As];have Y:=(C.same s2).setd (kv:=xU X'.cp P'.out);have k2:∀b o,¬X'.mut c dd b->H b=some o->upd H2 dd (.dK<|aC<|xU X'.cp P'.out) b=some o:=λb o n e=>by rw[af λz=>n (.inr<|.inl z)];exact s2 _ _ e
  generalize upd H2 dd (.dK<|aC<|xU X'.cp P'.out)=H3 at Y k2⊢;let{d2,I}:=Y.ob;let{R2,_}:=Y.pg P' G;let{a0,a1}:=R2.ob
  (try dsimp only)
  refine{_,M,P'.g,_,a0,_,_,M,a1,T.bn,T.kB,M,_,M,c,_,d2,_,M,I,T.aw,T.cq,(by show 6<1000;decide),?_};rw[bM ∅,bM ∅,mH];refine{_,M,c,_,d2,_,M,ag,T.aw,T.aY,(by show 6<1000;decide),?_};rw[cR,bM ∅,bM ∅,bM ∅,bM ∅,bM ∅,mH];exact q _ (Y.setc (pg:=none) R2.ah λ_ z=>by cases z) λb o n e=>by rw[af λz=>n (.inl z)];exact k2 b o n e
def jZ(K:FA)(t:PL):Sp:=λvs H Q _=>∃(c a p dd:G')(kd k:Int)(av e:V)(X:PX)(x:DR),vs=[.ref c,.ref x.p]/\QD t H c a p dd kd av e X/\CSz X/\H x.p=some (.tup x.r.vs)/\x.r.key=some k/\0<=k/\
 ∀H',QD t H' c a p dd kd av e {X.chg kd av e k x with n:=X.n}->(∀b o,¬X.mut c dd b->H b=some o->H' b=some o)->Q .non H'
def kA:Ck P w K mg base PP 6 t.fu t.cP [cC,"row"] (jZ K t):=by
 refine T.Bb.okl j6 λs H vs Q E O h _=>?_;intro X;let{c,a,p,dd,kd,k,av,e,X',x,rfl,C,Z,hx,hk,k0,q}:=h;refine aj (PN 2<|aS bG M2 ae<|λ_ _=>M)
   (aj (PN 3<|ar Ca M)
   (lu (λx=>aO (bF<|aT Ca T.aw T.va (jO T) O.mo T.vo .nil az<|ac P8 ai) (aA<|aM<|aJ (An T) O.mo {_} T.IQ T.DA.kp T.JS .nil az (ac (ar Ca M)<|ac M2 ai)) x) ?_))
 refine aB (aO (PW.pt<|eV (ay jM PR bc<|au _)<|dh<|bF<|aT PR T.bn T.Gz (tH T) O.mo T.G1 .nil az<|ac P8 ai)
    (aA<|jK (iz O) (ar PR M) P8 M2 M)
    aF) ?_
 intros
 let{dx,Y}:=C.ob;refine{_,M,x.p,_,_,_,M,M,QO.of hx,Dw.at1 hk,_,M,c,_,dx,_,_,M,Y,T.aw,T.aY,M,?_};refine{_,M,c,dx,_,M,Y,{_},_,M,c,a,p,dd,kd,k,av,e,X',M,C,k0,λH1 s1=>{_,M,?_}};have C1:=C.same s1;have I:=s1 _ _ hx;have a0:=s1 _ _ Y;unfold PX.chg at q;have zc:=Z.cl;cases hc:X'.cov kd av e k with
 |true=>
  rw[WJ hc]at q;refine b8 {_,M,c,_,dx,_,_,M,a0,T.aw,T.cM,M,_,M,dd,X'.cp,x,k,M,C1.cp,I,hk,(),?_};exact q _ C1.setd λb o n e=>by rw[af λz=>n (.inr<|.inl z)];exact s1 _ _ e
 |false=>
  rw[WI (by rw[hc];exact Z1)]at q;refine cm ?_;cases G:X'.pg with
  |none=>
   rw[G]at q;refine{_,M,M,_,M,pf M<|q _ ?_ λb o _ e=>s1 _ _ e};have h:=C1;rw[show X'={X' with pg:=none} by rw[<-G]]at h;exact h
  |some P'=>
   let{R,nn}:=C1.pg P' G;let{z1,z2,z3,z4}:=Z.pg P' G;let{dg,hg}:=R.ob;rw[G]at q
   (try dsimp only at q)
   refine{_,M,M,_,M,vd (λz=>by cases z) {_,M,P'.g,dg,_,M,hg,{_},_,M,kd,k,e,P',M,R,k0,λH2 U=>{_,M,?_}}};have C2:=C1.same U;have a1:=U _ _ I;cases hi:P'.inp kd e k with
   |false=>
    rw[WI (by rw[hi];exact Z1)]at q;refine cm<|q _ ?_ λb o _ e=>U _ _ (s1 _ _ e);have h:=C2;rw[show X'={X' with pg:=some P'} by rw[<-G]]at h;exact h
   |true=>
    rw[WJ hi]at q;let{R2,_}:=C2.pg P' G;let{a2,a3}:=R2.ob;refine b8 {_,M,_,M,P'.g,_,a2,_,_,M,a3,T.bn,T.qJ,M,_,M,P'.nd,_,M,Qs.k (k:=Sum.inl k) R2.no (by rw[a8,Q1];exact bh ()),?_};rw[cw,<-Ib];refine q _ (C2.setn G λz hz=>?_) λb o n e=>by rw[af λz=>n (.inr<|.inr {P',G,.inr z})];exact U _ _<|s1 _ _ e
    rcases R3.mp (show(z.1,z.2)∈zA P'.no k x from hz)with⟨_,h⟩|⟨_,h⟩
    .rwa[h]
    .exact R2.ro z h
section
variable{kd:Int}
def QD.dom(C:QD t H c a p dd kd av e X)(h:X.adr c p dd b):∃o,H b=some o/\∀xs,o≠ .tup xs:=by
 let{dx,I}:=C.ob;have tk:∀{q:G'}{a':V},QL t H q kd a' e->∃o,H q=some o/\∀xs,o≠ .tup xs:=λh=>by
  let{_,_,h,_}:=h;exact{_,h,λ_ z=>by cases z}
 have G:∀{v a':V},RG t H v kd a' e->v= .ref b->∃o,H b=some o/\∀xs,o≠ .tup xs:=λh z=>by
  rcases h with h|⟨q,h1,h2,_⟩
  .rw[h]at z;cases z
  .rw[h1]at z;cases z;exact tk h2
 rcases h with(rfl|rfl|⟨P,hP,rfl|rfl⟩)|rfl|h|⟨P,hP,rfl|h|⟨y,hy,rfl⟩⟩
 .exact{_,I,λ_ z=>by cases z}
 .exact{_,C.cp,λ_ z=>by cases z}
 .let{U,O}:=(C.pg P hP).1.ob;exact{_,O,λ_ z=>by cases z}
 .exact{_,(C.pg P hP).1.no,λ_ z=>by cases z}
 .exact tk C.tk.1
 .exact G C.rt h
 .exact tk (C.pg P hP).1.tk.1
 .exact G (C.pg P hP).1.ah h
 .exact{_,((C.pg P hP).1.fd y hy).1,λ_ z=>by cases z}
def QD.nmut(C:QD t H c a p dd kd av e X)(hb:H b=some o)(z:∀C d fs,o≠ .ins C d fs)(G:∀k,o≠ .dK k):¬X.mut c dd b:=λh=>by
 let{dx,O}:=C.ob;rcases h with rfl|rfl|⟨P,I,rfl|rfl⟩
 .rw[O]at hb;exact z _ _ _ (WL hb).symm
 .rw[C.cp]at hb;exact G _ (WL hb).symm
 .let{Y,U}:=(C.pg P I).1.ob;rw[U]at hb;exact z _ _ _ (WL hb).symm
 .rw[(C.pg P I).1.no]at hb;exact G _ (WL hb).symm
def QD.fr{x:QA}(C:QD t H c a p dd kd av e X)(n:∀b,X.adr c p dd b->¬F b)(A:QC K t H a F x)(f:Fr F F' H H'):QD t H' c a p dd kd av e X/\∀b,X.adr c p dd b->¬F' b:=
 {C.go λb o G h=>(f b o (h.elim (n b) λ⟨xs,z⟩=>λO=>by
  let{o',I,U}:=A.dom O;rw[G]at I;exact U xs<|by rw[<-WL I,z]) G).1,λb hb=>by
  let{o,G,_}:=C.dom hb;exact(f b o (n b hb) G).2}
def QC.mut{x:QA}(A:QC K t H a F x)(C:QD t H c a p dd kd av e X)(n:∀b,X.adr c p dd b->¬F b)(k:∀b o,¬X.mut c dd b->H b=some o->H' b=some o):QC K t H' a F x:=
 A.keep (λb hb=>by
  let{o,e,_}:=A.dom hb;rw[e];exact k b o (λz=>n b (.inl z) hb) e) λb xs e=>k b _ (C.nmut e (λ_ _ _ z=>by cases z) λ_ z=>by cases z) e
def pG{x:DR}:(X.chg kd av e k x).rv=X.rv/\(X.chg kd av e k x).ra=X.ra/\(∀P',(X.chg kd av e k x).pg=some P'->∃P,X.pg=some P/\P'={P with no:=P'.no})/\(X.chg kd av e k x).pg.isSome=X.pg.isSome:=by
 let{rv,ra,n,cp,pg}:=X;unfold PX.chg;split
 .exact{M,M,λP' h=>⟨P',h,M⟩,M}
 .cases pg with
  |none=>exact{M,M,(λP' h=>by cases h),M}
  |some P=>
   dsimp only;split
   .exact{M,M,(λP' h=>by cases h;exact⟨P,M,M⟩),M}
   .exact{M,M,(λP' h=>by cases h;exact⟨P,M,M⟩),M}
def NF:((X.mrk m).rv=X.rv/\(X.mrk m).ra=X.ra/\(X.mrk m).pg=X.pg/\∀P,X.pg=some P->P.cl≠some m)\/∃P,X.pg=some P/\P.cl=some m/\(X.mrk m).rv=P.ah/\(X.mrk m).ra=P.aa/\(X.mrk m).pg=none:=by
 let{rv,ra,n,cp,pg}:=X;unfold PX.mrk;cases pg with
 |none=>exact .inl {M,M,M,λ_ z=>by cases z}
 |some P=>
  dsimp only;by_cases h:P.cl=some m
  .rw[WJ h];exact .inr ⟨P,M,h,M,M,M⟩
  .rw[WI h];exact .inl {M,M,M,λ_ z=>by cases z;exact h}
def lV{x:DR}:((bg kd av e X x).rv=X.rv/\(bg kd av e X x).ra=X.ra/\(∀P',(bg kd av e X x).pg=some P'->∃P,X.pg=some P/\P'={P with no:=P'.no})/\(∀P m,X.pg=some P->x.r= .mark m->P.cl≠some m)/\(bg kd av e X x).pg.isSome=X.pg.isSome)\/∃P m,X.pg=some P/\x.r= .mark m/\P.cl=some m/\(bg kd av e X x).rv=P.ah/\(bg kd av e X x).ra=P.aa/\(bg kd av e X x).pg=none:=by
 unfold bg;cases r:x.r with
 |put k v=>exact .inl {pG.1,pG.2.1,pG.2.2.1,(λ_ _ _ z=>by cases z),pG.2.2.2}
 |drop k=>exact .inl {pG.1,pG.2.1,pG.2.2.1,(λ_ _ _ z=>by cases z),pG.2.2.2}
 |mark m=>
  rcases NF (X:=X) (m:=m)with⟨h1,h2,G,I⟩|⟨P,h1,h2,G⟩
  .exact .inl {h1,h2,λP' h=>{P',G▸h,M},(λP m' O z=>by cases z;exact I P O),by rw[G]}
  .exact .inr ⟨P,m,h1,M,h2,G⟩
def Cr{x:DR}(h:(bg kd av e X x).mut c dd b):X.mut c dd b:=by
 rcases h with h|h|⟨P',z,h⟩
 .exact .inl h
 .exact .inr<|.inl h
 .rcases lV (X:=X) (kd:=kd) (av:=av) (e:=e) (x:=x)with⟨_,_,g,_⟩|⟨P,m,_,_,_,_,_,g⟩
  .let{P,G,I}:=g P' z;rw[I]at h;exact .inr<|.inr ⟨P,G,h⟩
  .rw[g]at z;cases z
def HR{x:DR}(h:(bg kd av e X x).adr c p dd b):X.adr c p dd b:=by
 rcases h with h|h|h|⟨P',z,h⟩
 .exact .inl<|Cr h
 .exact .inr<|.inl h
 .rcases lV (X:=X) (kd:=kd) (av:=av) (e:=e) (x:=x)with⟨g,_⟩|⟨P,m,G,_,_,g,_⟩
  .rw[g]at h;exact .inr<|.inr (.inl h)
  .rw[g]at h;exact .inr<|.inr (.inr {P,G,.inr<|.inl h})
 .rcases lV (X:=X) (kd:=kd) (av:=av) (e:=e) (x:=x)with⟨_,_,g,_⟩|⟨P,m,_,_,_,_,_,g⟩
  .let{P,G,I}:=g P' z;rw[I]at h;exact .inr<|.inr (.inr ⟨P,G,h⟩)
  .rw[g]at z;cases z
end
theorem Df{c p dd b:G'}{kd:Int}{av e:V}:∀{l:List DR}{X:PX},(l.foldl (bg kd av e) X).adr c p dd b->X.adr c p dd b
 | [],_,h=>h
 |x::r,X,h=>HR (Df (l:=r) (X:=bg kd av e X x) h)
theorem yo{c dd b:G'}{kd:Int}{av e:V}:∀{l:List DR}{X:PX},(l.foldl (bg kd av e) X).mut c dd b->X.mut c dd b
 | [],_,h=>h
 |x::r,X,h=>Cr (yo (l:=r) (X:=bg kd av e X x) h)
theorem BS{kd:Int}{av e:V}:∀{l:List DR}{X:PX},(l.foldl (bg kd av e) X).n=X.n+l.length
 | [],_=>rfl
 |x::r,X=>by
  show(r.foldl (bg kd av e)<|bg kd av e X x).n=X.n+(r.length+1);rw[BS,wM];lia
def Ry(x:QA)(ds:List DR):Prop:=x.di=ds.map λd=>(d.p,d.r.vs)
def nset{m:Nat}(h:X.n=m):(⟨X.rv,X.ra,m,X.cp,X.pg⟩:PX)=X:=by
 subst h;rfl
def sL(K:FA)(t:PL):Sp:=λvs H Q _=>∃(c a p dd:G')(kd z:Int)(av e:V)(X:PX)(F:K')(x:QA)(ds:List DR),vs=[.ref c,.int z]/\QD t H c a p dd kd av e X/\QC K t H a F x/\Ry x ds/\Inv kd av e ds X/\Rb ds/\ds.length<=5000/\0<=z/\
 ∀H' X',X'=((ds.drop X.n).take z.toNat).foldl (bg kd av e) X->QD t H' c a p dd kd av e X'->Inv kd av e ds X'->(∀b o,¬X.mut c dd b->H b=some o->H' b=some o)->Q (.int X'.n) H'
def jN:Ck P w K mg base PP 7 t.lP t.gG [cC,"steps"] (sL K t):=by
 refine T.G7.okl sU λs H vs Q E G h _=>?_;intro X;let{c,a,p,dd,kd,z,av,e,X',F,x,ds,rfl,C,A,dy,I,D,dl,z0,q}:=h;refine aj (PN 2<|eK gK (aT (ar Ca M) T.aV T.oY (g9 T) G.mo T.JW .nil az<|ac (ar Ca M) ai) iG<|fL<|aI (qh M) {_} T.Hs BX (ac M2<|ac ae ai))
   (bU (λx=>(d9 WX M (dj P8) (RB 3)
    x)) ?_)
 refine bU (λx=>aO (ay bJ (aS bG PR ae<|λ_ _=>M) fN<|au _) x<|aA<|aM<|aT Ca T.aw T.Aw (kA T) G.mo T.AU .nil az<|ac PR ai) ?_;refine aB (aM<|aT Ca T.aw T.Cf (mL T) G.mo T.Cg .nil az<|ac (aS bG PR ae<|λ_ _=>M) ai) ?_
 intros
 refine aB (iP Ca ae yg) ?_
 intros
 refine aB (aD<|ar Ca M) ?_
 intros
 let{dx,ho}:=C.ob;let{da,fa,ha,hm,_}:=A.ins;refine{_,M,c,_,dx,_,_,M,ho,T.aw,T.eS,M,a,da,fa,M,ha,hm _ ∅,_,M,c,_,dx,_,_,M,ho,T.aw,T.cr,M,a,_,F,x,M,A,(),λH1 r s1 nr G=>?_};refine{_,M,_,_,M,_,M,r,_,M,Kv.of G,λp1 a2=>?_};have ez:(if(0:Int)>z then(0:Int)else z)=z:=by rw[WI ()]
 unfold Ry at dy;rw[ez,lH z0,<-Xg,dy,<-Vi,<-Xg,Zp,Zx];obtain⟨rs,a3⟩:∃rs,(ds.drop X'.n).take z.toNat=rs:={_,M};rw[a3]at q⊢;have a4:∀(i:Nat)(d:DR),rs[i]?=some d->ds[X'.n+i]?=some d:=λi d h=>by
  rw[<-a3,V4]at h;split at h
  .rwa [XM]at h
  .cases h
 have rd:∀d∈ds,H1 d.p=some (.tup d.r.vs):=λd hd=>(A.same s1).di (d.p,d.r.vs) (by rw[dy];exact Z5.mpr ⟨d,hd,M⟩);change Bd _ _ _ _ (upd H1 p1<|.lst<|rs.map λd=>V.ref d.p);have s2:=s1.trans (al (o:= .lst<|rs.map λd=>V.ref d.p) a2);have h2:upd H1 p1 (.lst<|rs.map λd=>V.ref d.p) p1=some (.lst<|rs.map λd=>V.ref d.p):=ag;have a1:∀d∈ds,upd H1 p1 (.lst<|rs.map λd=>V.ref d.p) d.p=some (.tup d.r.vs):=λd hd=>al a2 _ _ (rd d hd);generalize upd H1 p1 (.lst<|rs.map λd=>V.ref d.p)=H2 at s2 h2 a1⊢;have C2:=C.same s2;have pn:=C2.nmut h2 (λ_ _ _ z=>by cases z) (λ_ z=>by cases z);refine{_,M,p1,M,{_,Kv.of h2},iR (K:=K) (a:=p1) (xs:=rs.map λd=>V.ref d.p) (λi W H'=>∃v3:Option V,W=[some (.ref c),some (.int z),some (.ref p1),v3]/\(∀b o,¬X'.mut c dd b->H2 b=some o->H' b=some o)/\QD t H' c a p dd kd av e ((rs.take i).foldl (bg kd av e) X')/\Inv kd av e ds ((rs.take i).foldl (bg kd av e) X')) ?_ (λi W H' _ w=>by let{_,_,k,_}:=w;exact Kv.of<|k _ _ pn h2) (λi u W H' hu w'=>?_)<|λW H' w'=>?_}
 .exact{none,M,λ_ _ _ h=>h,C2,I}
 .let{v3,rfl,kp,CI,II}:=w';obtain⟨d,rfl,ed⟩:∃d,u=V.ref d.p/\rs[i]?=some d:=by
   rw[Zf]at hu;cases c:rs[i]? with
   |none=>rw[c]at hu;cases hu
   |some e=>rw[c]at hu;cases hu;exact⟨e,M,M⟩
  have hi:=(Q3.mp ed).1;have nX:((rs.take i).foldl (bg kd av e) X').n=X'.n+i:=by rw[BS,Q7,Xn (ZH hi)]
  have eN:(rs.take<|i+1).foldl (bg kd av e) X'=bg kd av e ((rs.take i).foldl (bg kd av e) X') d:=by
   rw[Zg,ed,Vc];rfl
  have hd:ds[((rs.take i).foldl (bg kd av e) X').n]?=some d:=by rw[nX];exact a4 i d ed
  have O:=Q2 hd;have mI:∀b,((rs.take i).foldl (bg kd av e) X').mut c dd b->X'.mut c dd b:=λb=>yo;have IN:=II.step D hd;have te:H' d.p=some (.tup d.r.vs):=kp _ _ (C2.nmut (a1 d O) (λ_ _ _ z=>by cases z)<|λ_ z=>by cases z) (a1 d O);rw[eN];have sN:=wM (kd:=kd) (av:=av) (e:=e) (X:=(rs.take i).foldl (bg kd av e) X') (x:=d);generalize (rs.take i).foldl (bg kd av e) X'=Y at CI II hd mI IN nX sN⊢;have Z:=II.sz dl;unfold dA
  (try dsimp only)
  refine dQ (λW H3=>W=[some (.ref c),some (.int z),some (.ref p1),some (.ref d.p)]/\(∀b o,¬X'.mut c dd b->H2 b=some o->H3 b=some o)/\QD t H3 c a p dd kd av e {bg kd av e Y d with n:=Y.n}) (λnx go=>?_)<|λW H3 w3=>?_
  .let{dY,hY}:=CI.ob;have kb:=D.kb d O;cases G:d.r with
   |mark m=>
    rw[G]at te;refine{_,M,d.p,_,_,_,M,M,QO.of te,M,M,_,M,dU M {_,M,c,dY,_,M,hY,{_},_,M,d.p,_,_,_,M,M,QO.of te,M,c,a,p,dd,kd,m,av,e,Y,M,CI,Z,λH3 U k3=>go _ _ {M,λb o n e=>k3 b o (λz=>n<|mI b z)<|kp b o n e,?_}}};unfold bg;rwa[G]
   |put k v=>
    have a0:=te;rw[G]at a0;refine{_,M,d.p,_,_,_,M,M,QO.of a0,M,M,_,M,a6 (λz=>WN (V.str.inj z) ∅) {_,M,c,dY,_,M,hY,{_},_,M,?_}};exact{c,a,p,dd,kd,k,av,e,Y,d,M,CI,Z,te,by rw[G];rfl,kb k (by rw[G];rfl),λH3 U k3=>go _ _ {M,λb o n e=>k3 b o (λz=>n<|mI b z)<|kp b o n e,by unfold bg;rwa[G]}}
   |drop k=>
    have a0:=te;rw[G]at a0;refine{_,M,d.p,_,_,_,M,M,QO.of a0,M,M,_,M,a6 (λz=>WN (V.str.inj z) ∅) {_,M,c,dY,_,M,hY,{_},_,M,?_}};exact{c,a,p,dd,kd,k,av,e,Y,d,M,CI,Z,te,by rw[G];rfl,kb k (by rw[G];rfl),λH3 U k3=>go _ _ {M,λb o n e=>k3 b o (λz=>n<|mI b z)<|kp b o n e,by unfold bg;rwa[G]}}
  let{rfl,k3,U}:=w3;generalize bg kd av e Y d=Z' at U IN sN⊢;let{d3,h3}:=U.ob;refine{_,M,c,_,d3,_,_,M,h3,T.aw,T.cr,M,_,_,M,M,d3,_,h3,(by show 6<1000;decide),?_};rw[bM ∅,bM ∅,bM ∅,mH];refine{_,M,λb o n e=>by rw[af λz=>n (.inl z)];exact k3 b o n e,?_,IN};have h:=U.setc (n:=Y.n+1) (pg:=Z'.pg) (dx:=d3) U.rt U.pg;rw[nset sN]at h;exact h
 .let{v3,rfl,kp,CI,II}:=w';rw[Q1,Zn]at CI II;let{d3,h3}:=CI.ob;exact{_,M,c,_,d3,_,_,M,h3,T.aw,T.cr,M,q H' _ M CI II λb o n e=>kp b o n<|s2 _ _ e}
def za(t:PL):Sp:=λvs H Q _=>∃(g dx tk:G'),vs=[.ref g,.ref tk]/\H g=some (.ins t.bV dx [])/\
 ∀H' nd,H' g=some (.ins t.bV dx<|Rj tk .non .non nd .non)->H' nd=some (.dK [])->H nd=none->(∀b o,b≠g->H b=some o->H' b=some o)->Q .non H'
def zJ:Ck P w K mg base PP 1 t.uu t.m9 [cC,fx] (za t):=by
 refine T.Mb.okl zu λs H vs Q E hr h _=>?_;intro X;let{g,dx,tk,rfl,hg,q}:=h;refine aj (bp Ca M2 M)
   (aj (bp Ca bc M)
   (aj (bp Ca bc M)
   (aj (bp Ca eO M)
   (aB (bp Ca bc M) ?_))))
 intros
 refine{_,M,_,M,g,_,dx,[],M,hg,T.bn,T.qK,mP (by kernel_rfl),cU λH1 h1 I=>?_};refine{_,M,g,_,dx,_,M,h1,T.bn,T.bS,mP (by kernel_rfl),cU λH2 h2 O=>?_};refine{_,M,g,_,dx,_,M,h2,T.bn,T.kB,mP (by kernel_rfl),cU λH3 U Y=>λnd z=>?_};refine{_,M,g,_,dx,_,M,al z _ _ U,T.bn,T.qJ,mP (by kernel_rfl),cU λH4 h4 Z=>?_};refine{_,M,g,_,dx,_,M,h4,T.bn,T.cY,mP (by kernel_rfl),cU λH5 h5 o5=>?_};have G:=(am U z).symm;refine q _ nd (h5.trans<|by kernel_rfl) (by rw[o5 _ G,Z _ G];exact ag) (by rw[Y _ G,O _ G,I _ G]at z;exact z) λb o n e=>?_;rw[o5 b n,Z b n];exact al z _ _ (by rwa[Y b n,O b n,I b n])
def Ru(g nd q:G')(ra:V):QY:={g,nd,q,ra,none,.non,.non,[],none}
def y9(K:FA)(t:PL):Sp:=λvs H Q _=>∃(g a tk nd dx:G')(n kd:Int)(av e fd ah cl:V)(F:K')(x:QA),vs=[.ref g,.ref a,.int n]/\H g=some (.ins t.bV dx<|Rj tk fd ah nd cl)/\¬F g/\QC K t H a F x/\QL t H tk kd av e/\Qp kd av e/\¬F tk/\1<=n/\n<=1000/\x.st.kv.length<4096/\x.ks.length<4096/\(∀k∈x.ks,0<=k)/\(∀p∈x.st.kv,∃i:Int,p.2= .int i)/\
 ∀(H':Hp)(F':K')(f:G')(v:V)(ts:List Tp)(a':V)(R:Sw),QC K t H' a F' x->Fr F F' H H'->¬F' f->H' f=some (.lst<|ts.map λe=>V.ref e.p)->(∀e∈ts,H' e.p=some (.tup [.int e.k,e.v]))->DF t H' F' x.st kd n av e v ts a' R->Q .non (upd H' g<|.ins t.bV dx<|Rj tk (.ref f) v nd cl)
def zI:Ck P w K mg base PP 9 t.ut t.m8 [cC,mu,l9] (y9 K t):=by
 refine T.Ma.okl zt λs H vs Q E O h _=>?_;intro X;let{g,a,tk,nd,dx,n,kd,av,e,fd,ah,cl,F,x,rfl,G,Y,A,Z,on,nt,n1,n2,l4,lk,k0,iv,q}:=h;refine aj (PN 3<|aJ (ND T) O.mo {_} T.PB T.Pt.kp T.Od.choose_spec.1 T.Od.choose_spec.2 az (ac M2<|ac (ar Ca M)<|ac P8 ai))
   (aj (bp Ca (aS bG PR ae<|λ_ _=>M) M)
   (aB (bp Ca (aS bG PR ae<|λ_ _=>M) M) ?_))
 intros
 refine{_,M,_,M,g,_,dx,_,_,M,G,T.bn,T.qK,M,_,M,a,tk,n,kd,av,e,F,x,M,A,Z,on,nt,n1,n2,l4,lk,k0,iv,λH2 F2 r f v ts a' R A2 I pg U=>?_};let{h2,a0}:=I _ _ Y G;have rg:r≠g:=λz=>by have h:=pg.tu;rw[z,h2]at h;cases h
 unfold Rj at h2;refine{_,M,r,_,_,_,M,M,QO.of pg.tu,M,_,M,g,_,dx,_,M,h2,T.bn,T.bS,(by show 5<1000;decide),?_};rw[bM ∅,mH];refine{_,M,r,_,_,_,M,M,QO.of (by rw[af rg];exact pg.tu),M,_,M,g,_,dx,_,M,ag,T.bn,T.kB,(by show 5<1000;decide),?_};rw[cR,bM ∅,bM ∅,mH];exact q H2 F2 f v ts a' R A2 I pg.ng.2 pg.li (λu hu=>(pg.rw u hu).1) U
def uG(t:PL):Sp:=λvs H Q _=>∃(c a p dd:G')(kd:Int)(av e:V)(X:PX),vs=[.ref c]/\QD t H c a p dd kd av e X/\Q (.int X.n) H
def uZ:Ck P w K mg base PP 1 t.nQ t.iq [cC] (uG t):=by
 refine T.Hq.okl uL λs H vs Q E G h _=>?_;intro X;let{c,a,p,dd,kd,av,e,X',rfl,C,q}:=h;refine{_,(aA<|aD<|ar Ca M)
  ,?_}
 let{dx,z}:=C.ob;exact{_,M,c,_,dx,_,_,M,z,T.aw,T.cr,M,q}
def vP(t:PL):Sp:=λvs H Q _=>∃(c a p dd:G')(kd:Int)(av e:V)(X:PX),vs=[.ref c]/\QD t H c a p dd kd av e X/\Q X.rv H
def hJ:Ck P w K mg base PP 1 t.pU t.jz [cC] (vP t):=by
 refine T.Ka.okl vZ λs H vs Q E G h _=>?_;intro X;let{c,a,p,dd,kd,av,e,X',rfl,C,q}:=h;refine{_,(aA<|aD<|ar Ca M)
  ,?_}
 let{dx,z}:=C.ob;exact{_,M,c,_,dx,_,_,M,z,T.aw,T.cq,M,q}
def vR(t:PL):Sp:=λvs H Q _=>∃(c a p dd:G')(kd:Int)(av e:V)(X:PX),vs=[.ref c]/\QD t H c a p dd kd av e X/\∀r,H r=none->Q (.ref r) (upd H r<|.dK<|aC X.cp)
def nK:Ck P w K mg base PP 1 t.pW t.jA [cC] (vR t):=by
 refine T.Kc.okl wc λs H vs Q E G h _=>?_;intro X;let{c,a,p,dd,kd,av,e,X',rfl,C,q}:=h;refine{_,(aA<|aD<|gx sv {_} T.DT wF (ac (ar Ca M) ai))
  ,?_}
 let{dx,z}:=C.ob;exact{_,M,c,_,dx,_,_,M,z,T.aw,T.cM,M,dd,_,M,C.cp,q}
def uF(t:PL):Sp:=λvs H Q _=>∃(c a p dd:G')(kd:Int)(av e:V)(X:PX)(ns:O'),vs=[.ref c]/\QD t H c a p dd kd av e X/\X.cp.map (·.2)=ns.map V.int/\∀H',G3 H H'->Q (.int ns.sum) H'
def uY:Ck P w K mg base PP 1 t.nP t.io [cC] (uF t):=by
 refine T.Ho.okl uK λs H vs Q E G h _=>?_;intro X;let{c,a,p,dd,kd,av,e,X',ns,rfl,C,I,q}:=h;refine{_,(aA<|aD<|aI (AM G.hd) {_} T.Ov JN (ac (xD Zy XZ VB u7<|ar Ca M) ai))
  ,?_}
 let{dx,O}:=C.ob;exact{_,M,c,_,dx,_,_,M,O,T.aw,T.cM,M,.inr<|.inr<|.inl {M,.inl {_,C.cp}},dd,_,M,M,C.cp,λv z=>{v,dd,_,ns,M,ag,al z _ _ C.cp,by unfold aC;rw[Zp];exact I,q _<|al z}}
def mG{E:XK}{bm:Sa}(Y:Qx K C bm)(k:Rs H C [] E){D:nZ}{x:Str}:HW K (EU C<|Mo (tC<|.str x) HI) E D W H:=by
 refine{(by show 1<=1000;decide),λea z=>{ea,C,none,bm,M,ag,Y,?_}};rw[cR];exact k ea none _ {ag,.inl ⟨M,M⟩} λb o q=>by rw[af (am q z)];exact q
def oj(K:FA)(t:PL):Sp:=λvs H Q E=>∃(c a p dd:G')(kd:Int)(av e:V)(X:PX)(F:K')(x:QA),vs=[.ref c]/\QD t H c a p dd kd av e X/\QC K t H a F x/\(∀b,X.adr c p dd b->¬F b)/\x.now+x.ma<40000/\(X.pg≠none\/X.rv= .non->Rs H t.bW [] E)/\
 ∀q,X.pg=none->X.rv= .ref q->∀(H':Hp)(F':K')(r g nd:G'),QC K t H' a F' {x with ma:=x.ma+1,di:=x.di++ [(r,[.str "mark",.int (x.ma+1)])]}->QD t H' c a p dd kd av e {X with pg:=some (Ru g nd q X.ra)}->(∀b,({X with pg:=some (Ru g nd q X.ra)}:PX).adr c p dd b->¬F' b)->H g=none->H nd=none->(∀b o,b≠c->¬F b->H b=some o->H' b=some o/\¬F' b)->Q (.int<|x.ma+1) H'
def oV:Ck P w K mg base (RX P w) 3 t.iE t.eF [cC] (oj K t):=by
 have a9:=QS.nd;refine T.DS.okX QS (λvs H Q E h=>?_)<|λaa A outer s H vs Q E hr h=>?_
 .let{c,a,p,dd,kd,av,e,X,F,x,rfl,_}:=h;rfl
 .let{c,a,p,dd,kd,av,e,X',F,x,rfl,C,A,U,l,rz,q}:=h;refine aj (aO (ay jM (ar Ca M) bc<|au _)
   (aA<|tw M wy<|p8 T.bf T.kE {_} T.iI (ac fN ai))
   aF)
     (aj (aO (ay eh (ar Ca M) bc<|au _)
   (aA<|tw M wy<|p8 T.bf T.kE {_} T.iI (ac fN ai))
   aF)
     (aj (bp Ca (gN T.Px (zJ T) hr.mo {_} T.Py T.LW .nil az (ac (ar Ca M) ai)) M)
     (aB (aD<|bq (ar Ca M) T.aV T.jQ (eZ T) hr.mo T.jS .nil az) ?_)))
  intros
  let{dx,G}:=C.ob;by_cases Z:X'.pg=none
  case neg=>
   obtain⟨P',hP⟩:∃P',X'.pg=some P':=by
    cases c:X'.pg with
    |none=>exact WN c Z
    |some P'=>exact⟨P',M⟩
   rw[hP]at G;exact{_,M,c,_,dx,_,_,M,G,T.aw,T.aY,M,M,_,M,vd (λz=>by cases z)<|mG T.bf (rz<|.inl Z)}
  rcases C.rt with I|⟨q',I,_,_⟩
  .rw[Z,I]at G;refine{_,M,c,_,dx,_,_,M,G,T.aw,T.aY,M,M,_,M,pf M ?_};unfold sI
   (try dsimp only)
   exact{_,M,c,_,dx,_,_,M,G,T.aw,T.cq,M,M,_,M,dU M<|mG T.bf (rz<|.inr I)}
  have q:=q q' Z I;rw[Z,I]at G;refine{_,M,c,_,dx,_,_,M,G,T.aw,T.aY,M,M,_,M,pf M ?_};unfold sI
  (try dsimp only)
  refine{_,M,c,_,dx,_,_,M,G,T.aw,T.cq,M,M,_,M,a6 (λz=>by cases z) ?_}
  (try dsimp only)
  refine{_,M,c,_,dx,_,_,M,G,T.aw,T.cq,M,λg dg Y nd ah=>?_};have s1:=b6 (al (o:= .own g) nd) (o:= .ins t.bV dg []) Y;refine{g,dg,q',M,ag,λH2 no a1 a2 nn kp=>{M,?_}};have s2:G3 H H2:=λb o e=>kp b o (am e Y) (s1 _ _ e);have C2:=C.same s2;have O:=cV s1 nn;have gc:g≠c:=λz=>by rw[z,G]at Y;cases Y
  have a3:QL t H2 q' kd X'.ra e/\Qp kd X'.ra e:=by
   rcases C2.rt with h|⟨z,h1,h2⟩
   .rw[I]at h;cases h
   .rw[I]at h1;cases h1;exact h2
  refine{_,M,c,_,dx,_,M,s2 _ _ G,T.aw,T.aY,(by show 6<1000;decide),?_};rw[bM ∅,bM ∅,bM ∅,bM ∅,bM ∅,mH];have C3:=C2.setc (n:=X'.n) (pg:=some<|Ru g no q' X'.ra) (dx:=dx) C2.rt λP z=>by
   cases z;exact{{⟨dg,a1⟩,a2,a3,.inl M,(λ_ z=>by cases z),(λ_ z=>by cases z)},λz=>by rw[show no=dd from z,C.cp]at O;cases O}
  have a4:=s2 _ _ G;have nc:¬F c:=U c (.inl<|.inl M);rw[I]at C3;have A3:=(A.same s2).upd (o:= .ins t.aR dx<|SI a p (.ref q') X'.n dd<|.ref g) nc λxs z=>by rw[a4]at z;cases z
  have k3:∀b o,b≠c->H2 b=some o->upd H2 c (.ins t.aR dx<|SI a p (.ref q') X'.n dd<|.ref g) b=some o:=λb o n e=>by rwa[af n]
  change Bd _ _ _ _ (upd H2 c<|.ins t.aR dx<|SI a p (.ref q') X'.n dd<|.ref g)at*;change QD t (upd H2 c<|.ins t.aR dx<|SI a p (.ref q') X'.n dd<|.ref g) _ _ _ _ _ _ _ _ at C3;generalize upd H2 c (.ins t.aR dx<|SI a p (.ref q') X'.n dd<|.ref g)=H3 at C3 A3 k3⊢;let{da,fa,ha,hm,_}:=A3.ins;let{d3,h3}:=C3.ob;refine{_,M,c,_,d3,_,_,M,h3,T.aw,T.eS,M,a,da,fa,M,ha,hm _ ∅,a,F,x,M,A3,l,λH4 F4 r A4 f4=>?_};have a5:∀b,PX.adr {.ref q',X'.ra,X'.n,X'.cp,some<|Ru g no q' X'.ra} c p dd b->¬F b:=λb hb=>by
   rcases hb with(h|h|⟨P,z,h⟩)|h|h|⟨P,z,h⟩
   .exact U b<|.inl (.inl h)
   .exact U b<|.inl (.inr<|.inl h)
   .cases z;rcases h with rfl|rfl
    .exact A.out Y
    .exact A.out O
   .exact U b<|.inr (.inl h)
   .exact U b<|.inr (.inr<|.inl<|I.trans h)
   .cases z;rcases h with rfl|h|⟨y,h,_⟩
    .exact U _<|.inr (.inr<|.inl I)
    .cases h
    .cases h
  let{C4,a0}:=C3.fr a5 A3 f4;have eX:({.ref q',X'.ra,X'.n,X'.cp,some<|Ru g no q' X'.ra}:PX)={X' with pg:=some (Ru g no q' X'.ra)}:=by rw[<-I]
  rw[eX]at C4 a0;exact q H4 F4 r g no A4 C4 a0 Y O λb o n1 n2 e=>f4 b o n2 (k3 b o n1<|s2 _ _ e)
def oi(K:FA)(t:PL):Sp:=λvs H Q E=>∃(c a p dd:G')(n kd:Int)(av e:V)(X:PX)(F:K')(x:QA),vs=[.ref c,.int n]/\QD t H c a p dd kd av e X/\QC K t H a F x/\(∀b,X.adr c p dd b->¬F b)/\1<=n/\n<=1000/\x.st.kv.length<4096/\x.ks.length<4096/\(∀k∈x.ks,0<=k)/\(∀p∈x.st.kv,∃i:Int,p.2= .int i)/\((∀P,X.pg=some P->P.fd≠none)->Rs H t.bW [] E)/\
 ∀P,X.pg=some P->P.fd=none->∀(H':Hp)(F':K')(f l:G')(v:V)(ts:List Tp)(a':V)(R:Sw),QC K t H' a F' x->QD t H' c a p dd kd av e {X with pg:=some {P with fd:=some (f,ts),ah:=v,aa:=a'}}->(∀b,({X with pg:=some {P with fd:=some (f,ts),ah:=v,aa:=a'}}:PX).adr c p dd b->¬F' b)->(∀b o,b≠P.g->¬F b->H b=some o->H' b=some o/\¬F' b)->(∃H1,DF t H1 F' x.st kd n P.ta e v ts a' R)->H' l=some (.lst<|ts.map λe=>V.ref e.p)->¬F' l->l≠f->(∀b o,¬F b->H b=some o->b≠l)->Q (.ref l) H'
def gR:Ck P w K mg base (RX P w) 10 t.iD t.cI [cC,l9] (oi K t):=by
 have a2:=QR.nd;refine T.DQ.okX QR (λvs H Q E h=>?_)<|λa3 A outer s H vs Q E hr h=>?_
 .let{c,a,p,dd,n,kd,av,e,X,F,x,rfl,_}:=h;rfl
 .let{c,a,p,dd,n,kd,av,e,X',F,x,rfl,C,A,nF,n1,n2,l4,lk,k0,iv,rz,q}:=h;refine aj (PN 2<|ar Ca M)
    (aj (aO (PW.pt<|jJ (ay eh P8 bc<|au _)<|jc<|ay jM (ar P8 M) bc<|au _)
   (aA<|tw M wy<|p8 T.bf T.kE {_} T.iI (ac fN ai))
   aF)
     (aj (aM<|aT P8 T.bn T.Lx (zI T) hr.mo T.LV .nil az<|ac (ar Ca M)<|ac M2 ai)
     (aB (aD<|gx BV {_} T.Ht BY (ac (ar P8 M) ai)) ?_)))
  intros
  let{dx,ho}:=C.ob;cases O:X'.pg with
  |none=>
   rw[O]at ho;exact{_,M,c,_,dx,_,_,M,ho,T.aw,T.aY,M,_,M,M,_,M,dU M<|mG (D:={nx:=λ_ _=>True,rt:=λ_ _=>True}) T.bf (rz λP z=>by rw[O]at z;cases z)}
  |some P'=>
  let{R0,nn}:=C.pg P' O;let{I,Z}:=R0.ob;rw[O]at ho;cases Y:P'.fd with
  |some y=>
   rw[Y]at Z;refine{_,M,c,_,dx,_,_,M,ho,T.aw,T.aY,M,?_};exact{_,M,M,_,M,a6 (λz=>by cases z) {_,M,P'.g,_,I,_,_,M,Z,T.bn,T.bS,M,M,_,M,vd (λz=>by cases z)<|mG T.bf (rz λP z h=>by rw[O]at z;cases z;rw[Y]at h;cases h)}}
  |none=>
  have q:=q P' O Y;rw[Y]at Z;refine{_,M,c,_,dx,_,_,M,ho,T.aw,T.aY,M,?_};refine{_,M,M,_,M,a6 (λz=>by cases z) {_,M,P'.g,_,I,_,_,M,Z,T.bn,T.bS,M,M,_,M,pf M ?_}};unfold sI
  (try dsimp only)
  have ng:¬F P'.g:=nF _ (.inl<|.inr<|.inr {P',O,.inl M});have nt:¬F P'.tk:=nF _ (.inr<|.inr<|.inr {P',O,.inl M});refine{_,M,P'.g,I,_,M,Z,{_},_,M,c,_,dx,_,_,M,ho,T.aw,T.eS,M,_,M,P'.g,a,P'.tk,P'.nd,I,n,kd,P'.ta,e,_,_,_,F,x,M,Z,ng,A,R0.tk.1,R0.tk.2,nt,n1,n2,l4,lk,k0,iv,λH2 F2 f v ts a' R A2 f2 nf hf tu U=>?_};let{C2,G}:=C.fr nF A f2;have a0:=(f2 _ _ ng Z).1;have a1:=(f2 _ _ ng Z).2;have fg:=cx hf a0 λz=>by cases z
  have C3:=C2.setg O (fd:=some (f,ts)) (ah:=v) (aa:=a') (cl:=P'.cl) (dx:=I) (λy hy=>by cases hy;exact⟨hf,tu⟩) (by
   rcases U.rest with h|⟨q',h1,h2,h3,_⟩
   .exact .inl h.1
   .exact .inr ⟨q',h1,h2,h3⟩)
  have A3:=A2.upd (o:= .ins t.bV I<|Rj P'.tk (.ref f) v P'.nd<|CM P'.cl) a1 λxs z=>by rw[a0]at z;cases z
  have k3:∀b o,b≠P'.g->H2 b=some o->upd H2 P'.g (.ins t.bV I<|Rj P'.tk (.ref f) v P'.nd<|CM P'.cl) b=some o:=λb o n e=>by rwa[af n]
  change QD t (upd H2 P'.g<|.ins t.bV I<|Rj P'.tk (.ref f) v P'.nd<|CM P'.cl) _ _ _ _ _ _ _ _ at C3;have h3:upd H2 P'.g (.ins t.bV I<|Rj P'.tk (.ref f) v P'.nd<|CM P'.cl) P'.g=some (.ins t.bV I<|Rj P'.tk (.ref f) v P'.nd<|CM P'.cl):=ag
  (try dsimp only)
  generalize upd H2 P'.g (.ins t.bV I<|Rj P'.tk (.ref f) v P'.nd<|CM P'.cl)=H3 at C3 A3 k3 h3⊢;refine{_,M,P'.g,_,I,_,_,M,h3,T.bn,T.bS,M,f,_,M,.inl<|Kv.of<|k3 _ _ fg hf,λl nl=>?_};have s3:=al (o:= .lst<|ts.map λe=>V.ref e.p) nl;refine q _ F2 f l v ts a' R (A3.same s3) (C3.same s3) (λb hb=>?_) (λb o n1 n2 e=>{s3 _ _<|k3 b o n1 (f2 b o n2 e).1,(f2 b o n2 e).2}) ⟨H2,U⟩ ag (A3.out nl) (λz=>by rw[z,k3 _ _ fg hf]at nl;cases nl) λb o n2 e z=>?_
  .rcases hb with(h|h|⟨P,z,h⟩)|h|h|⟨P,z,h⟩
   .exact G b<|.inl (.inl h)
   .exact G b<|.inl (.inr<|.inl h)
   .cases z;exact G b<|.inl (.inr<|.inr ⟨P',O,h⟩)
   .exact G b<|.inr (.inl h)
   .exact G b<|.inr (.inr<|.inl h)
   .cases z;rcases h with h|h|⟨y,hy,h⟩
    .exact G b<|.inr (.inr<|.inr {P',O,.inl h})
    .rcases U.rest with g|⟨q',h1,h2,h3,h4,_⟩
     .rw[show v=V.ref b from h]at g;cases g.1
     .rw[show v=V.ref b from h]at h1;cases h1;exact h4
    .cases hy;rwa[h]
  .by_cases c:b=P'.g
   .rw[<-z,c,h3]at nl;cases nl
   .rw[<-z,k3 b o c (f2 b o n2 e).1]at nl;cases nl
def nU(K:FA)(t:PL):Sp:=λvs H Q E=>∃(c a p dd:G')(kd:Int)(av e:V)(X:PX)(F:K')(x:QA),vs=[.ref c]/\QD t H c a p dd kd av e X/\QC K t H a F x/\(∀b,X.adr c p dd b->¬F b)/\x.now+x.ma<40000/\((∀P,X.pg=some P->P.fd≠none->P.cl≠none)->Rs H t.bW [] E)/\
 ∀P y,X.pg=some P->P.fd=some y->P.cl=none->∀(H':Hp)(F':K')(r:G'),QC K t H' a F' {x with ma:=x.ma+1,di:=x.di++ [(r,[.str "mark",.int (x.ma+1)])]}->QD t H' c a p dd kd av e {X with pg:=some {P with cl:=some (x.ma+1)}}->(∀b,({X with pg:=some {P with cl:=some (x.ma+1)}}:PX).adr c p dd b->¬F' b)->(∀b o,b≠P.g->¬F b->H b=some o->H' b=some o/\¬F' b)->Q (.int<|x.ma+1) H'
def gj:Ck P w K mg base (RX P w) 2 t.gV t.dM [cC] (nU K t):=by
 have a2:=QM.nd;refine T.DE.okX QM (λvs H Q E h=>?_)<|λa3 A outer s H vs Q E hr h=>?_
 .let{c,a,p,dd,kd,av,e,X,F,x,rfl,_}:=h;rfl
 .let{c,a,p,dd,kd,av,e,X',F,x,rfl,C,A,nF,l,rz,q}:=h;refine aj (PN 1<|ar Ca M)
    (aj (aO (PW.pt<|jJ (ay eh M2 bc<|au _)<|jJ (ay eh (ar M2 M) bc<|au _)<|jc<|ay jM (ar M2 M) bc<|au _)
   (aA<|tw M wy<|p8 T.bf T.kE {_} T.iI (ac fN ai))
   aF)
     (aj (bp M2 (bq (ar Ca M) T.aV T.jQ (eZ T) hr.mo T.jS .nil az) M)
     (aB (aD<|ar M2 M) ?_)))
  intros
  let{dx,Z}:=C.ob;cases I:X'.pg with
  |none=>
   rw[I]at Z;exact{_,M,c,_,dx,_,_,M,Z,T.aw,T.aY,M,_,M,M,_,M,dU M<|mG (D:={nx:=λ_ _=>True,rt:=λ_ _=>True}) T.bf (rz λP z=>by rw[I]at z;cases z)}
  |some P'=>
  let{R0,nn}:=C.pg P' I;let{Y,O}:=R0.ob;rw[I]at Z;cases hy:P'.fd with
  |none=>
   rw[hy]at O;refine{_,M,c,_,dx,_,_,M,Z,T.aw,T.aY,M,?_};exact{_,M,M,_,M,a6 (λz=>by cases z) {_,M,P'.g,_,Y,_,_,M,O,T.bn,T.bS,M,M,_,M,dU M<|mG (D:={nx:=λ_ _=>True,rt:=λ_ _=>True}) T.bf (rz λP z h=>by rw[I]at z;cases z;exact WN hy h)}}
  |some y=>
  cases U:P'.cl with
  |some m=>
   rw[hy,U]at O;refine{_,M,c,_,dx,_,_,M,Z,T.aw,T.aY,M,?_};exact{_,M,M,_,M,a6 (λz=>by cases z) {_,M,P'.g,_,Y,_,_,M,O,T.bn,T.bS,M,M,_,M,a6 (λz=>by cases z) {_,M,P'.g,_,Y,_,_,M,O,T.bn,T.cY,M,M,_,M,vd (λz=>by cases z)<|mG T.bf (rz λP z h g=>by rw[I]at z;cases z;rw[U]at g;cases g)}}}
  |none=>
  have q:=q P' y I hy U;rw[hy,U]at O;have ng:¬F P'.g:=nF _ (.inl<|.inr<|.inr {P',I,.inl M});refine{_,M,c,_,dx,_,_,M,Z,T.aw,T.aY,M,?_};refine{_,M,M,_,M,a6 (λz=>by cases z) {_,M,P'.g,_,Y,_,_,M,O,T.bn,T.bS,M,M,_,M,a6 (λz=>by cases z) {_,M,P'.g,_,Y,_,_,M,O,T.bn,T.cY,M,M,_,M,pf M ?_}}};unfold sI
  (try dsimp only)
  let{da,fa,ha,hm,_}:=A.ins;refine{_,M,c,_,dx,_,_,M,Z,T.aw,T.eS,M,a,da,fa,M,ha,hm _ ∅,a,F,x,M,A,l,λH2 F2 r A2 f2=>?_};let{a0,a1}:=f2 _ _ ng O;let{C2,G}:=C.fr nF A f2;let{R2,_}:=C2.pg P' I;refine{_,M,P'.g,_,Y,_,M,a0,T.bn,T.cY,(by show 5<1000;decide),?_};rw[bM ∅,bM ∅,bM ∅,bM ∅,mH];refine{_,M,P'.g,_,Y,_,_,M,ag,T.bn,T.cY,M,?_};refine q _ F2 r (A2.upd a1 λxs z=>by rw[a0]at z;cases z) (by have h:=C2.setg I (fd:=P'.fd) (ah:=P'.ah) (aa:=P'.aa) (cl:=some<|x.ma+1) (dx:=Y) R2.fd R2.ah;rw[show Lm P'.fd=V.ref y.1 by rw[hy];rfl]at h;exact h) (λb hb=>?_) λb o n1 n2 e=>{by rw[af n1];exact(f2 b o n2 e).1,(f2 b o n2 e).2};rcases hb with(h|h|⟨P,z,h⟩)|h|h|⟨P,z,h⟩
  .exact G b<|.inl (.inl h)
  .exact G b<|.inl (.inr<|.inl h)
  .cases z;exact G b<|.inl (.inr<|.inr ⟨P',I,h⟩)
  .exact G b<|.inr (.inl h)
  .exact G b<|.inr (.inr<|.inl h)
  .cases z;exact G b<|.inr (.inr<|.inr ⟨P',I,h⟩)
def Pr(t:PL)(H:Hp)(st:V)(p:G')(kd:Int)(av e:V)(x:QA)(X:PX):Prop:=X.pg=none/\((st= .non/\X.rv= .ref p/\X.ra=av/\X.n=x.di.length/\X.cp=[])\/∃tp d0:Addr,st= .ref tp/\H tp=some (.tup [X.rv,.int X.n,.ref d0])/\H d0=some (.dK<|aC X.cp)/\RG t H X.rv kd X.ra e)
def vQ(K:FA)(t:PL):Sp:=λvs H Q _=>∃(c dx a p:G')(kd:Int)(av e st:V)(F:K')(x:QA)(X:PX),vs=[.ref c,.ref a,.ref p,st]/\H c=some (.ins t.aR dx [])/\QC K t H a F x/\QL t H p kd av e/\Qp kd av e/\Pr t H st p kd av e x X/\
 ∀H' dd,QD t H' c a p dd kd av e X->H dd=none->(∀b o,b≠c->H b=some o->H' b=some o)->Q .non H'
def nJ:Ck P w K mg base PP 2 t.pV t.gf [cC,mu,fx,"stopped"] (vQ K t):=by
 have a3:=Qd.nd;refine T.Kb.ok Qd (λvs H Q E h=>?_)<|λa4 A outer s H vs Q E hr h=>?_
 .let{c,dx,a,p,kd,av,e,st,F,x,X,rfl,_}:=h;rfl
 .let{c,dx,a,p,kd,av,e,st,F,x,X',rfl,hc,A,TK,on,hI,q}:=h;refine bU (λx=>aO (ay eh PR bc<|au _) x aF) ?_;refine aB (PN 3<|bY<|ac P8<|ac (aI aE {_} T.bT bi (ac (bq M2 T.aV T.oY (g9 T) hr.mo T.ir.choose_spec.1 T.ir.choose_spec.2 az) ai))<|ac eO ai) ?_
  intros
  refine aj (bp Ca M2 M)
    (aj (bp Ca P8 M)
    (aj (bp Ca (aS bG PR ae<|λ_ _=>M) M)
    (aj (bp Ca (aS bG PR ae<|λ_ _=>M) M)
    (aj (bp Ca (gx sv {_} T.DT wF (ac (aS bG PR ae<|λ_ _=>M) ai)) M)
    (aB (bp Ca bc M) ?_)))))
  intros
  let{da,fa,hi,hm,_}:=A.ins;let{hp,hI}:=hI;refine dQ (λW H'=>∃G O:Addr,W=[some (.ref c),some (.ref a),some (.ref p),some (.ref G)]/\G3 H H'/\H' G=some (.tup [X'.rv,.int X'.n,.ref O])/\H' O=some (.dK<|aC X'.cp)/\RG t H' X'.rv kd X'.ra e) (λnx go=>?_)<|λW H2 w=>?_
  .rcases hI with⟨rfl,h1,h2,h3,h4⟩|⟨G,O,rfl,h1,h2,h3⟩
   .refine{_,M,M,_,M,dU M {_,M,_,M,a,da,fa,M,hi,hm _ ∅,a,0,F,x,M,A,Xs _,λH1 r s1 nr hr=>{r,_,M,.inl<|Kv.of hr,λO a1=>{(by show 3<=sizeLine;decide),λG a0=>?_}}}};rw[Q1,show(0:Int).toNat=0 from rfl,Xj];have Y:=(s1.trans<|al (o:= .dK []) a1).trans (al (o:= .tup [.ref p,.int x.di.length,.ref O]) a0);exact go _ _ {G,O,M,Y,by rw[h1,h3];exact ag,by rw[h4];exact al a0 _ _ ag,.inr {p,h1,by rw[h2];exact{TK.same Y,on}}}
   .exact{_,M,M,_,M,a6 (λz=>by cases z)<|go _ _ {G,O,M,G3.refl _,h1,h2,h3}}
  let{G,O,rfl,Y,I,Z,a2}:=w;have U:=Y _ _ hc;have n1:G≠c:=λz=>by rw[z,U]at I;cases I
  have n2:O≠c:=λz=>by rw[z,U]at Z;cases Z
  refine{_,M,_,M,c,_,dx,[],M,U,T.aw,T.eS,mP (by kernel_rfl),cU λH3 h3 o3=>?_};refine{_,M,_,M,c,_,dx,_,M,h3,T.aw,T.wq,mP (by kernel_rfl),cU λH4 h4 o4=>?_};refine{_,M,G,_,_,_,M,M,QO.of (by rw[o4 _ n1,o3 _ n1];exact I),M,_,M,c,_,dx,_,M,h4,T.aw,T.cq,mP (by kernel_rfl),cU λH5 h5 o5=>?_};have kp:∀{b:G'},b≠c->H5 b=H2 b:=λn=>by rw[o5 _ n,o4 _ n,o3 _ n]
  refine{_,M,G,_,_,_,M,M,QO.of (by rw[kp n1];exact I),M,_,M,c,_,dx,_,M,h5,T.aw,T.cr,mP (by kernel_rfl),cU λH6 h6 o6=>?_};refine{_,M,G,_,_,_,M,M,QO.of (by rw[o6 _ n1,kp n1];exact I),M,O,_,M,by rwa[o6 _ n2,kp n2],λdd nd=>?_};refine{_,M,c,_,dx,_,M,al nd _ _ h6,T.aw,T.cM,mP (by kernel_rfl),cU λH7 h7 o7=>?_};refine{_,M,c,_,dx,_,M,h7,T.aw,T.aY,mP (by kernel_rfl),cU λH8 h8 o8=>?_};have nc:=(am h6 nd).symm;have k8:∀b o,b≠c->H2 b=some o->H8 b=some o:=λb o n e=>by
   rw[o8 b n,o7 b n];exact al nd _ _<|by rwa[o6 b n,kp n]
  have tk:∀{q:G'}{a':V},QL t H2 q kd a' e->QL t H8 q kd a' e:=λh=>by
   let{dq,fq,h1,h2}:=id h;exact{dq,fq,k8 _ _ (h.ne U M) h1,h2}
  exact q _ dd {{dx,by rw[hp];exact h8.trans<|by kernel_rfl},by rw[o8 _ nc,o7 _ nc];exact ag,{tk<|TK.same Y,on},a2.imp id λzz=>by let{q,g1,g2,g3}:=zz;exact{q,g1,tk g2,g3},λ_ z=>by rw[hp]at z;cases z} (cV Y<|by rw[o6 _ nc,kp nc]at nd;exact nd) λb o n e=>k8 b o n (Y _ _ e)
def rE(t:PL):Sp:=λvs H Q _=>∃(c a p dd:G')(kd:Int)(av e:V)(X:PX),vs=[.ref c]/\QD t H c a p dd kd av e X/\∀(H':Hp)(tp d0:G'),G3 H H'->H tp=none->H d0=none->H' tp=some (.tup [X.rv,.int X.n,.ref d0])->H' d0=some (.dK<|aC X.cp)->Q (.ref tp) H'
def rT:Ck P w K mg base PP 1 t.jY t.gd [cC] (rE t):=by
 refine T.FR.okl rK λs H vs Q E U h _=>?_;intro X;let{c,a,p,dd,kd,av,e,X',rfl,C,q}:=h;refine{_,(aA<|aD<|bY<|ac (ar Ca M)<|ac (ar Ca M)<|ac (gx sv {_} T.DT wF (ac (ar Ca M) ai)) ai)
  ,?_}
 let{dx,G}:=C.ob;refine{_,M,c,_,dx,_,_,M,G,T.aw,T.cq,M,_,M,c,_,dx,_,_,M,G,T.aw,T.cr,M,_,M,c,_,dx,_,_,M,G,T.aw,T.cM,M,dd,_,M,C.cp,λI nd=>{(by show 3<=sizeLine;decide),λO z=>?_}};exact q _ O I ((al nd).trans<|al z) (cV (al nd) z) nd ag<|al z _ _ ag
def yV:Sp:=λvs H Q _=>∃c k:Int,vs=[.int c,.int k]/\∀z:Int,0<=z->z<2147483647->Q (.int z) H
def qE:Ck P w K mg base PP 1 t.ui t.mY [eH,qO] yV:=by
 refine T.uz.okl zl λs H vs Q E z h _=>?_;intro X;let{c,k,rfl,q}:=h;refine aj (PN 2<|ao aQ (ao cT (ao bx (ao bx Ca<|ao cT ae M2) ae) ae) ae)
   (aB (aD<|ao aQ (ao cT P8<|ao bx (ao aP P8 ae) ae) ae) ?_)
 intros
 refine{_,M,_,M,_,_,M,M,.inl {(_),(_)},_,_,M,M,_,_,M,M,_,_,M,M,.inr {(_),(_)},_,_,M,M,(by show(0:Int)<2147483647;decide),?_};have a:=Z2 ((c+7919*k+1)*48271) (show(2147483647:Int)≠0 by decide);have b:=Z0 ((c+7919*k+1)*48271) (show(0:Int)<2147483647 by decide)
 (try dsimp only)
 generalize (c+7919*k+1)*48271%2147483647=n at a b⊢;refine{_,M,_,M,_,_,M,M,{(_),(_)},_,_,M,M,_,_,M,M,.inl {(),()},_,_,M,M,(by show(0:Int)<2147483647;decide),?_};exact q _ (Z2 _ (_))<|Z0 _ (_)
def Mq(kd:Int)(H:Hp)(Q:VK):Prop:=∀(H':Hp)(p:G')(a e:V),G3 H H'->H' p=some (.tup [.int kd,a,e])->Qp kd a e->bdV a->bdV e->Q (.ref p) H'
def eG{i:Int}(h:i<10^80):bdV (.int i):=h
def BZ:bdV .non:=Y1
def n9:Sp:=λvs H Q _=>∃kd c:Int,vs=[.int kd,.int c]/\0<=kd/\kd<3/\Mq kd H Q
def oN:Ck P w K mg base PP 1 t.iA t.eC ["_law_kind",eH] n9:=by
 refine T.qv.okl oo λs H vs Q E hr h _=>?_;intro X;let{kd,c,rfl,d0,d3,q}:=h;refine bU (λx=>aO (ay bJ Ca ae<|au _) x aF) ?_;refine aj (PN 2<|ao aQ M2 ae)
   (aB (aD<|bY<|ac Ca<|ac P8<|ac (ao bx P8<|ao aQ (ao aP M2 ae)<|ao jf ae P8) ai) ?_)
 intros
 refine aj (PN 2<|ao aQ (ao aP M2 ae)<|ao kx ae ae)
   (aj (PN 3<|ao bx P8<|ao aQ (ao CJ M2<|ao cT ae<|ao kx ae ae)<|ao kx ae ae)
   (aj (aO (PW.pt<|eV (ay bJ (ao aQ M2 ae) ae<|au _)<|dh<|ay bJ Ca ae<|au _)
    (aA<|aD<|bY<|ac Ca<|ac P8<|ac bc ai)
    aF)
   (aj (aO (ay bJ (ao aQ M2 ae) ae<|au _)
    (aA<|aD<|bY<|ac Ca<|ac bc<|ac P8 ai)
    aF)
   (aB (aD<|bY<|ac Ca<|ac (aS aU (cu<|ac P8<|ac PR ai) (ao jf Ca ae)<|λ_ _=>M)<|ac (aS aU (cu<|ac PR<|ac P8 ai) (ao jf Ca ae)<|λ_ _=>M) ai) ?_))))
 intros
 refine{_,M,M,_,M,bL (λz=>?_)<|λz=>?_}
 .obtain rfl:kd=0:=V.int.inj (WP z);have G:=Z2 c (show(65537:Int)≠0 by decide);have O:=Z0 c (show(0:Int)<65537 by decide);refine{_,M,_,_,M,M,(by show(0:Int)<65537;decide),?_}
  (try dsimp only)
  generalize c%65537=lo at G O⊢;refine{_,M,_,M,_,M,_,M,_,_,M,M,{(_),(_)},_,M,_,_,M,M,_,_,M,M,(by show(0:Int)<65537-lo;lia),_,_,M,M,(by show 3<=sizeLine;decide),λp I=>?_};have b0:=Z2 (c/65537) (show(65537-lo:Int)≠0 by lia);have Z:=Z0 (c/65537) (show(0:Int)<65537-lo by lia);exact q _ p (.int lo) (.int<|lo+c/65537%(65537-lo)) (al I) ag (.inl {M,lo,_,M,M,G,(),()}) (eG ())<|eG ()
 .have dz:kd≠0:=λe=>z (WR<|by rw[e]);have G:=Z2 (c/2) (ZU wJ);have O:=Z0 (c/2) wJ;have b0:=Z2 (c/(2*10^(39:Int).toNat)) (ZU wJ);have Z:=Z0 (c/(2*10^(39:Int).toNat)) wJ;refine{_,M,_,_,M,M,{(_),(_)},_,_,M,M,{(_),(_),(_)},_,_,M,M,wJ,?_}
  (try dsimp only)
  generalize c/2%10^(39:Int).toNat=lo at G O⊢;refine{_,M,_,M,_,_,M,M,{(_),(_),(_)},_,_,M,M,.inl {(_),(_)},_,_,M,M,{(_),(_)},_,_,M,M,{(_),(_),(_)},_,_,M,M,wJ,_,_,M,M,?_}
  (try dsimp only)
  generalize c/(2*10^(39:Int).toNat)%10^(39:Int).toNat=hi at b0 Z⊢;have a2:(10:Int)^(39:Int).toNat=10^39:=M;rw[a2]at O Z;have two:(0:Int)<2:=by decide
  have U:3<=sizeLine:=by decide
  have Y:2<=sizeLine:=by decide
  rcases(show kd=1\/kd=2 by lia)with rfl|rfl
  .refine{_,M,_,_,M,M,two,M,_,M,bL (λy=>?_)<|λy=>?_}
   .refine{_,M,M,_,M,dU M {_,M,_,M,U,λp I=>?_}};exact q _ p (.int lo) .non (al I) ag (.inr<|.inl {M,lo,M,G,.inl M}) (eG ()) BZ
   .refine{_,M,_,_,M,M,two,M,_,M,bL (λy2=>WN y2 y)<|λ_=>?_};refine{_,M,_,M,_,M,Y,λp1 n1=>{_,M,_,_,M,M,p1,_,_,_,M,M,Kv.of ag,M,_,M,_,M,Y,λp2 n2=>{_,M,_,_,M,M,p2,_,_,_,M,M,Kv.of ag,M,U,λp3 n3=>?_}}};exact q _ p3 (.int lo) (.int<|lo+hi) (((al n1).trans<|al n2).trans<|al n3) ag (.inr<|.inl {M,lo,M,G,.inr {_,M,()}}) (eG ())<|eG ()
  .refine{_,M,_,_,M,M,two,M,_,M,bL (λy=>?_)<|λy=>?_}
   .refine{_,M,M,_,M,a6 (λe=>by cases e) {_,M,_,_,M,M,two,M,_,M,bL (λ_=>{_,M,_,M,U,λp I=>?_})<|λy2=>WN y y2}};exact q _ p .non (.int lo) (al I) ag (.inr<|.inr {M,lo,M,G,.inl M}) BZ<|eG ()
   .refine{_,M,_,_,M,M,two,M,_,M,bL (λy2=>WN y2 y)<|λ_=>?_};refine{_,M,_,M,_,M,Y,λp1 n1=>{_,M,_,_,M,M,p1,_,_,_,M,M,Kv.of ag,M,_,M,_,M,Y,λp2 n2=>{_,M,_,_,M,M,p2,_,_,_,M,M,Kv.of ag,M,U,λp3 n3=>?_}}};exact q _ p3 (.int<|lo+hi) (.int lo) (((al n1).trans<|al n2).trans<|al n3) ag (.inr<|.inr {M,lo,M,G,.inr {_,M,()}}) (eG ())<|eG ()
def Jq(h:i<ks.length):ks.getD i 0∈ks:=by
 rw[Ze,Q4 h];exact Xu h
def vK(K:FA):Sp:=λvs H Q _=>∃(c:Int)(l:G')(ks:O'),vs=[.int c,.ref l]/\H l=some (.lst<|ks.map V.int)/\(∀k∈ks,0<=k/\k<10^40)/\Mq (c%3) H Q
def wk:Ck P w K mg base PP 2 t.pP t.ju [eH,u4] (vK K):=by
 refine T.yP.okl vV λs H vs Q E hr h _=>?_;intro X;let{c,l,ks,rfl,hS,kb,q}:=h;refine aj (PN 2<|ao aQ Ca ae)
   (bU (λx=>aO (ay bJ (ao aQ (ao aP Ca ae) ae) ae<|au _) x aF) ?_)
 refine aB (aD<|aJ (oN T) hr.mo {_} T.DJ T.qv.kp T.DK .nil az (ac P8<|ac (ao aP Ca ae) ai)) ?_
 intros
 refine aj (PN 3<|aJ (qE T) hr.mo {_} T.BL T.uz.kp T.B6 .nil az (ac (ao aP Ca ae)<|ac ae ai))
   (bU (λx=>aO (ay bJ P8 ae<|au _) x aF) ?_)
 refine aj (PN 4<|ao aQ PR ae)
   (aj (PN 5<|ao bx QI<|ao aQ (ao aP PR ae)<|ao jf ae QI)
   (aB (aD<|bY<|ac P8<|ac (aS aU (cu<|ac QI<|ac ae ai) (ao aQ PR ae)<|λ_ _=>M)<|ac (aS aU (cu<|ac RC<|ac ae ai) (ao aQ (ao aP PR ae) ae)<|λ_ _=>M) ai) ?_))
 intros
 refine aj (PN 4<|ao aQ PR ae)
   (bU (λx=>aO (PW.pt<|eV (ay Al (aI aE {_} T.bT bi (ac M2 ai)) ae<|au _)<|dh<|ay Al (ao aQ (ao aP PR ae) ae) ae<|au _) x aF) ?_)
 refine aB (PN 4<|ao bx (aS aU M2 (ao aQ (ao aP PR ae)<|aI aE {_} T.bT bi (ac M2 ai))<|λ_ _=>M)<|ao aQ (ao aP PR ae) ae) ?_
 intros
 refine aj (PN 5<|ao bx QI<|aS aU (cu<|ac (ao aQ (ao aP PR ae) ae)<|ac (ao aQ (ao aP Ca ae)<|ao kx ae ae)<|ac (ao aQ (ao aP PR ae) ae) ai) (ao aQ (ao aP PR ae) ae)<|λ_ _=>M)
   (aj (aO (PW.pt<|eV (ay bJ (ao aQ (ao aP PR ae) ae) ae<|au _)<|dh<|ay bJ P8 ae<|au _)
    (aA<|aD<|bY<|ac P8<|ac QI<|ac bc ai)
    aF)
   (aj (aO (ay bJ (ao aQ (ao aP PR ae) ae) ae<|au _)
    (aA<|aD<|bY<|ac P8<|ac bc<|ac QI ai)
    aF)
   (aB (aD<|bY<|ac P8<|ac (aS aU (cu<|ac QI<|ac RC ai) (ao jf P8 ae)<|λ_ _=>M)<|ac (aS aU (cu<|ac RC<|ac QI ai) (ao jf P8 ae)<|λ_ _=>M) ai) ?_)))
 intros
 have d0:=Z2 c (show(3:Int)≠0 by decide);have d3:=Z0 c (show(0:Int)<3 by decide);have two:(0:Int)<2:=by decide
 have I:3<=sizeLine:=by decide
 have O:2<=sizeLine:=by decide
 refine{_,M,_,_,M,M,(by show(0:Int)<3;decide),?_}
 (try dsimp only)
 generalize c%3=kd at d0 d3 q⊢;refine{_,M,_,_,M,M,{(_),(_)},_,_,M,M,two,M,_,M,bL (λ_=>?_)<|λ_=>?_}
 .exact{_,M,_,M,_,_,M,M,{(_),(_)},kd,_,M,d0,d3,q}
 refine{_,M,_,_,M,M,{(_),(_)},_,_,M,λn n0 n1=>?_};refine{_,M,M,_,M,bL (λz=>?_)<|λz=>?_}
 .obtain rfl:kd=0:=V.int.inj (WP z);have G:=Z2 n (show(65537:Int)≠0 by decide);have U:=Z0 n (show(0:Int)<65537 by decide);refine{_,M,_,_,M,M,(by show(0:Int)<65537;decide),?_}
  (try dsimp only)
  generalize n%65537=lo at G U⊢;have b0:=Z2 (n/65537) (show(65537-lo:Int)≠0 by lia);have b1:=Z0 (n/65537) (show(0:Int)<65537-lo by lia);refine{_,M,_,M,_,_,M,M,{(_),(_)},_,M,_,_,M,M,_,_,M,M,(by show(0:Int)<65537-lo;lia),_,_,M,M,?_}
  (try dsimp only)
  generalize n/65537%(65537-lo)=g at b0 b1⊢;let{x,hx,x0}:=Ag (c:=n) (n:=2) (L:=[.int lo,.int 0]) (P:=λm=>0<=m/\m<=lo) {{G,Xs _},{Xs _,G},trivial} M two;let{y,hy,y0}:=Ag (c:=n/2) (n:=2) (L:=[.int (lo+g),.int 65536]) (P:=λm=>lo<=m/\m<=65536) {{(),()},{(),()},trivial} M two;refine{_,M,_,M,O,λY a2=>{_,M,_,_,M,M,two,Y,_,_,_,M,M,Kv.of ag,hx,_,M,O,λp2 Z=>{_,M,_,_,M,M,{(_),(_)},_,_,M,M,two,p2,_,_,_,M,M,Kv.of ag,hy,I,λp3 n3=>?_}}};exact q _ p3 (.int x) (.int y) (((al a2).trans<|al Z).trans<|al n3) ag (.inl {M,x,y,M,M,x0.1,(),y0.2}) (eG ())<|eG ()
 .have dz:kd≠0:=λe=>z (WR<|by rw[e]);have G:=Z2 n (show(60:Int)≠0 by decide);have U:=Z0 n (show(0:Int)<60 by decide);refine{_,M,_,_,M,M,(by show(0:Int)<60;decide),?_}
  (try dsimp only)
  generalize n%60=lo at G U⊢;refine dQ (λW H'=>H=H'/\∃lo:Int,W=[some (.int c),some (.ref l),some (.int kd),some (.int n),some (.int lo),none]/\0<=lo/\lo<10^41) (λnx go=>?_)<|λW H' w=>?_
  .refine{_,M,l,_,M,.inl<|Kv.of hS,_,_,M,M,_,M,bL (λz=>?_)<|λz=>?_}
   .have kl:0<ks.length:=by
     have:=WP z;rw[Q1]at this;lia
    have kl:(0:Int)<(ks.length:Int):=();have z0:=Z2 (n/180) (ZU kl);have z1:=Z0 (n/180) kl;have y0:=Z2 (n/72000) (show(2:Int)≠0 by decide);have y1:=Z0 (n/72000) (show(0:Int)<2 by decide);refine{_,M,_,_,M,M,{(_),(_)},_,_,M,M,(by show(0:Int)<3;decide),_,_,M,M,_,M,bL (λ_=>?_)<|λ_=>go _ _ {M,lo,M,G,()}};refine{_,M,_,M,_,_,M,M,{(_),(_)},_,M,l,_,M,.inl<|Kv.of hS,_,_,M,M,(by rwa[Q1]),l,_,_,_,M,M,Kv.of hS,(by rw[Q1];exact ua z0 z1),_,M,_,_,M,M,{(_),(_)},_,_,M,M,two,_,_,M,M,go _ _ {M,_,M,?_}};let{b0,b1}:=kb (ks.getD (n/180%ks.length).toNat 0) (Jq ());constructor<;>lia
   .exact go _ _ {M,lo,M,G,()}
  clear G U lo;let{rfl,lo,rfl,G,U}:=w;have a3:(0:Int)<10^(38:Int).toNat:=by decide
  have a4:∀z:Int,0<=z%90/\z%90<10^38:=λz=>{Z2 _ (_),Int.lt_trans (Z0 _ (_)) (_)};have a5:∀z:Int,0<=z%10^(38:Int).toNat/\z%10^(38:Int).toNat<10^38:=λz=>{Z2 _ (_),Z0 _ (_)};have a9:∀z:Int,0<=z%70000/\z%70000<10^38:=λz=>{Z2 _ (_),Int.lt_trans (Z0 _ (_)) (_)};let{hi,hh,b0,b1}:=Ag (c:=n/216000) (n:=3) (L:=[.int (n/7%90),.int (c/11%10^(38:Int).toNat),.int (n/7%70000)]) (P:=λm=>0<=m/\m<10^38) {a4 _,a5 _,a9 _,trivial} M (_);refine{_,M,_,M,_,_,M,M,{(_),(_)},_,_,M,M,(by show(0:Int)<90;decide),_,M,_,_,M,M,{(_),(_)},_,_,M,M,{(_),(_),(_)},_,_,M,M,a3,_,M,_,_,M,M,{(_),(_)},_,_,M,M,(by show(0:Int)<70000;decide),I,λp hp=>?_};refine{_,M,_,_,M,M,{(_),(_)},_,_,M,M,(by show(0:Int)<3;decide),p,_,_,_,M,M,Kv.of ag,hh,_,_,M,M,?_};have s0:G3 H (upd H p<|.lst [.int (n/7%90),.int (c/11%10^(38:Int).toNat),.int (n/7%70000)]):=al hp
  (try dsimp only)
  generalize upd H p (.lst [.int (n/7%90),.int (c/11%10^(38:Int).toNat),.int (n/7%70000)])=H1 at s0⊢;have q:=λH' p' a e(s:G3 H1 H')=>q H' p' a e (s0.trans s);have th:(0:Int)<3:=by decide
  have dv:CDiv n 648000:={(_),(_)};rcases(show kd=1\/kd=2 by lia)with rfl|rfl
  .refine{_,M,_,_,M,M,dv,_,_,M,M,th,M,_,M,bL (λy=>?_)<|λy=>?_}
   .refine{_,M,M,_,M,dU M {_,M,_,M,I,λp hp=>?_}};exact q _ p (.int lo) .non (al hp) ag (.inr<|.inl {M,lo,M,G,.inl M}) (eG ()) BZ
   .refine{_,M,_,_,M,M,dv,_,_,M,M,th,M,_,M,bL (λy2=>WN y2 y)<|λ_=>?_};refine{_,M,_,M,_,M,O,λY n1=>{_,M,_,_,M,M,Y,_,_,_,M,M,Kv.of ag,M,_,M,_,M,O,λp2 Z=>{_,M,_,_,M,M,p2,_,_,_,M,M,Kv.of ag,M,I,λp3 n3=>?_}}};exact q _ p3 (.int lo) (.int<|lo+hi) (((al n1).trans<|al Z).trans<|al n3) ag (.inr<|.inl {M,lo,M,G,.inr {_,M,()}}) (eG ())<|eG ()
  .refine{_,M,_,_,M,M,dv,_,_,M,M,th,M,_,M,bL (λy=>?_)<|λy=>?_}
   .refine{_,M,M,_,M,a6 (λe=>by cases e) {_,M,_,_,M,M,dv,_,_,M,M,th,M,_,M,bL (λ_=>{_,M,_,M,I,λp hp=>?_})<|λy2=>WN y y2}};exact q _ p .non (.int lo) (al hp) ag (.inr<|.inr {M,lo,M,G,.inl M}) BZ<|eG ()
   .refine{_,M,_,_,M,M,dv,_,_,M,M,th,M,_,M,bL (λy2=>WN y2 y)<|λ_=>?_};refine{_,M,_,M,_,M,O,λY n1=>{_,M,_,_,M,M,Y,_,_,_,M,M,Kv.of ag,M,_,M,_,M,O,λp2 Z=>{_,M,_,_,M,M,p2,_,_,_,M,M,Kv.of ag,M,I,λp3 n3=>?_}}};exact q _ p3 (.int<|lo+hi) (.int lo) (((al n1).trans<|al Z).trans<|al n3) ag (.inr<|.inr {M,lo,M,G,.inr {_,M,()}}) (eG ())<|eG ()
def Er{N:G'}{kd:Str}{ok:V->V->Prop}{a:V}{E:XK}(G:ok a e)(I:Sc a)(O:Sc e)(x dx:G')(nx:H x=none)(nd:H dx=none)
  (q:∀H' fs,G3 H H'->H' x=some (.ins C dx fs)->Cb kd fs a e->Q .non H'):EV C N kd ok [.ref x,a,e] (upd (upd H dx<|.own x) x<|.ins C dx []) Q E:=
 {x,dx,a,e,M,ag,I,O,λ_ H' fs k h f=>q H' fs (uM nx nd k) h f,λz=>WN G z}
def yS(K:FA)(t:PL):Sp:=λvs H Q _=>∃(n:G')(kd:Int)(a e:V),vs=[.ref n]/\QO K H n [.int kd,a,e]/\Qp kd a e/\∀H' p,G3 H H'->H p=none->QL t H' p kd a e->Q (.ref p) H'
def qD:Ck P w K mg base PP 5 t.uf t.mV [hL] (yS K t):=by
 refine T.nC.okl zh λs H vs Q E O h _=>?_;intro X;let{n,kd,a,e,rfl,G,I,q}:=h;refine bU (λx=>aO (ay bJ (aS bG Ca ae<|λ_ _=>M) ae<|au _) x aF) ?_;refine aB (aD<|gN T.Es (lq T) O.mo {_} T.xX T.wu .nil az (ac (aS bG Ca ae<|λ_ _=>M)<|ac (aS bG Ca ae<|λ_ _=>M) ai)) ?_
 intros
 refine bU (λx=>aO (ay bJ (aS bG Ca ae<|λ_ _=>M) ae<|au _) x aF) ?_;refine aB (aD<|gN T.O0 (vv T) O.mo {_} T.IE T.EJ .nil az (ac (aS bG Ca ae<|λ_ _=>M)<|ac (aS bG Ca ae<|λ_ _=>M) ai)) ?_
 intros
 refine aB (aD<|gN T.Lq (qH T) O.mo {_} T.Lr T.B8 .nil az (ac (aS bG Ca ae<|λ_ _=>M)<|ac (aS bG Ca ae<|λ_ _=>M) ai)) ?_
 intros
 let{U,Y}:=I.sc;rcases I.kd with rfl|rfl|rfl
 .refine{_,M,n,_,_,_,M,M,G,M,M,_,M,dU M {_,M,n,_,_,_,M,M,G,M,_,M,n,_,_,_,M,M,G,M,λx dx nx nd ne=>?_}};exact Er I.s U Y x dx nx nd λH' fs s h f=>{M,q H' x s nx ⟨dx,fs,h,f⟩}
 .refine{_,M,n,_,_,_,M,M,G,M,M,_,M,a6 (λz=>by cases z) {_,M,n,_,_,_,M,M,G,M,M,_,M,dU M {_,M,n,_,_,_,M,M,G,M,_,M,n,_,_,_,M,M,G,M,λx dx nx nd ne=>?_}}};exact Er I.u U Y x dx nx nd λH' fs s h f=>{M,q H' x s nx ⟨dx,fs,h,f⟩}
 .refine{_,M,n,_,_,_,M,M,G,M,M,_,M,a6 (λz=>by cases z) {_,M,n,_,_,_,M,M,G,M,M,_,M,a6 (λz=>by cases z) {_,M,n,_,_,_,M,M,G,M,_,M,n,_,_,_,M,M,G,M,λx dx nx nd ne=>?_}}};exact Er I.d U Y x dx nx nd λH' fs s h f=>{M,q H' x s nx ⟨dx,fs,h,f⟩}
def yW(K:FA):Sp:=λvs H Q _=>∃(n:G')(kd k:Int)(a e:V),vs=[.ref n,.int k]/\QO K H n [.int kd,a,e]/\Qp kd a e/\Q (.bl<|hN kd a e k) H
def qF:Ck P w K mg base PP 2 t.uj t.mZ [hL,lG] (yW K):=by
 refine T.nE.okl zn λs H vs Q E I h _=>?_;intro X;let{n,kd,k,a,e,rfl,O,G,q}:=h;refine aj (xB Ca<|El M<|je (RB 2)<|je (RB 3)<|je (RB 4) Bx)
   (bU (λx=>aO (ay bJ P8 ae<|au _) x aF) ?_)
 refine aB (aD<|fO (bI oM PR (aJ (zE T) I.mo {_} T.BK T.uy.kp T.B0 .nil az (ac M2 ai))<|au _)<|c7<|bI dW (aJ (zE T) I.mo {_} T.BK T.uy.kp T.B0 .nil az (ac M2 ai)) QI<|au _) ?_
 intros
 refine bU (λx=>aO (ay bJ P8 ae<|au _) x aF) ?_;refine aB (aD<|fO (bI oM PR M2<|au _)<|c7<|CG (bI eh QI bc<|au _)<|c7<|bI dW M2 QI<|au _) ?_
 intros
 refine aB (aD<|fO (bI oM QI M2<|au _)<|c7<|CG (bI eh PR bc<|au _)<|c7<|bI oM M2 PR<|au _) ?_
 intros
 refine{_,M,n,_,M,O,M,_,_,M,_,_,M,_,_,M,M,?_};rcases G.kd with rfl|rfl|rfl
 .let{i,j,rfl,rfl,_}:=G.s;have q:Q (.bl<|decide (i<=tz (k%65536))&&decide (tz (k%65536)<j)) H:=q;refine{_,M,M,_,M,dU M {_,M,_,M,k,M,_,_,M,M,_,M,bL (λc=>{_,M,k,M,_,M,_,_,M,M,?_})<|λc=>?_}}
  .rw[c,Vj]at q;exact q
  .rw[ZV.mpr c,XH]at q;exact q
 .refine{_,M,M,_,M,a6 (λz=>by cases z) {_,M,M,_,M,dU M ?_}};obtain⟨i,rfl,i0,rfl|⟨j,rfl,_⟩⟩:=G.u
  .have q:Q (.bl<|decide (i<=k)) H:=q;refine{_,M,_,M,_,_,M,M,_,M,bL (λc=>{_,M,M,_,M,dU M ?_})<|λc=>?_}
   .rw[c]at q;exact q
   .rw[ZV.mpr c]at q;exact q
  .have q:Q (.bl<|decide (i<=k)&&decide (k<j)) H:=q;refine{_,M,_,M,_,_,M,M,_,M,bL (λc=>{_,M,M,_,M,a6 (λz=>by cases z) {_,M,_,M,_,_,M,M,?_}})<|λc=>?_}
   .rw[c,Vj]at q;exact q
   .rw[ZV.mpr c,XH]at q;exact q
 .refine{_,M,M,_,M,a6 (λz=>by cases z) {_,M,M,_,M,a6 (λz=>by cases z) ?_}};obtain⟨j,rfl,U,rfl|⟨i,rfl,_⟩⟩:=G.d
  .have q:Q (.bl<|decide (j<=k)) H:=q;refine{_,M,_,M,_,_,M,M,_,M,bL (λc=>{_,M,M,_,M,dU M ?_})<|λc=>?_}
   .rw[c]at q;exact q
   .rw[ZV.mpr c]at q;exact q
  .have q:Q (.bl<|decide (j<=k)&&decide (k<=i)) H:=q;refine{_,M,_,M,_,_,M,M,_,M,bL (λc=>{_,M,M,_,M,a6 (λz=>by cases z) {_,M,_,M,_,_,M,M,?_}})<|λc=>?_}
   .rw[c,Vj]at q;exact q
   .rw[ZV.mpr c,XH]at q;exact q
def Ab:(0:Int)<10^(38:Int).toNat:=by decide
def My{i:Int}(G:0<=i)(h1:i<=11)(z:0<=m)(I:m<=65536):0<=i*m/\i*m<=720896:={Vt G z,Int.le_trans (Int.mul_le_mul h1 I z (_)) (_)}
def K3(H:Hp)(c n way:Int):St->Hp->Prop:=λW H'=>H=H'/\∃st:Int,W=[some (.int c),some (.int st),some (.int n),some (.int way),none]/\0<=st/\st<=10^38
def Cu:Sp:=λvs H Q _=>∃c:Int,vs=[.int c]/\∀(H':Hp)(r:G')(rs:O'),G3 H H'->H r=none->H' r=some (.lst<|rs.map V.int)->rs.length<=4->(∀k∈rs,0<=k/\k<10^39)->Q (.ref r) H'
def CL:Ck P w K mg base PP 2 t.yF t.sj [eH] Cu:=by
 refine T.EM.okl Q0 λs H vs Q E hr h _=>?_;intro X;let{c,rfl,q}:=h;refine bU (λx=>aO (ay bJ (ao aQ Ca ae) ae<|au _) x aF) ?_;refine aj (oK (i:=1) Q0.nd M (Or.inr M)<|ao aQ (ao aP Ca ae)<|ao kx ae ae)
   (aB (aD<|mK M (PM.of (M':=[qO]) (N:=[eH,"_law_start",wp,"_law_way","_law_step"]) (N':=[eH,"_law_start",wp,"_law_way","_law_step"]) (dsc:=ak iX) M M ∅) (iQ {_} T.lT (ac (ao bx ae<|ao aQ (ao aQ (ao aP Ca ae) ae) ae) ai))<|λ_ _ _ _ _=>(ao bx P8<|ao cT Ca<|aS (Jh K M) (cu<|ac ae<|ac ae<|ac ae<|ac ae<|ac ae ai) (ao aQ (ao aP M2 ae) ae)<|λ_ _=>M)) ?_)
 intros
 refine aj (PN 2<|aJ (qE T) hr.mo {_} T.BL T.uz.kp T.B6 .nil az (ac Ca<|ac ae ai))
   (aj (PN 3<|ao aQ P8 ae)
   (aj (oK (i:=1) Q0.nd M (Or.inr M)<|ao aQ (ao aP P8 ae) ae)
   (aj (aO (ay bJ PR ae<|au _)
    (aA<|oK (i:=1) Q0.nd M (Or.inr M)<|ao aQ (ao aP Ca ae)<|ao kx ae ae)
    aF)
   (aj (aO (ay bJ PR ae<|au _)
    (aA<|oK (i:=1) Q0.nd M (Or.inr M)<|ao cT ae<|ao aQ (ao aP P8 ae) ae)
    aF)
   (bU (λx=>aO (ay bJ PR ae<|au _) x aF) ?_)))))
 refine aB (oK (i:=1) Q0.nd M (Or.inr M)<|ao bx (ao cT ae<|ao aQ (ao aP P8 ae) ae)<|ao aQ (ao aP P8 ae) ae) ?_
 intros
 refine aj (aO (ay bJ PR ae<|au _)
    (aA<|oK (i:=1) Q0.nd M (Or.inr M)<|ao aQ (ao aP P8 ae) ae)
    aF)
   (aj (oK (i:=4) Q0.nd M (Or.inr M)<|aS aU (cu<|ac ae<|ac ae<|ac ae<|ac ae<|ac ae ai) (ao aQ (ao aP P8 ae) ae)<|λ_ _=>M)
   (aB (aD<|mK M (PM.of (M':=[qO]) (N:=[eH,"_law_start",wp,"_law_way","_law_step"]) (N':=[eH,"_law_start",wp,"_law_way","_law_step"]) (dsc:=ak iX) M M ∅) (iQ {_} T.lT (ac (ao bx ae<|ao aQ (ao aP P8 ae) ae) ai))<|λ_ _ _ _ _=>(ao bx P8<|ao cT Ca RC)) ?_))
 intros
 have two:(0:Int)<2:=by decide
 have a2:(10:Int)^(38:Int).toNat=10^38:=M;refine{_,M,_,_,M,M,two,M,_,M,bL (λz=>?_)<|λz=>?_}
 .have G:=Z2 (c/120) (ZU Ab);have s1:=Z0 (c/120) Ab;refine{_,M,_,_,M,M,{(_),(_)},_,_,M,M,{(_),(_),(_)},_,_,M,M,Ab,?_}
  (try dsimp only)
  generalize c/120%10^(38:Int).toNat=st at G s1⊢;rw[a2]at s1;have b0:=Z2 (c/2%12) (show(4:Int)≠0 by decide);have b1:=Z0 (c/2%12) (show(0:Int)<4 by decide);refine{_,M,_,_,M,M,{(_),(_)},_,_,M,M,(by show(0:Int)<12;decide),_,_,M,M,(by show(0:Int)<4;decide),_,_,M,M,?_}
  (try dsimp only)
  generalize c/2%12%4=m at b0 b1⊢;refine{1+m,M,(),(),λD hD=>sk (n:=(1+m).toNat) (lo:=0) (λi ys H2=>G3 H H2/\∃rs:List Int,ys=rs.map V.int/\rs.length=i/\∀k∈rs,0<=k/\k<10^39) {al hD,[],M,M,λ_ z=>WN z Xv} (λi ys H2 hi w I=>?_)<|λys H2 w I=>?_}
  .let{U,rs,rfl,lr,hb}:=w;let{sp,Y,p0,p1}:=Ag (c:=c/24) (n:=5) (L:=[.int 1,.int 3,.int 256,.int 65536,.int 5000]) (P:=λm=>0<=m/\m<=65536) {{(_),(_)},{(_),(_)},{(_),(_)},{(_),(_)},{(_),(_)},trivial} M (_);refine{_,M,_,M,(by show 5<=sizeLine;decide),λp np=>{_,M,_,_,M,M,{(_),(_)},_,_,M,M,(by show(0:Int)<5;decide),p,_,_,_,M,M,Kv.of ag,Y,_,_,M,M,.inr {(),()},_,_,M,M,?_}};have O:=al (o:= .lst [.int 1,.int 3,.int 256,.int 65536,.int 5000]) np
   (try dsimp only)
   generalize upd H2 p (.lst [.int 1,.int 3,.int 256,.int 65536,.int 5000])=H3 at O⊢;let{x0,x1}:=My (i:=0+(i:Int)) () () p0 p1;generalize (0+(i:Int))*sp=x at x0 x1⊢;refine QF.mk hi (O _ _ I) (cv<|by rw[Q1];lia) {b6 (U.trans O) hD,rs++ [st+x],by rw[Z6];rfl,by rw[Q8,lr];rfl,λk hk=>?_};rcases Q6.mp hk with hk|hk
   .exact hb k hk
   .rw[Q9.mp hk];constructor<;>lia
  .let{U,rs,rfl,lr,hb}:=w;exact q H2 D rs U hD I () hb
 clear z;refine{_,M,c,1,M,λn n0 n1=>?_};refine{_,M,_,_,M,M,(by show(0:Int)<5;decide),?_}
 (try dsimp only)
 generalize n%5=way;have G:=Z2 (n/5) (show(50:Int)≠0 by decide);have s1:=Z0 (n/5) (show(0:Int)<50 by decide);refine{_,M,_,_,M,M,{(_),(_)},_,_,M,M,(by show(0:Int)<50;decide),?_}
 (try dsimp only)
 generalize n/5%50=st at G s1⊢;refine dQ (K3 H c n way) (λnx go=>?_)<|λZ H1 w=>?_
 .refine{_,M,M,_,M,bL (λz=>?_)<|λz=>go _ _ {M,st,M,G,()}};have a0:=Z2 (c/5) (ZU Ab);have a1:=Z0 (c/5) Ab;refine{_,M,_,_,M,M,{(_),(_)},_,_,M,M,{(_),(_),(_)},_,_,M,M,Ab,go _ _ {M,_,M,a0,?_}};rw[a2]at a1⊢;lia
 clear G s1 st;let{rfl,st,rfl,G,s1}:=w;refine dQ (K3 H c n way) (λnx go=>?_)<|λZ H1 w=>?_
 .refine{_,M,M,_,M,bL (λz=>?_)<|λz=>go _ _ ⟨M,st,M,G,s1⟩};have a0:=Z2 (n/5) (show(40:Int)≠0 by decide);have a1:=Z0 (n/5) (show(0:Int)<40 by decide);exact{_,M,_,_,M,M,{(_),(_)},_,_,M,M,(by show(0:Int)<40;decide),_,_,M,M,.inl {(_),(_)},go _ _ {M,_,M,(),()}}
 clear G s1 st;let{rfl,st,rfl,G,s1}:=w;refine dQ (K3 H c n way) (λnx go=>?_)<|λZ H1 w=>?_
 .refine{_,M,M,_,M,bL (λz=>?_)<|λz=>go _ _ ⟨M,st,M,G,s1⟩};have a0:=Z2 (n/5) (show(9:Int)≠0 by decide);have a1:=Z0 (n/5) (show(0:Int)<9 by decide);have b0:=Z2 (n/45) (show(7:Int)≠0 by decide);have b1:=Z0 (n/45) (show(0:Int)<7 by decide);exact{_,M,_,_,M,M,{(_),(_)},_,_,M,M,(by show(0:Int)<9;decide),_,_,M,M,.inl {(_),(_)},_,M,_,_,M,M,{(_),(_)},_,_,M,M,(by show(0:Int)<7;decide),_,_,M,M,go _ _ {M,_,M,(),()}}
 clear G s1 st;let{rfl,st,rfl,G,s1}:=w;refine dQ (K3 H c n way) (λnx go=>?_)<|λZ H1 w=>?_
 .refine{_,M,M,_,M,bL (λz=>?_)<|λz=>go _ _ ⟨M,st,M,G,s1⟩};have a0:=Z2 (n/5) (show(3000:Int)≠0 by decide);have a1:=Z0 (n/5) (show(0:Int)<3000 by decide);exact{_,M,_,_,M,M,{(_),(_)},_,_,M,M,(by show(0:Int)<3000;decide),go _ _ {M,_,M,(),()}}
 clear G s1 st;let{rfl,st,rfl,G,s1}:=w;let{sp,Y,p0,p1}:=Ag (c:=n/20000) (n:=5) (L:=[.int 1,.int 3,.int 256,.int 65536,.int 5000]) (P:=λm=>0<=m/\m<=65536) {{(_),(_)},{(_),(_)},{(_),(_)},{(_),(_)},{(_),(_)},trivial} M (_);refine{(by show 5<=sizeLine;decide),λp np=>{_,M,_,_,M,M,{(_),(_)},_,_,M,M,(by show(0:Int)<5;decide),p,_,_,_,M,M,Kv.of ag,Y,?_}};have O:=al (o:= .lst [.int 1,.int 3,.int 256,.int 65536,.int 5000]) np
 (try dsimp only)
 generalize upd H p (.lst [.int 1,.int 3,.int 256,.int 65536,.int 5000])=H3 at O⊢;have b0:=Z2 (n/100000) (show(4:Int)≠0 by decide);have b1:=Z0 (n/100000) (show(0:Int)<4 by decide);refine{_,M,_,_,M,M,{(_),(_)},_,_,M,M,(by show(0:Int)<4;decide),_,_,M,M,?_}
 (try dsimp only)
 generalize n/100000%4=m at b0 b1⊢;refine{1+m,M,(),(),λD hD=>sk (n:=(1+m).toNat) (lo:=0) (λi ys H2=>G3 H3 H2/\∃rs:List Int,ys=rs.map V.int/\rs.length=i/\∀k∈rs,0<=k/\k<10^39) {al hD,[],M,M,λ_ z=>WN z Xv} (λi ys H2 hi w I=>?_)<|λys H2 w I=>?_}
 .let{U,rs,rfl,lr,hb}:=w;let{x0,x1}:=My (i:=0+(i:Int)) () () p0 p1;refine{_,M,_,M,_,M,_,_,M,M,.inr {(),()},_,_,M,M,?_}
  (try dsimp only)
  generalize (0+(i:Int))*sp=x at x0 x1⊢;refine QF.mk hi I (cv<|by rw[Q1];lia) {b6 U hD,rs++ [st+x],by rw[Z6];rfl,by rw[Q8,lr];rfl,λk hk=>?_};rcases Q6.mp hk with hk|hk
  .exact hb k hk
  .rw[Q9.mp hk];constructor<;>lia
 .let{U,rs,rfl,lr,hb}:=w;exact q H2 D rs (O.trans U) (cV O hD) I () hb
def Wh(F:K')(d:G'):Addr->Prop:=λb=>F b\/b=d
def Fr.wh{d:G'}(f:Fr F F' H H'):Fr (Wh F d) (Wh F' d) H H':=λb o n G=>{(f b o (λz=>n<|.inl z) G).1,λz=>z.elim (f b o (λz=>n<|.inl z) G).2 λz=>n<|.inr z}
def Fr.wd{d:G'}:Fr (Wh F d) (Wh F d) H (upd H d o):=λb o n G=>{by rwa[af λz=>n (.inr z)],n}
structure Jd(K:FA)(t:PL)(H:Hp)(a d:G')(F:K')(x:QA)(ds:List DR):Prop where
 A:QC K t H a F x
 di:H d=some (.dK<|aC x.st.kv)
 nd:¬F d
 kb:∀k∈x.st.kv.map (·.1),0<=k/\k<10^40
 iv:∀p∈x.st.kv,∃i:Int,p.2= .int i
 le:x.st.kv.length<=400
 dy:Ry x ds
 D:Rb ds
 tb:tbl ds=x.st.kv
 mx:∀y∈ds,∀m,y.r= .mark m->m<=x.ma
 fl:x.fl=0
 ho:x.ho=[]
def Ia{kv:R'}{i:Int}(h:∀p∈kv,∃i:Int,p.2= .int i):∀p∈bu kv k (.int i),∃i:Int,p.2= .int i:=λp z=>by
 unfold bu at z;split at z
 .let{q,hq,rfl}:=Z5.mp z;by_cases c:q.1=k
  .exact{i,by rw[WJ c]}
  .rw[WI c];exact h q hq
 .rcases Q6.mp z with y|y
  .exact h p y
  .rw[Q9.mp y];exact⟨i,M⟩
def Rb.snoc{y:DR}(D:Rb ds)(k0:∀k,y.r.key=some k->0<=k)(O:∀m,y.r= .mark m->∀z∈ds,z.r≠ .mark m)(Y:∀k,y.r= .drop k->(aH (tbl ds) k).isSome=true):Rb (ds++ [y]):=by
 have at_:∀(i:Nat)(z:DR),(ds++ [y])[i]?=some z->ds[i]?=some z\/(i=ds.length/\z=y):=λi z h=>by
  rcases Nat.lt_trichotomy i ds.length with c|c|c
  .rw[ZP c]at h;exact .inl h
  .rw[c,ZN (Q5 _),Wk]at h;exact .inr {c,(WL h).symm}
  .rw[XS (by rw[Q8,ZS];lia)]at h;cases h
 refine{λz hz k hk=>?_,λi j u v m hu Z G I=>?_,λi z k hz U=>?_}
 .rcases Q6.mp hz with h|h
  .exact D.kb z h k hk
  .rw[Q9.mp h]at hk;exact k0 k hk
 .rcases at_ i u hu with h1|⟨h1,rfl⟩<;>rcases at_ j v Z with h2|⟨h2,rfl⟩
  .exact D.un i j u v m h1 h2 G I
  .exact WN G<|O m I u (Q2 h1)
  .exact WN I<|O m G v (Q2 h2)
  .rw[h1,h2]
 .rcases at_ i z hz with h1|⟨h1,rfl⟩
  .rw[Zv (ZH (Q3.mp h1).1)];exact D.dr i z k h1 U
  .rw[h1,Zv (Q5 _),Zn];exact Y k U
def Ry.snoc{x:QA}{y:DR}(h:Ry x ds)(e:x'.di=x.di++ [(y.p,y.r.vs)]):Ry x' (ds++ [y]):=by
 unfold Ry at h⊢;rw[e,h,Z6];rfl
section
variable{d:G'}{x:QA}{i:Int}
def Jd.fr(J:Jd K t H a d F x ds)(A:QC K t H' a F' x)(f:Fr F F' H H'):Jd K t H' a d F' x ds:={A,(f _ _ J.nd J.di).1,(f _ _ J.nd J.di).2,J.kb,J.iv,J.le,J.dy,J.D,J.tb,J.mx,J.fl,J.ho}
def Jd.same(J:Jd K t H a d F x ds)(s:G3 H H'):Jd K t H' a d F x ds:=J.fr (J.A.same s) (Fr.of_same s)
def Jd.put(J:Jd K t H a d F x ds)(A:QC K t H' a F' x')(f:Fr F F' H H')(e:x'.st=x.st.put k (.int i))(m:x'.ma=x.ma)(e2:x'.di=x.di++ [(r,[.str "put",.int k,.int i])])(O:x'.fl=x.fl)(U:x'.ho=x.ho)(k0:0<=k/\k<10^40)(l:x.st.kv.length<=399):Jd K t (L2.upd H' d<|.dK<|aC<|bu x.st.kv k<|.int i) a d F' x' (ds++ [{r,.put k i}]):=by
 let{Y,I}:=f _ _ J.nd J.di;have G:x'.st.kv=bu x.st.kv k (.int i):=by rw[e];exact PD.three_kv
 refine{A.upd I (λxs z=>by rw[Y]at z;cases z),by rw[G];exact ag,I,λz hz=>?_,by rw[G];exact Ia J.iv,?_,J.dy.snoc e2,J.D.snoc (λz hz=>by cases hz;exact k0.1) (λ_ z=>by cases z) (λ_ z=>by cases z),?_,λy hy z hz=>?_,O.trans J.fl,U.trans J.ho}
 .rw[G,tP]at hz;split at hz
  .exact J.kb z hz
  .rcases Q6.mp hz with y|y
   .exact J.kb z y
   .rwa[Q9.mp y]
 .rw[G];have:=cy x.st.kv k (.int i);lia
 .rw[sH,J.tb,G];rfl
 .rw[m];rcases Q6.mp hy with h|h
  .exact J.mx y h z hz
  .rw[Q9.mp h]at hz;cases hz
def Jd.drop(J:Jd K t H a d F x ds)(A:QC K t H' a F' x')(f:Fr F F' H H')(e:x'.st=x.st.drop k)(m:x'.ma=x.ma)(e2:x'.di=x.di++ [(r,[.str "drop",.int k])])(U:x'.fl=x.fl)(Y:x'.ho=x.ho)(k0:0<=k)(hs:(aH x.st.kv k).isSome=true):Jd K t (L2.upd H' d<|.dK<|aC<|bQ x.st.kv k) a d F' x' (ds++ [{r,.drop k}]):=by
 let{Z,O}:=f _ _ J.nd J.di;have G:x'.st.kv=bQ x.st.kv k:=by rw[e];exact PD.three_kv
 have sub:∀p∈bQ x.st.kv k,p∈x.st.kv:=λp I=>(Zj.mp I).1;refine{A.upd O (λxs z=>by rw[Z]at z;cases z),by rw[G];exact ag,O,λz hz=>?_,by rw[G];exact λp I=>J.iv p<|sub p I,?_,J.dy.snoc e2,J.D.snoc (λz hz=>by cases hz;exact k0) (λ_ z=>by cases z) (λz hz=>by cases hz;rwa[J.tb]),?_,λy hy z hz=>?_,U.trans J.fl,Y.trans J.ho}
 .rw[G]at hz;let{p,I,rfl}:=Z5.mp hz;exact J.kb _<|Z5.mpr {p,sub p I,M}
 .rw[G];exact Zl (Zd _ _) J.le
 .rw[sH,J.tb,G];rfl
 .rw[m];rcases Q6.mp hy with h|h
  .exact J.mx y h z hz
  .rw[Q9.mp h]at hz;cases hz
def Jd.mark(J:Jd K t H a d F x ds)(A:QC K t H' a F' x')(h1:H' d=some (.dK<|aC x.st.kv))(h2:¬F' d)(e:x'.st=x.st)(m:x'.ma=x.ma+1)(e2:x'.di=x.di++ [(r,[.str "mark",.int (x.ma+1)])])(G:x'.fl=x.fl)(I:x'.ho=x.ho):Jd K t H' a d F' x' (ds++ [{r,.mark<|x.ma+1}]):=by
 refine{A,by rwa[e],h2,by rw[e];exact J.kb,by rw[e];exact J.iv,by rw[e];exact J.le,J.dy.snoc e2,J.D.snoc (λz hz=>by cases hz) (λz hz y hy h=>?_) (λ_ z=>by cases z),?_,λy hy z hz=>?_,G.trans J.fl,I.trans J.ho}
 .cases hz;have:=J.mx y hy _ h;lia
 .rw[sH,J.tb,e];rfl
 .rw[m];rcases Q6.mp hy with h|h
  .have:=J.mx y h z hz;lia
  .rw[Q9.mp h]at hz;cases hz;lia
def Jd.len(J:Jd K t H a d F x ds):(ds.length:Int)=x.now+x.ma:=by
 have:=J.A.ok.dl;rw[J.dy,Q1]at this;exact this
end
def Bj(K:FA)(t:PL):Sp:=λvs H Q _=>∃(a d:G')(c:Int)(F:K')(x:QA)(ds:List DR)(N:Nat),vs=[.ref a,.ref d,.int c]/\Jd K t H a d F x ds/\x.now+x.ma<3900/\x.st.kv.length<=N/\300<=N/\N<=390/\
 ∀(H':Hp)(F':K')(x':QA)(more:List DR),Jd K t H' a d F' x' (ds++more)->x'.now<=x.now+4->x'.ma=x.ma->x'.st.kv.length<=N->Fr (Wh F d) (Wh F' d) H H'->Q .non H'
def BG:Ck P w K mg base PP 7 t.vF t.pB [ge,pD,eH] (Bj K t):=by
 refine T.DB.okl Bs λs H vs Q E U h _=>?_;intro X;let{a,d,c,F,x,ds,N,rfl,J,l1,l0,N1,N2,q}:=h;refine aj (PN 3<|aJ (CL T) U.mo {_} T.NH T.EM.kp T.Oc .nil az (ac (ao aP P8 ae) ai))
   (lu (λx=>(d9 WX M (iQ {_} T.lT (ac (aI aE {_} T.bT bi (ac PR ai)) ai)) (RB 4)
    x)) ?_)
 refine E8 (λx y=>aO (ay bJ (ao aQ P8 ae) ae<|au _) x y) ?_;refine lu (λx=>aO (Ei<|Em (iz U) (aS aU PR QI<|λ_ _=>M) M2) x aF) ?_;refine aj (aM<|aT Ca T.aV T.Ki (xQ T) U.mo T.Kt .nil az<|ac (aS aU PR QI<|λ_ _=>M) ai)
   (aB (aM<|dH Zy XA Ve BH M2<|ac (aS aU PR QI<|λ_ _=>M) ai) ?_)
 intros
 refine lu (λx=>aO (ay dW (aI GW {_} T.bT bi (ac M2 ai)) ae<|au _) x aF) ?_;refine aj (PN 5<|ao cT (ao aQ (ao bx (ao aP P8 ae) QI)<|ao kx ae ae)<|aS aU (cu<|ac ae<|ac (Ij DY ae) ai) (ao aQ (ao aP P8 ae) ae)<|λ_ _=>M)
   (bU (λx=>aO (ay bJ (ao aQ (ao aP P8 ae) ae) ae<|au _) x aF) ?_)
 refine aB (PN 5<|ao jf (ao aQ (ao bx (ao CJ P8<|ao cT ae<|ao kx ae ae) QI)<|ao cT ae<|ao kx ae ae)<|ao kx ae ae) ?_
 intros
 refine aj (aM<|aT Ca T.aV T.Lz (zK T) U.mo T.LX .nil az<|ac (aS aU PR QI<|λ_ _=>M)<|ac RC ai)
   (aB (jK (iz U) M2 (aS aU PR QI<|λ_ _=>M) RC M) ?_)
 intros
 refine{_,M,_,_,M,M,{(_),(_)},_,M,λH1 r rs s1 nr U lr rb=>?_};have J1:=J.same s1;have nF:¬F r:=J.A.out nr;have a2:r≠d:=am J.di nr|>.symm;refine{_,M,r,_,M,.inl<|Kv.of U,?_};rw[Q1];refine{(rs.length:Int),M,(),(),rZ (n:=(rs.length:Int).toNat) (λi W H'=>∃(F':K')(x':QA)(more:List DR)(v4 v5:Su),W=[some (.ref a),some (.ref d),some (.int c),some (.ref r),v4,v5]/\Jd K t H' a d F' x' (ds++more)/\x'.now<=x.now+i/\x'.ma=x.ma/\x'.st.kv.length<=N/\Fr (Wh F d) (Wh F' d) H1 H') {F,x,[],none,none,M,(by rwa[ZL]),(),M,l0,Fr.refl} (λi W H2 hi w=>?_)<|λW H2 w=>?_}
 .let{Z,G,mo,v4,v5,rfl,I,l2,m2,e2,Y}:=w;let{O,a0}:=Y _ _ (λz=>z.elim nF a2) U;have hi':i<rs.length:=();obtain⟨k,ek⟩:∃k,rs[i]?=some k:={_,Q4 hi'};let{k0,k1}:=rb k (Q2 ek);have at1:RM (rs.map V.int) (0+(i:Int))=some (.int k):=by
   rw[Int.zero_add];refine qj ?_;rw[Zf,ek];rfl
  let{a3,a4,a5,a9,_}:=I.A.ins;refine{_,M,_,_,M,M,(by show(0:Int)<4;decide),M,_,M,bL (λz=>?_)<|λz=>?_}
  .refine{_,M,_,M,r,_,_,_,M,M,Kv.of O,at1,_,M,d,_,M,Qh.k (k:=Sum.inl k) I.di,_,M,?_};rw[P9];cases ev:aH G.st.kv k with
   |none=>exact cm {Z,G,mo,_,_,M,I,(),m2,e2,Y}
   |some v=>
    refine b8 {_,M,a,a3,a4,M,a5,a9 _ ∅,_,M,_,M,r,_,_,_,M,M,Kv.of O,at1,a,k,Z,G,M,I.A,k0,(),λ_ H3 F3 b3 r3 q3 b4 A3 N3 f3=>?_,λz=>by rw[ev]at z;cases z};let{d3,n3}:=f3 _ _ I.nd I.di;let{aa,b5}:=f3 _ _ (λz=>a0<|.inl z) O;refine{_,M,.inr<|.inr<|.inl {M,.inl {_,d3}},_,M,_,M,r,_,_,_,M,M,Kv.of aa,at1,d,_,Sum.inl k,v,M,M,d3,P9.trans ev,?_};rw[mQ];have J3:=I.drop A3 f3 M M M M M k0 (by rw[ev];rfl);rw[Z9]at J3;exact{F3,_,_,_,_,M,J3,by show G.now+1<=_;lia,m2,by rw[show(G.st.drop k).kv=bQ G.st.kv k from PD.three_kv];exact Zl (Zd _ _) e2,(Y.trans f3.wh).trans Fr.wd}
  .refine{_,M,d,_,M,I.di,_,_,M,M,_,M,bL (λy=>?_)<|λy=>{Z,G,mo,_,_,M,I,(),m2,e2,Y}};have y:=WP y;rw[a8]at y;refine dQ (λW H'=>∃v:Int,W=[some (.ref a),some (.ref d),some (.int c),some (.ref r),some (.int<|0+(i:Int)),some (.int v)]/\G3 H2 H') (λnx go=>?_)<|λW H3 w=>?_
   .let{sg,ah,g0}:=Ag (c:=c/16) (n:=2) (L:=[.int 1,.int (-1)]) (P:=λm=> -2<m/\m<2) {{(_),(_)},{(_),(_)},trivial} M (_);exact{_,M,_,_,M,M,{(_),(_)},_,M,_,_,M,M,_,_,M,M,{(_),(_),(_)},_,_,M,M,wJ,_,M,(by show 2<=sizeLine;decide),λp np=>{_,M,_,_,M,M,{(_),(_)},_,_,M,M,(by show(0:Int)<2;decide),p,_,_,_,M,M,Kv.of ag,ah,_,_,M,M,.inr {(),()},go _ _ {_,M,al np}}}
   let{v,rfl,s3}:=w;refine dQ (λW H'=>∃v:Int,W=[some (.ref a),some (.ref d),some (.int c),some (.ref r),some (.int<|0+(i:Int)),some (.int v)]/\G3 H2 H') (λnx go=>?_)<|λW H4 w=>?_
   .refine{_,M,_,_,M,M,{(_),(_)},_,_,M,M,(by show(0:Int)<2;decide),M,_,M,bL (λ_=>?_)<|λ_=>go _ _ ⟨v,M,s3⟩};exact{_,M,_,_,M,M,{(_),(_),(_)},_,_,M,M,.inl {(_),(_)},_,_,M,M,{(_),(_)},_,M,_,_,M,M,_,_,M,M,{(_),(_),(_)},_,_,M,M,.inl {(_),(_)},_,_,M,M,(by show(0:Int)<2*10^(39:Int).toNat;decide),_,_,M,M,{(_),(_),(_)},_,_,M,M,go _ _ {_,M,s3}}
   clear s3 v;let{v,rfl,s4}:=w;have J4:=I.same s4;let{an,aw,ax,b1,_}:=J4.A.ins;have a1:=s4 _ _ O;refine{_,M,a,an,aw,M,ax,b1 _ ∅,_,M,_,M,r,_,_,_,M,M,Kv.of a1,at1,_,M,a,k,v,Z,G,M,J4.A,k0,(),λH5 F5 b9 r5 q5 ba A5 N5 f5=>?_};let{d5,n5}:=f5 _ _ J4.nd J4.di;let{b2,bb}:=f5 _ _ (λz=>a0<|.inl z) a1;refine{_,M,_,M,_,M,_,M,r,_,_,_,M,M,Kv.of b2,at1,d,_,M,Qs.k (k:=Sum.inl k) d5 (by rw[a8];exact bh ()),?_};rw[cw];have J5:=J4.put A5 f5 M M M M M {k0,()} ();rw[Z9]at J5;exact{F5,_,_,_,_,M,J5,by show G.now+1<=_;lia,m2,by rw[show(G.st.put k<|.int v).kv=bu G.st.kv k (.int v) from PD.three_kv];have:=cy G.st.kv k (.int v);lia,(Y.trans<|(Fr.of_same s4).trans f5.wh).trans Fr.wd}
 .let{Z,G,mo,v4,v5,rfl,I,l2,m2,e2,Y}:=w;exact q H2 Z G mo I () m2 e2<|(Fr.of_same s1).trans Y
theorem HC:∀{l:List DR}{R1:R'},(∀p∈R1,∃i:Int,p.2= .int i)->∀p∈l.foldl ap R1,∃i:Int,p.2= .int i
 | [],_,h=>h
 |d::r,R1,h=>HC (l:=r) (R1:=ap R1 d) λp z=>by
  unfold ap at z;cases c:d.r with
  |put k v=>rw[c]at z;exact Ia h p z
  |drop k=>rw[c]at z;exact h p (Zj.mp z).1
  |mark m=>rw[c]at z;exact h p z
def LE{a b:R'}(G:(a.map (·.1)).Nodup)(I:(b.map (·.1)).Nodup)(h:∀k,aH a k=aH b k):a.Perm b:=by
 refine(Vu ((ZE.mp G).imp λh e=>h<|by rw[e])<|(ZE.mp I).imp λh e=>h<|by rw[e]).mpr λp=>{λz=>?_,λz=>?_}
 .have:=bC G (k:=p.1) (v:=p.2) z;rw[h]at this;exact bH this
 .have:=bC I (k:=p.1) (v:=p.2) z;rw[<-h]at this;exact bH this
def HN{a b:O'}(h:a.Perm b):a.sum=b.sum:=by
 induction h with
 |nil=>rfl
 |cons x _ z=>rw[W9,W9,z]
 |swap x y l=>simp only[W9];lia
 |trans _ _ G I=>exact G.trans I
def Rb.key(D:Rb ds)(h:k∈(tbl<|ds.take n).map (·.1)):0<=k:=by
 let{z,hz,G}:=Cn h;exact D.kb z (ZB hz) k G
def LM(X:PX)(kd:Int)(av e:V)(ds:List DR):List (Int×V):=(tbl<|ds.take X.n).filter λp=>X.cov kd av e p.1
def yp{kv:R'}{f:Sw}(nd:(kv.map (·.1)).Nodup):aH (kv.filter λp=>f p.1) k=if f k=true then aH kv k else none:=by
 have z:((kv.filter λp=>f p.1).map (·.1)).Nodup:=nd.sublist (XG.map _);by_cases c:f k=true
 .rw[WJ c];cases h:aH kv k with
  |some v=>exact bC z<|Zj.mpr {bH h,c}
  |none=>
   cases h2:aH (kv.filter λp=>f p.1) k with
   |none=>rfl
   |some v=>
    have:=bC nd (Zj.mp<|bH h2).1;rw[h]at this;cases this
 .rw[WI c];cases h2:aH (kv.filter λp=>f p.1) k with
  |none=>rfl
  |some v=>exact WN (Zj.mp<|bH h2).2 c
def Inv.due{kd:Int}(I:Inv kd av e ds X)(D:Rb ds):X.cp.Perm (LM X kd av e ds):=by
 have z:=D4 (l:=ds.take X.n);refine LE I.nd (z.sublist<|XG.map _) λk=>?_;unfold LM;rw[yp z];by_cases k0:0<=k
 .exact I.cp k k0
 .have h1:aH X.cp k=none:=by
   cases c:aH X.cp k with
   |none=>rfl
   |some v=>exact WN (I.kp k<|mem_keys.mpr<|by rw[c];rfl) k0
  have h2:aH (tbl<|ds.take X.n) k=none:=by
   cases c:aH (tbl<|ds.take X.n) k with
   |none=>rfl
   |some v=>exact WN (D.key<|mem_keys.mpr<|by rw[c];rfl) k0
  rw[h1,h2,ite_self]
def MD{kv:R'}(h:∀p∈kv,∃i:Int,p.2= .int i):kv.map (·.2)=(kv.map λp=>RZ p.2).map V.int:=by
 rw[Zp];refine Xo λp z=>?_;let{i,G}:=h p z;show p.2=V.int (RZ p.2);rw[G];rfl
def Dg{P:Sw}{xs:R'}{p:Int×V}(e:xs[i]?=some p):(xs.take<|i+1).filter (λp=>P p.1)=(xs.take i).filter (λp=>P p.1)++(if P p.1=true then[p]else[]):=by
 rw[Zg,e,Zt];by_cases c:P p.1=true
 .rw[WJ c];simp[c]
 .rw[WI c];simp[c]
def Ft{P:Sw}{xs:R'}{y:Int}(nd:(xs.map (·.1)).Nodup)(e:xs[i]?=some (y,v)):aH ((xs.take i).filter<|λp=>P p.1) y=none:=by
 cases c:aH ((xs.take i).filter<|λp=>P p.1) y with
 |none=>rfl
 |some w=>
  exfalso;have h:=(Zj.mp<|bH c).1;let{G,I,z}:=Zu h;rw[Q7]at I;rw[XT]at z;let{hi,O}:=Q3.mp e;have w:=ZW.mp nd G i (by rw[Q1];lia) (by rwa[Q1]) ();rw[List.getElem_map,List.getElem_map,z,O]at w;exact w M
def tkF{kd:Int}(T:Txt K mg t)(h:kd=0\/kd=1\/kd=2):Qv K (SQ t kd)/\Ku K (SQ t kd) qP/\Ku K (SQ t kd) t7:=by
 rcases h with rfl|rfl|rfl
 .exact⟨T.bZ,T.kC,T.cN⟩
 .exact⟨T.jB,T.tJ,T.lw⟩
 .exact⟨T.cW,T.ji,T.jP⟩
def vL(K:FA)(t:PL):Sp:=λvs H Q _=>∃(n:G')(kd k:Int)(av e rv ra:V),vs=[.ref n,rv,.int k]/\H n=some (.tup [.int kd,av,e])/\Qp kd av e/\RG t H rv kd ra e/\∀H',G3 H H'->Q (.bl<|hN kd av e k&&!hO rv kd ra e k) H'
def nI:Ck P w K mg base PP 3 t.pQ t.jv [eR,"_law_rest",lG] (vL K t):=by
 refine T.jE.okl vW λs H vs Q E I h _=>?_;intro X;let{n,kd,k,av,e,a0,ra,rfl,O,on,TO,q}:=h;refine aj (aO (eY<|bF<|aJ (qF T) I.mo {_} T.tN T.nE.kp T.uc .nil az (ac Ca<|ac P8 ai))
    (aA<|aD lh)
    aF)
   (aB (aD<|CG (bI eh M2 bc<|au _)<|c7<|BA<|aJ (qF T) I.mo {_} T.tN T.nE.kp T.uc .nil az (ac (bY<|ac (aS bG Ca ae<|λ_ _=>M)<|ac (ar M2 M)<|ac (ar M2 M) ai)<|ac P8 ai)) ?_)
 intros
 refine{_,M,_,M,n,kd,k,av,e,M,QO.of O,on,_,M,?_};cases c:hN kd av e k with
 |false=>
  rw[c]at q;exact b8<|q _ (G3.refl _)
 |true=>
  rw[c]at q;refine cm ?_;unfold hO at q;rcases TO with rfl|⟨p,rfl,⟨U,fr,G,tr⟩,Y⟩
  .rw[WJ M]at q;exact{_,M,M,_,M,dU M<|q _ (G3.refl _)}
  rw[WI (by intro z;cases z)]at q;let{Z,c2,c3}:=tkF T Y.kd;refine{_,M,M,_,M,a6 (λz=>by cases z) {_,M,n,_,_,_,M,M,QO.of O,M,_,M,p,_,U,fr,_,M,G,Z,c2,tr.at_,_,M,p,_,U,fr,_,M,G,Z,c3,tr.end_,(by show 3<=sizeLine;decide),λm nm=>?_}};exact{_,M,m,kd,k,ra,e,M,QO.of ag,Y,_,M,q _<|al nm}
def yT(K:FA):Sp:=λvs H Q _=>∃(l:G')(ds:List DR),vs=[.ref l]/\H l=some (.lst<|ds.map λd=>V.ref d.p)/\(∀d∈ds,H d.p=some (.tup d.r.vs))/\(∀(i:Nat)(x:DR)(k:Int),ds[i]?=some x->x.r= .drop k->(aH (tbl<|ds.take i) k).isSome=true)/\ds.length<=5000/\
 ∀(H':Hp)(r:G'),G3 H H'->H r=none->H' r=some (.dK<|aC<|tbl ds)->Q (.ref r) H'
def zD:Ck P w K mg base PP 1 t.ug t.mW ["_law_rows"] (yT K):=by
 refine T.Cd.okl zi λs H vs Q E G h _=>?_;intro X;let{l,ds,rfl,hl,tu,dr,ln,q}:=h;refine aj (PN 1 eO)
   (bU (λx=>(d9 WX M (dj Ca) (RB 2)
    x)) ?_)
 refine aj (aO (ay bJ (aS bG P8 ae<|λ_ _=>M) fN<|au _)
    (aA<|jK (iz G) M2 (aS bG P8 ae<|λ_ _=>M) (aS bG P8 ae<|λ_ _=>M) M)
    aF)
   (lu (λx=>aO (ay bJ (aS bG P8 ae<|λ_ _=>M) fN<|au _) x aF) ?_)
 refine aB (aM<|dH Zy XA Ve BH M2<|ac (aS bG P8 ae<|λ_ _=>M) ai) ?_
 intros
 refine aB (aD M2) ?_
 intros
 refine λr nr=>?_;have s1:=al (o:= .dK []) nr;have h1:upd H r (.dK []) r=some (.dK []):=ag;generalize upd H r (.dK [])=H1 at s1 h1⊢;have lr:l≠r:=am hl nr;refine{_,M,l,M,{_,Kv.of<|s1 _ _ hl},iR (K:=K) (a:=l) (xs:=ds.map λd=>V.ref d.p) (λi W H'=>∃Y:Option V,W=[some (.ref l),some (.ref r),Y]/\(∀b o,b≠r->H1 b=some o->H' b=some o)/\H' r=some (.dK<|aC<|tbl<|ds.take i)) {none,M,λ_ _ _ h=>h,h1} (λi W H' _ w=>by let{_,_,k,_}:=w;exact Kv.of<|k _ _ lr<|s1 _ _ hl) (λi u W H' hu w'=>?_)<|λW H' w'=>?_}
 .let{Y,rfl,O,G}:=w';obtain⟨d,rfl,U⟩:∃d,u=V.ref d.p/\ds[i]?=some d:=by
   rw[Zf]at hu;cases c:ds[i]? with
   |none=>rw[c]at hu;cases hu
   |some e=>rw[c]at hu;cases hu;exact⟨e,M,M⟩
  have Z:=tu d (Q2 U);have te:=O _ _ (am Z nr) (s1 _ _ Z);have I:=wK U;have hi:=(Q3.mp U).1;have lt:=wz (l:=ds.take i);rw[Q7]at lt;have a0:=dr i d;unfold dA
  (try dsimp only)
  unfold ap at I;cases hd:d.r with
  |mark m=>
   rw[hd]at te I;refine{_,M,d.p,_,_,_,M,M,QO.of te,M,M,_,M,a6 (λz=>WN (V.str.inj z) ∅) {_,M,d.p,_,_,_,M,M,QO.of te,M,M,_,M,a6 (λz=>WN (V.str.inj z) ∅) {_,M,O,?_}}};rwa[I]
  |put k v=>
   rw[hd]at te I;refine{_,M,d.p,_,_,_,M,M,QO.of te,M,M,_,M,dU M {_,M,d.p,_,_,_,M,M,QO.of te,M,_,M,_,M,d.p,_,_,_,M,M,QO.of te,M,r,_,M,Qs.k (k:=Sum.inl k) G (by rw[a8];exact bh ()),?_}};rw[cw];have a1:d.p≠r:=am Z nr;refine{_,M,d.p,_,_,_,M,M,QO.of (by rwa[af a1]),M,M,_,M,a6 (λz=>WN (V.str.inj z) ∅) {_,M,λb o n e=>by rw[af n];exact O b o n e,?_}};rw[I];exact ag
  |drop k=>
   rw[hd]at te I;let{v,hv}:=XY.mp (a0 k U hd);refine{_,M,d.p,_,_,_,M,M,QO.of te,M,M,_,M,a6 (λz=>WN (V.str.inj z) ∅) {_,M,d.p,_,_,_,M,M,QO.of te,M,M,_,M,dU M {_,M,.inr<|.inr<|.inl {M,.inl {_,G}},_,M,d.p,_,_,_,M,M,QO.of te,M,r,_,Sum.inl k,v,M,M,G,P9.trans hv,?_}}};rw[mQ];refine{_,M,λb o n e=>by rw[af n];exact O b o n e,?_};rw[I];exact ag
 .let{Y,rfl,O,G}:=w';rw[Q1,Zn]at G;exact{_,M,q _ r (λb o e=>O b o (am e nr)<|s1 _ _ e) nr G}
def uD(K:FA)(t:PL):Sp:=λvs H Q _=>∃(c a p dd n:G')(kd:Int)(av e:V)(X:PX)(F:K')(x:QA)(ds:List DR),vs=[.ref c,.ref a,.ref n]/\QD t H c a p dd kd av e X/\QC K t H a F x/\Ry x ds/\Inv kd av e ds X/\Rb ds/\ds.length<=5000/\H n=some (.tup [.int kd,av,e])/\∀H',G3 H H'->Q (.bl true) H'
set_option tactic.hygienic true in
def uW:Ck P w K mg base PP 6 t.nN t.ig [ff,ge,eR] (uD K t):=by
 refine T.ww.okl uI λs H vs Q E G h _=>?_;intro X;let{c,a,p,dd,n,kd,av,e,X',F,x,ds,rfl,C,A,dy,I,D,dl,hn,q}:=h;refine aj (PN 3<|bq M2 T.aV T.oY (g9 T) G.mo T.ir.choose_spec.1 T.ir.choose_spec.2 az)
   (aj (PN 4<|bq Ca T.aw T.Hd (uZ T) G.mo T.Hm .nil az)
   (aj (PN 5<|bq Ca T.aw T.fS (hJ T) G.mo T.gh .nil az)
   (aj (aO (PW.pt<|jJ (eY<|bF<|aI jR {_} T.dO cG (ac QI<|ac (wA (v:= .ty "int") {_} T.Oy JO M) ai))<|jJ (bF<|aI jR {_} T.dO cG (ac QI<|ac (wA (v:= .ty "bool") {_} T.MU FC M) ai))<|jJ (ay dW QI ae<|au _)<|jc<|ay Al QI (aI aE {_} T.bT bi (ac PR ai))<|au _)
    (aA<|aD lh)
    aF)
   (aj (PN 6<|aJ (zD T) G.mo {_} T.LC T.Cd.kp T.LR .nil az (ac (eK gK PR iG<|fL QI) ai))
   (aj (PN 7 eO)
   (bU (λx=>(tq (d9 WX M (E3 RO) (RB 8)
    x))) ?_))))))
 refine aB (aO (bF<|aJ (nI T) G.mo {_} T.pc T.jE.kp T.pH .nil az (ac P8<|ac RC<|ac SV ai))
    (aA<|jK (iz G) Rp SV (BB (iz G) RO SV<|λ_ _=>M) M)
    aF) ?_
 intros
 refine bU (λx=>(d9 WX M (dj<|eK gK (gx (yx G.hd) {_} T.Ht BY (ac RO ai)) iG<|fL ae) (RB 8)
    x)) ?_
 refine aj (PN 9<|aT Ca T.aw T.va (jO T) G.mo T.vo .nil az<|ac SV ai)
   (aB (aO (PW.pt<|jJ (PW.pt<|eV (ay Ak pv9 lh<|au _)<|dh<|ay Ak pv9 lh<|au _)<|jc<|ay Mx pv9 (Il<|Em (iz G) SV Rp)<|au _)
    (aA<|aD lh)
    aF) ?_)
 intros
 refine aB (aD<|fO (bI (E7 G.u20) (bq Ca T.aw T.xZ (nK T) G.mo T.yC .nil az) Rp<|au _)<|c7<|bI bJ (bq Ca T.aw T.Hc (uY T) G.mo T.Hl .nil az) (aI (AM G.hd) {_} T.Ov JN (ac (xD Zy XZ VB u7 Rp) ai))<|au _) ?_
 intros
 let{da,fa,ha,hm,_}:=A.ins;refine{_,M,a,da,fa,M,ha,hm _ ∅,a,0,F,x,M,A,Xs _,λH1 r s1 nr G=>?_};unfold Ry at dy;rw[show(0:Int).toNat=0 from rfl,Xj,dy,Zp]at G;have G:H1 r=some (.lst<|ds.map λd=>V.ref d.p):=G;have C1:=C.same s1;let{d1,h1}:=C1.ob;have b3:∀d∈ds,H1 d.p=some (.tup d.r.vs):=λd hd=>(A.same s1).di (d.p,d.r.vs) (by rw[dy];exact Z5.mpr ⟨d,hd,M⟩);have be:=s1 _ _ hn;have il:=I.le;refine{_,M,c,d1,_,M,h1,{_},c,a,p,dd,kd,av,e,X',M,C1,_,M,c,d1,_,M,h1,{_},c,a,p,dd,kd,av,e,X',M,C1,?_};refine{_,M,_,_,_,_,M,QG.int _,Je,_,M,cm {_,M,_,_,_,_,M,QG.int _,Jf,_,M,cm {_,M,_,_,M,M,_,M,?_}}};rw[WU (show ¬(X'.n:Int)<0 by lia)];refine cm {_,M,_,M,r,_,M,.inl<|Kv.of G,_,_,M,M,_,M,?_};rw[Q1,WU (show ¬(X'.n:Int)>(ds.length:Int) by lia)];refine cm ?_;unfold sI
 (try dsimp only)
 refine{_,M,_,M,_,M,r,_,M,Kv.of G,λl nl=>?_};rw[lH (),<-Xg,Zx];have s2:=al (o:= .lst<|(ds.take X'.n).map λd=>V.ref d.p) nl;have h2:upd H1 l (.lst<|(ds.take X'.n).map λd=>V.ref d.p) l=some (.lst<|(ds.take X'.n).map λd=>V.ref d.p):=ag;generalize upd H1 l (.lst<|(ds.take X'.n).map λd=>V.ref d.p)=H2 at s2 h2⊢;refine{l,ds.take X'.n,M,h2,λd hd=>s2 _ _<|b3 d<|ZB hd,λi x k hx hk=>?_,by rw[Q7];lia,λH3 tb s3 c0 Y=>?_}
 .rw[V4]at hx;split at hx
  .rename_i hi
   rw[VW,Xn (ZH hi)];exact D.dr i x k hx hk
  .cases hx
 have s4:=(s1.trans s2).trans s3;have C3:=C.same s4;have a2:=s4 _ _ hn;have nt:=D4 (l:=ds.take X'.n);have tl:=wz (l:=ds.take X'.n);have b4:∀k∈(tbl<|ds.take X'.n).map (·.1),0<=k:=λk hk=>D.key hk;have b5:∀p∈tbl (ds.take X'.n),∃i:Int,p.2= .int i:=HC λ_ z=>by cases z
 have pm:=I.due D;unfold LM at pm;rw[Q7]at tl;have bf:tb≠n:=λz=>by rw[z,a2]at Y;cases Y
 clear s1 s2 s3 h2 b3 G h1 C1 be nl nr ha hm dy;generalize tbl (ds.take X'.n)=kv at Y nt tl b4 b5 pm;refine λb nb=>?_;have a3:b≠tb:=λz=>by rw[z,Y]at nb;cases nb
 have sb:=al (o:= .dK []) nb;have a0:upd H3 b (.dK []) b=some (.dK []):=ag;have U:=sb _ _ Y;have s5:=s4.trans sb;generalize upd H3 b (.dK [])=b9 at sb a0 U s5⊢;refine{tb,_,U,_,M,tb,_,M,U,λob=>AE (ob:=ob) (d:=tb) (kvs:=aC kv) (λi W H'=>∃v9:Option V,W=[some (.ref c),some (.ref a),some (.ref n),some (.ref r),some (.int X'.n),some X'.rv,some (.ref tb),some (.ref b),v9,none]/\(∀c o,c≠b->c≠tb->b9 c=some o->H' c=some o)/\H' tb=some (.frz ob<|.dK<|aC kv)/\H' b=some (.dK<|aC<|(kv.take i).filter λp=>X'.cov kd av e p.1)) ?_ (λi W H' _ w=>?_) (λi k v W H' hk w=>?_)<|λW H' w=>?_}
 .exact{_,M,λc o _ n2 h=>by rwa[af n2],ag,by rwa[af a3]}
 .let{_,_,_,h,_}:=w;exact h
 .let{v9,rfl,kp,Z,O}:=w;let{y,rfl,eg}:=qc hk;have ym:=Q2 eg;have n1:n≠b:=λz=>by have h:=sb _ _ a2;rw[z,a0]at h;cases h
  have bl:=kp _ _ n1 (Ne.symm bf) (sb _ _ a2);have st:=Dg (P:=λz=>X'.cov kd av e z) eg;have bn:RG t H' X'.rv kd X'.ra e:=by
   rcases(C3.same sb).rt with h|⟨q',h1,⟨dx,fs,h2,h3⟩,h4⟩
   .exact .inl h
   .exact .inr {q',h1,{dx,fs,kp _ _ (cx h2 a0 λz=>by cases z) (cx h2 U λz=>by cases z) h2,h3},h4}
  unfold dA
  (try dsimp only)
  refine{_,M,_,M,_,M,n,kd,y,av,e,X'.rv,X'.ra,M,bl,C.tk.2,bn,λH2 s2=>{_,M,?_}};have ba:∀c o,c≠b->c≠tb->b9 c=some o->H2 c=some o:=λc o h1 h2 h3=>s2 _ _ (kp c o h1 h2 h3);cases cc:X'.cov kd av e y with
  |false=>
   rw[cc]at st;have cc:(hN kd av e y&&!hO X'.rv kd X'.ra e y)=false:=cc;rw[cc];exact cm {_,M,ba,s2 _ _ Z,by rw[s2 _ _ O,st];simp}
  |true=>
   have c2:(hN kd av e y&&!hO X'.rv kd X'.ra e y)=true:=cc;rw[c2];have g2:Qh H2 tb (.int y) (some v):= .inl {_,Sum.inl y,.inr {ob,s2 _ _ Z},M,by rw[P9,bC nt ym]};have p2:=Qs.k (k:=Sum.inl y) (v:=v) (s2 _ _ O) (by rw[a8];have h1:=Zd (λp:Int×V=>X'.cov kd av e p.1) (kv.take i);rw[Q7]at h1;exact bh ());rw[cw,tm v (Ft (P:=λz=>X'.cov kd av e z) nt eg),show[(y,v)]=(if X'.cov kd av e y=true then[(y,v)]else[]) by rw[cc];rfl,<-st]at p2;refine b8 {_,M,_,M,tb,_,M,g2,_,M,_,M,b,_,M,p2,?_};exact{_,M,λc o h1 h2 h3=>by rw[af h1];exact ba c o h1 h2 h3,by rw[af (Ne.symm a3)];exact s2 _ _ Z,ag}
 let{v9,rfl,kp,Z,O}:=w;refine{ob,Z,?_};rw[a8,Zn]at O;have a1:upd H' tb (.dK<|aC kv) tb=some (.dK<|aC kv):=ag;have a4:upd H' tb (.dK<|aC kv) b=some (.dK<|aC<|kv.filter λp=>X'.cov kd av e p.1):=by rwa[af a3]
 have s6:G3 H3 (upd H' tb<|.dK<|aC kv):=λz o ez=>by
  by_cases c:z=tb
  .rwa[c,ag,<-Y,<-c]
  .rw[af c];exact kp z o (am ez nb) c<|sb _ _ ez
 generalize upd H' tb (.dK<|aC kv)=H6 at a1 a4 s6⊢;have s7:=s4.trans s6;clear kp Z O s5 sb a0 U
 (try dsimp only)
 refine{_,M,tb,_,M,.inl a1,λl6 a5=>?_};rw[show tQ (aC kv)=(kv.map (·.1)).map V.int from Ay];have h6:upd H6 l6 (.lst ((kv.map (·.1)).map V.int)) l6=some (.lst ((kv.map (·.1)).map V.int)):=ag;have s8:=s7.trans (al (o:= .lst ((kv.map (·.1)).map V.int)) a5);have a9:=al (o:= .lst ((kv.map (·.1)).map V.int)) a5 _ _ a4;generalize upd H6 l6 (.lst ((kv.map (·.1)).map V.int))=H8 at h6 s8 a9⊢;refine{_,M,l6,_,M,Kv.of h6,λl7 aa=>?_};rw[lH (_),<-Xg];obtain⟨ks,ah⟩:∃ks,(kv.map (·.1)).take (12:Int).toNat=ks:={_,M};have bo:∀k∈ks,k∈kv.map (·.1):=λk hk=>ZB (ah▸hk);rw[ah];have h9:upd H8 l7 (.lst<|ks.map V.int) l7=some (.lst<|ks.map V.int):=ag;have s9:=s8.trans (al (o:= .lst<|ks.map V.int) aa);have an:=al (o:= .lst<|ks.map V.int) aa _ _ a9;generalize upd H8 l7 (.lst<|ks.map V.int)=H9 at h9 s9 an⊢;have C9:=C.same s9;clear s8 a9 h6 s7 s6 a4 a1 s4 a5 aa ah;refine{l7,M,{_,Kv.of h9},iR (K:=K) (a:=l7) (xs:=ks.map V.int) (λi W H'=>∃u1 u2:Option V,W=[some (.ref c),some (.ref a),some (.ref n),some (.ref r),some (.int X'.n),some X'.rv,some (.ref tb),some (.ref b),u1,u2]/\G3 H9 H') {_,_,M,G3.refl _} (λi W H' _ w=>by let{_,_,_,s}:=w;exact Kv.of<|s _ _ h9) (λi z W H' hz w'=>?_)<|λW H' w'=>?_}
 .let{u1,u2,rfl,s}:=w';let{k,bt,rfl}:=Z5.mp (Q2 hz);have km:=bo k bt;have C':=C9.same s;let{d3,ax}:=C'.ob;unfold dA
  (try dsimp only)
  refine{_,M,c,d3,_,M,ax,{_},_,M,c,a,p,dd,kd,k,av,e,X',M,C',b4 k km,λH3 s3=>?_};have fin:G3 H9 H3:=s.trans s3;have dg:Qh H3 b (.int k) (if X'.cov kd av e k=true then aH kv k else none):=by
   have:=Qh.k (k:=Sum.inl k) (fin _ _ an);rw[P9,yp nt]at this;exact this
  have bv:=mem_keys.mp km;cases bb:X'.cov kd av e k with
  |true=>
   rw[bb,WJ M]at dg;refine{_,M,_,_,M,M,_,M,cm {_,M,_,M,_,M,b,_,M,dg,?_}};rw[bv];exact{M,_,M,pf M {_,_,M,fin}}
  |false=>
   rw[bb,WI Z1]at dg;exact{_,M,_,_,M,M,_,M,b8 {_,M,_,_,M,M,_,M,cm {_,M,_,M,_,M,b,_,M,dg,M,_,M,pf M {_,_,M,fin}}}}
 let{u1,u2,rfl,s}:=w';have C':=C9.same s;let{d3,ax}:=C'.ob;have O:=s _ _ an;have nf:((kv.filter λp=>X'.cov kd av e p.1).map (·.1)).Nodup:=nt.sublist (XG.map _);have b1:∀p∈kv.filter λp=>X'.cov kd av e p.1,∃i:Int,p.2= .int i:=λp hp=>b5 p (Zj.mp hp).1;refine{_,M,c,d3,_,M,ax,{_},c,a,p,dd,kd,av,e,X',M,C',λr6 n6=>?_};have s6:=al (o:= .dK<|aC X'.cp) n6;have bd:upd H' r6 (.dK<|aC X'.cp) r6=some (.dK<|aC X'.cp):=ag;generalize upd H' r6 (.dK<|aC X'.cp)=H7 at s6 bd⊢;refine{_,M,r6,b,_,_,M,M,bd,s6 _ _ O,by rw[a8,a8];exact pm.length_eq,λz hz=>?_,_,M,b8 ?_}
 .unfold aC at hz;let{w,hw,rfl}:=Z5.mp hz;have hw:=pm.mem_iff.mp hw;let{i,ei}:=b1 w hw;exact{by show Fl w.2;rw[ei];exact Y1,by show aH (aC _) (Sum.inl w.1)=_;rw[P9];exact bC nf hw}
 have C7:=C'.same s6;let{d7,bw}:=C7.ob;have b2:=s6 _ _ O;refine{_,M,c,d7,_,M,bw,{_},c,a,p,dd,kd,av,e,X',_,M,C7,MD λp hp=>b1 p<|pm.mem_iff.mp hp,λH8 s8=>?_};refine{_,M,.inr<|.inr<|.inl {M,.inl {_,s8 _ _ b2}},b,_,M,M,s8 _ _ b2,λvw nv=>{vw,b,_,_,M,ag,al nv _ _<|s8 _ _ b2,(by unfold aC;rw[Zp];exact MD b1),M,?_}};rw[HN (pm.map _),WR M];exact q _<|(((s9.trans s).trans s6).trans s8).trans (al nv)
def yi{kd:Int}{a:V}:hO (.ref q) kd a e k=hN kd a e k:=by
 unfold hO;rw[WI λz=>by cases z]
section
variable{kd:Int}
def Inv.begin:Inv kd av e ds {.ref p,av,ds.length,[],none}:=by
 refine{Q5 _,ZY,λk _=>?_,(λ_ z=>by cases z),λk _ h=>?_,(λ_ z=>by cases z)}
 .rw[WI]
  .exact kZ
  .unfold PX.cov;show ¬(hN kd av e k&&!hO (.ref p) kd av e k)=true;rw[yi];cases hN kd av e k<;>simp
 .have h:hO (.ref p) kd av e k=true:=h;rwa [yi]at h
def Inv.open{g nd:G'}(I:Inv kd av e ds X)(G:X.rv= .ref q):Inv kd av e ds {X with pg:=some (Ru g nd q X.ra)}:=
 {I.le,I.nd,I.cp,I.kp,I.su,λP h=>by
  cases h;exact{G,M,Za _,(λ_ z=>by cases z),λ_=>⟨M,M⟩,λ_ z=>by cases z}}
def Inv.read{P:QY}{f:G'}(I:Inv kd av e ds X)(U:X.pg=some P)(hf:P.fd=none)(Y:(ts.map (·.k)).Nodup)(Z:∀k v,(k,v)∈ts.map Tp.kv↔(k,v)∈tbl ds/\hN kd P.ta e k=true/\R k=false)(G:∀k,0<=k->R k=true->hN kd P.ta e k=true)(O:∀k,R k=hO v kd a' e k):Inv kd av e ds {X with pg:=some {P with fd:=some (f,ts),ah:=v,aa:=a'}}:=by
 have q:=I.pg P U;let{h1,h2}:=q.un hf;refine{I.le,I.nd,I.cp,I.kp,I.su,λP' h=>?_};cases h;refine{q.rn,q.ra,q.nl,q.nk,(λz=>by cases z),λy hy=>?_};cases hy;refine{X.n,ds.length,Q5 _,I.le,Q5 _,Y,λk w=>?_,λk k0 h=>G k k0<|(O k).trans h,λk x=>?_,λm hm=>?_}
 .rw[Z k w,Zn,O]
 .show(k,x)∈P.no↔_/\cZ k ((ds.take X.n).drop X.n)=some x;rw[h1,VJ (by rw[Q7];lia)];exact{(λz=>by cases z),(λz=>by cases z.2)}
 .rw[show P.cl=some m from hm]at h2;cases h2
def Inv.close{P:QY}{y:Addr×List Tp}{z:DR}(I:Inv kd av e ds X)(O:X.pg=some P)(hy:P.fd=some y)(Y:z.r= .mark m):Inv kd av e (ds++ [z]) {X with pg:=some {P with cl:=some m}}:=by
 have J:=I.more (more:=[z]);have q:=J.pg P O;refine{J.le,J.nd,J.cp,J.kp,J.su,λP' h=>?_};cases h;refine{q.rn,q.ra,q.nl,q.nk,(λh=>by rw[show P.fd=none from h]at hy;cases hy),λy' hy'=>?_};let{nr,Z,l1,l2,U,h1,h2,h3,h4,h5}:=(I.pg P O).fd y' hy';let{a0,a1,_}:=q.fd y' hy';refine{nr,Z,l1,l2,by rw[Q8];lia,h1,by rwa[Zv U],h3,by rwa[Zv I.le],λm' G=>?_};cases G;exact{ds.length,z,by rw[ZN (Q5 _),Wk];rfl,Y,U,I.le}
def RU(av:V)(p:G')(v a':V)(m:Int)(ds:List DR)(X:PX):Prop:=(X.rv= .ref p/\X.ra=av/\∃P,X.pg=some P/\P.ah=v/\P.aa=a'/\P.cl=some m)\/(X.pg=none/\X.rv=v/\X.ra=a'/\∃(j:Nat)(x:DR),j<X.n/\ds[j]?=some x/\x.r= .mark m)
def RU.step{x:DR}(h:RU ta p v a' m ds X)(hx:ds[X.n]?=some x):RU ta p v a' m ds (bg kd av e X x):=by
 have sn:=wM (kd:=kd) (av:=av) (e:=e) (X:=X) (x:=x);rcases h with⟨h1,h2,P,I,h4,Y,Z⟩|⟨h1,h2,I,j,y,h4,Y,Z⟩
 .rcases lV (X:=X) (kd:=kd) (av:=av) (e:=e) (x:=x)with⟨z,O,G,g4,g5⟩|⟨P',m',z,O,G,g4,g5,g6⟩
  .refine .inl {z.trans h1,O.trans h2,?_};cases c:(bg kd av e X x).pg with
   |some P'=>
    let{P2,U,e2}:=G P' c;rw[I]at U;cases U;exact{P',M,by rwa[e2],by rwa[e2],by rwa[e2]}
   |none=>
    rw[c,I]at g5;cases g5
  .rw[I]at z;cases z;rw[Z]at G;cases G;exact .inr {g6,g4.trans h4,g5.trans Y,X.n,x,(),hx,O}
 .rcases lV (X:=X) (kd:=kd) (av:=av) (e:=e) (x:=x)with⟨z,O,G,g4⟩|⟨P',m',z,_⟩
  .refine .inr {?_,z.trans h2,O.trans I,j,y,(),Y,Z};cases c:(bg kd av e X x).pg with
   |none=>rfl
   |some P'=>
    let{P2,U,_}:=G P' c;rw[h1]at U;cases U
  .rw[h1]at z;cases z
end
theorem RU.fold{kd:Int}{ta av e:V}{p:G'}{v a':V}{m:Int}{ds:List DR}:∀{l:List DR}{X:PX},RU ta p v a' m ds X->(∀(i:Nat)(x:DR),l[i]?=some x->ds[X.n+i]?=some x)->RU ta p v a' m ds (l.foldl (bg kd av e) X)
 | [],_,h,_=>h
 |x::r,X,h,g=>RU.fold (l:=r) (X:=bg kd av e X x) (h.step<|g 0 x M) λi y hy=>by
  rw[wM,Nat.add_assoc,Nat.add_comm 1 i];exact g (i+1) y hy
def QC.nd{x:QA}(A:QC K t H a F x):(x.st.kv.map (·.1)).Nodup:=by
 let{s,l,z,p,h,Fs,Fl,JZ,O,g}:=A;let{_,_,_,_,nd,_}:=JZ.sl;exact nd
def QC.rise{x:QA}(A:QC K t H a F x):dD x.ks:=by
 let{_,_,_,_,_,_,L}:=A.lvs;exact L.rise
def QC.notup{x:QA}(A:QC K t H a F x)(e:H b=some (.tup xs)):¬F b:=λz=>by
 let{o,G,n}:=A.dom z;rw[e]at G;exact n _ (WL G).symm
def EF{kv:R'}{z:Sw}(nd:(kv.map (·.1)).Nodup)(O:(ts.map (·.k)).Nodup)(G:∀k v,(k,v)∈ts.map Tp.kv↔(k,v)∈kv/\R k=true/\z k=false)(le:∀p∈kv,z p.1=true->R p.1=true):(kv.filter λp=>R p.1).length=(kv.filter λp=>z p.1).length+ts.length:=by
 have I:kv.Nodup:=(ZE.mp nd).imp λh e=>h (Y2 Prod.fst e);have U:(ts.map Tp.kv).Nodup:=ZE.mpr ((ZE.mp O).imp λh e=>h<|Y2 Prod.fst e);have Y:(kv.filter λp=>R p.1).Perm ((kv.filter λp=>z p.1)++ts.map Tp.kv):=by
  refine(Vu (List.Pairwise.filter _ I)<|Vx.mpr {List.Pairwise.filter _ I,U,λx hx y hy e=>?_}).mpr λx=>?_
  .have h1:=(Zj.mp hx).2;have h2:=((G y.1 y.2).mp hy).2.2;rw[e,h2]at h1;cases h1
  .rw[Q6,Zj,Zj,G x.1 x.2];constructor
   .rintro ⟨h1,h2⟩;cases c:z x.1 with
    |true=>exact .inl ⟨h1,M⟩
    |false=>exact .inr ⟨h1,h2,M⟩
   .rintro (⟨h1,h2⟩|⟨h1,h2,_⟩)
    .exact{h1,le x h1 h2}
    .exact⟨h1,h2⟩
 have:=Y.length_eq;rwa [Q8,Q1]at this
def Rf(kd:Int)(st:PD)(a:V):Int:=if kd=0 then st.low-RZ a/(65536/st.low)else 0
def SF(st:PD)(R:Sw):Nat:=(st.kv.filter λp=>R p.1).length
def OY{kd:Int}{a:V}(z:PY st)(ok:Qp kd a e):0<=Rf kd st a/\Rf kd st a<=256:=by
 unfold Rf;split
 .have l:=hZ z;have p:=b7 l;have w:∀x∈([4,8,16,32,64,128,256]:O'),65536/(65536/x)=x/\0<65536/x:=by decide
  let{I,G}:=w _ l;subst kd;let{i,j,rfl,rfl,i0,O,U}:=ok.s;have h1:=VN i0 (VH G);have h2:=Ws G (show i<=65536 by lia);rw[I]at h2;show 0<=st.low-i/(65536/st.low)/\st.low-i/(65536/st.low)<=256;lia
 .lia
def pot{kd n:Int}(U:DF t H' F' st kd n av e v ts a' R)(z:PY st)(nd:(st.kv.map (·.1)).Nodup)(k0:∀k∈st.kv.map (·.1),0<=k)(Y:5<=n)(G:v≠ .non):20+4*(SF st R:Int)+Rf kd st a'<=4*(SF st (hN kd av e):Int)+Rf kd st av:=by
 have sp:=EF nd U.nd U.me λp I=>U.less p.1 (k0 _<|XF I);have O:0<65536/st.low:=by
  let{_,_,R}:=xA (hZ z);exact R.wpos'
 have ps:Rf kd st a'<=Rf kd st av:=by
  rcases U.rest with⟨y,_⟩|⟨q,_,_,_,_,_,m⟩
  .exact WN y G
  .unfold Rf;split
   .have:=Ws O (m<|by assumption);lia
   .exact Xs _
 unfold SF;rcases U.far with y|y|⟨y,w⟩
 .exact WN y G
 .lia
 .unfold Rf;rw[WJ y,WJ y];lia
def Ot(F:K')(X:PX)(c dd d:G'):Addr->Prop:=λb=>F b\/X.mut c dd b\/b=d
abbrev _root_.SX:=Addr×List V
structure Qg(K:FA)(t:PL)(H:Hp)(sc a d c p dd:G')(n:SX)(F:K')(x:QA)(ds:List DR)(X:PX)(kd:Int)(av e:V)(ns:O'):Prop where
 J:Jd K t H a d F x ds
 C:QD t H c a p dd kd av e X
 nF:∀b,X.adr c p dd b->¬F b
 nm:¬X.mut c dd d
 hn:H n.1=some (.tup n.2)
 I:Inv kd av e ds X
 cS:Rq K (Ot F X c dd d) H sc (ns.map V.int)
section
variable{sc d:G'}{n:SX}{x:QA}{kd:Int}
def QD.nadr{kvs:Sm}(C:QD t H c a p dd kd av e X)(hb:H b=some (.dK kvs))(nm:¬X.mut c dd b):¬X.adr c p dd b:=λh=>by
 have tk:∀{q:G'}{a':V},QL t H q kd a' e->q≠b:=λh=>h.nd hb λ_ _ _ z=>by cases z
 rcases h with h|h|h|⟨P,G,h|h|⟨y,hy,h⟩⟩
 .exact nm h
 .exact tk C.tk.1 h.symm
 .rcases C.rt with g|⟨q,h1,h2,_⟩
  .rw[g]at h;cases h
  .rw[h1]at h;cases h;exact tk h2 M
 .exact tk (C.pg P G).1.tk.1 h.symm
 .rcases(C.pg P G).1.ah with g|⟨q,h1,h2,_⟩
  .rw[g]at h;cases h
  .rw[h1]at h;cases h;exact tk h2 M
 .have:=((C.pg P G).1.fd y hy).1;rw[<-h,hb]at this;cases this
def Qg.same(S:Qg K t H sc a d c p dd n F x ds X kd av e ns)(s:G3 H H'):Qg K t H' sc a d c p dd n F x ds X kd av e ns:=
 {S.J.same s,S.C.same s,S.nF,S.nm,s _ _ S.hn,S.I,S.cS.fr<|Fr.of_same s}
def Qg.go(S:Qg K t H sc a d c p dd n F x ds X kd av e ns){more:List DR}(J:Jd K t H' a d F' x' (ds++more))(f:Fr (Wh F d) (Wh F' d) H H'):Qg K t H' sc a d c p dd n F' x' (ds++more) X kd av e ns/\Fr (Ot F X c dd d) (Ot F' X c dd d) H H':=by
 have fo:Fr (Ot F X c dd d) (Ot F' X c dd d) H H':=λb o O G=>by
  let{h1,h2}:=f b o (λz=>O<|z.elim .inl λz=> .inr<|.inr z) G;exact{h1,λz=>z.elim (λz=>h2<|.inl z) λz=>z.elim (λz=>O<|.inr<|.inl z) λz=>h2<|.inr z}
 have nd:=S.C.nadr S.J.di S.nm;have U:∀b,X.adr c p dd b->∀o,H b=some o->H' b=some o/\¬F' b:=λb hb o G=>by
  let{h1,h2}:=f b o (λz=>z.elim (S.nF b hb) λz=>nd<|z▸hb) G;exact{h1,λz=>h2<|.inl z}
 have tu:∀b xs,H b=some (.tup xs)->H' b=some (.tup xs):=λb xs G=>(f b _ (λz=>z.elim (S.J.A.notup G) λz=>by rw[z,S.J.di]at G;cases G) G).1;refine{{J,S.C.go λb o G h=>?_,λb hb=>?_,S.nm,tu _ _ S.hn,S.I.more,S.cS.fr fo},fo}
 .rcases h with h|⟨xs,h⟩
  .exact(U b h o G).1
  .rw[h]at G⊢;exact tu b xs G
 .let{o,G,_}:=S.C.dom hb;exact(U b hb o G).2
def Qg.fo(S:Qg K t H sc a d c p dd n F x ds X kd av e ns)(G:X'=l.foldl (bg kd av e) X)(C:QD t H' c a p dd kd av e X')(I:Inv kd av e ds X')(k:∀b o,¬X.mut c dd b->H b=some o->H' b=some o):Qg K t H' sc a d c p dd n F x ds X' kd av e ns/\Fr (Ot F X c dd d) (Ot F X' c dd d) H H':=by
 have O:∀b,X'.mut c dd b->X.mut c dd b:=λb h=>by rw[G]at h;exact yo h
 have fo:Fr (Ot F X c dd d) (Ot F X' c dd d) H H':=λb o U Y=>{k b o (λz=>U<|.inr<|.inl z) Y,λz=>U<|z.imp id λz=>z.imp (O b) id};have A:=S.J.A.mut S.C S.nF k;exact{{{A,k _ _ S.nm S.J.di,S.J.nd,S.J.kb,S.J.iv,S.J.le,S.J.dy,S.J.D,S.J.tb,S.J.mx,S.J.fl,S.J.ho},C,λb h=>S.nF b (by rw[G]at h;exact Df h),λz=>S.nm<|O d z,k _ _ (S.C.nmut S.hn (λ_ _ _ z=>by cases z) λ_ z=>by cases z) S.hn,I,S.cS.fr fo},fo}
def Qg.turn(S:Qg K t H sc a d c p dd n F x ds X kd av e ns){g:G'}{G:List DR}(U:X.mut c dd g)(J:H' d=some (.dK<|aC x.st.kv)->¬F' d->Jd K t H' a d F' x' G)(C:QD t H' c a p dd kd av e X')(nF:∀b,X'.adr c p dd b->¬F' b)(I:Inv kd av e G X')(Y:∀b o,H b=some o->X'.mut c dd b->X.mut c dd b)(k:∀b o,b≠g->¬F b->H b=some o->H' b=some o/\¬F' b):Qg K t H' sc a d c p dd n F' x' G X' kd av e ns/\Fr (Ot F X c dd d) (Ot F' X' c dd d) H H':=by
 have fo:Fr (Ot F X c dd d) (Ot F' X' c dd d) H H':=λb o O Z=>by
  let{h1,h2}:=k b o (λz=>O<|.inr<|.inl<|z▸U) (λz=>O<|.inl z) Z;exact{h1,λz=>z.elim h2 λz=>z.elim (λz=>O<|.inr<|.inl<|Y b o Z z) λz=>O<|.inr (.inr z)}
 let{d1,d2}:=k d _ (λz=>S.nm<|z▸U) S.J.nd S.J.di;exact{{J d1 d2,C,nF,λz=>S.nm<|Y d _ S.J.di z,(k n.1 _ (λz=>S.C.nmut S.hn (λ_ _ _ z=>by cases z) (λ_ z=>by cases z)<|z▸U) (S.J.A.notup S.hn) S.hn).1,I,S.cS.fr fo},fo}
def Mz{P P':QY}(I:X.pg=some P)(G:X'.pg=some P')(O:P'.g=P.g)(e2:P'.nd=P.nd)(z:X'.mut c dd b):X.mut c dd b:=by
 rcases z with z|z|⟨U,z,h⟩
 .exact .inl z
 .exact .inr<|.inl z
 .rw[G]at z;cases z;rw[O,e2]at h;exact .inr<|.inr ⟨P,I,h⟩
def U_hO(U:DF t H1 F st kd m ta e v ts a' R)(z:Int):R z=hO v kd a' e z:=by
 rcases U.rest with⟨h1,h2⟩|⟨q,h1,_,_,_,h2,_⟩
 .rw[h1,h2];unfold hO;rw[WJ M]
 .rw[h1,h2,yi]
end
def JI{m:Nat}:∀(i:Nat)(x:DR),((ds.drop n).take m)[i]?=some x->ds[n+i]?=some x:=λi d h=>by
 rw[V4]at h;split at h
 .rwa [XM]at h
 .cases h
section
variable{sc d:G'}{n:SX}{x:QA}{kd:Int}
def Qg.off(S:Qg K t H sc a d c p dd n F x ds X kd av e ns)(hb:H b=some o)(I:∀C d fs,o≠ .ins C d fs)(G:∀k,o≠ .dK k)(O:¬F b):¬Ot F X c dd d b:=λz=>by
 rcases z with z|z|z
 .exact O z
 .exact S.C.nmut hb I G z
 .rw[z,S.J.di]at hb;exact G _ (WL hb).symm
def Qg.tk(S:Qg K t H sc a d c p dd n F x ds X kd av e ns)(h:QL t H q kd a' e)(I:¬F q):¬Ot F X c dd d q:=λz=>by
 let{dx,O}:=S.C.ob;rcases z with z|(z|z|⟨P,G,z|z⟩)|z
 .exact I z
 .exact h.ne O M z
 .exact h.nd S.C.cp (λ_ _ _ z=>by cases z) z
 .let{Y,U}:=(S.C.pg P G).1.ob;exact h.ne U M z
 .exact h.nd (S.C.pg P G).1.no (λ_ _ _ z=>by cases z) z
 .exact h.nd S.J.di (λ_ _ _ z=>by cases z) z
def Jd.kl(J:Jd K t H a d F x ds):x.ks.length<=400:=by
 have G:x.ks.Nodup:=J.A.rise.imp λh=>Int.ne_of_lt h;have:=gS G (S:=x.st.kv.map (·.1)) λz hz=>mem_keys.mpr ((J.A.ok.ks z).mp hz);rw[Q1]at this;exact Zl this J.le
def Jd.k0(J:Jd K t H a d F x ds):∀k∈x.ks,0<=k/\k<10^40:=λk hk=>J.kb k (mem_keys.mpr<|(J.A.ok.ks k).mp hk)
end
section
variable{sc d:G'}{n:SX}{x:QA}{kd:Int}
def Qg.opn(S:Qg K t H sc a d c p dd n F x ds X kd av e ns){g nd:G'}(Y:X.rv= .ref q)(A:QC K t H' a F' {x with ma:=x.ma+1,di:=x.di++ [(r,[.str "mark",.int (x.ma+1)])]})(C:QD t H' c a p dd kd av e {X with pg:=some (Ru g nd q X.ra)})(Z:∀b,({X with pg:=some (Ru g nd q X.ra)}:PX).adr c p dd b->¬F' b)(ng:H g=none)(nn:H nd=none)(k:∀b o,b≠c->¬F b->H b=some o->H' b=some o/\¬F' b):
  ∃(O:QA)(mo:List DR)(G:PX)(P:QY),Qg K t H' sc a d c p dd n F' O (ds++mo) G kd av e ns/\Fr (Ot F X c dd d) (Ot F' G c dd d) H H'/\O.now=x.now/\O.ma=x.ma+1/\O.st=x.st/\G.pg=some P/\P.fd=none/\P.cl=none/\P.ta=X.ra/\G.rv=X.rv/\G.ra=X.ra:=by
 let{S2,f2}:=S.turn (.inl M) (λh1 h2=>S.J.mark A h1 h2 M M M M M) C Z (S.I.open Y).more (λb o U z=>by
  rcases z with z|z|⟨P,z,h⟩
  .exact .inl z
  .exact .inr<|.inl z
  .cases z;rcases h with h|h
   .rw[show b=g from h,ng]at U;cases U
   .rw[show b=nd from h,nn]at U;cases U) k
 exact{_,_,_,_,S2,f2,M,M,M,M,M,M,M,M,M}
def Qg.rd(S:Qg K t H sc a d c p dd n F x ds X kd av e ns){P:QY}{f:G'}(O:X.pg=some P)(hf:P.fd=none)(hc:P.cl=none)(A:QC K t H' a F' x)(C:QD t H' c a p dd kd av e {X with pg:=some {P with fd:=some (f,ts),ah:=v,aa:=a'}})(Y:∀b,({X with pg:=some {P with fd:=some (f,ts),ah:=v,aa:=a'}}:PX).adr c p dd b->¬F' b)(k:∀b o,b≠P.g->¬F b->H b=some o->H' b=some o/\¬F' b)(U:∃H1,DF t H1 F' x.st kd m P.ta e v ts a' R):
  ∃(z:PX)(G:QY)(y:Addr×List Tp),Qg K t H' sc a d c p dd n F' x ds z kd av e ns/\Fr (Ot F X c dd d) (Ot F' z c dd d) H H'/\z.pg=some G/\G.fd=some y/\G.cl=none/\G.ah=v/\G.aa=a'/\z.rv=X.rv/\z.ra=X.ra:=by
 let{H1,U}:=U;let{Z,f2}:=S.turn (.inr<|.inr {_,O,.inl M}) (λh1 h2=>⟨A,h1,h2,S.J.kb,S.J.iv,S.J.le,S.J.dy,S.J.D,S.J.tb,S.J.mx,S.J.fl,S.J.ho⟩) C Y (S.I.read O hf U.nd (by rw[S.J.tb];exact U.me) U.less<|U_hO U) (λb o _=>Mz O M M M) k;exact{_,_,_,Z,f2,M,M,hc,M,M,M,M}
def Qg.cls(S:Qg K t H sc a d c p dd n F x ds X kd av e ns){P:QY}{y:Addr×List Tp}(G:X.pg=some P)(hy:P.fd=some y)(A:QC K t H' a F' {x with ma:=x.ma+1,di:=x.di++ [(r,[.str "mark",.int (x.ma+1)])]})(C:QD t H' c a p dd kd av e {X with pg:=some {P with cl:=some (x.ma+1)}})(Y:∀b,({X with pg:=some {P with cl:=some (x.ma+1)}}:PX).adr c p dd b->¬F' b)(k:∀b o,b≠P.g->¬F b->H b=some o->H' b=some o/\¬F' b):
  ∃(O:QA)(mo:List DR)(z:PX),Qg K t H' sc a d c p dd n F' O (ds++mo) z kd av e ns/\Fr (Ot F X c dd d) (Ot F' z c dd d) H H'/\O.now=x.now/\O.ma=x.ma+1/\O.st=x.st/\RU P.ta P.tk P.ah P.aa (x.ma+1) (ds++mo) z/\z.rv=X.rv/\z.ra=X.ra:=by
 let{Z,f2}:=S.turn (.inr<|.inr {_,G,.inl M}) (λh1 h2=>S.J.mark A h1 h2 M M M M M) C Y (S.I.close G hy M) (λb o _=>Mz G M M M) k;have U:=S.I.pg P G;exact{_,_,_,Z,f2,M,M,M,.inl {U.rn,U.ra.symm,_,M,M,M,M},M,M}
def RU.fin(R1:RU ta q v a' m ds X)(I:Inv kd av e ds X)(Z:ds.length<=X.n):X.pg=none:=by
 rcases R1 with⟨_,_,P,h1,_,_,h2⟩|⟨h,_⟩
 .exfalso;have G:=I.pg P h1;cases O:P.fd with
  |none=>rw[(G.un O).2]at h2;cases h2
  |some y=>
   let{nr,mr,_,_,_,_,_,_,_,cl}:=G.fd y O;let{j,z,U,_,_,Y}:=cl m h2;have:=(Q3.mp U).1;lia
 .exact h
end
structure Fst(t:PL)(H:Hp)(c a p dd:G')(kd:Int)(av e:V)(X:PX)(E:K'):Prop where
 C:QD t H c a p dd kd av e X
 n:∀b,X.adr c p dd b->¬E b
def Fst.fr{kd:Int}{E E':K'}(h:Fst t H c a p dd kd av e X E)(f:Fr E E' H H')(tu:∀b xs,H b=some (.tup xs)->¬E b):Fst t H' c a p dd kd av e X E':=
 {h.C.go λb o G hb=>(f b o (hb.elim (h.n b) λzz=>by let{xs,z}:=zz;exact tu b xs<|z▸G) G).1,λb hb=>by
  let{o,G,_}:=h.C.dom hb;exact(f b o (h.n b hb) G).2}
def Qg.tu{sc d:G'}{n:SX}{x:QA}{kd:Int}(S:Qg K t H sc a d c p dd n F x ds X kd av e ns):∀b xs,H b=some (.tup xs)->¬Ot F X c dd d b:=λb xs hb=>S.off hb (λ_ _ _ z=>by cases z) (λ_ z=>by cases z) (S.J.A.notup hb)
def Ref(w:Int)(X:PX):Prop:=(w=0/\(X.pg≠none\/X.rv= .non))\/(w=1/\∀P,X.pg=some P->P.fd≠none)\/(w=2/\∀P,X.pg=some P->P.fd≠none->P.cl≠none)
def Tn(w:Int)(X X':PX)(ds':List DR):Prop:=(w=0/\∃P,X'.pg=some P/\P.fd=none/\P.cl=none/\P.ta=X.ra)\/(w=1/\∃P y,X'.pg=some P/\P.fd=some y/\P.cl=none)\/(w=2/\∃ta v a' q m,RU ta q v a' m ds' X')
def Bi(K:FA)(t:PL):Sp:=λvs H Q _=>∃(sc a d c p dd:G')(n:SX)(F:K')(x:QA)(ds:List DR)(X:PX)(kd z:Int)(av e:V)(ns:O'),vs=[.ref c,.int z]/\Qg K t H sc a d c p dd n F x ds X kd av e ns/\x.now+x.ma<3900/\
 (∀H',Ref (z%3) X->G3 H H'->Q (.bl true) H')/\
 (∀(H':Hp)(F':K')(x':QA)(mo:List DR)(X':PX),¬Ref (z%3) X->Qg K t H' sc a d c p dd n F' x' (ds++mo) X' kd av e ns->Fr (Ot F X c dd d) (Ot F' X' c dd d) H H'->x'.now=x.now->x'.ma<=x.ma+1->x'.st=x.st->X'.rv=X.rv->X'.ra=X.ra->Tn (z%3) X X' (ds++mo)->Q (.bl false) H')
def tG:Ck P w K mg base PP 11 t.vE t.pA [ff,eH] (Bi K t):=by
 refine T.dN.okl Br λs H vs Q E hr h _=>?_;intro X;let{sc,a,d,c,p,dd,n,F,x,ds,X',kd,z,av,e,ns,rfl,S,l,qr,qm}:=h;refine aj (PN 2 lh)
   (aj (Nr M M (λpn E=>(aA (aO (ay bJ (ao aQ M2 ae) ae<|au _)
    (aA<|aM<|Ah Ca T.aw T.DI (oV T) hr.mo T.DN .nil Io)
    (aA (aO (ay bJ (ao aQ M2 ae) ae<|au _)
    (aA<|aM<|Ik Ca T.aw T.qq (gR T) hr.mo T.qu .nil Io<|ac (ao bx ae<|ao aQ (ao aP M2 ae) ae) ai)
    (aA<|aM<|Ah Ca T.aw T.oZ (gj T) hr.mo T.pK .nil Io))))))
    (Lh {_} T.iI T.bf (λea=>(aA<|PN 2 lh)) Lg))
   (aB (aD P8) ?_))
 intros
 let{dc,hc}:=S.C.ob;have w0:=Z2 z (show(3:Int)≠0 by decide);have w1:=Z0 z (show(0:Int)<3 by decide);have th:(0:Int)<3:=by decide
 (try dsimp only)
 refine{_,M,_,_,M,M,th,M,_,M,bL (λy=>?_)<|λy=>?_}
 .have y:z%3=0:=V.int.inj (WP y);refine{_,M,c,dc,_,M,hc,{_},c,a,p,dd,kd,av,e,X',F,x,M,S.C,S.J.A,S.nF,(),λhz ea od H1 hx hs=>?_,λq O hv H1 F1 r g nd A1 C1 G ng nn k1=>?_}
  .exact{ea,t.bW,M,hx.1,_,true,T.bf,T.fA,b8 {_,M,qr H1 (.inl ⟨y,hz⟩) hs}}
  .let{x2,mo,X2,P2,S2,f2,l1,l2,l3,l4,l5,l6,l7,U,Y}:=S.opn hv A1 C1 G ng nn k1;refine{_,M,qm H1 F1 x2 mo X2 (λZ=>?_) S2 f2 l1 () l3 U Y<|.inl ⟨y,P2,l4,l5,l6,l7⟩};rcases Z with⟨_,h|h⟩|⟨h,_⟩|⟨h,_⟩
   .exact h O
   .rw[hv]at h;cases h
   .lia
   .lia
 have y0:z%3≠0:=λz=>y (by rw[z];exact WR M);have kl:=S.J.kl;have le:=S.J.le;refine{_,M,_,_,M,M,th,M,_,M,bL (λy=>?_)<|λy=>?_}
 .have y:z%3=1:=V.int.inj (WP y);have z0:=Z2 (z/3) (show(12:Int)≠0 by decide);have z1:=Z0 (z/3) (show(0:Int)<12 by decide);refine{_,M,c,dc,_,M,hc,{_},_,M,_,_,M,M,{(_),(_)},_,_,M,M,(by show(0:Int)<12;decide),_,_,M,M,c,a,p,dd,_,kd,av,e,X',F,x,M,S.C,S.J.A,S.nF,(),(),(),(),(λk hk=>(S.J.k0 k hk).1),S.J.iv,λhz ea od H1 hx hs=>?_,λP1 O hf H1 F1 f l v ts a' R A1 C1 G k1 E1 hl _ _ _=>?_}
  .exact{ea,t.bW,M,hx.1,_,true,T.bf,T.fA,b8 {_,M,qr H1 (.inr<|.inl ⟨y,hz⟩) hs}}
  .let{X4,P4,y4,S4,f4,p4,a0,a1,_,_,U,Y}:=S.rd O hf ((S.I.pg P1 O).un hf).2 A1 C1 G k1 E1;refine{_,M,qm H1 F1 x [] X4 (λZ=>?_) (by rwa[ZL]) f4 M () M U Y<|.inr (.inl ⟨y,P4,y4,p4,a0,a1⟩)};rcases Z with⟨h,_⟩|⟨_,h⟩|⟨h,_⟩
   .lia
   .exact h P1 O hf
   .lia
 have y1:z%3=2:=by
  have:z%3≠1:=λz=>y (by rw[z];exact WR M);lia
 refine{_,M,c,dc,_,M,hc,{_},c,a,p,dd,kd,av,e,X',F,x,M,S.C,S.J.A,S.nF,(),λhz ea od H1 hx hs=>?_,λP1 y O hy a2 H1 F1 r A1 C1 G k1=>?_}
 .exact{ea,t.bW,M,hx.1,_,true,T.bf,T.fA,b8 {_,M,qr H1 (.inr<|.inr ⟨y1,hz⟩) hs}}
 .let{x2,mo,X2,S2,f2,l1,l2,l3,T2,U,Y}:=S.cls O hy A1 C1 G k1;refine{_,M,qm H1 F1 x2 mo X2 (λZ=>?_) S2 f2 l1 () l3 U Y<|.inr (.inr {y1,_,_,_,_,_,T2})};rcases Z with⟨h,_⟩|⟨h,_⟩|⟨_,h⟩
  .lia
  .lia
  .exact h P1 O (by rw[hy];intro z;cases z) a2
def Qw(kd:Int)(e:V)(X X':PX):Prop:=∀k,0<=k->hO X'.rv kd X'.ra e k=true->hO X.rv kd X.ra e k=true
def Qw.of{kd:Int}(h1:X'.rv=X.rv)(h2:X'.ra=X.ra):Qw kd e X X':=λk _ h=>by rwa [h1,h2]at h
theorem Qw.fold{kd:Int}{av e:V}{ds:List DR}(D:Rb ds):∀{l:List DR}{X:PX},Inv kd av e ds X->(∀(i:Nat)(x:DR),l[i]?=some x->ds[X.n+i]?=some x)->Qw kd e X (l.foldl (bg kd av e) X)
 | [],X,_,_=>λ_ _ h=>h
 |x::r,X,I,g=>λk k0 h=>by
  have hx:=g 0 x M;have Z:=I.step D hx;have h1:=Qw.fold D (l:=r) Z (λi y hy=>by
   rw[wM,Nat.add_assoc,Nat.add_comm 1 i];exact g (i+1) y hy) k k0 h
  rcases lV (X:=X) (kd:=kd) (av:=av) (e:=e) (x:=x)with⟨G,O,_⟩|⟨P,m,G,O,U,g4,g5,g6⟩
  .rwa [G,O]at h1
  .have z:=I.pg P G;rw[g4,g5]at h1;rw[z.rn,<-z.ra,yi];cases Y:P.fd with
   |none=>rw[(z.un Y).2]at U;cases U
   |some y=>
    let{nr,mr,_,_,_,_,_,h3,_}:=z.fd y Y;exact h3 k k0 h1
def vJ(K:FA)(t:PL):Sp:=λvs H Q _=>∃(sc a d c p dd nb:G')(F:K')(x:QA)(ds:List DR)(X:PX)(kd z:Int)(av e:V)(ns:O'),vs=[.ref c,.ref a,.ref nb,.int z]/\Qg K t H sc a d c p dd (nb,[.int kd,av,e]) F x ds X kd av e ns/\Qp kd av e/\x.now+x.ma<3900/\
 ∀(H':Hp)(F':K')(x':QA)(mo:List DR)(c' p' dd':G')(X':PX),Qg K t H' sc a d c' p' dd' (nb,[.int kd,av,e]) F' x' (ds++mo) X' kd av e ns->Fr (Ot F X c dd d) (Ot F' X' c' dd' d) H H'->x'.now=x.now->x'.ma<=x.ma+1->x'.st=x.st->Qw kd e X X'->(∃dx fs,H' c=some (.ins t.aR dx fs))->Q (.ref c') H'
def wj:Ck P w K mg base PP 12 t.pO t.jt [ff,ge,eR,eH] (vJ K t):=by
 refine T.yO.okl vU λs H vs Q E Y h _=>?_;intro X;let{sc,a,d,c,p,dd,nb,F,x,ds,X',kd,z,av,e,ns,rfl,S,on,l,q}:=h;refine Iu (λx y=>aO (ay dW (ao aQ PR ae) ae<|au _) x y) ?_;refine lu (λx=>aO (PW.pt<|eV (bF<|aJ (tG T) Y.mo {_} T.fk T.dN.kp T.ft .nil az (ac Ca<|ac (ao aP PR ae) ai))<|dh<|bF<|aJ (tG T) Y.mo {_} T.fk T.dN.kp T.ft .nil az (ac Ca<|ac (ao bx (ao aP PR ae) ae) ai)) x aF) ?_;refine aB (aM<|aJ (tG T) Y.mo {_} T.fk T.dN.kp T.ft .nil az (ac Ca<|ac (ao bx (ao aP PR ae) ae) ai)) ?_
 intros
 refine E8 (λx y=>aO (ay bJ (ao aQ PR ae) ae<|au _) x y) ?_;refine aB (aD<|gN T.At (nJ T) Y.mo {_} T.Av T.JX .nil az (ac M2<|ac (aJ (qD T) Y.mo {_} T.tM T.nC.kp T.ub .nil az (ac P8 ai))<|ac (bq Ca T.aw T.Ff (rT T) Y.mo T.FG .nil az) ai)) ?_
 intros
 refine aB (aM<|aT Ca T.aw T.lz (jN T) Y.mo T.lK .nil az<|ac (ao bx ae<|ao aQ (ao aP PR ae) ae) ai) ?_
 intros
 refine aB (aD Ca) ?_
 intros
 refine{_,M,_,_,M,M,(by show(0:Int)<4;decide),_,_,M,M,_,M,bL (λy=>?_)<|λy=>?_}
 .refine{_,M,_,M,_,_,M,M,{(_),(_)},sc,a,d,c,p,dd,_,F,x,ds,X',kd,_,av,e,ns,M,S,l,λH1 _ s1=>{true,M,b8 ?_},λH1 F1 x1 mo X1 _ U f1 l1 l2 l3 l4 l5 _=>{false,M,cm ?_}}
  .have U:=S.same s1;refine{_,M,_,M,_,_,M,M,{(_),(_)},_,_,M,M,sc,a,d,c,p,dd,_,F,x,ds,X',kd,_,av,e,ns,M,U,l,λH2 _ Z=>{true,M,b8 ?_},λH2 F2 x2 mo X2 _ G f2 l1 l2 l3 l4 l5 _=>{false,M,cm ?_}}
   .have G:=U.same Z;refine{_,M,_,M,_,_,M,M,{(_),(_)},_,_,M,M,sc,a,d,c,p,dd,_,F,x,ds,X',kd,_,av,e,ns,M,G,l,λH3 _ s3=>?_,λH3 F3 x3 mo X3 _ S3 f3 l1 l2 l3 l4 l5 _=>?_}
    .exact{_,M,q H3 F x [] c p dd X' (by rw[ZL];exact G.same s3) (Fr.of_same<|(s1.trans Z).trans s3) M () M (Qw.of M M)<|(G.same s3).C.ob.imp λ_ h=>{_,h}}
    .exact{_,M,q H3 F3 x3 mo c p dd X3 S3 ((Fr.of_same<|s1.trans Z).trans f3) l1 l2 l3 (Qw.of l4 l5)<|S3.C.ob.imp λ_ h=>{_,h}}
   .exact{_,M,q H2 F2 x2 mo c p dd X2 G ((Fr.of_same s1).trans f2) l1 l2 l3 (Qw.of l4 l5)<|G.C.ob.imp λ_ h=>{_,h}}
  .exact{_,M,q H1 F1 x1 mo c p dd X1 U f1 l1 l2 l3 (Qw.of l4 l5)<|U.C.ob.imp λ_ h=>{_,h}}
 let{dc,hc}:=S.C.ob;refine{_,M,_,_,M,M,(by show(0:Int)<16;decide),M,_,M,bL (λy=>?_)<|λy=>?_}
 .refine{_,M,_,M,nb,kd,av,e,M,QO.of S.hn,on,λH1 p2 s1 a9 TK=>?_};have U:=S.same s1;let{aa,ah}:=U.C.ob;refine{_,M,c,aa,_,M,ah,{_},c,a,p,dd,kd,av,e,X',M,U.C,λH2 tp d0 Z b5 b9 an ax=>?_};have G:=U.same Z;have a1:=s1.trans Z;have b1:¬F p2:=S.J.A.out a9;refine λc2 a2 a0 a3 b4=>?_;have s3:=b6 (al (o:= .own c2) a3) (o:= .ins t.aR a2 []) a0;refine{c2,a2,a,p2,kd,av,e,.ref tp,F,x,{X' with pg:=none},M,ag,G.J.A.same s3,(TK.same Z).same s3,on,{M,.inr {tp,d0,M,s3 _ _ an,s3 _ _ ax,G.C.rt.same s3}},λH3 O C2 b2 b3=>{M,?_}};have s4:G3 H2 H3:=λb o e=>b3 b o (am e a0) (s3 _ _ e);have a4:H2 O=none:=cV s3 b2;have S4:=G.same s4;have mt:∀b,({X' with pg:=none}:PX).mut c2 O b->H2 b=none:=λb z=>by
   rcases z with z|z|⟨P,z,_⟩
   .rwa[show b=c2 from z]
   .rwa[show b=O from z]
   .cases z
  have fr:Fr (Ot F X' c dd d) (Ot F {X' with pg:=none} c2 O d) H H3:=λb o a5 eb=>{s4 _ _<|a1 _ _ eb,λz=>by
   rcases z with z|z|z
   .exact a5<|.inl z
   .have:=mt b z;rw[a1 _ _ eb]at this;cases this
   .exact a5<|.inr (.inr z)}
  refine q H3 F x [] c2 p2 O {X' with pg:=none} ?_ fr M () M (Qw.of M M) (S4.C.ob.imp λ_ h=>{_,h});rw[ZL];refine{S4.J,C2,λb hb=>?_,λz=>?_,S4.hn,{S.I.le,S.I.nd,S.I.cp,S.I.kp,S.I.su,λ_ z=>by cases z},?_}
  .rcases hb with hb|hb|hb|⟨P,z,_⟩
   .exact G.J.A.out<|mt b hb
   .rwa[show b=p2 from hb]
   .exact S.nF b<|.inr (.inr<|.inl hb)
   .cases z
  .have:=mt d z;rw[G.J.di]at this;cases this
  .exact S.cS.fr fr
 .have z0:=Z2 (z/16) (show(4:Int)≠0 by decide);have dl:=S.J.len;refine{_,M,c,dc,_,M,hc,{_},_,M,_,_,M,M,{(_),(_)},_,_,M,M,(by show(0:Int)<4;decide),_,_,M,M,c,a,p,dd,kd,_,av,e,X',F,x,ds,M,S.C,S.J.A,S.J.dy,S.I,S.J.D,(),(),λH6 X6 e6 C6 I6 k6=>?_};let{S6,f6}:=S.fo e6 C6 I6 k6;refine{_,M,q H6 F x [] c p dd X6 (by rwa[ZL]) f6 M () M ?_<|S6.C.ob.imp λ_ h=>{_,h}};rw[e6];exact Qw.fold S.J.D S.I JI
def yX(K:FA)(t:PL):Sp:=λvs H Q _=>∃(l nb:G')(ks:O')(kd:Int)(av e bv ba rv ra:V),vs=[.ref l,.ref nb,bv,rv]/\H l=some (.lst<|ks.map V.int)/\(∀k∈ks,0<=k)/\H nb=some (.tup [.int kd,av,e])/\Qp kd av e/\RG t H bv kd ba e/\RG t H rv kd ra e/\(∀k,0<=k->hO rv kd ra e k=true->hO bv kd ba e k=true)/\∀H',G3 H H'->Q (.bl true) H'
def zF:Ck P w K mg base PP 4 t.uk t.m4 [u4,eR,vm,"_law_after"] (yX K t):=by
 refine T.Ce.okl zo λs H vs Q E Z h _=>?_;intro X;let{l,O,ks,kd,av,e,U,ba,G,ra,rfl,hl,k0,hn,on,TB,TR,gr,q}:=h;refine bU (λx=>(d9 WX M (dj Ca) (RB 4)
    x)) ?_
 refine aB (aO (PW.pt<|eV (bF<|aJ (nI T) Z.mo {_} T.pc T.jE.kp T.pH .nil az (ac M2<|ac P8<|ac QI ai))<|dh<|eY<|bF<|aJ (nI T) Z.mo {_} T.pc T.jE.kp T.pH .nil az (ac M2<|ac PR<|ac QI ai))
    (aA<|aD lh)
    aF) ?_
 intros
 refine aB (aD lh) ?_
 intros
 refine{_,M,l,M,{_,Kv.of hl},iR (K:=K) (a:=l) (xs:=ks.map V.int) (λi W H'=>∃Y:Option V,W=[some (.ref l),some (.ref O),some U,some G,Y]/\G3 H H') {none,M,G3.refl _} (λi W H' _ w=>by let{_,_,s}:=w;exact Kv.of<|s _ _ hl) (λi z W H' hz w=>?_)<|λW H' w=>?_}
 .let{Y,rfl,s}:=w;let{k,hk,rfl}:=Z5.mp (Q2 hz);unfold dA
  (try dsimp only)
  refine{_,M,_,M,_,M,O,kd,k,av,e,U,ba,M,s _ _ hn,on,TB.same s,λH1 s1=>{_,M,?_}};have I:=s.trans s1;cases c:hN kd av e k&&!hO U kd ba e k with
  |false=>exact cm {_,M,I}
  |true=>
   refine b8 {_,M,_,M,_,M,O,kd,k,av,e,G,ra,M,I _ _ hn,on,TR.same I,λH2 s2=>{_,M,?_}};rw[Zs]at c;have h2:hO G kd ra e k=false:=by
    cases c2:hO G kd ra e k with
    |false=>rfl
    |true=>
     have:=gr k (k0 k hk) c2;rw[this]at c;cases c.2
   rw[c.1,h2];exact cm {_,M,I.trans s2}
 .let{Y,rfl,s}:=w;exact q _ s
theorem Aq{kd:Int}{av e:V}:∀{l:List DR}{X:PX},X.pg=none->(l.foldl (bg kd av e) X).pg=none/\(l.foldl (bg kd av e) X).rv=X.rv/\(l.foldl (bg kd av e) X).ra=X.ra
 | [],_,h=>⟨h,M,M⟩
 |x::r,X,h=>by
  rcases lV (X:=X) (kd:=kd) (av:=av) (e:=e) (x:=x)with⟨z,I,O,_⟩|⟨P,m,z,_⟩
  .have h':(bg kd av e X x).pg=none:=by
    cases c:(bg kd av e X x).pg with
    |none=>rfl
    |some P=>
     let{U,G,_}:=O P c;rw[h]at G;cases G
   let{k1,k2,k3}:=Aq (kd:=kd) (av:=av) (e:=e) (l:=r) h';exact{k1,k2.trans z,k3.trans I}
  .rw[h]at z;cases z
def QC.sz{x:QA}(A:QC K t H a F x):PY x.st:=by
 let{s,l,G,p,h,Fs,Fl,JZ,O,g}:=A;let{_,_,_,_,_,z}:=JZ.sl;exact z
def SA(kd:Int)(st:PD)(e:V)(X:PX):Int:=4*(SF st (hO X.rv kd X.ra e):Int)+Rf kd st X.ra
def MP{sc d:G'}{n:SX}{x:QA}{kd:Int}(S:Qg K t H sc a d c p dd n F x ds X kd av e ns)(l:x.st.kv.length<=300)(z:X.rv≠ .non):0<=SA kd x.st e X/\SA kd x.st e X<=1456:=by
 rcases S.C.rt with h|⟨q,_,_,G⟩
 .exact WN h z
 have h1:=OY S.J.A.sz G;have h2:=Zd (λp:Int×V=>hO X.rv kd X.ra e p.1) x.st.kv;unfold SA SF;lia
def Inv.two{kd:Int}{P:QY}(I:Inv kd av e ds X)(z:X.pg=some P)(hc:P.cl=some m):RU P.ta P.tk P.ah P.aa m ds X:=
 .inl {(I.pg P z).rn,(I.pg P z).ra.symm,P,z,M,M,hc}
def wN(K:FA)(t:PL):Sp:=λvs H Q _=>∃(sc a d c p dd nb:G')(F:K')(x:QA)(ds:List DR)(X:PX)(kd:Int)(av e:V)(ns:O'),vs=[.ref c,.ref a,.ref nb,.ref d]/\Qg K t H sc a d c p dd (nb,[.int kd,av,e]) F x ds X kd av e ns/\Qp kd av e/\x.now+x.ma<=1000/\x.st.kv.length<=300/\
 ∀(H':Hp)(F':K')(x':QA)(mo:List DR)(X':PX),Qg K t H' sc a d c p dd (nb,[.int kd,av,e]) F' x' (ds++mo) X' kd av e ns->Fr (Ot F X c dd d) (Ot F' X' c dd d) H H'->x'.now=x.now->x'.ma<=x.ma+160->x'.st=x.st->Q (.bl true) H'
def xI:Ck P w K mg base PP 12 t.qR t.kF [ff,ge,eR,pD] (wN K t):=by
 refine T.zZ.okl xb λs H vs Q E hr h _=>?_;intro X;let{sc,a,d,c,p,dd,nb,F,x,ds,X',kd,av,e,ns,rfl,S,on,l,l0,q}:=h;refine bU (λx=>(d9 WX M (iQ {_} T.lT (ac ae ai)) (RB 4)
    x)) ?_
 refine lu (λx=>aO (ay jM (bq Ca T.aw T.fS (hJ T) hr.mo T.gh .nil az) bc<|au _) x aF) ?_;refine Iu (λx y=>aO (eY<|bF<|aJ (tG T) hr.mo {_} T.fk T.dN.kp T.ft .nil az (ac Ca<|ac ae ai)) x y) ?_;refine aj (aM<|aT Ca T.aw T.qq (gR T) hr.mo T.qu .nil Ip<|ac ae ai)
   (aB (aM<|bq Ca T.aw T.oZ (gj T) hr.mo T.pK .nil Ip) ?_)
 intros
 refine aB (aO (PW.pt<|jJ (eY<|bF<|aJ (tG T) hr.mo {_} T.fk T.dN.kp T.ft .nil az (ac Ca<|ac ae ai))<|jc<|eY<|bF<|aJ (tG T) hr.mo {_} T.fk T.dN.kp T.ft .nil az (ac Ca<|ac ae ai))
    (aA<|aM<|aJ (tG T) hr.mo {_} T.fk T.dN.kp T.ft .nil az (ac Ca<|ac ae ai))
    aF) ?_
 intros
 refine aB (aM<|aT Ca T.aw T.lz (jN T) hr.mo T.lK .nil az<|ac ae ai) ?_
 intros
 refine aj (aM<|aT Ca T.aw T.lz (jN T) hr.mo T.lK .nil az<|ac ae ai)
   (aj (PN 5 eO)
   (bU (λx=>(tq (d9 WX M (E3 PR) (RB 6)
    x))) ?_))
 refine aB (aO (bF<|aJ (qF T) hr.mo {_} T.tN T.nE.kp T.uc .nil az (ac P8<|ac RO ai))
    (aA<|jK (iz hr) RC RO (BB (iz hr) PR RO<|λ_ _=>M) M)
    aF) ?_
 intros
 refine aB (aD<|fO (bI eh (bq Ca T.aw T.fS (hJ T) hr.mo T.gh .nil az) bc<|au _)<|c7<|bI (E7 hr.u20) (bq Ca T.aw T.xZ (nK T) hr.mo T.yC .nil az) RC<|au _) ?_
 intros
 refine{120,M,(_),(_),rZ (n:=(120:Int).toNat) (λk W H'=>∃(F3:K')(G:QA)(mo:List DR)(X3:PX)(v4:Su),W=[some (.ref c),some (.ref a),some (.ref nb),some (.ref d),v4,none,none]/\Qg K t H' sc a d c p dd (nb,[.int kd,av,e]) F3 G (ds++mo) X3 kd av e ns/\Fr (Ot F X' c dd d) (Ot F3 X3 c dd d) H H'/\G.now=x.now/\G.st=x.st/\∃jn:Nat,jn<=75/\G.ma<=x.ma+2*jn/\(X3.rv≠ .non->jn=k/\(1<=k->X3.pg=none/\20*(k:Int)+SA kd x.st e X3<=1476))) {F,x,[],X',none,M,by rw[ZL];exact S,Fr.refl,M,M,0,(_),(),λ_=>{M,λh=>()}} (λk W H3 hk w=>?_)<|λW H3 w=>?_}
 .clear S;let{F3,G,mo,X3,v4,rfl,S,f3,c1,c2,jn,j1,j2,j3}:=w;let{dc,hc}:=S.C.ob;unfold dA
  (try dsimp only)
  refine{_,M,c,dc,_,M,hc,{_},c,a,p,dd,kd,av,e,X3,M,S.C,M,_,M,?_};by_cases hv:X3.rv= .non
  .rw[hv];exact pf M {F3,G,mo,X3,_,M,S,f3,c1,c2,jn,j1,j2,λh=>WN hv h}
  let{j4,j5}:=j3 hv;have l4:G.st.kv.length<=300:=by rwa[c2]
  have mb:=(MP S l4 hv).1;rw[c2]at mb;have d4:k<=73:=by
   by_cases h:1<=k
   .have:=(j5 h).2;lia
   .lia
  refine vd hv ?_;refine dQ (λW H5=>W=[some (.ref c),some (.ref a),some (.ref nb),some (.ref d),some (.int<|0+(k:Int)),none,none]/\∃(F5:K')(x5:QA)(Y:List DR)(X5:PX)(ta v a':V)(q1:G')(mk:Int),Qg K t H5 sc a d c p dd (nb,[.int kd,av,e]) F5 x5 (ds++mo++Y) X5 kd av e ns/\Fr (Ot F3 X3 c dd d) (Ot F5 X5 c dd d) H3 H5/\x5.now=G.now/\x5.ma<=G.ma+2/\x5.st=G.st/\RU ta q1 v a' mk (ds++mo++Y) X5/\(1<=k->v≠ .non->20+(4*(SF x.st (hO v kd a' e):Int)+Rf kd x.st a')<=SA kd x.st e X3)) (λnx go=>?_)<|λW H5 w=>?_
  .refine{_,M,sc,a,d,c,p,dd,_,F3,G,_,X3,kd,0,av,e,ns,M,S,(),λH4 rf s4=>{true,M,cm ?_},λH4 F4 x4 bn X4 _ O f4 b1 b2 b3 b4 b5 T4=>{false,M,b8 ?_}}
   .obtain⟨P,hP⟩:∃P,X3.pg=some P:=by
     rcases rf with⟨_,h|h⟩|⟨h,_⟩|⟨h,_⟩
     .cases c:X3.pg with
      |none=>exact WN c h
      |some P=>exact⟨P,M⟩
     .exact WN h hv
     .cases h
     .cases h
    have k0:¬1<=k:=λh=>by rw[(j5 h).1]at hP;cases hP
    have O:=S.same s4;refine{_,M,sc,a,d,c,p,dd,_,F3,G,_,X3,kd,1,av,e,ns,M,O,(),λH5 bo s5=>{true,M,cm ?_},λH5 F5 x5 Y X5 _ S5 f5 b1 b2 b3 b4 b5 T5=>{false,M,b8 ?_}}
    .have hf:P.fd≠none:=by
      rcases bo with⟨h,_⟩|⟨_,h⟩|⟨h,_⟩
      .cases h
      .exact h P hP
      .cases h
     have S5:=O.same s5;refine{_,M,sc,a,d,c,p,dd,_,F3,G,_,X3,kd,2,av,e,ns,M,S5,(),λH6 bt s6=>{true,M,cm ?_},λH6 F6 x6 an X6 _ S6 f6 b1 b2 b3 b4 b5 T6=>{false,M,b8 ?_}}
     .have bv:P.cl≠none:=by
       rcases bt with⟨h,_⟩|⟨h,_⟩|⟨_,h⟩
       .cases h
       .cases h
       .exact h P hP hf
      obtain⟨mk,bw⟩:∃mk,P.cl=some mk:=by
       cases c:P.cl with
       |none=>exact WN c bv
       |some mk=>exact⟨mk,M⟩
      have ax:=(s4.trans s5).trans s6;exact go _ _ {M,F3,G,[],X3,_,_,_,_,_,by rw[ZL];exact S.same ax,Fr.of_same ax,M,(),M,by rw[ZL];exact S.I.two hP bw,λh=>WN h k0}
     .obtain⟨ta,v,a',q1,mk,T6⟩:∃ta v a' q1 mk,RU ta q1 v a' mk (ds++mo++an) X6:=by
       rcases T6 with⟨h,_⟩|⟨h,_⟩|⟨_,ta,v,a',q1,mk,h⟩
       .cases h
       .cases h
       .exact⟨ta,v,a',q1,mk,h⟩
      refine{_,M,sc,a,d,c,p,dd,_,F6,x6,_,X6,kd,2,av,e,ns,M,S6,(),λH7 _ s7=>?_,λH7 F7 x7 ah X7 nr _ _ _ _ _ _ _ _=>(nr ?_).elim}
      .exact go _ _ {M,F6,x6,an,X6,ta,v,a',q1,mk,S6.same s7,(Fr.of_same<|s4.trans s5).trans<|f6.trans<|Fr.of_same s7,b1,(),b3,T6,λh=>WN h k0}
      .refine .inr<|.inr {M,λP' b9 d5 c0=>?_};rcases T6 with⟨_,_,P2,h1,_,_,h2⟩|⟨h,_⟩
       .rw[b9]at h1;cases h1;rw[c0]at h2;cases h2
       .rw[b9]at h;cases h
    .obtain⟨P1,y1,p1,g1,g2⟩:∃P y,X5.pg=some P/\P.fd=some y/\P.cl=none:=by
      rcases T5 with⟨h,_⟩|⟨_,P,y,h⟩|⟨h,_⟩
      .cases h
      .exact⟨P,y,h⟩
      .cases h
     refine{_,M,sc,a,d,c,p,dd,_,F5,x5,_,X5,kd,2,av,e,ns,M,S5,(),λH7 c3 _=>?_,λH7 F7 x7 ah X7 _ S7 f7 d1 d2 d3 _ _ T7=>?_}
     .exfalso;rcases c3 with⟨h,_⟩|⟨h,_⟩|⟨_,h⟩
      .cases h
      .cases h
      .exact h P1 p1 (by rw[g1];intro z;cases z) g2
     .obtain⟨ta,v,a',q1,mk,T7⟩:∃ta v a' q1 mk,RU ta q1 v a' mk (ds++mo++Y++ah) X7:=by
       rcases T7 with⟨h,_⟩|⟨h,_⟩|⟨_,ta,v,a',q1,mk,h⟩
       .cases h
       .cases h
       .exact⟨ta,v,a',q1,mk,h⟩
      exact go _ _ {M,F7,x7,Y++ah,X7,ta,v,a',q1,mk,by rwa[<-Z9],(Fr.of_same s4).trans<|f5.trans f7,d1.trans b1,(),d3.trans b3,by rwa[<-Z9],λh=>WN h k0}
   .obtain⟨P4,p4,ba,c4,c5⟩:∃P,X4.pg=some P/\P.fd=none/\P.cl=none/\P.ta=X3.ra:=by
     rcases T4 with⟨_,P,h⟩|⟨h,_⟩|⟨h,_⟩
     .exact⟨P,h⟩
     .cases h
     .cases h
    obtain⟨q3,c8⟩:∃q3,X3.rv= .ref q3:=by
     rcases S.C.rt with h|⟨q3,h,_⟩
     .exact WN h hv
     .exact⟨q3,h⟩
    let{c9,ca}:=O.C.ob;have kl:=O.J.kl;have le:=O.J.le;have sz:PY x4.st:=O.J.A.sz;refine{_,M,c,c9,_,M,ca,{_},c,a,p,dd,12,kd,av,e,X4,F4,x4,M,O.C,O.J.A,O.nF,(),(),(),(),(λk hk=>(O.J.k0 k hk).1),O.J.iv,(λhz=>WN ba<|hz P4 p4),λP5 hp hf H5 F5 f l v ts a' R A5 C5 cb k5 E5 hl _ _ _=>?_};rw[p4]at hp;cases hp;have pt:v≠ .non->20+(4*(SF x.st (hO v kd a' e):Int)+Rf kd x.st a')<=SA kd x.st e X3:=λnv=>by
     let{H1,U}:=E5;have h:=pot U sz O.J.A.nd (λk hk=>(O.J.kb k hk).1) (_) nv;rw[b3,c2,c5,show R=hO v kd a' e from funext λz=>U_hO U z]at h;unfold SA;rw[c8,show hO (.ref q3) kd X3.ra e=hN kd X3.ra e from funext λz=>yi];lia
    let{X6,P6,y6,S6,f6,p6,ce,cf,cg,ci,_,_}:=O.rd p4 ba c4 A5 C5 cb k5 E5;let{a3,a4}:=S6.C.ob
    (try dsimp only)
    refine{_,M,c,a3,_,M,a4,{_},c,a,p,dd,kd,av,e,X6,F5,x4,M,S6.C,S6.J.A,S6.nF,(),(λhz=>(hz P6 p6 (by rw[ce];intro z;cases z) cf).elim),λP7 y7 hp hy d7 H7 F7 r A7 C7 cj k7=>?_};rw[p6]at hp;cases hp;let{x8,ck,X8,S8,f8,d1,d2,d3,T8,_,_}:=S6.cls p6 hy A7 C7 cj k7;rw[cg,ci]at T8;exact go _ _ {M,F7,x8,bn++ck,X8,_,v,a',_,_,by rwa[<-Z9],f4.trans<|f6.trans f8,d1.trans b1,(),d3.trans b3,by rwa[<-Z9],λ_=>pt}
  clear S hc j5;let{rfl,F5,x5,Y,X5,ta,v,a',q1,mk,S5,f5,d1,d2,d3,T5,pt}:=w;let{co,cq}:=S5.C.ob;have dl:=S5.J.len
  (try dsimp only)
  refine{_,M,c,co,_,M,cq,{_},c,a,p,dd,kd,2000,av,e,X5,F5,x5,_,M,S5.C,S5.J.A,S5.J.dy,S5.I,S5.J.D,(),(_),λH6 X6 e6 C6 I6 k6=>?_};let{S6,f6}:=S5.fo e6 C6 I6 k6;have n6:(ds++mo++Y).length<=X6.n:=by
   have:=S5.I.le;rw[e6,BS,Q7,Zw,show(2000:Int).toNat=2000 from rfl];lia
  have T6:=T5.fold (kd:=kd) (av:=av) (e:=e) (l:=((ds++mo++Y).drop X5.n).take (2000:Int).toNat) JI;rw[<-e6]at T6;have bb:=T6.fin I6 n6;obtain⟨be,cr⟩:X6.rv=v/\X6.ra=a':=by
   rcases T6 with⟨_,_,P,h1,_⟩|⟨_,h1,h2,_⟩
   .rw[bb]at h1;cases h1
   .exact⟨h1,h2⟩
  refine{F5,x5,mo++Y,X6,_,M,by rwa[<-Z9],f3.trans<|f5.trans f6,d1.trans c1,d3.trans c2,jn+1,(),(),λh=>{(),λ_=>{bb,?_}}};by_cases h1:1<=k
  .rw[be]at h;have h2:=pt h1 h;have h3:=((j3 hv).2 h1).2;unfold SA at h2 h3⊢;rw[be,cr];lia
  .have l5:x5.st.kv.length<=300:=by rwa[d3]
   have:=(MP S6 l5 h).2;rw[d3,c2]at this;lia
 clear S;let{F3,G,mo,X3,v4,rfl,S,f3,c1,c2,jn,j1,j2,j3}:=w;have hv:X3.rv= .non:=Classical.byContradiction λh=>by
  have:=(j3 h).1;have:(120:Int).toNat=120:=M;lia
 have hp:X3.pg=none:=by
  cases c:X3.pg with
  |none=>rfl
  |some P=>have:=(S.I.pg P c).rn;rw[hv]at this;cases this
 let{dc,hc}:=S.C.ob;have dl:=S.J.len
 (try dsimp only)
 refine{_,M,c,dc,_,M,hc,{_},c,a,p,dd,kd,2000,av,e,X3,F3,G,_,M,S.C,S.J.A,S.J.dy,S.I,S.J.D,(),(_),λH4 X4 e4 C4 I4 k4=>?_};let{O,f4}:=S.fo e4 C4 I4 k4;have n4:X4.n=(ds++mo).length:=by
  have:=S.I.le;rw[e4,BS,Q7,Zw,show(2000:Int).toNat=2000 from rfl];lia
 let{_,g2,_}:=Aq (kd:=kd) (av:=av) (e:=e) (l:=((ds++mo).drop X3.n).take (2000:Int).toNat) hp;rw[<-e4]at g2;have bf:X4.rv= .non:=g2.trans hv;have f4:=f3.trans f4;have pm:=O.I.due O.J.D;unfold LM at pm;rw[n4,Zn,O.J.tb,show(λp:Int×V=>X4.cov kd av e p.1)=λp=>hN kd av e p.1 from funext λp=>by
  unfold PX.cov hO;rw[bf,WJ M,Bool.not_false,Bool.and_true]]at pm
 clear C4 I4 k4 S hc e4 g2 f3 j3;have nk:=O.J.A.nd;have iv:=O.J.iv;have l4:G.st.kv.length<=300:=by rwa[c2]
 refine λb a5=>?_;have a9:=O.J.di;have bd:b≠d:=λz=>by rw[z,a9]at a5;cases a5
 have sb:=al (o:= .dK []) a5;have aa:upd H4 b (.dK []) b=some (.dK []):=ag;have Z:=sb _ _ a9;have a0:upd H4 b (.dK []) nb=some (.tup [.int kd,av,e]):=sb _ _ O.hn
 (try dsimp only)
 generalize upd H4 b (.dK [])=cs at sb aa Z a0⊢;refine{d,_,Z,_,M,d,_,M,Z,λob=>AE (ob:=ob) (d:=d) (kvs:=aC G.st.kv) (λu W H'=>∃v6:Option V,W=[some (.ref c),some (.ref a),some (.ref nb),some (.ref d),v4,some (.ref b),v6]/\(∀c o,c≠b->c≠d->cs c=some o->H' c=some o)/\H' d=some (.frz ob<|.dK<|aC G.st.kv)/\H' b=some (.dK<|aC<|(G.st.kv.take u).filter λp=>hN kd av e p.1)) ?_ (λi W H' _ w=>?_) (λu k v W H' ct w=>?_)<|λW H' w=>?_}
 .exact{_,M,λc o _ n2 h=>by rwa[af n2],ag,by rwa[af bd]}
 .let{_,_,_,h,_}:=w;exact h
 .let{v6,rfl,kp,a1,a2}:=w;let{y,rfl,eg}:=qc ct;have ym:=Q2 eg;have d0:=kp _ _ (cx a0 aa λz=>by cases z) (cx a0 Z λz=>by cases z) a0;have st:=Dg (P:=λz=>hN kd av e z) eg;unfold dA
  (try dsimp only)
  refine{_,M,_,M,nb,kd,y,av,e,M,QO.of d0,on,_,M,?_};cases cc:hN kd av e y with
  |false=>
   rw[cc]at st;exact cm {_,M,kp,a1,by rw[a2,st];simp}
  |true=>
   have g2:Qh H' d (.int y) (some v):= .inl {_,Sum.inl y,.inr ⟨ob,a1⟩,M,by rw[P9,bC nk ym]};have p2:=Qs.k (k:=Sum.inl y) (v:=v) a2 (by rw[a8];have h1:=Zd (λp:Int×V=>hN kd av e p.1) (G.st.kv.take u);rw[Q7]at h1;exact bh ());rw[cw,tm v (Ft (P:=λz=>hN kd av e z) nk eg),show[(y,v)]=(if hN kd av e y=true then[(y,v)]else[]) by rw[cc];rfl,<-st]at p2;refine b8 {_,M,_,M,d,_,M,g2,_,M,_,M,b,_,M,p2,?_};exact{_,M,λc o h1 h2 h3=>by rw[af h1];exact kp c o h1 h2 h3,by rwa[af (Ne.symm bd)],ag}
 let{v6,rfl,kp,a1,a2}:=w;refine{ob,a1,?_};rw[a8,Zn]at a2;have bl:upd H' d (.dK<|aC G.st.kv) b=some (.dK<|aC<|G.st.kv.filter λp=>hN kd av e p.1):=by rwa[af bd]
 have s6:G3 H4 (upd H' d<|.dK<|aC G.st.kv):=λz o ez=>by
  by_cases c:z=d
  .rwa[c,ag,<-a9,<-c]
  .rw[af c];exact kp z o (am ez a5) c (sb _ _ ez)
 (try dsimp only)
 generalize upd H' d (.dK<|aC G.st.kv)=H6 at bl s6⊢;have S6:=O.same s6;clear kp a1 a2 sb aa Z a0 a9 O;have nf:((G.st.kv.filter λp=>hN kd av e p.1).map (·.1)).Nodup:=nk.sublist (XG.map _);let{a3,a4}:=S6.C.ob;refine{_,M,c,a3,_,M,a4,{_},c,a,p,dd,kd,av,e,X4,M,S6.C,M,_,M,?_};rw[bf];refine dU M {_,M,c,a3,_,M,a4,{_},c,a,p,dd,kd,av,e,X4,M,S6.C,λr7 n7=>?_};have s7:=al (o:= .dK<|aC X4.cp) n7;have h7:upd H6 r7 (.dK<|aC X4.cp) r7=some (.dK<|aC X4.cp):=ag
 (try dsimp only)
 generalize upd H6 r7 (.dK<|aC X4.cp)=H7 at s7 h7⊢;refine{_,M,r7,b,_,_,M,M,h7,s7 _ _ bl,by rw[a8,a8];exact pm.length_eq,λz hz=>?_,?_}
 .unfold aC at hz;let{w,hw,rfl}:=Z5.mp hz;have hw:=pm.mem_iff.mp hw;let{i',ei}:=iv w (Zj.mp hw).1;exact{by show Fl w.2;rw[ei];exact Y1,by show aH (aC _) (Sum.inl w.1)=_;rw[P9];exact bC nf hw}
 exact q H7 F3 G mo X4 (S6.same s7) (f4.trans<|Fr.of_same<|s6.trans s7) c1 () c2
set_option genInjectivity false in
structure Cq where
 c:Addr
 p:Addr
 dd:Addr
 X:PX
def Cq.mut(y:Cq):Addr->Prop:=y.X.mut y.c y.dd
structure C82(t:PL)(H:Hp)(a d:G')(F:K')(ds:List DR)(kd:Int)(av e:V)(y:Cq):Prop where
 C:QD t H y.c a y.p y.dd kd av e y.X
 nF:∀b,y.X.adr y.c y.p y.dd b->¬F b
 nm:¬y.mut d
 I:Inv kd av e ds y.X
section
variable{sc d:G'}{n:SX}{x:QA}{mo:List DR}{kd:Int}
def QD.nadI(z:QD t H c a p dd kd av e X)(hb:H b=some o)(hl:∀xs,o≠ .lst xs)(tk:∀{q:G'}{k:Int}{a' e:V},QL t H q k a' e->q≠b)(nm:¬X.mut c dd b):¬X.adr c p dd b:=λh=>by
 rcases h with h|h|h|⟨P,G,h|h|⟨y,hy,h⟩⟩
 .exact nm h
 .exact tk z.tk.1 h.symm
 .rcases z.rt with g|⟨q,h1,h2,_⟩
  .rw[g]at h;cases h
  .rw[h1]at h;cases h;exact tk h2 M
 .exact tk (z.pg P G).1.tk.1 h.symm
 .rcases(z.pg P G).1.ah with g|⟨q,h1,h2,_⟩
  .rw[g]at h;cases h
  .rw[h1]at h;cases h;exact tk h2 M
 .have:=((z.pg P G).1.fd y hy).1;rw[<-h,hb]at this;exact hl _<|WL this
def QD.apart{G U dd':G'}{I:Int}{O e':V}(C:QD t H c a p dd kd av e X)(C':QD t H G a U dd' I O e' X')(h:∀b,X.mut c dd b->¬X'.mut G dd' b):∀b,X.mut c dd b->¬X'.adr G U dd' b:=λb hb=>by
 have nm:=h b hb;rcases hb with rfl|rfl|⟨P,Y,rfl|rfl⟩
 .let{dx,Z}:=C.ob;exact C'.nadI Z (λ_ z=>by cases z) (λh=>h.ne Z M) nm
 .exact C'.nadr C.cp nm
 .let{dg,hg}:=(C.pg P Y).1.ob;exact C'.nadI hg (λ_ z=>by cases z) (λh=>h.ne hg M) nm
 .exact C'.nadr (C.pg P Y).1.no nm
end
structure R8(K:FA)(t:PL)(H:Hp)(sc a d:G')(n:SX)(F:K')(x:QA)(ds:List DR)(L:List Cq)(kd:Int)(av e:V)(ns:O'):Prop where
 J:Jd K t H a d F x ds
 hn:H n.1=some (.tup n.2)
 cS:Rq K (Wh F d) H sc (ns.map V.int)
 cs:∀(i:Nat)(y:Cq),L[i]?=some y->C82 t H a d F ds kd av e y
 ap:∀(i j:Nat)(y z:Cq),i≠j->L[i]?=some y->L[j]?=some z->∀b,y.mut b->¬z.mut b
def N82(F:K')(d:G')(L:List Cq)(b:G'):Prop:=¬Wh F d b/\∀y∈L,¬y.mut b
section
variable{H6:Hp}{sc d lc:G'}{n:SX}{x:QA}{mo:List DR}{kd:Int}{y y':Cq}
def R8.off(Dr:R8 K t H sc a d n F x ds L kd av e ns)(hb:H b=some o)(I:∀C d fs,o≠ .ins C d fs)(G:∀k,o≠ .dK k)(O:¬F b):N82 F d L b:=
 {(λz=>z.elim O λz=>by rw[z,Dr.J.di]at hb;exact G _ (WL hb).symm),λy hy z=>by
   let{i,hi}:=List.getElem?_of_mem hy;exact(Dr.cs i y hi).C.nmut hb I G z}
def R8.at(Dr:R8 K t H sc a d n F x ds L kd av e ns)(O:L[i]?=some y):Qg K t H sc a d y.c y.p y.dd n F x ds y.X kd av e ns:=by
 let{C,U,nm,I}:=Dr.cs i y O;refine{Dr.J,C,U,nm,Dr.hn,I,?_};rcases Dr.cS with⟨rd,G⟩|h
 .refine .inl {rd,λz=>?_};rcases z with z|z|z
  .exact G<|.inl z
  .rcases rd with rd|⟨ob,rd⟩
   .exact C.nmut rd (λ_ _ _ z=>by cases z) (λ_ z=>by cases z) z
   .exact C.nmut rd (λ_ _ _ z=>by cases z) (λ_ z=>by cases z) z
  .exact G<|.inr z
 .exact .inr h
def R8.same(Dr:R8 K t H sc a d n F x ds L kd av e ns)(s:G3 H H'):R8 K t H' sc a d n F x ds L kd av e ns:=
 {Dr.J.same s,s _ _ Dr.hn,Dr.cS.fr<|Fr.of_same s,λi y e=>{(Dr.cs i y e).C.same s,(Dr.cs i y e).nF,(Dr.cs i y e).nm,(Dr.cs i y e).I},Dr.ap}
def R8.go(Dr:R8 K t H sc a d n F x ds L kd av e ns)(J:Jd K t H' a d F' x' (ds++mo))(f:Fr (Wh F d) (Wh F' d) H H'):R8 K t H' sc a d n F' x' (ds++mo) L kd av e ns/\∀b o,H b=some o->N82 F d L b->H' b=some o/\N82 F' d L b:=by
 have tu:∀b xs,H b=some (.tup xs)->H' b=some (.tup xs):=λb xs G=>(f b _ (λz=>z.elim (Dr.J.A.notup G) λz=>by rw[z,Dr.J.di]at G;cases G) G).1;refine{{J,tu _ _ Dr.hn,Dr.cS.fr f,λi y U=>?_,Dr.ap},λb o G O=>{(f b o O.1 G).1,(f b o O.1 G).2,O.2}};let{S,_}:=(Dr.at U).go J f;exact⟨S.C,S.nF,S.nm,S.I⟩
set_option tactic.hygienic true in
def Bn{y' z:Cq}(h:(L.set i y')[j]?=some z):(j=i/\z=y')\/(j≠i/\L[j]?=some z):=by
 rw[Zm]at h;split at h
 .rename_i e
  split at h
  .exact .inl {e.symm,(WL h).symm}
  .cases h
 .rename_i e
  exact .inr {λz=>e z.symm,h}
def R8.back(Dr:R8 K t H sc a d n F x ds L kd av e ns)(Z:L[i]?=some y)(S:Qg K t H' sc a d y'.c y'.p y'.dd n F' x' (ds++mo) y'.X kd av e ns)(f:Fr (Ot F y.X y.c y.dd d) (Ot F' y'.X y'.c y'.dd d) H H'):R8 K t H' sc a d n F' x' (ds++mo) (L.set i y') kd av e ns/\∀b o,H b=some o->N82 F d L b->H' b=some o/\N82 F' d (L.set i y') b:=by
 have S0:=Dr.at Z;have G:∀(j:Nat)(z:Cq),j≠i->L[j]?=some z->Fst t H' z.c a z.p z.dd kd av e z.X (Ot F' y'.X y'.c y'.dd d):=λj z ne U=>by
  let{C,nF,nm,I}:=Dr.cs j z U;refine Fst.fr (E:=Ot F y.X y.c y.dd d) {C,λb hb w=>?_} f S0.tu;rcases w with w|w|w
  .exact nF b hb w
  .exact S0.C.apart C (λb h1 h2=>Dr.ap i j y z (Ne.symm ne) Z U b h1 h2) b w hb
  .exact C.nadr Dr.J.di nm<|w▸hb
 refine{{S.J,S.hn,?_,λj z U=>?_,λj k u v ne eu ev b h1 h2=>?_},λb o eb Y=>?_}
 .rcases S.cS with⟨rd,nf⟩|h
  .exact .inl {rd,λz=>nf<|z.elim .inl λz=> .inr<|.inr z}
  .exact .inr h
 .rcases Bn U with⟨_,rfl⟩|⟨ne,e⟩
  .exact⟨S.C,S.nF,S.nm,S.I⟩
  .let{C,nF,nm,I}:=Dr.cs j z e;have O:=G j z ne e;exact{O.C,λb hb w=>O.n b hb<|.inl w,nm,I.more}
 .rcases Bn eu with⟨j1,rfl⟩|⟨j1,e1⟩<;>rcases Bn ev with⟨k1,rfl⟩|⟨k1,e2⟩
  .exact ne<|j1.trans k1.symm
  .exact(G k v k1 e2).n b (.inl h2)<|.inr (.inl h1)
  .exact(G j u j1 e1).n b (.inl h1)<|.inr (.inl h2)
  .exact Dr.ap j k u v ne e1 e2 b h1 h2
 .let{h1,h2}:=f b o (λw=>by
   rcases w with w|w|w
   .exact Y.1<|.inl w
   .exact Y.2 y (Q2 Z) w
   .exact Y.1<|.inr w) eb
  refine{h1,λw=>h2<|w.elim .inl λw=> .inr (.inr w),λz hz w=>?_};let{j,hj}:=List.getElem?_of_mem hz;rcases Bn hj with⟨_,rfl⟩|⟨_,e⟩
  .exact h2<|.inr (.inl w)
  .exact Y.2 z (Q2 e) w
def QD.nlc{c0 G:G'}{I:Sn}(C:QD t H c a p dd kd av e X)(hl:H lc=some (.lst (V.ref c0::xs)))(hc:H c0=some (.ins t.aR G I)):¬X.adr c p dd lc:=λh=>by
 have tk:∀{q:G'}{a':V},QL t H q kd a' e->q≠lc:=λh=>h.nd hl λ_ _ _ z=>by cases z
 rcases h with h|h|h|⟨P,O,h|h|⟨y,hy,h⟩⟩
 .exact C.nmut hl (λ_ _ _ z=>by cases z) (λ_ z=>by cases z) h
 .exact tk C.tk.1 h.symm
 .rcases C.rt with g|⟨q,h1,h2,_⟩
  .rw[g]at h;cases h
  .rw[h1]at h;cases h;exact tk h2 M
 .exact tk (C.pg P O).1.tk.1 h.symm
 .rcases(C.pg P O).1.ah with g|⟨q,h1,h2,_⟩
  .rw[g]at h;cases h
  .rw[h1]at h;cases h;exact tk h2 M
 .let{h1,h2}:=(C.pg P O).1.fd y hy;rw[<-h,hl]at h1;cases c:y.2 with
  |nil=>rw[c]at h1;cases h1
  |cons u r=>
   rw[c]at h1;have Y:V.ref c0=V.ref u.p:=(List.cons.inj<|HO.lst.inj<|WL h1).1;have U:=h2 u (by rw[c];exact Z4);rw[<-V.ref.inj Y,hc]at U;cases U
def R8.lst{c0 U:G'}{Y:Sn}{xs:P7}{o:HO}(Dr:R8 K t H sc a d n F x ds L kd av e ns)(Z:sc≠lc\/∀H',Kv K H' sc (ns.map V.int))(hl:H lc=some (.lst (V.ref c0::xs)))(hc:H c0=some (.ins t.aR U Y))(nF:¬F lc):R8 K t (upd H lc o) sc a d n F x ds L kd av e ns:=by
 have G:∀z o',z≠lc->H z=some o'->upd H lc o z=some o':=λz o' n e=>by rwa[af n]
 have ne:∀{z:G'}{o':HO},H z=some o'->(∀xs,o'≠ .lst xs)->z≠lc:=λh1 h2 w=>by
  rw[w,hl]at h1;exact h2 _ (WL h1).symm
 have J:=Dr.J;have A:QC K t (upd H lc o) a F x:=J.A.keep (λz hz=>by rw[af λw:z=lc=>nF (w▸hz)]) λz xs O=>G z _ (ne O λ_ z=>by cases z) O;refine{{A,G _ _ (ne J.di λ_ z=>by cases z) J.di,J.nd,J.kb,J.iv,J.le,J.dy,J.D,J.tb,J.mx,J.fl,J.ho},G _ _ (ne Dr.hn λ_ z=>by cases z) Dr.hn,?_,λj z O=>?_,Dr.ap}
 .rcases Z with h|h
  .rcases Dr.cS with⟨rd,nf⟩|h'
   .exact .inl {rd.imp (G _ _ h) λzz=>by let{ob,rd}:=zz;exact{ob,G _ _ h rd},nf}
   .exact .inr h'
  .exact .inr h
 .let{C,nF,nm,I}:=Dr.cs j z O;exact⟨C.go λw o' ew hw=>G w o' (λu=>by
   rcases hw with hw|⟨xs,hw⟩
   .exact C.nlc hl hc<|u▸hw
   .rw[hw]at ew;exact ne ew (λ_ z=>by cases z) u) ew,nF,nm,I⟩
def R8.add(Dr:R8 K t H sc a d n F x ds L kd av e ns)(s:G3 H H6)(C:QD t H6 c a p dd kd av e {.ref p,av,ds.length,[],none})(nc:H c=none)(nd:H dd=none)(G:¬F p):R8 K t H6 sc a d n F x ds (L++ [{c,p,dd,{.ref p,av,ds.length,[],none}}]) kd av e ns:=by
 have I:=Dr.same s;have at_:∀(j:Nat)(z:Cq),(L++ [{c,p,dd,{.ref p,av,ds.length,[],none}}])[j]?=some z->L[j]?=some z\/(j=L.length/\z={c,p,dd,{.ref p,av,ds.length,[],none}}):=λj z h=>by
  rcases Nat.lt_trichotomy j L.length with k|k|k
  .rw[ZP k]at h;exact .inl h
  .rw[k,ZN (Q5 _),Wk]at h;exact .inr {k,(WL h).symm}
  .rw[XS (by rw[Q8,ZS];lia)]at h;cases h
 have mt:∀z,({c,p,dd,{.ref p,av,ds.length,[],none}}:Cq).mut z->H z=none:=λz hz=>by
  rcases hz with z1|z1|⟨P,z1,_⟩
  .rwa[show z=c from z1]
  .rwa[show z=dd from z1]
  .cases z1
 have U:∀(j:Nat)(z:Cq),L[j]?=some z->∀b,z.mut b->H b≠none:=λj z O b hb w=>by
  let{o,Y,_}:=(Dr.cs j z O).C.dom (.inl hb);rw[w]at Y;cases Y
 refine{I.J,I.hn,I.cS,λj z O=>?_,λj k u v Z eu ev b h1 h2=>?_}
 .rcases at_ j z O with h|⟨_,rfl⟩
  .exact I.cs j z h
  .refine{C,λb hb=>?_,λz=>?_,Inv.begin}
   .rcases hb with hb|hb|hb|⟨P,z,_⟩
    .exact Dr.J.A.out<|mt b hb
    .rwa[show b=p from hb]
    .cases hb;exact G
    .cases z
   .have:=mt d z;rw[Dr.J.di]at this;cases this
 .rcases at_ j u eu with e1|⟨j1,rfl⟩<;>rcases at_ k v ev with e2|⟨k1,rfl⟩
  .exact Dr.ap j k u v Z e1 e2 b h1 h2
  .exact U j u e1 b h1<|mt b h2
  .exact U k v e2 b h2<|mt b h1
  .exact Z<|j1.trans k1.symm
def OR(h:(L.map λy=>V.ref y.c)[i]?=some v):∃y,L[i]?=some y/\v= .ref y.c:=by
 rw[Zf]at h;cases c:L[i]? with
 |none=>rw[c]at h;cases h
 |some y=>rw[c]at h;cases h;exact⟨y,M,M⟩
end
set_option tactic.hygienic true in
def OM{y:Cq}(z:L[i]?=some y):(L.set i {y with X:=X'}).map (λy=>V.ref y.c)=L.map λy=>V.ref y.c:=by
 rw[VI];refine List.ext_getElem? λj=>?_;rw[Zm];split
 .rename_i h
  subst h;split
  .rw[Zf,z];rfl
  .rename_i h
   rw[XS ()]
 .rfl
def HU(K:FA):Sp:=λvs H Q _=>∃(a:G')(ns:O'),vs=[.ref a]/\Kv K H a (ns.map V.int)/\ns.length<=63/\∀H',Q (.bl true) H'
def NC:Ck P w K mg base PP 13 t.ML t.Fz [nj] (HU K):=by
 refine T.Ps.okl Nk λs H vs Q E Y h _=>?_;intro X;let{sc,ns,rfl,hS,bt,q}:=h;refine aj (PN 1<|tD T.O7 (xP T) Y.mo {_} T.Pa T.Ks .nil az)
   (aj (PN 2 eO)
   (aj (PN 3<|aJ (wk T) Y.mo {_} T.IS T.yP.kp T.JU .nil az (ac (aJ (wm T) Y.mo {_} T.ya T.pZ.kp T.yB .nil az (ac Ca<|ac ae ai))<|ac (mK M (PM.of (M':=[eH]) (N:=[nj,ge,pD,eR,"_law_copiers",qO,eH,"_law_one",vm,ff]) (N':=[nj,ge,pD,eR,"_law_copiers",qO,"","_law_one",vm,ff]) (dsc:=ak EW) M M ∅) (dj<|eK gK Ca (fL ae)<|fL ae)<|λ_ _ _ _ _=>(ao aQ (ao aP Ca ae) ae)) ai))
   (aj (PN 4<|cu<|ac (gN T.At (nJ T) Y.mo {_} T.Av T.iu.choose_spec.1 T.iu.choose_spec.2 az (ac M2<|ac (aJ (qD T) Y.mo {_} T.tM T.nC.kp T.ub .nil az (ac PR ai)) ai)) ai)
   (bU (λx=>(d9 WX M (Gm {_} T.lT (ac ae<|ac (aI (lI M) {_} T.z7 sw (ac (aI aE {_} T.bT bi (ac Ca ai))<|ac ae ai)) ai)) (RB 5)
    x)) ?_))))
 refine aj (PN 6<|aS aU Ca RC<|λ_ _=>M)
   (bU (λx=>aO (ay bJ RC (ao bx ae<|ao aQ (aJ (wm T) Y.mo {_} T.ya T.pZ.kp T.yB .nil az (ac Ca<|ac ae ai)) ae)<|au _) x aF) ?_)
 refine aB (aM<|dH Zi ZQ ZR dS QI<|ac (gN T.At (nJ T) Y.mo {_} T.Av T.iu.choose_spec.1 T.iu.choose_spec.2 az (ac M2<|ac (aJ (qD T) Y.mo {_} T.tM T.nC.kp T.ub .nil az (ac PR ai)) ai)) ai) ?_
 intros
 refine lu (λx=>aO (ay bJ (ao aQ RO ae) ae<|au _) (aA<|aM<|bq M2 T.aV T.jQ (eZ T) Y.mo T.jS .nil az) x) ?_;refine E8 (λx y=>aO (ay bJ (ao aQ RO ae) ae<|au _) x y) ?_;refine aB (aM<|aJ (BG T) Y.mo {_} T.MB T.DB.kp T.MJ .nil az (ac M2<|ac P8<|ac (ao aP RO ae) ai)) ?_
 intros
 refine aj (PN 7<|ao aQ (ao aP RO ae)<|aI aE {_} T.bT bi (ac QI ai))
   (aj (PN 8<|bq (aS aU QI Rp<|λ_ _=>M) T.aw T.fS (hJ T) Y.mo T.gh .nil az)
   (aj (xB (aJ (wj T) Y.mo {_} T.IR T.yO.kp T.JT .nil az (ac (aS aU QI Rp<|λ_ _=>M)<|ac M2<|ac PR<|ac (ao aP RO ae) ai))<|By QI Rp sQ)
   (aj (aO (eY<|bF<|aJ (zF T) Y.mo {_} T.LD T.Ce.kp T.LS .nil az (ac (gx (yx Y.hd) {_} T.Ht BY (ac P8 ai))<|ac PR<|ac SV<|ac (bq (aS aU QI Rp<|λ_ _=>M) T.aw T.fS (hJ T) Y.mo T.gh .nil az) ai))
    (aA<|aD lh)
    aF)
   (aB (aO (eY<|bF<|aJ (uW T) Y.mo {_} T.Hf T.ww.kp T.Hj .nil az (ac (aS aU QI Rp<|λ_ _=>M)<|ac M2<|ac PR ai))
    (aA<|aD lh)
    aF) ?_))))
 intros
 refine bU (λx=>(d9 WX M (dj QI) (RB 9)
    x)) ?_
 refine aB (aO (eY<|bF<|aJ (xI T) Y.mo {_} T.Kj T.zZ.kp T.Kl .nil az (ac pv9<|ac M2<|ac PR<|ac P8 ai))
    (aA<|aD lh)
    aF) ?_
 intros
 refine aB (aD lh) ?_
 intros
 refine λa dx na bv ct=>{a,dx,M,ag,λH1 F1 A1 f1=>{M,λd n1=>?_}};have o1:∀b o,H b=some o->H1 b=some o/\¬F1 b:=λb o e=>f1 b o (am e na) (by rwa[af (am e na),af (am e bv)]);have J2:Jd K t (upd H1 d<|.dK []) a d F1 QA.new []:={A1.same<|al n1,ag,A1.out n1,(λ_ z=>by cases z),(λ_ z=>by cases z),(_),M,{(λ_ z=>by cases z),(λi j x y m h=>by rw[Vy]at h;cases h),(λi x k h=>by rw[Vy]at h;cases h)},M,(λ_ z=>by cases z),M,M};have o2:∀b o,H b=some o->upd H1 d (.dK []) b=some o/\¬Wh F1 d b:=λb o e=>{by rw[af (am (o1 b o e).1 n1)];exact(o1 b o e).1,λz=>z.elim (o1 b o e).2<|am (o1 b o e).1 n1};show Bd _ _ _ _ (upd H1 d<|.dK []);generalize upd H1 d (.dK [])=H2 at J2 o2⊢;have cS:=(Rq.of (F:=λ_=>False) hS λ_ _ z=>z).fr (F':=Wh F1 d) (H':=H2) λb o _ e=>o2 b o e;clear o1 o2 hS A1 f1 n1 na bv ct;obtain⟨c1,bw⟩:∃c:Int,ns.getD (1:Int).toNat 0=c:={_,M};obtain⟨c0,d0⟩:∃c:Int,ns.getD (0:Int).toNat 0=c:={_,M};let{cs,c2,sb}:=JK ns (some 2) (some 6);have d1:cs.length<=63:=Zl sb.length_le bt;refine{_,M,sc,ns,1,M,cS.sq,(_),?_};rw[bw];refine{_,M,_,M,_,M,sc,_,M,cS.sq,λp1 c4=>?_};rw[c2];have s3:=al (o:= .lst<|cs.map V.int) c4;have h3:upd H2 p1 (.lst<|cs.map V.int) p1=some (.lst<|cs.map V.int):=ag
 (try dsimp only)
 generalize upd H2 p1 (.lst<|cs.map V.int)=H3 at s3 h3⊢;have J3:=J2.same s3;have c5:=cS.fr (Fr.of_same s3);clear J2 cS s3 c4 c2 sb;refine{p1,M,{_,Kv.of h3},λD hD=>qg (K:=K) (a:=p1) (xs:=cs.map V.int) (λn ys H'=>H'=upd H3 D (.lst ys)/\∃ks:List Int,ys=ks.map V.int/\ks.length=n/\∀k∈ks,0<=k/\k<10^40) {M,[],M,M,λ_ z=>by cases z} (λn ys H' _ w=>by rw[w.1];exact Kv.of<|al hD _ _ h3) (λn v ys H' hx w a2=>?_)<|λys H' w a2=>?_}
 .let{rfl,ks,rfl,lk,kb}:=w;have hn:=(Q3.mp hx).1;let{z,_,rfl}:=Z5.mp (Q2 hx);have z0:=Z2 (z/5) (show(3000:Int)≠0 by decide);have z1:=Z0 (z/5) (show(0:Int)<3000 by decide);refine{_,M,_,_,M,M,{(_),(_)},_,_,M,M,(by show(0:Int)<3000;decide),QF.mk hn a2 (cv<|by rw[Q1]at hn⊢;lia) {by rw[cR],ks++ [z/5%3000],by rw[Z6];rfl,by rw[Q8,lk];rfl,λk hk=>?_}};rcases Q6.mp hk with hk|hk
  .exact kb k hk
  .rw[Q9.mp hk];constructor<;>lia
 let{rfl,ks,rfl,lk,kb}:=w;have s4:=al (o:= .lst<|ks.map V.int) hD
 (try dsimp only)
 generalize upd H3 D (.lst<|ks.map V.int)=H4 at s4 a2⊢;refine{_,D,ks,M,a2,kb,?_};intro H5 Z av e s5 hn on ba be;obtain⟨kd,c8⟩:∃kd:Int,c1%3=kd:={_,M};rw[c8]at hn on;have J5:=(J3.same s4).same s5;have b5:=(c5.fr<|Fr.of_same s4).fr (Fr.of_same s5);clear s4 s5 J3 c5 h3 a2 hD kb lk c8 bw
 (try dsimp only)
 refine{_,M,_,M,Z,kd,av,e,M,QO.of hn,on,λH6 p s6 np TK=>?_};refine λc dx nc a4 c9=>?_;have s7:=b6 (al (o:= .own c) a4) (o:= .ins t.aR dx []) nc;have J6:=J5.same s6;refine{c,dx,a,p,kd,av,e,.non,F1,QA.new,{.ref p,av,0,[],none},M,ag,J6.A.same s7,TK.same s7,on,{M,.inl ⟨M,M,M,M,M⟩},λH7 dd C a5 kp=>{M,(by show 1<=sizeLine;decide),λlc nlc=>?_}};have a9:G3 H6 H7:=λb o e=>kp b o (am e nc) (s7 _ _ e);have W6:R8 K t H6 sc a d (Z,[.int kd,av,e]) F1 QA.new [] [] kd av e ns:={J6,s6 _ _ hn,b5.fr<|Fr.of_same s6,(λi y h=>by rw[Vy]at h;cases h),(λi _ y _ _ h=>by rw[Vy]at h;cases h)};have W7:=(W6.add a9 C nc (cV s7 a5)<|J5.A.out np).same (al (o:= .lst [.ref c]) nlc);have ca:sc≠lc\/∀H',Kv K H' sc (ns.map V.int):=by
  rcases b5.fr (Fr.of_same<|s6.trans a9)with⟨rd,_⟩|h
  .exact .inl<|rd.elim (λh=>am h nlc) λzz=>by let{_,h}:=zz;exact am h nlc
  .exact .inr h
 have b9:upd H7 lc (.lst [.ref c]) lc=some (.lst [.ref c]):=ag;have bb:¬F1 lc:=(J6.same a9).A.out nlc
 (try dsimp only)
 generalize upd H7 lc (.lst [.ref c])=H8 at W7 b9⊢;clear W6 a9 s7 kp C a5 nc a4 c9 J5 J6 TK np s6 b5 nlc hn d1;obtain⟨L0,aa⟩:∃L:List Cq,L=[]++ [{c,p,dd,{.ref p,av,([]:List DR).length,[],none}}]:={_,M};have bd:H8 lc=some (.lst<|L0.map λy=>V.ref y.c):=by rwa[aa]
 have bf:L0.length=1:=by rw[aa];rfl
 rw[<-aa]at W7;clear aa b9;unfold dA
 (try dsimp only)
 obtain⟨tt,d2⟩:∃tt:Int,2+c0%20=tt:={_,M};obtain⟨nn,cb⟩:∃nn:Int,(if(52:Int)<((ns.map V.int).length:Int)then(52:Int)else((ns.map V.int).length:Int))=nn:={_,M};have dm:nn<=((ns.map V.int).length:Int)/\nn<=52/\0<=nn:=by
  rw[<-cb];split<;>lia
 refine{_,M,sc,_,M,.inl W7.cS.sq,_,_,M,?_};rw[cb];refine{2,nn,M,{(),(),(),()},rZ (lo:=2) (n:=(nn-2).toNat) (λi W H'=>∃(F':K')(x':QA)(O:List DR)(L':List Cq)(v5 v6 v7 v8:Su),W=[some (.ref sc),some (.ref a),some (.ref d),some (.ref Z),some (.ref lc),v5,v6,v7,v8,none]/\R8 K t H' sc a d (Z,[.int kd,av,e]) F' x' O L' kd av e ns/\H' lc=some (.lst<|L'.map λy=>V.ref y.c)/\¬F' lc/\(L'.length=1\/(L'.length=2/\tt<2+i))/\x'.now<=4*i/\x'.ma<=i/\x'.st.kv.length<=300) {F1,_,_,L0,none,none,none,none,M,W7,bd,bb,.inl bf,(_),(_),(_)} (λi W H' hi w=>?_)<|λW H' w=>?_}
 .clear W7 bd bb bf;let{F',x',O,L',v5,v6,v7,v8,rfl,Dr,hl,nF,ll,l1,l2,l3}:=w;have ki:2+(i:Int)<((ns.map V.int).length:Int):=();rw[Q1]at ki;unfold dA
  (try dsimp only)
  refine{_,M,_,M,sc,_,_,_,M,M,Dr.cS.sq,ua () ki,?_};obtain⟨z,ez⟩:∃z:Int,ns.getD (2+(i:Int)).toNat 0=z:={_,M};rw[ez];clear ez ki;unfold dA
  (try dsimp only)
  refine dQ (λW H2=>∃(G:List Cq),W=[some (.ref sc),some (.ref a),some (.ref d),some (.ref Z),some (.ref lc),some (.int<|2+(i:Int)),some (.int z),v7,v8,none]/\R8 K t H2 sc a d (Z,[.int kd,av,e]) F' x' O G kd av e ns/\H2 lc=some (.lst<|G.map λy=>V.ref y.c)/\(G.length=1\/(G.length=2/\tt<2+((i+1:Nat):Int)))) (λnx go=>?_)<|λW H2 w=>?_
  .refine{_,M,_,M,sc,ns,0,M,Dr.cS.sq,(_),_,_,M,M,(by show(0:Int)<20;decide),_,_,M,M,M,_,M,?_};rw[d0,d2];refine bL (λy=>?_)<|λy=>go _ _ {L',M,Dr,hl,ll.imp id λh=>{h.1,()}};have y:2+(i:Int)=tt:=V.int.inj (WP y);have d3:L'.length=1:=ll.resolve_right λh=>by lia
   refine{_,M,.inl {M,_,Kv.of hl},_,M,_,M,Z,kd,av,e,M,QO.of Dr.hn,on,λH3 p3 s3 d4 TK=>?_};refine λc3 cc nc a4 c9=>?_;have s4:=b6 (al (o:= .own c3) a4) (o:= .ins t.aR cc []) nc;have W3:=Dr.same s3;have ed:O.length=x'.di.length:=by rw[Dr.J.dy,Q1]
   refine{c3,cc,a,p3,kd,av,e,.non,F',x',{.ref p3,av,O.length,[],none},M,ag,W3.J.A.same s4,TK.same s4,on,{M,.inl ⟨M,M,M,ed,M⟩},λH4 dp C a5 kp=>{M,?_}};have ce:G3 H3 H4:=λb o e=>kp b o (am e nc) (s4 _ _ e);have W4:=W3.add ce C nc (cV s4 a5) (Dr.J.A.out d4);have a0:=ce _ _ (s3 _ _ hl);let{y0,eL}:=List.length_eq_one_iff.mp d3;subst eL;let{ah,an}:=(W4.cs 0 y0 M).C.ob;refine{lc,_,_,M,M,a0,(by show 1<sizeLine;decide),go _ _ {_,M,W4.lst ca a0 an nF,ag,.inr {M,()}}}
  clear Dr hl ll;let{G,rfl,Dr,hl,ll}:=w
  (try dsimp only)
  let{da,fa,ha,hm,_}:=Dr.J.A.ins;have nl:=Dr.off hl (λ_ _ _ z=>by cases z) (λ_ z=>by cases z) nF;refine{_,M,_,_,M,M,(by show(0:Int)<24;decide),M,_,M,bL (λy=>?_)<|λy=>?_}
  .refine{_,M,a,da,fa,M,ha,hm _ ∅,a,F',x',M,Dr.J.A,(),λH3 F3 r A3 f3=>?_};let{h1,h2}:=f3 _ _ Dr.J.nd Dr.J.di;let{W3,k3}:=Dr.go (Dr.J.mark A3 h1 h2 M M M M M) f3.wh;let{h3,n3}:=k3 _ _ hl nl;exact{F3,_,_,G,_,_,_,_,M,W3,h3,λz=>n3.1<|.inl z,ll,by show x'.now<=_;lia,by show x'.ma+1<=_;lia,l3}
  refine{_,M,_,_,M,M,(by show(0:Int)<3;decide),M,_,M,bL (λy=>?_)<|λy=>?_}
  .refine{_,M,_,M,_,M,_,_,M,M,{(_),(_)},a,d,_,F',x',O,300,M,Dr.J,(),l3,(_),(_),λH3 F3 x3 mo J3 b1 b2 b3 f3=>?_};let{W3,k3}:=Dr.go J3 f3;let{h3,n3}:=k3 _ _ hl nl;exact{F3,x3,_,G,_,_,_,_,M,W3,h3,λz=>n3.1<|.inl z,ll,(),(),b3}
  have lm:(0:Int)<((G.map λy=>V.ref y.c).length:Int):=by rw[Q1];lia
  refine{_,M,_,_,M,M,{(_),(_)},_,M,lc,_,M,.inl<|Kv.of hl,_,_,M,M,lm,?_};have z0:=Z2 (z/3) (ZU lm);have z1:=Z0 (z/3) lm;obtain⟨o,eo⟩:∃o:Int,z/3%((G.map λy=>V.ref y.c).length:Int)=o:={_,M};rw[eo]at z0 z1
  (try dsimp only)
  rw[eo];clear eo;rw[Q1]at z1 lm;obtain⟨n,rfl⟩:∃n:Nat,o=(n:Int):={o.toNat,()};have ax:n<G.length:=();obtain⟨u,hu⟩:∃u,G[n]?=some u:={_,Q4 ax};have at1:RM (G.map λy=>V.ref y.c) (n:Int)=some (.ref u.c):=qj (by rw[Zf,hu];rfl);have S:=Dr.at hu;let{dc,hc}:=S.C.ob;unfold dA
  (try dsimp only)
  refine{_,M,_,M,lc,_,_,_,M,M,Kv.of hl,at1,u.c,dc,_,M,hc,{_},u.c,a,u.p,u.dd,kd,av,e,u.X,M,S.C,?_};have TB:∀(H3:Hp)(F3:K')(U dd':G')(X3:PX),Fr (Ot F' u.X u.c u.dd d) (Ot F3 X3 U dd' d) H2 H3->RG t H3 u.X.rv kd u.X.ra e:=λH3 F3 U dd' X3 f3=>by
   rcases S.C.rt with h|⟨q',h1,TK,h3⟩
   .exact .inl h
   .let{dq,fq,h4,h5}:=id TK;exact .inr {q',h1,{dq,fq,(f3 _ _ (S.tk TK<|S.nF q'<|.inr<|.inr<|.inl h1) h4).1,h5},h3}
  unfold dA
  (try dsimp only)
  refine{_,M,_,M,lc,_,_,_,M,M,Kv.of hl,at1,_,M,_,M,_,M,_,_,M,M,{(_),(_)},sc,a,d,u.c,u.p,u.dd,Z,F',x',O,u.X,kd,_,av,e,ns,M,S,on,(),λH3 F3 x3 mo U p' dd' X3 S3 f3 b1 b2 b3 gr cf=>?_};let{W3,k3}:=Dr.back (y':=⟨U,p',dd',X3⟩) hu S3 f3;let{b4,n3}:=k3 _ _ hl nl;have cg:=TB H3 F3 U dd' X3 f3;have ci:¬F3 lc:=λz=>n3.1 (.inl z);obtain⟨y0,r0,eL⟩:∃y0 r0,G=y0::r0:=by
   cases c:G with
   |nil=>rw[c]at ax;cases ax
   |cons y0 r0=>exact⟨y0,r0,M⟩
  obtain⟨ah,cj,an⟩:∃ah cj,H3 y0.c=some (.ins t.aR ah cj):=by
   by_cases c:n=0
   .rw[c,eL]at hu;cases hu;exact cf
   .let{ah,h}:=(W3.cs 0 y0<|by rw[VS c,eL];rfl).C.ob;exact{_,_,h}
  have a3:=b4;rw[eL,Zk]at a3;have W4:=W3.lst (o:= .lst<|(G.map λy=>V.ref y.c).set n<|.ref U) ca a3 an ci;have a0:upd H3 lc (.lst<|(G.map λy=>V.ref y.c).set n<|.ref U) lc=some (.lst<|(G.set n ⟨U,p',dd',X3⟩).map λy=>V.ref y.c):=by rw[ag,VI]
  have ck:RW (G.map λy=>V.ref y.c).length (n:Int)=some n:=by
   unfold RW;rw[WJ (),WJ (by rw[Q1];lia),Zx]
  have co:RG t (upd H3 lc<|.lst<|(G.map λy=>V.ref y.c).set n<|.ref U) u.X.rv kd u.X.ra e:=cg.up λp h=>h.nd b4 λ_ _ _ z=>by cases z
  refine{_,M,_,M,lc,_,_,_,M,M,b4,ck,?_}
  (try dsimp only)
  generalize upd H3 lc (.lst<|(G.map λy=>V.ref y.c).set n<|.ref U)=H4 at W4 a0 co⊢;have ey:(G.set n ⟨U,p',dd',X3⟩)[n]?=some ⟨U,p',dd',X3⟩:=V5 ax;have bl:RM ((G.set n ⟨U,p',dd',X3⟩).map λy=>V.ref y.c) (n:Int)=some (.ref U):=qj (by rw[Zf,ey];rfl);have cp:(G.set n ⟨U,p',dd',X3⟩).length=G.length:=ZD;clear Dr hl nl S hc TB cg k3 b4 n3 W3 a3 an cf S3 f3 ha hm ck;obtain⟨L4,d5⟩:∃L4,G.set n ⟨U,p',dd',X3⟩=L4:={_,M};rw[d5]at W4 a0 ey bl cp;have S4:=W4.at ey;have d7:=S4.J.kb;refine{_,M,d,_,M,.inl W4.J.di,λl nl=>?_};rw[show tQ (aC x3.st.kv)=(x3.st.kv.map (·.1)).map V.int from Ay];have s5:=al (o:= .lst ((x3.st.kv.map (·.1)).map V.int)) nl;have h5:upd H4 l (.lst ((x3.st.kv.map (·.1)).map V.int)) l=some (.lst ((x3.st.kv.map (·.1)).map V.int)):=ag
  (try dsimp only)
  generalize upd H4 l (.lst ((x3.st.kv.map (·.1)).map V.int))=H5 at s5 h5⊢;have W5:=W4.same s5;have S5:=S4.same s5;have cq:=s5 _ _ a0;let{df,dg}:=S5.C.ob;have dl:=S5.J.len;refine{_,M,_,M,_,M,_,M,lc,_,_,_,M,M,Kv.of cq,bl,U,df,_,M,dg,{_},U,a,p',dd',kd,av,e,X3,M,S5.C,l,Z,x3.st.kv.map (·.1),kd,av,e,u.X.rv,u.X.ra,X3.rv,X3.ra,M,h5,λk hk=>(d7 k hk).1,S5.hn,on,co.same s5,S5.C.rt,gr,λH6 s6=>{true,M,cm ?_}};unfold sI
  (try dsimp only)
  have W6:=W5.same s6;have S6:=S5.same s6;have cr:=s6 _ _ cq;refine{_,M,_,M,lc,_,_,_,M,M,Kv.of cr,bl,_,M,_,M,U,a,p',dd',Z,kd,av,e,X3,F3,x3,_,M,S6.C,S6.J.A,S6.J.dy,S6.I,S6.J.D,(),S6.hn,λH7 s7=>{true,M,cm ?_}};exact{F3,x3,_,L4,_,_,_,_,M,W6.same s7,s7 _ _ cr,ci,by rwa[cp],(),(),by rwa[b3]}
 clear W7 bd bb bf;let{F',x',O,L',v5,v6,v7,v8,rfl,Dr,hl,nF,ll,l1,l2,l3}:=w;have a1:x'.now+x'.ma<=300:=();have lL:L'.length<=2:=();clear ll l1 l2;obtain⟨cl,bn⟩:∃cl,L'.map (λy=>V.ref y.c)=cl:={_,M};rw[bn]at hl;have dr:cl.length=L'.length:=by rw[<-bn,Q1]
 (try dsimp only)
 refine{_,M,lc,M,{_,Kv.of hl},iR (K:=K) (a:=lc) (xs:=cl) (λi2 W H'=>∃(F2:K')(x2:QA)(bo:List DR)(G:List Cq)(v9:Su),W=[some (.ref sc),some (.ref a),some (.ref d),some (.ref Z),some (.ref lc),v5,v6,v7,v8,v9]/\R8 K t H' sc a d (Z,[.int kd,av,e]) F2 x2 bo G kd av e ns/\H' lc=some (.lst cl)/\¬F2 lc/\G.map (λy=>V.ref y.c)=cl/\x2.now+x2.ma<=300+160*i2/\x2.st.kv.length<=300) {F',x',O,L',none,M,Dr,hl,nF,bn,(),l3} (λi W H' _ w=>by let{_,_,_,_,_,_,_,h,_}:=w;exact Kv.of h) (λi2 z W H2 hz w=>?_)<|λW H2 w=>q _};clear Dr hl nF;let{F2,x2,bo,G,v9,rfl,Dr,hl,nF,el,b0,l2}:=w;have hi:=(Q3.mp hz).1;rw[<-el]at hz;let{y,ey,rfl}:=OR hz;unfold dA
 (try dsimp only)
 refine{_,M,_,M,_,M,_,M,sc,a,d,y.c,y.p,y.dd,Z,F2,x2,bo,y.X,kd,av,e,ns,M,Dr.at ey,on,(),l2,λH3 F3 x3 mo X3 S3 f3 b1 b2 b3=>{true,M,cm ?_}};let{W3,k3}:=Dr.back (y':={y with X:=X3}) ey S3 f3;let{h3,n3}:=k3 _ _ hl (Dr.off hl (λ_ _ _ z=>by cases z) (λ_ z=>by cases z) nF);exact{F3,x3,_,_,_,M,W3,h3,λz=>n3.1<|.inl z,(OM ey).trans el,(),by rwa[b3]}
end
end SW
namespace ZK
open PySem PySem.W SW L2
def fM{P:Params}{x qual:Str}{st:Stmt}{a:G'}{kV G I z ct:P5}{O:Sk}(l:(K P).lookup a=some (f<|D x qual st N kV G I O z ct):=by kernel_rfl)(c:codeIn (K P) z qual=true:=by kernel_rfl)(k:keepIn (K P) (.ref a)=true:=by kernel_rfl):PU (K P) x qual st a (D x qual st N kV G I O z ct):=N0 l c k
def nA{P:Params}{C:G'}{x:Str}(h:findIn (K P) (.ref C) x=some none:=by kernel_rfl):Ku (K P) C x:=h
def fT{P:Params}{x qual:Str}{st:Stmt}{a b:G'}{kV G I z ct:P5}{O:Sk}(l:(K P).lookup a=some (f<|D x qual st (R b) kV G I O z ct):=by kernel_rfl)(c:codeIn (K P) z qual=true:=by kernel_rfl)(k:keepIn (K P) (.ref a)=true:=by kernel_rfl):Oo (K P) x qual st b a (D x qual st (R b) kV G I O z ct):=Fp l c k
def fU{P:Params}{x qual:Str}{st:Stmt}{a b:G'}{kV G I z ct:P5}{O:Sk}(l:(K P).lookup a=some (f<|D x qual st (R b) kV G I O z ct):=by kernel_rfl)(c:codeIn (K P) z qual=true:=by kernel_rfl)(k:keepIn (K P) (.ref a)=true:=by kernel_rfl):Qr (K P) x qual st a (D x qual st (R b) kV G I O z ct):=(Fp l c k).1
def Oj{P:Params}:(K P).lookup 226=some {(T pq),none,.seq #[(.int 0 472),(.int 65536 473)] 0, #[]}:=by kernel_rfl
def Oi{P:Params}:(K P).lookup 253=some {(T pq),none,.seq #[(.int 0 507),N] 0, #[]}:=by kernel_rfl
def Oh{P:Params}:(K P).lookup 280=some {(T pq),none,.seq #[N,(.int 0 541)] 0, #[]}:=by kernel_rfl
def Og{P:Params}:(K P).lookup 300=some {(T pq),none,.seq #[(.int 10 567),N] 0, #[]}:=by kernel_rfl
def T400{P:Params}:(K P).lookup 400=some {(T pq),none,.seq #[N] 0, #[]}:=by kernel_rfl
def T415{P:Params}:(K P).lookup 415=some {(T pq),none,.seq #[(.int 10 723)] 0, #[]}:=by kernel_rfl
def T808{P:Params}:(K P).lookup 808=some {(T pq),none,.seq #[(.int 0 1234)] 0, #[]}:=by kernel_rfl
end ZK
namespace SW
open PySem L2
set_option maxHeartbeats 0
variable{α:Type}{YP:World->Heap->Prop}
def SR{us:List α}(hl:us.length=1):∃z,us=[z]:=by rcases us with _|⟨z,_|⟨y,t⟩⟩<;>first|exact{_,M}|simp at hl
def SJ{us:List α}(hl:us.length=2):∃z G,us=[z,G]:=by rcases us with _|⟨z,_|⟨G,_|⟨y,t⟩⟩⟩<;>first|exact{_,_,M}|simp at hl
def SL{us:List α}(hl:us.length=3):∃z G I,us=[z,G,I]:=by rcases us with _|⟨z,_|⟨G,_|⟨I,_|⟨y,t⟩⟩⟩⟩<;>first|exact{_,_,_,M}|simp at hl
def us4{us:List α}(hl:us.length=4):∃z G I O,us=[z,G,I,O]:=by rcases us with _|⟨z,_|⟨G,_|⟨I,_|⟨O,_|⟨y,t⟩⟩⟩⟩⟩<;>first|exact{_,_,_,_,M}|simp at hl
open ZK in
def txt{P:Params}{h:Heap}{mg:Sl}(X:(ZK.K P).In h)(G:h.Ns mainGlobals mg):Txt (ZK.K P) mg ZK.t:=by
 constructor
 case g_BITS=>exact{348,XR X G<|by kernel_rfl}
 case g_PLACES=>exact{350,XR X G<|by kernel_rfl}
 case g_STRETCHES_A_KEY=>exact{565,XR X G<|by kernel_rfl}
 case g_MOST_IN_LEAF=>exact{829,XR X G<|by kernel_rfl}
 case g_LEAST_IN_TWO=>exact{831,XR X G<|by kernel_rfl}
 case g_LEAST_SIZE=>exact{1005,XR X G<|by kernel_rfl}
 case g_GREATEST_SIZE=>exact{1007,XR X G<|by kernel_rfl}
 all_goals first
  |exact ZK.fM
  |exact XR X G<|by kernel_rfl
  |exact{(by kernel_rfl),(by kernel_rfl),(by kernel_rfl)}
  |exact .all λus hl=>by let{_,_,rfl}:=SJ hl;rfl
  |exact ZK.nA
  |exact{(by kernel_rfl),(by kernel_rfl),(by kernel_rfl),(by kernel_rfl)}
  |exact .all λus hl=>by let{_,rfl}:=SR hl;rfl
  |exact Jc (by kernel_rfl) (by kernel_rfl) (by kernel_rfl)<|λz=>WN z (_)
  |exact .all λus hl=>by let{_,_,_,rfl}:=SL hl;rfl
  |exact PySem.W.mg_none_of X G<|by kernel_rfl
  |exact ZK.fU
  |exact{{_,_,_,_,_,_,_,_,_,_,_,_,_,_,{_}},{[ZK.t.cE],M},(by kernel_rfl),(by kernel_rfl),(by kernel_rfl),(by kernel_rfl)}
  |exact .all λus hl=>by let{_,_,_,_,rfl}:=us4 hl;rfl
  |exact Jc (by kernel_rfl) (by kernel_rfl) (by kernel_rfl)<|λ_=>M
  |exact db (ds:=[]) 2 M (fT (a:=422)) T415 λ_ _ _ _ _ _ us hl=>by let{_,_,rfl}:=SJ hl;exact{_,M,M}
  |exact db (ds:=[]) 2 M (fT (a:=815)) T808 λ_ _ _ _ _ _ us hl=>by let{_,_,rfl}:=SJ hl;exact{_,M,M}
  |exact db (ds:=[]) 3 M (fT (a:=233)) Oj λ_ _ _ _ _ _ us hl=>by let{_,_,_,rfl}:=SL hl;exact{_,M,M}
  |exact db (ds:=[]) 3 M (fT (a:=260)) Oi λ_ _ _ _ _ _ us hl=>by let{_,_,_,rfl}:=SL hl;exact{_,M,M}
  |exact db (ds:=[]) 3 M (fT (a:=287)) Oh λ_ _ _ _ _ _ us hl=>by let{_,_,_,rfl}:=SL hl;exact{_,M,M}
  |exact db (ds:=[]) 4 M (fT (a:=305)) Og λ_ _ _ _ _ _ us hl=>by let{_,_,_,_,rfl}:=us4 hl;exact{_,M,M}
  |exact db (ds:=[]) 4 M (fT (a:=407)) T400 λ_ _ _ _ _ _ us hl=>by let{_,_,_,_,rfl}:=us4 hl;exact{_,M,M}
  |exact{_,db (ds:=[(.int 0 1234)]) 1 M (fT (a:=815)) T808 λ_ _ _ _ _ _ us hl=>by let{_,rfl}:=SR hl;exact{_,M,M},(.cons {_,M} .nil)}
  |exact{_,db (ds:=[(.int 0 472),(.int 65536 473)]) 1 M (fT (a:=233)) Oj λ_ _ _ _ _ _ us hl=>by let{_,rfl}:=SR hl;exact{_,M,M},(.cons {_,M}<|.cons {_,M} .nil)}
  |exact{_,db (ds:=[(.int 0 507),N]) 1 M (fT (a:=260)) Oi λ_ _ _ _ _ _ us hl=>by let{_,rfl}:=SR hl;exact{_,M,M},(.cons {_,M}<|.cons M .nil)}
  |exact{_,db (ds:=[(.int 0 541)]) 2 M (fT (a:=287)) Oh λ_ _ _ _ _ _ us hl=>by let{_,_,rfl}:=SJ hl;exact{_,M,M},(.cons {_,M} .nil)}
  |exact{_,db (ds:=[(.int 10 567),N]) 2 M (fT (a:=305)) Og λ_ _ _ _ _ _ us hl=>by let{_,_,rfl}:=SJ hl;exact{_,M,M},(.cons {_,M}<|.cons M .nil)}
  |exact{_,db (ds:=[(.int 10 723)]) 1 M (fT (a:=422)) T415 λ_ _ _ _ _ _ us hl=>by let{_,rfl}:=SR hl;exact{_,M,M},(.cons {_,M} .nil)}
  |exact{_,db (ds:=[(.int 65536 473)]) 2 M (fT (a:=233)) Oj λ_ _ _ _ _ _ us hl=>by let{_,_,rfl}:=SJ hl;exact{_,M,M},(.cons {_,M} .nil)}
  |exact{_,db (ds:=[N,(.int 0 541)]) 1 M (fT (a:=287)) Oh λ_ _ _ _ _ _ us hl=>by let{_,rfl}:=SR hl;exact{_,M,M},(.cons M<|.cons {_,M} .nil)}
  |exact{_,db (ds:=[N]) 2 M (fT (a:=260)) Oi λ_ _ _ _ _ _ us hl=>by let{_,_,rfl}:=SJ hl;exact{_,M,M},(.cons M .nil)}
  |exact{_,db (ds:=[N]) 3 M (fT (a:=305)) Og λ_ _ _ _ _ _ us hl=>by let{_,_,_,rfl}:=SL hl;exact{_,M,M},(.cons M .nil)}
  |exact{_,db (ds:=[N]) 3 M (fT (a:=407)) T400 λ_ _ _ _ _ _ us hl=>by let{_,_,_,rfl}:=SL hl;exact{_,M,M},(.cons M .nil)}
  |exact{{_,_,_,_,_,_,_,_,_,_,_,_,_,_,{_}},{[],M},(by kernel_rfl),(by kernel_rfl),(by kernel_rfl),(by kernel_rfl)}
  |exact(by kernel_rfl)
def walk{l:PySem.W.OpenLaw}{q:Se}{loose:Sh}{XP:(Str->Option Value)->Heap->Prop}{d:DefRec}{K:Params->FA}(U:l.most=some 63)(I:d.params.defaults=[])
  (Y:∀(w:World)(h:Heap),YP w h->(K w.params).In h) (hd:d.name="law")
  (F:∀(w:World)(mg:Str->Option Value)(h:Heap),(K w.params).In h->h.Ns mainGlobals mg->∃t,Txt (K w.params) mg t):
  PySem.W.WalkO q loose XP YP l.row.toRowW d [] (λf vs=>PySem.call f vs):=by
 refine L2.walk_of (n:=63) (k:=13) (x:=nj) (CX:=λ_=>PP) (sp:=λw=>HU<|K w.params) U (_) I {M,(_),(_)} Y (λw mg fa h Z G O=>?_) (λ_ _ a ns hl _ hS=>{a,ns,M,hS,hl,λ_=>M}) λ_ _ _ _ _ z=>z;let{t,T}:=F w mg h Z G;have e:=O.symm.trans ((Y2 mg hd).trans T.Pz);cases e;let{oc,od,kV,a0,pm,an,a1,ct,a2,e1,lk,a3}:=T.Ps.ex;refine{t.Fz,λs u=>?_,λbase _ _=>NC T};rw[e1];exact .of_eq M
end SW
open PySem PySem.W PyProof.Rows
set_option maxRecDepth 100000 in
set_option maxHeartbeats 0 in
theorem PySem.Challenge.cw_staywalk_k82_whole_the_copy_is_the_house_holds : PySem.Challenge.rw_staywalk_k82_whole_the_copy_is_the_house.Holds := by
 w_on
 refine holds_law ZK.said λsaid=>?_;refine holds_open (q:=ZK.q) (loose:=["BySlots","Up","Down","ask"]) (Xt:=λs=>xlAt ZK.q [] s&&recOk (RowW.records<|OpenRow.toRowW<|OpenLaw.row PySem.Challenge.rw_staywalk_k82_whole_the_copy_is_the_house) s) (XP:=XL ZK.q []) (Yf:=Hook.obs ZK.H) (Ya:=Hook.val ZK.H) (YP:=Hook.says ZK.H) ZK.left (Hook.of ZK.H) (Hook.keeps ZK.H) (λs e=>xl_of s (ZC.mp e).1) XL.keeps {_} {_} {_} (λs e=>recFacts_of (ZC.mp e).2) {_} (by first|assumption|decide+kernel) ∅ ⟨M,M,M,M,M,∅⟩ ?hw ?hc
 (case hw=>w_witness2)
 exact SW.walk (l:=PySem.Challenge.rw_staywalk_k82_whole_the_copy_is_the_house) M M (λw h Y=>kIn_of Y) M λw mg h KX G=>⟨_,SW.txt KX G⟩
#print axioms PySem.Challenge.cw_staywalk_k82_whole_the_copy_is_the_house_holds
