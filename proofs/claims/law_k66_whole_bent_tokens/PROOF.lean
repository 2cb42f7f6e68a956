import PyProof.Rows.All
import PySem.Challenge.RW_staywalk_k66_whole_bent_tokens
import KE.KFromBytes
import KE.KIntText
import KE.KPairComp
import KE.KSortTup
import KE.KIsAll
import KE.KDictSum
import KE.KRevIter
import KE.KRevSl
import KE.KLam
import KE.LcSums
import KE.KDictOf
set_option Elab.async false
set_option linter.all false
set_option maxRecDepth 100000
set_option tactic.hygienic false
set_option compiler.extract_closed false
noncomputable section
local macro_rules (kind:=«term{_}»)|`({$x,*})=>`(⟨$x,*⟩)
local macro_rules|`(tactic|let $p:term:=$e)=>do
 let n:=Lean.Syntax.node .none
 let w:=λs=>n ``Lean.Parser.Tactic.rcasesPatLo #[n ``Lean.Parser.Tactic.rcasesPatMed #[Lean.mkNullNode #[s]],Lean.mkNullNode]
 let r←p.raw.rewriteBottomUpM (m:=Lean.MacroM) λs=>pure (if s.isIdent then w (n ``Lean.Parser.Tactic.rcasesPat.one #[s]) else if s.isOfKind ``Lean.Parser.Term.hole then w (n ``Lean.Parser.Tactic.rcasesPat.ignore #[s[0]]) else if s.isOfKind ``«term{_}» then w (n ``Lean.Parser.Tactic.rcasesPat.tuple s.getArgs) else if s.isOfKind Lean.choiceKind then (s.getArgs.find? (·.isOfKind ``Lean.Parser.Tactic.rcasesPatLo)).getD s else s)
 if r.isOfKind ``Lean.Parser.Tactic.rcasesPatLo then `(tactic|obtain $(⟨r[0]⟩):rcasesPatMed:=$e) else Lean.Macro.throwUnsupported
local macro_rules|`(!$n:num)=>`(nat_lit $n)
local macro_rules|`(tactic|lia)=>`(tactic|omega)
local macro_rules | `(()) => `(by lia)
local macro_rules | `((_)) => `(by decide)
local macro_rules | `(∅) => `(by decide+kernel)
local macro_rules | `({_}) => `(by rfl)
abbrev M:=@rfl
local macro_rules|`(tactic|ac_rfl)=>`(tactic|(first|exact .inl M|exact .inr M|assumption))
local macro_rules|`(tactic|subst_eqs)=>`(tactic|(intro _;rfl))
local macro_rules|`(tactic|and_intros)=>`(tactic|(first|exact Or.inl M|exact Or.inr (Or.inl M)|exact Or.inr<|Or.inr M))
set_option genSizeOf false
set_option maxHeartbeats 0
abbrev Q0:=@List.length_map
abbrev Q2:=@List.mem_of_getElem?
abbrev Q3:=@List.getElem?_eq_some_iff
abbrev Q4:=@List.getElem?_eq_getElem
abbrev Q5:=@Nat.le_refl
abbrev Q6:=@List.mem_append
abbrev Q7:=@List.mem_cons_self
abbrev Q8:=@List.mem_cons_of_mem
abbrev Q9:=@List.size_toArray
abbrev Qa:=@Bool.false_ne_true
abbrev Qb:=@List.map_append
abbrev Qc:=@List.mem_cons
abbrev Qd:=@List.length_append
abbrev Qe:=@List.length_take
abbrev Qf:=@List.mem_singleton
abbrev Qg:=@Array.length_toList
abbrev Qh:=@Nat.zero_le
abbrev Qi:=@List.pairwise_append
abbrev Qj:=@Bool.and_eq_true
abbrev Qk:=@List.mem_map
abbrev Ql:=@List.length_cons
abbrev Qm:=@Nat.lt_of_lt_of_le
abbrev Qn:=@List.append_assoc
abbrev Qo:=@List.take_add_one
abbrev Qp:=@List.mem_append_right
abbrev Qq:=@List.length_filter_le
abbrev Qr:=@Nat.le_trans
abbrev Qs:=@List.getD_eq_getElem?_getD
abbrev Qt:=@List.map_cons
abbrev Qu:=@List.getElem?_map
abbrev Qv:=@Bool.and_eq_true_iff
abbrev Qw:=@List.pairwise_map
abbrev Qx:=@Int.emod_nonneg
abbrev Qy:=@List.mem_filter
abbrev Qz:=@Nat.ne_of_lt
abbrev QA:=@Int.emod_lt_of_pos
abbrev QB:=@List.take_of_length_le
abbrev QC:=@List.mem_map_of_mem
abbrev QD:=@PySem.F.plainAttrs_list
abbrev QE:=@List.all_eq_true
abbrev QF:=@List.filter_append
abbrev QG:=@List.take_length
abbrev QH:=@List.getElem?_set
abbrev QI:=@List.getElem_of_mem
abbrev QJ:=@Option.map_eq_some_iff
abbrev QK:=@Nat.sub_one_lt_of_le
abbrev QL:=@List.map_map
abbrev QM:=@Array.toList_append
abbrev QN:=@List.length_drop
abbrev QO:=@Nat.le_of_eq
abbrev QP:=@Bool.false_eq_true
abbrev QQ:=@Array.getElem?_toList
abbrev QR:=@List.take_append_drop
abbrev QS:=@List.getElem?_append_right
abbrev QT:=@Nat.max_eq_right
abbrev QU:=@List.not_mem_nil
abbrev QV:=@List.getElem?_append_left
abbrev QW:=@List.mem_append_left
abbrev QX:=@Nat.le_succ
abbrev QY:=@Nat.lt_of_le_of_ne
abbrev QZ:=@Nat.eq_zero_or_pos
abbrev Z0:=@List.pairwise_cons
abbrev Z1:=@Nat.le_of_lt
abbrev Z2:=@List.pairwise_iff_getElem
abbrev Z3:=@List.extract_eq_take_drop
abbrev Z4:=@PySem.W.kia_one
abbrev Z5:=@List.length_set
abbrev Z6:=@List.pairwise_singleton
abbrev Z7:=@PySem.W.mg_of
abbrev Z8:=@List.length_reverse
abbrev Z9:=@List.nodup_cons
abbrev Za:=@Nat.add_lt_of_lt_sub'
abbrev Zb:=@List.contains_cons
abbrev Zc:=@Int.ne_of_gt
abbrev Zd:=@PySem.F.slot_list_append
abbrev Ze:=@PySem.F.type_list_append
abbrev Zf:=@Array.toList_extract
abbrev Zg:=@List.mem_of_mem_take
abbrev Zh:=@Int.eq_ofNat_of_zero_le
abbrev Zi:=@Int.toNat_natCast
abbrev Zj:=@List.map_congr_left
abbrev Zk:=@List.length_pos_iff
abbrev Zl:=@List.drop_eq_nil_of_le
abbrev Zm:=@List.mem_reverse
abbrev Zn:=@PySem.W.callWith_K
abbrev Zo:=@Array.getElem?_eq_some_iff
abbrev Zp:=@List.drop_zero
abbrev Zq:=@List.length_replicate
abbrev Zr:=@List.length_singleton
abbrev Zs:=@List.getElem?_eq_none_iff
abbrev Zt:=@List.drop_eq_getElem_cons
abbrev Zu:=@Bool.eq_false_iff
abbrev Zv:=@Nat.lt_irrefl
abbrev Zw:=@List.eq_of_mem_replicate
abbrev Zx:=@Bool.true_and
abbrev Zy:=@List.lookup_cons
abbrev Zz:=@PySem.W.kat_cons
abbrev ZA:=@List.getElem?_cons_succ
abbrev ZB:=@List.nodup_nil
abbrev ZC:=@Nat.ne_of_gt
abbrev ZD:=@List.filter_eq_nil_iff
abbrev ZE:=@List.append_nil
abbrev ZF:=@PySem.W.kat_yes
abbrev ZG:=@PySem.W.methodCall_KW
abbrev ZH:=@List.getElem_take
abbrev ZI:=@List.flatten_cons
abbrev ZJ:=@PySem.W.kat_go
abbrev ZL:=@PySem.W.kat_no
abbrev ZM:=@Nat.lt_succ_self
abbrev ZN:=@Nat.pow_succ
abbrev ZO:=@Nat.zero_add
abbrev ZP:=@List.mem_flatMap
abbrev ZQ:=@List.getElem?_zip_eq_some
abbrev ZR:=@Nat.add_le_add_left
abbrev ZS:=@List.flatten_append
abbrev ZT:=@PySem.F.slot_list_extend
abbrev ZU:=@PySem.F.type_list_extend
abbrev ZV:=@List.map_take
abbrev ZW:=@List.find?_cons
abbrev ZX:=@Int.natCast_nonneg
abbrev ZY:=@Int.le_refl
abbrev ZZ:=@Bool.false_and
abbrev X0:=@List.take_sublist
abbrev X1:=@Nat.mul_comm
abbrev X2:=@Nat.add_zero
abbrev X3:=@List.getElem_drop
abbrev X4:=@Nat.zero_lt_of_lt
abbrev X5:=@PySem.F.plainAttrs_str
abbrev X6:=@List.perm_append_comm
abbrev X7:=@List.pairwise_reverse
abbrev X8:=@List.getElem_mem
abbrev X9:=@List.any_cons
abbrev Xa:=@List.mem_iff_getElem
abbrev Xb:=@Array.push_eq_append
abbrev Xc:=@List.eq_nil_of_length_eq_zero
abbrev Xd:=@List.mem_of_mem_drop
abbrev Xe:=@Bool.eq_iff_iff
abbrev Xf:=@Int.lt_ediv_add_one_mul_self
abbrev Xg:=@Nat.lt_of_le_of_lt
abbrev Xh:=@PySem.F.excBase_ValueError
abbrev Xi:=@Nat.pos_of_ne_zero
abbrev Xj:=@List.getElem?_drop
abbrev Xk:=@Array.perm_iff_toList_perm
abbrev Xl:=@List.ne_nil_of_length_pos
abbrev Xm:=@Nat.le_pred_of_lt
abbrev Xn:=@Nat.lt_succ_of_lt
abbrev Xo:=@Option.isSome_iff_exists
abbrev Xp:=@List.getElem?_take_of_lt
abbrev Xq:=@PySem.F.slot_dict_items
abbrev Xr:=@PySem.F.plainAttrs_dict
abbrev Xs:=@Nat.toDigits_of_lt_base
abbrev Xu:=@List.getElem?_set_self
abbrev Xv:=@List.map_nil
abbrev Xw:=@Nat.div_div_eq_div_mul
abbrev Xx:=@Int.le_of_lt
abbrev Xy:=@Bool.or_true
abbrev Xz:=@Nat.lt_or_ge
abbrev XA:=@List.of_mem_zip
abbrev XB:=@Option.map_some
abbrev XD:=@PySem.W.kat_one
abbrev XE:=@Int.ediv_nonneg
abbrev XF:=@Nat.min_eq_left
abbrev XG:=@Int.mul_ediv_add_emod
abbrev XH:=@Array.getElem_push_lt
abbrev XI:=@Array.toArray_toList
abbrev XJ:=@Bool.and_false
abbrev XM:=@List.getElem?_of_mem
abbrev XQ:=@Nat.add_le_add_right
abbrev XR:=@List.getElem?_append
abbrev XS:=@Int.mul_nonneg
abbrev XT:=@List.filterMap_cons
abbrev XU:=@PySem.W.plainGet_of
abbrev XV:=@PySem.W.callWith_K0
abbrev XW:=@List.map_eq_nil_iff
abbrev XX:=@Int.toNat_of_nonneg
abbrev XY:=@List.take_succ_cons
abbrev XZ:=@List.map_drop
abbrev V0:=@List.take_nil
abbrev V1:=@Nat.not_lt
abbrev V2:=@Nat.lt_or_eq_of_le
abbrev V3:=@Option.isSome_map
abbrev V4:=@Int.mul_comm
abbrev V5:=@Nat.lt_of_succ_lt
abbrev V6:=@Nat.sub_pos_of_lt
abbrev V7:=@Array.toList_push
abbrev V8:=@List.nodup_append
abbrev V9:=@Bool.not_eq_true'
abbrev Va:=@List.cons_append
abbrev Vb:=@Nat.le_of_not_lt
abbrev Vc:=@List.any_eq_true
abbrev Vd:=@PySem.W.kat_kind
abbrev Ve:=@List.mem_flatten
abbrev Vf:=@Int.mul_le_mul_of_nonneg_right
abbrev Vg:=@Int.ediv_le_ediv
abbrev Vh:=@List.map_reverse
abbrev Vi:=@Bool.not_eq_true
abbrev Vj:=@Int.mul_le_mul_of_nonneg_left
abbrev Vk:=@List.take_append_of_le_length
abbrev Vl:=@List.map_id
abbrev Vm:=@List.length_nil
abbrev Vn:=@PySem.W.kat_nil
abbrev Vo:=@PySem.F.slot_dict_setdefault
abbrev Vp:=@Nat.toDigits_append_toDigits
abbrev Vq:=@PySem.F.slot_str_startswith
abbrev Vr:=@PySem.F.type_str_startswith
abbrev Vs:=@List.mem_range
abbrev Vt:=@Int.fdiv_eq_ediv_of_nonneg
abbrev Vu:=@List.drop_drop
abbrev Vv:=@Nat.sub_le
abbrev Vw:=@Array.toList_setIfInBounds
abbrev Vx:=@PySem.W.kat_lt
abbrev Vy:=@List.perm_ext_iff_of_nodup
abbrev Vz:=@if_neg
abbrev VA:=@if_pos
abbrev VB:=@PySem.Heap.get?_push_of_some
abbrev VC:=@PySem.wpAny_bind
abbrev VD:=@PyProof.Rows.wpS_bind
abbrev VE:=@absurd
abbrev VF:=@of_decide_eq_true
abbrev VG:=@Option.some.inj
abbrev VH:=@PyProof.Rows.wpS_pure
abbrev VI:=@decide_eq_true
abbrev VJ:=@PySem.Heap.lt_size
abbrev VL:=@PySem.Heap.get?_push_size
abbrev VM:=@decide_eq_false
abbrev VN:=@PySem.wpAny_pure
abbrev VO:=@PySem.Heap.get?_update_other
abbrev VP:=@beq_iff_eq
abbrev VQ:=@beq_eq_false_iff_ne
abbrev VR:=@decide_eq_true_eq
abbrev VS:=@of_decide_eq_false
abbrev VT:=@congrArg
abbrev VU:=@True.intro
abbrev VV:=@PySem.wpAny_mono
abbrev VW:=@PySem.PassesOwn.never
abbrev VX:=@PyProof.Rows.wpS_forRange
abbrev VY:=@List.Pairwise.nil
abbrev VZ:=@PySem.wpAny_truthy_bool
abbrev W3:=@PySem.wpAny_Call_Name_kw
abbrev W4:=@PySem.wpAny_holding
abbrev W5:=@List.Perm.append_right
abbrev W6:=@List.Perm.trans
abbrev W7:=@PyProof.Rows.wpS_modify
abbrev W8:=@PySem.wpAny_passesOwn
abbrev W9:=@List.Perm.append_left
abbrev Wa:=@beq_self_eq_true
abbrev Wb:=@Prod.mk.inj
abbrev Wc:=@PyProof.Rows.wpS_mono
abbrev Wd:=@List.Perm.of_eq
abbrev We:=@PyProof.Rows.wpS_get
abbrev Wf:=@PySem.wpAny_rule
abbrev Wg:=@PySem.Heap.get?_none_of_le
namespace L2
open PySem PySem.Spec PyProof.Rows
noncomputable def aI(s:Stmt)(j:Nat):Stmt:=match s with
 | .ClassDef _ _ _ body _ _ _ _ _ _ _=>body.getD j (.Pass {0,0,0,0})
 |_=> .Pass {0,0,0,0}
noncomputable def fE(s:Stmt):Arguments:=match s with
 | .FunctionDef _ a _ _ _ _ _ _ _ _=>a
 |_=>{posonlyargs:=[],args:=[],vararg:=none,kwonlyargs:=[],kw_defaults:=[],kwarg:=none,defaults:=[]}
noncomputable def cf(s:Stmt):List Stmt:=match s with
 | .FunctionDef _ _ b _ _ _ _ _ _ _=>b
 |_=> []
noncomputable def ai(s:Stmt):Scope:=match s with
 | .FunctionDef _ _ _ _ _ _ sc _ _ _=>sc
 |_=>{kind:= .function,names:=[],isGenerator:=false,isCoroutine:=false}
end L2
namespace HD
open PySem PySem.W
abbrev _root_.Mz:=Program
abbrev _root_.Nb:=World
noncomputable def Fz(p:Mz)(w:Nb)(n₀:Nat)(ann:Option Value):Nat->SharedT->Thread->Option SharedT
 |0,_,_=>none
 |n+1,s,t=>match through t with
  |true=>some s
  |false=>match Fast.tw6613529449190102663 n₀ ann t with
   |false=>none
   |true=>match Fast.tw10156331382660048174 (Fast.tw11892475500146522536 Fast.tw14364793385576792824) p w s t with
    |some (s',t')=>Fz p w n₀ ann n s' t'
    |none=>none
def Fy{p:Mz}{w:Nb}{z:Nat}{G:Option Value}{n:Nat}{s s':SharedT}{t:Thread}(h:Fz p w z G n s t=some s'):topRun treeTable p w z G n s.abs t=some s'.abs:=by
 induction n generalizing s t with
 |zero=>cases h
 |succ n O=>
  unfold Fz at h;rw[<-Fast.te6613529449190102663,<-Fast.te10156331382660048174,<-Fast.te11892475500146522536,<-Fast.te14364793385576792824]at h;unfold topRun;cases I:through t with
  |true=>rw[I]at h;cases h;rfl
  |false=>
   rw[I]at h;cases hk:stepOk z G t with
   |false=>rw[hk]at h;cases h
   |true=>
    rw[hk]at h;cases hs:stepT (denote treeTable) p w s t with
    |none=>rw[hs]at h;cases h
    |some x=>
     let{s2,U}:=x;rw[hs]at h;show(match step (denote treeTable) p w s.abs t with| .go s' t'=>topRun treeTable p w z G n s' t'| .halt _ _=>none)=_;rw[stepT_spec hs];exact O h
noncomputable def DW:List Obj->BT->Nat->Option (BT×Nat)
 | [],t,n=>some (t,n)
 |o::r,t,n=>match ((t.ins n o).get n).isSome with
  |true=>DW r (t.ins n o) (n+1)
  |false=>none
theorem AK{z:Life}:∀{l:List Obj}{t t':BT}{n n':Nat},DW l t n=some (t',n')->absHeap t' n' z={(absHeap t n z).objs++l.toArray,z}
 | [],t,t',n,n',h=>by
  cases h;rw[Array.append_empty];rfl
 |o::r,t,t',n,n',h=>by
  unfold DW at h;cases g:((t.ins n o).get n).isSome with
  |false=>rw[g]at h;cases h
  |true=>
   rw[g]at h;rw[AK h,absHeap_ins g];show Heap.mk _ _=Heap.mk _ _;congr 1;show(absHeap t n z).objs.push o++r.toArray=_;rw[<-Array.append_singleton,Array.append_assoc];congr 1;simp
abbrev _root_.He:=Shared
def toT(s:He):Option SharedT:=match DW s.heap.objs.toList .nil 0 with
 |some (t,n)=>some ⟨t,n,s.heap.life,s.gens,s.drawn,s.toks,s.os⟩
 |none=>none
def HH{s:He}{S:SharedT}(h:toT s=some S):S.abs=s:=by
 unfold toT at h;cases e:DW s.heap.objs.toList .nil 0 with
 |none=>rw[e]at h;cases h
 |some x=>
  let{t,n}:=x;rw[e]at h;cases h;let{{G,z},gens,drawn,toks,os}:=s;show Shared.mk (absHeap t n z) _ _ _ _=_;rw[AK e];show Shared.mk (Heap.mk (#[]++G.toList.toArray) z) _ _ _ _=_;rw[XI,Array.empty_append]
def Jf(p:Mz)(w:Nb)(N:Nat)(s₀:He):Option Shared:=match toT s₀ with
 |some S=>(Fz p w S.n (s₀.heap.nsMap mainGlobals "__annotations__") N S<|topStub p).map SharedT.abs
 |none=>none
def Gv{p:Mz}{w:Nb}{N:Nat}{s₀ s₁:He}(h:Jf p w N s₀=some s₁):topRun treeTable p w s₀.heap.objs.size (s₀.heap.nsMap mainGlobals "__annotations__") N s₀ (topStub p)=some s₁:=by
 unfold Jf at h;cases e:toT s₀ with
 |none=>rw[e]at h;cases h
 |some S=>
  rw[e]at h;let{G,h1,rfl}:=QJ.mp h;have ea:=HH e;have z:S.n=s₀.heap.objs.size:=by
   rw[<-ea];exact(absHeap_size _ _ _).symm
  rw[z]at h1;have:=Fy h1;rw[ea]at this;exact this
def endP(p:Mz)(w:Nb)(N:Nat):Option Shared:=((Fast.tw10274390034422433532 Fast.tw14364793385576792824 (opening p) w N (start<|opening p).1 (start<|opening p).2).bind<|Fast.tw14289696077712309145 p).bind λs₀=>match s₀.heap.isNs mainGlobals&&s₀.gens.size==0 with
 |true=>(Jf p w N s₀).bind λs₁=>match staticsOk (importedModules p.main.body) s₀.heap s₁.heap&&namesBound p s₁.heap&&gensDone s₁&&laidKept s₀.heap s₁.heap with
  |true=>some s₁
  |false=>none
 |false=>none
noncomputable def gA(q:Mz)(s:He):=(Fast.tw5160383126252970620 (R.mapR (λx=>x.name)<|Fast.tw3399658132070893891 q) (Fast.tw5991557255702980513 q) [] {s with gens:= #[]},s.heap.bltView)
abbrev _root_.Na:=List Str
noncomputable def gB(p q:Mz)(loose:Na)(Xt:Shared->Bool)(s:He):=(Fast.tw10880121769531294198 s.heap (Fast.tw821141287760084731 q loose) (R.mapR (λx=>x.name)<|Fast.tw3399658132070893891 q) (R.mapR (λx=>x.fst)<|Fast.tw7409074990110511671 q) (R.mapR (λx=>x.name)<|Fast.tw13664370479719496447 q<|Fast.tw821141287760084731 q loose)&&Fast.tw14722251495701143533 s.heap (importedModules p.main.body)&&s.heap.isNs mainGlobals&&s.heap.isNs builtinsNs&&Fast.tw10994771534591457954 q s.heap&&Xt s&&(s.gens.size==0),Fast.tw479339242167458305 q s)
noncomputable def gC(q:Mz)(loose:Na)(s:He):=(Fast.tw16090120013241838585 q (Fast.tw3247288618530077131 q) s,Fast.tw2386780881361962483 q (Fast.tw821141287760084731 q loose) s,Fast.tw11698064438423848299 q loose s,Fast.tw7317090234206586261 q s,Fast.tw7369524293546568484 q loose s)
def left_of{p q:Mz}{loose:Na}{Xt:Shared->Bool}{α:Type}{Yf:Shared->α}{Ya:World->α}{N:Nat}(O:∀w,(endP p w N).map (λs=>((gA q s,gB p q loose Xt s),gC q loose s))=some ((((openGood q loose).1,(openGood q loose).2.1),(true,true)),(openGood q loose).2.2.2.2))(hD:∀w,(endP p w N).map Yf=some (Ya w)):LeftO p q loose Xt Yf Ya N:=λw=>by
 let{s₁,e,z}:=QJ.mp (O w);let{ab,c}:=Wb z;let{a,b}:=Wb ab;let{_,G,d}:=QJ.mp (hD w);rw[e]at G;cases G;let{a1,a2}:=Wb a;let{U,Y}:=Wb b;have g:Fast.tw4187177175401517315 q loose (importedModules p.main.body) Xt true s₁=openGood q loose:=by
  exact Prod.ext a1<|Prod.ext a2 (Prod.ext U<|Prod.ext Y c)
 rw[<-Fast.te4187177175401517315]at g;unfold endP at e;rw[<-Fast.te10274390034422433532,<-Fast.te14364793385576792824,<-Fast.te14289696077712309145]at e;let{s₀,Z,e}:=Option.bind_eq_some_iff.mp e;unfold openEnds fencedOpening;rw[Z];show(topFrom treeTable p w N s₀).map _=_;unfold topFrom;cases I:(s₀.heap.isNs mainGlobals&&s₀.gens.size==0)with
 |false=>rw[I]at e;cases e
 |true=>
  rw[I]at e;let{s₂,h1,e}:=Option.bind_eq_some_iff.mp e;show Option.map _ ((topRun treeTable p w s₀.heap.objs.size (s₀.heap.nsMap mainGlobals "__annotations__") N s₀<|topStub p).bind _)=_;rw[Gv h1];cases hs:(staticsOk (importedModules p.main.body) s₀.heap s₂.heap&&namesBound p s₂.heap&&gensDone s₂&&laidKept s₀.heap s₂.heap)with
  |false=>rw[hs]at e;cases e
  |true=>
   rw[hs]at e;cases e;show Option.map _ (match (staticsOk (importedModules p.main.body) s₀.heap s₁.heap&&namesBound p s₁.heap&&gensDone s₁&&laidKept s₀.heap s₁.heap)with|true=>some s₁|false=>none)=_;rw[hs];show some (_,_)=some (_,_);rw[g,d]
def two{α β:Type}{o:Option Shared}{f:Shared->α}{g:Shared->β}{a:α}{b:β}(h:o.map (λs=>(f s,g s))=some (a,b)):o.map f=some a/\o.map g=some b:=by
 cases o with
 |none=>cases h
 |some s=>
  have h:=Wb (VG h);exact{VT some h.1,VT some h.2}
end HD
namespace SW
open PySem L2
set_option maxHeartbeats 0
noncomputable def top(i:Nat):Stmt:=PySem.Challenge.pw_staywalk_k66_whole_bent_tokens.main.body.getD i (.Pass {0,0,0,0})
abbrev lW:=aI (top 5) 0
abbrev lV:=aI (top 6) 0
abbrev jZ:=aI (top 7) 0
abbrev iG:=aI (top 8) 0
abbrev r9:=top 12
abbrev pz:=top 13
abbrev mR:=top 14
abbrev pj:=top 15
abbrev i4:=top 16
abbrev pq:=top 17
abbrev mS:=top 19
abbrev pA:=top 21
abbrev pf:=top 22
abbrev gS:=aI (top 23) 0
abbrev fR:=aI (top 23) 1
abbrev fg:=aI (top 24) 0
abbrev d7:=aI (top 24) 1
abbrev mT:=aI (top 25) 0
abbrev jY:=aI (top 25) 1
abbrev jh:=aI (top 26) 0
abbrev g6:=aI (top 26) 1
abbrev C5:=top 29
abbrev e7:=top 30
abbrev dE:=top 31
abbrev dF:=top 32
abbrev jV:=top 33
abbrev fP:=top 34
abbrev fS:=aI (top 38) 0
abbrev eG:=aI (top 38) 1
abbrev gH:=aI (top 38) 2
abbrev gX:=aI (top 38) 3
abbrev j4:=aI (top 38) 4
abbrev cw:=aI (top 38) 6
abbrev bV:=aI (top 38) 7
abbrev dH:=aI (top 38) 8
abbrev cT:=aI (top 38) 9
abbrev eQ:=aI (top 38) 10
abbrev gW:=aI (top 40) 0
abbrev gV:=aI (top 40) 1
abbrev gF:=top 44
abbrev gU:=aI (top 45) 0
abbrev jc:=aI (top 45) 1
abbrev je:=aI (top 45) 3
abbrev jd:=aI (top 45) 4
abbrev eF:=aI (top 45) 6
abbrev j3:=aI (top 45) 7
abbrev cY:=aI (top 45) 9
abbrev gT:=aI (top 45) 10
abbrev d6:=aI (top 45) 11
abbrev dG:=aI (top 45) 12
abbrev c8:=aI (top 45) 13
abbrev da:=aI (top 45) 14
abbrev gY:=aI (top 47) 0
abbrev jf:=aI (top 47) 1
abbrev jg:=aI (top 47) 3
abbrev nS:=aI (top 47) 4
abbrev gZ:=aI (top 47) 15
abbrev eD:=top 52
abbrev i5:=top 53
abbrev i7:=top 54
abbrev i6:=top 55
abbrev fQ:=top 57
abbrev i9:=top 58
abbrev i8:=top 59
abbrev gR:=top 60
abbrev jX:=top 61
abbrev jW:=top 62
abbrev gG:=top 63
abbrev eE:=top 64
abbrev C4:=top 65
set_option genInjectivity false in
structure KF where
 yR:Addr
 tG:FuncData
 vT:Addr
 pW:FuncData
 nE:Addr
 jB:FuncData
 vR:Addr
 pU:FuncData
 oC:Addr
 jx:FuncData
 vS:Addr
 pV:FuncData
 tM:Addr
 m8:FuncData
 vU:Addr
 pX:FuncData
 vQ:Addr
 pT:FuncData
 iE:Addr
 ie:FuncData
 cI:Addr
 gr:FuncData
 jP:Addr
 cq:FuncData
 iV:Addr
 eC:FuncData
 tN:Addr
 gl:FuncData
 qq:Addr
 kM:FuncData
 oR:Addr
 dR:FuncData
 mG:Addr
 iC:FuncData
 Hx:Addr
 yG:FuncData
 jO:Addr
 fo:FuncData
 kU:Addr
 gi:FuncData
 kW:Addr
 gj:FuncData
 qk:Addr
 kH:FuncData
 kT:Addr
 gh:FuncData
 kZ:Addr
 gs:FuncData
 mD:Addr
 iz:FuncData
 mC:Addr
 iy:FuncData
 gQ:Addr
 dQ:FuncData
 fA:Addr
 cW:FuncData
 gP:Addr
 dP:FuncData
 fw:Addr
 cV:FuncData
 mB:Addr
 iw:FuncData
 my:Addr
 iu:FuncData
 ql:Addr
 kI:FuncData
 mw:Addr
 iq:FuncData
 oK:Addr
 jE:FuncData
 oN:Addr
 jG:FuncData
 oM:Addr
 jF:FuncData
 mr:Addr
 io:FuncData
 mq:Addr
 ii:FuncData
 mn:Addr
 ig:FuncData
 iU:Addr
 eB:FuncData
 gO:Addr
 dO:FuncData
 gu:Addr
 dn:FuncData
 gv:Addr
 dt:FuncData
 mE:Addr
 iA:FuncData
 oP:Addr
 jH:FuncData
 oQ:Addr
 jI:FuncData
 mF:Addr
 iB:FuncData
 mh:Addr
 hV:FuncData
 oE:Addr
 jy:FuncData
 oH:Addr
 jA:FuncData
 oG:Addr
 jz:FuncData
 kX:Addr
 gk:FuncData
 oJ:Addr
 jD:FuncData
 oI:Addr
 jC:FuncData
 mj:Addr
 eK:FuncData
 qp:Addr
 kL:FuncData
 qm:Addr
 kJ:FuncData
 qo:Addr
 kK:FuncData
 mi:Addr
 hZ:FuncData
 Hw:Addr
 AY:FuncData
 bQ:Addr
 a7:Addr
 cZ:Addr
 eL:Addr
 aJ:Addr
 cQ:Addr
 bI:Addr
 bc:Addr
 eO:Addr
 aQ:Addr
 a8:Addr
 aL:Addr
end SW
namespace ZK
open PySem PySem.W SW L2
noncomputable abbrev N:Value:= .none
noncomputable abbrev Wh(b:Bool):Value:= .bool b
noncomputable abbrev I(i:Int):Value:= .int i 0
noncomputable abbrev S(x:Str)(t:Nat):Value:= .str x t
noncomputable abbrev F(t:Nat):Value:= .str "/claim/cut.py" t
abbrev _root_.G':=Addr
noncomputable abbrev R(a:G'):Value:= .ref a
noncomputable abbrev T(n:String):Value:= .type n
abbrev _root_.J':=Value
noncomputable abbrev E(P:Params)(x:Str)(t:Nat)(v:J'):DictEntry:={PyData.keyHash P x,.str x t,v}
abbrev _root_.L':=List Value
noncomputable abbrev c(vs:L'):Obj:={.type "code",none,.fields vs.toArray, #[]}
abbrev o(n:Str)(a:Nat)(m:Str)(b d:Nat)(e g h i j:Int)(k:G')(l:Int)(r s t u:G')(v w:Int)(x:Nat):Obj:=c [S n a,S m b,F d,I e,I g,I h,I i,I j,R k,Wh true,I l,R r,N,R s,R t,R u,I v,I w,F x]
abbrev _root_.Nf:=Option Addr
abbrev D(nm qn:Str)(s:Stmt)(df kV dc pm:J')(an:Nf)(cd ct:J'):FuncData:=fnOf nm qn (fE s) (cf s) (ai s) df kV dc pm an cd ct
abbrev _root_.Nj:=FuncData
noncomputable abbrev f(d:Nj):Obj:={.type "function",none,.func d, #[]}
abbrev d10:=λx q s r=>D x q s N N N (S "law_staywalk_k66_whole_bent_tokens" 1179) none (R r) N
abbrev d11:=λx q s r=>D x q s N N N (S "staywalk.asks" 570) none (R r) N
abbrev d12:=λx q s r=>D x q s N N N (S "staywalk.bits" 346) none (R r) N
abbrev d13:=λx q s r=>D x q s N N N (S "staywalk.house" 962) none (R r) N
abbrev d14:=λx q s r=>D x q s N N N (S "staywalk.leaves" 623) none (R r) N
abbrev d15:=λx q s r=>D x q s N N N (S "staywalk.makes" 736) none (R r) N
abbrev d16:=λx q s r=>D x q s N N N (S "staywalk.slots" 799) none (R r) N
abbrev d17:=λx q s r=>D x q s N N N (S "staywalk.tokens" 410) none (R r) N
abbrev d18:=λx q s r=>D x q s N N N (S "staywalk.words" 1139) none (R r) N
def t:KF:={141,d12 "turned" "turned" r9 140,148,d12 "mark_of" "mark_of" pz 147,155,d12 "place_of" "place_of" mR 154,162,d12 "slot_of" "slot_of" pj 161,169,d12 "stretch_of" "stretch_of" i4 168,176,d12 "slot_at" "slot_at" pq 175,183,D "is_whole" "is_whole" mS N N N (S "staywalk.wholes" 401) none (R 182) N,190,d17 "is_from" "is_from" pA 189,197,d17 "word_of" "word_of" pf 196,211,d17 "__init__" "Token.__init__" gS 210,218,d17 "words" "Token.words" fR 217,240,D "__init__" "BySlots.__init__" fg (R 233) N N (S "staywalk.tokens" 410) none (R 239) N,247,d17 "holds" "BySlots.holds" d7 246,267,D "__init__" "Up.__init__" mT (R 260) N N (S "staywalk.tokens" 410) none (R 266) N,274,d17 "holds" "Up.holds" jY 273,294,D "__init__" "Down.__init__" jh (R 287) N N (S "staywalk.tokens" 410) none (R 293) N,301,d17 "holds" "Down.holds" g6 300,312,D "ask" "ask" C5 (R 307) N N (S "staywalk.asks" 570) none (R 311) N,319,d11 "page_by_slots" "page_by_slots" e7 318,324,d11 "page_by_keys" "page_by_keys" dE 323,329,d11 "keys_of_page" "keys_of_page" dF 328,336,d11 "keys_near" "keys_near" jV 335,343,d11 "token_behind" "token_behind" fP 342,357,d14 "__init__" "Leaves.__init__" fS 356,362,d14 "add" "Leaves.add" eG 361,376,d14 "has" "Leaves.has" gX 375,393,d14 "from_on" "Leaves.from_on" cw 392,398,d14 "down_from" "Leaves.down_from" bV 397,405,d14 "leaf_of" "Leaves.leaf_of" dH 404,412,d14 "part_leaf" "Leaves.part_leaf" cT 411,440,d15 "__init__" "Makes.__init__" gW 439,447,d15 "note" "Makes.note" gV 446,480,d16 "empty_row" "empty_row" gF 479,494,d16 "__init__" "Slots.__init__" gU 493,501,d16 "put" "Slots.put" jc 500,515,d16 "get" "Slots.get" je 514,522,d16 "has" "Slots.has" jd 521,534,d16 "rows" "Slots.rows" eF 533,553,d16 "span" "Slots.span" cY 552,560,d16 "stop" "Slots.stop" gT 559,567,d16 "cell_of" "Slots.cell_of" d6 566,574,d16 "lying_at" "Slots.lying_at" dG 573,581,d16 "move_slot" "Slots.move_slot" c8 580,588,d16 "begin_row" "Slots.begin_row" da 587,609,d13 "__init__" "House.__init__" gY 608,616,d13 "put" "House.put" jf 615,630,d13 "get" "House.get" jg 629,716,d13 "done" "House.done" gZ 715,742,d18 "are_figures" "are_figures" eD 741,749,d18 "read_whole" "read_whole" i5 748,756,d18 "read_bound" "read_bound" i7 755,763,d18 "read_token" "read_token" i6 762,770,d10 "_law_cell_at" "_law_cell_at" fQ 769,777,d10 "_law_drawn" "_law_drawn" i9 776,784,d10 "_law_house" "_law_house" i8 783,791,d10 "_law_sorted" "_law_sorted" gR 790,798,d10 "_law_bent" "_law_bent" jX 797,805,d10 "_law_read" "_law_read" jW 804,810,d10 "_law_page" "_law_page" gG 809,815,d10 "_law_walked" "_law_walked" eE 814,822,d10 "law" "law" C4 821,31,44,56,221,250,277,304,422,471,591,733,786}
abbrev ob(n m:Str)(a:Nat)(e g:Int)(k:G')(v:Nat):=o n a m (a+1) (a+2) e g 0 0 3 k 181 (k+1) (k+2) (k+3) (k+4) v e (v+1)
abbrev oa(n:Str):=ob n n
abbrev ea(P:Params)(x:Str)(t:Nat)(a:G'):=E P x t (R a)
def K:Params->Frag:=λP=>(!2,{N,none,.dict #[] 0, #[]})::
(!3,{(T "dict"),none,.dict #[E P "__name__" 165 (S "law_staywalk_k66_whole_bent_tokens" 1179),E P "__doc__" 166 N,E P "__package__" 167 N,E P "__loader__" 168 (.builtin "__main__.__loader__#opaque"),E P "__spec__" 169 N,ea P "__annotations__" 170 6,ea P "__builtins__" 171 4,E P "__file__" 173 (S "/claim/cut.py" 172),E P "__cached__" 174 N,ea P "_wall" 193 21,ea P "WalkError" 213 31,ea P "NoToken" 229 44,ea P "NoText" 245 56,ea P "NoKey" 270 75,ea P "Twice" 295 94,ea P "TooOld" 320 113,ea P "NoMoment" 345 132,E P "BITS" 349 (.int 16 348),E P "PLACES" 351 (.int 65536 350),ea P "turned" 361 141,ea P "mark_of" 368 148,ea P "place_of" 375 155,ea P "slot_of" 383 162,ea P "stretch_of" 392 169,ea P "slot_at" 400 176,ea P "is_whole" 409 183,ea P "is_from" 419 190,ea P "word_of" 426 197,ea P "Token" 466 221,ea P "BySlots" 501 250,ea P "Up" 535 277,ea P "Down" 569 304,E P "STRETCHES_A_KEY" 573 (.int 4 572),ea P "ask" 580 312,ea P "page_by_slots" 593 319,ea P "page_by_keys" 599 324,ea P "keys_of_page" 605 329,ea P "keys_near" 614 336,ea P "token_behind" 622 343,E P "MOST_IN_LEAF" 626 (.int 8 625),E P "LEAST_IN_TWO" 628 (.int 5 627),ea P "Leaves" 735 422,ea P "Makes" 798 471,E P "LEAST_SIZE" 802 (.int 4 801),E P "GREATEST_SIZE" 804 (.int 256 803),ea P "empty_row" 810 480,ea P "Slots" 961 591,ea P "House" 1138 733,E P "FIGURES" 1142 (S "0123456789" 1141),E P "MOST_FIGURES" 1144 (.int 60 1143),E P "WORDS_OF_TOKEN" 1146 (.int 3 1145),ea P "are_figures" 1152 742,ea P "read_whole" 1161 749,ea P "read_bound" 1168 756,ea P "read_token" 1178 763,ea P "_law_cell_at" 1188 770,ea P "_law_drawn" 1197 777,ea P "_law_house" 1210 784,ea P "_law_sorted" 1218 791,ea P "_law_bent" 1230 798,ea P "_law_read" 1238 805,ea P "_law_page" 1244 810,ea P "_law_walked" 1250 815,ea P "law" 1267 822] 64, #[]})::
(!4,{(T "module"),(some 0),.plain, #[]})::
(!30,{(T "dict"),none,.dict #[E P "__module__" 203 (S "staywalk.errors" 194),E P "__firstlineno__" 207 (.int 5 206),ea P "__static_attributes__" 208 29,ea P "__weakref__" 210 32,E P "__doc__" 211 N] 3, #[]})::
(!31,{(T "type"),none,.cls {"WalkError",[(T "ValueError")],[(R 31),(T "ValueError"),(T "Exception"),(T "BaseException"),(T "object")],30,"WalkError",true,[],[(R 44),(R 56),(R 75),(R 94),(R 113),(R 132)],false,none,false}, #[some (R 22),none,some (S "WalkError" 196),some (S "WalkError" 204),some (.builtin "ValueError.__new__"),some (Wh true)]})::
(!43,{(T "dict"),none,.dict #[E P "__module__" 221 (S "staywalk.errors" 194),E P "__firstlineno__" 225 (.int 7 224),ea P "__static_attributes__" 226 42,E P "__doc__" 227 N] 2, #[]})::
(!44,{(T "type"),none,.cls {"NoToken",[(R 31)],[(R 44),(R 31),(T "ValueError"),(T "Exception"),(T "BaseException"),(T "object")],43,"NoToken",true,[],[],false,none,false}, #[some (R 35),none,some (S "NoToken" 214),some (S "NoToken" 222),some (.builtin "ValueError.__new__"),some (Wh true)]})::
(!55,{(T "dict"),none,.dict #[E P "__module__" 237 (S "staywalk.errors" 194),E P "__firstlineno__" 241 (.int 9 240),ea P "__static_attributes__" 242 54,E P "__doc__" 243 N] 2, #[]})::
(!56,{(T "type"),none,.cls {"NoText",[(R 31)],[(R 56),(R 31),(T "ValueError"),(T "Exception"),(T "BaseException"),(T "object")],55,"NoText",true,[],[],false,none,false}, #[some (R 47),none,some (S "NoText" 230),some (S "NoText" 238),some (.builtin "ValueError.__new__"),some (Wh true)]})::
(!140,oa "turned" 352 34 1 135 359)::
(!141,f t.tG)::
(!147,oa "mark_of" 362 41 1 142 366)::
(!148,f t.pW)::
(!154,oa "place_of" 369 43 1 149 373)::
(!155,f t.jB)::
(!161,oa "slot_of" 376 45 2 156 381)::
(!162,f t.pU)::
(!168,oa "stretch_of" 384 47 2 163 390)::
(!169,f t.jx)::
(!175,oa "slot_at" 393 50 2 170 398)::
(!176,f t.pV)::
(!182,oa "is_whole" 403 53 1 177 407)::
(!183,f t.m8)::
(!189,oa "is_from" 412 56 2 184 417)::
(!190,f t.pX)::
(!196,oa "word_of" 420 58 1 191 424)::
(!197,f t.pT)::
(!210,ob "__init__" "Token.__init__" 439 62 4 205 446)::
(!211,f t.ie)::
(!217,ob "words" "Token.words" 449 67 1 212 453)::
(!218,f t.gr)::
(!220,{(T "dict"),none,.dict #[E P "__module__" 434 (S "staywalk.tokens" 410),E P "__firstlineno__" 438 (.int 60 437),ea P "__init__" 448 211,ea P "words" 455 218,ea P "__static_attributes__" 459 219,ea P "__dict__" 461 222,ea P "__weakref__" 463 223,E P "__doc__" 464 N] 4, #[]})::
(!221,{(T "type"),none,.cls {"Token",[(T "object")],[(R 221),(T "object")],220,"Token",true,[],[(R 250),(R 277),(R 304)],false,none,false}, #[none,none,some (S "Token" 427),some (S "Token" 435),some (.builtin "object.__new__"),some (Wh true)]})::
(!233,{(T "tuple"),none,.seq #[(.int 0 479),(.int 65536 480)] 0, #[]})::
(!239,ob "__init__" "BySlots.__init__" 481 71 3 234 487)::
(!240,f t.cq)::
(!246,ob "holds" "BySlots.holds" 490 76 2 241 495)::
(!247,f t.eC)::
(!249,{(T "dict"),none,.dict #[E P "__module__" 474 (S "staywalk.tokens" 410),E P "__firstlineno__" 478 (.int 69 477),ea P "__init__" 489 240,ea P "holds" 497 247,ea P "__static_attributes__" 498 248,E P "__doc__" 499 N] 2, #[]})::
(!250,{(T "type"),none,.cls {"BySlots",[(R 221)],[(R 250),(R 221),(T "object")],249,"BySlots",true,[],[],false,none,false}, #[some (R 226),none,some (S "BySlots" 467),some (S "BySlots" 475),some (.builtin "object.__new__"),some (Wh true)]})::
(!260,{(T "tuple"),none,.seq #[(.int 0 514),N] 0, #[]})::
(!266,ob "__init__" "Up.__init__" 515 80 3 261 521)::
(!267,f t.gl)::
(!273,ob "holds" "Up.holds" 524 85 2 268 529)::
(!274,f t.kM)::
(!276,{(T "dict"),none,.dict #[E P "__module__" 509 (S "staywalk.tokens" 410),E P "__firstlineno__" 513 (.int 78 512),ea P "__init__" 523 267,ea P "holds" 531 274,ea P "__static_attributes__" 532 275,E P "__doc__" 533 N] 2, #[]})::
(!277,{(T "type"),none,.cls {"Up",[(R 221)],[(R 277),(R 221),(T "object")],276,"Up",true,[],[],false,none,false}, #[some (R 253),none,some (S "Up" 502),some (S "Up" 510),some (.builtin "object.__new__"),some (Wh true)]})::
(!287,{(T "tuple"),none,.seq #[N,(.int 0 548)] 0, #[]})::
(!293,ob "__init__" "Down.__init__" 549 89 3 288 555)::
(!294,f t.dR)::
(!300,ob "holds" "Down.holds" 558 94 2 295 563)::
(!301,f t.iC)::
(!303,{(T "dict"),none,.dict #[E P "__module__" 543 (S "staywalk.tokens" 410),E P "__firstlineno__" 547 (.int 87 546),ea P "__init__" 557 294,ea P "holds" 565 301,ea P "__static_attributes__" 566 302,E P "__doc__" 567 N] 2, #[]})::
(!304,{(T "type"),none,.cls {"Down",[(R 221)],[(R 304),(R 221),(T "object")],303,"Down",true,[],[],false,none,false}, #[some (R 280),none,some (S "Down" 536),some (S "Down" 544),some (.builtin "object.__new__"),some (Wh true)]})::
(!307,{(T "tuple"),none,.seq #[(.int 10 574),N] 0, #[]})::
(!311,c [(S "ask" 575),(S "ask" 576),(F 577),(I 98),(I 4),(I 0),(I 0),(I 3),(R 308),(Wh true),(I 181),(R 309),N,N,N,(R 310),(I 578),(I 98),(F 579)])::
(!312,f t.yG)::
(!318,oa "page_by_slots" 581 106 3 313 591)::
(!319,f t.fo)::
(!323,c [(S "page_by_keys" 594),(S "page_by_keys" 595),(F 596),(I 120),(I 3),(I 0),(I 0),(I 3),(R 320),(Wh true),(I 181),(R 321),N,N,N,(R 322),(I 597),(I 120),(F 598)])::
(!324,f t.gi)::
(!328,c [(S "keys_of_page" 600),(S "keys_of_page" 601),(F 602),(I 123),(I 3),(I 0),(I 0),(I 3),(R 325),(Wh true),(I 181),(R 326),N,N,N,(R 327),(I 603),(I 123),(F 604)])::
(!329,f t.gj)::
(!335,oa "keys_near" 606 132 3 330 612)::
(!336,f t.kH)::
(!342,oa "token_behind" 615 136 2 337 620)::
(!343,f t.gh)::
(!356,ob "__init__" "Leaves.__init__" 641 145 1 351 645)::
(!357,f t.gs)::
(!361,c [(S "add" 648),(S "Leaves.add" 649),(F 650),(I 148),(I 2),(I 0),(I 0),(I 3),(R 358),(Wh true),(I 181),(R 359),N,N,N,(R 360),(I 651),(I 148),(F 652)])::
(!362,f t.iz)::
(!375,ob "has" "Leaves.has" 663 171 2 370 669)::
(!376,f t.iy)::
(!380,c [(S "many" 672),(S "Leaves.many" 673),(F 674),(I 175),(I 1),(I 0),(I 0),(I 3),(R 377),(Wh true),(I 181),(R 378),N,N,N,(R 379),(I 675),(I 175),(F 676)])::
(!392,c [(S "from_on" 685),(S "Leaves.from_on" 686),(F 687),(I 181),(I 3),(I 0),(I 0),(I 3),(R 389),(Wh true),(I 181),(R 390),N,N,N,(R 391),(I 688),(I 181),(F 689)])::
(!393,f t.dQ)::
(!397,c [(S "down_from" 691),(S "Leaves.down_from" 692),(F 693),(I 189),(I 3),(I 0),(I 0),(I 3),(R 394),(Wh true),(I 181),(R 395),N,N,N,(R 396),(I 694),(I 189),(F 695)])::
(!398,f t.cW)::
(!404,ob "leaf_of" "Leaves.leaf_of" 697 199 2 399 705)::
(!405,f t.dP)::
(!411,ob "part_leaf" "Leaves.part_leaf" 708 210 2 406 715)::
(!412,f t.cV)::
(!421,{(T "dict"),none,.dict #[E P "__module__" 636 (S "staywalk.leaves" 623),E P "__firstlineno__" 640 (.int 143 639),ea P "__init__" 647 357,ea P "add" 653 362,ea P "discard" 662 369,ea P "has" 671 376,ea P "many" 677 381,ea P "all_of" 684 388,ea P "from_on" 690 393,ea P "down_from" 696 398,ea P "leaf_of" 707 405,ea P "part_leaf" 717 412,ea P "join_small" 726 419,ea P "__static_attributes__" 728 420,ea P "__dict__" 730 423,ea P "__weakref__" 732 424,E P "__doc__" 733 N] 4, #[]})::
(!422,{(T "type"),none,.cls {"Leaves",[(T "object")],[(R 422),(T "object")],421,"Leaves",true,[],[],false,none,false}, #[none,none,some (S "Leaves" 629),some (S "Leaves" 637),some (.builtin "object.__new__"),some (Wh true)]})::
(!439,ob "__init__" "Makes.__init__" 750 226 1 434 754)::
(!440,f t.iw)::
(!446,ob "note" "Makes.note" 757 229 3 441 763)::
(!447,f t.iu)::
(!470,{(T "dict"),none,.dict #[E P "__module__" 745 (S "staywalk.makes" 736),E P "__firstlineno__" 749 (.int 224 748),ea P "__init__" 756 440,ea P "note" 765 447,ea P "all_told" 772 454,ea P "value_at" 781 461,ea P "sweep" 789 468,ea P "__static_attributes__" 791 469,ea P "__dict__" 793 472,ea P "__weakref__" 795 473,E P "__doc__" 796 N] 4, #[]})::
(!471,{(T "type"),none,.cls {"Makes",[(T "object")],[(R 471),(T "object")],470,"Makes",true,[],[],false,none,false}, #[none,none,some (S "Makes" 738),some (S "Makes" 746),some (.builtin "object.__new__"),some (Wh true)]})::
(!479,c [(S "empty_row" 805),(S "empty_row" 806),(F 807),(I 246),(I 1),(I 0),(I 0),(I 3),(R 476),(Wh true),(I 181),(R 477),N,N,N,(R 478),(I 808),(I 246),(F 809)])::
(!480,f t.kI)::
(!493,ob "__init__" "Slots.__init__" 823 250 1 488 827)::
(!494,f t.iq)::
(!500,ob "put" "Slots.put" 830 255 3 495 837)::
(!501,f t.jE)::
(!514,ob "get" "Slots.get" 848 271 2 509 854)::
(!515,f t.jG)::
(!521,ob "has" "Slots.has" 857 277 2 516 862)::
(!522,f t.jF)::
(!533,c [(S "rows" 872),(S "Slots.rows" 873),(F 874),(I 283),(I 1),(I 0),(I 0),(I 3),(R 530),(Wh true),(I 181),(R 531),N,N,N,(R 532),(I 875),(I 283),(F 876)])::
(!534,f t.io)::
(!552,c [(S "span" 892),(S "Slots.span" 893),(F 894),(I 292),(I 3),(I 0),(I 0),(I 3),(R 549),(Wh true),(I 181),(R 550),N,N,N,(R 551),(I 895),(I 292),(F 896)])::
(!553,f t.ii)::
(!559,ob "stop" "Slots.stop" 898 302 2 554 904)::
(!560,f t.ig)::
(!566,ob "cell_of" "Slots.cell_of" 907 306 2 561 915)::
(!567,f t.eB)::
(!573,ob "lying_at" "Slots.lying_at" 918 314 2 568 929)::
(!574,f t.dO)::
(!580,ob "move_slot" "Slots.move_slot" 932 323 1 575 940)::
(!581,f t.dn)::
(!587,ob "begin_row" "Slots.begin_row" 943 336 1 582 948)::
(!588,f t.dt)::
(!590,{(T "dict"),none,.dict #[E P "__module__" 818 (S "staywalk.slots" 799),E P "__firstlineno__" 822 (.int 248 821),ea P "__init__" 829 494,ea P "put" 839 501,ea P "drop" 847 508,ea P "get" 856 515,ea P "has" 864 522,ea P "many" 871 529,ea P "rows" 877 534,ea P "moved" 884 541,ea P "cells" 891 548,ea P "span" 897 553,ea P "stop" 906 560,ea P "cell_of" 917 567,ea P "lying_at" 931 574,ea P "move_slot" 942 581,ea P "begin_row" 950 588,ea P "__static_attributes__" 954 589,ea P "__dict__" 956 592,ea P "__weakref__" 958 593,E P "__doc__" 959 N] 4, #[]})::
(!591,{(T "type"),none,.cls {"Slots",[(T "object")],[(R 591),(T "object")],590,"Slots",true,[],[],false,none,false}, #[none,none,some (S "Slots" 811),some (S "Slots" 819),some (.builtin "object.__new__"),some (Wh true)]})::
(!608,ob "__init__" "House.__init__" 976 347 1 603 980)::
(!609,f t.iA)::
(!615,ob "put" "House.put" 983 357 3 610 989)::
(!616,f t.jH)::
(!629,ob "get" "House.get" 1000 368 2 624 1005)::
(!630,f t.jI)::
(!715,ob "done" "House.done" 1096 405 3 710 1103)::
(!716,f t.iB)::
(!732,{(T "dict"),none,.dict #[E P "__module__" 971 (S "staywalk.house" 962),E P "__firstlineno__" 975 (.int 345 974),ea P "__init__" 982 609,ea P "put" 991 616,ea P "drop" 999 623,ea P "get" 1007 630,ea P "has" 1015 637,ea P "many" 1022 644,ea P "lay_mark" 1029 651,ea P "diary" 1038 659,ea P "makes" 1046 666,ea P "hold" 1053 673,ea P "let_go" 1061 680,ea P "held" 1068 687,ea P "sweep" 1075 694,ea P "was" 1084 701,ea P "page_at" 1095 709,ea P "done" 1105 716,ea P "refuse_outside" 1113 723,ea P "value_then" 1122 730,ea P "__static_attributes__" 1131 731,ea P "__dict__" 1133 734,ea P "__weakref__" 1135 735,E P "__doc__" 1136 N] 4, #[]})::
(!733,{(T "type"),none,.cls {"House",[(T "object")],[(R 733),(T "object")],732,"House",true,[],[],false,none,false}, #[none,none,some (S "House" 964),some (S "House" 972),some (.builtin "object.__new__"),some (Wh true)]})::
(!741,c [(S "are_figures" 1147),(S "are_figures" 1148),(F 1149),(I 424),(I 1),(I 0),(I 0),(I 3),(R 738),(Wh true),(I 181),(R 739),N,N,N,(R 740),(I 1150),(I 424),(F 1151)])::
(!742,f t.hV)::
(!748,oa "read_whole" 1153 430 1 743 1159)::
(!749,f t.jy)::
(!755,oa "read_bound" 1162 438 1 750 1166)::
(!756,f t.jA)::
(!762,oa "read_token" 1169 445 1 757 1176)::
(!763,f t.jz)::
(!769,oa "_law_cell_at" 1181 461 2 764 1186)::
(!770,f t.gk)::
(!776,oa "_law_drawn" 1189 465 2 771 1195)::
(!777,f t.jD)::
(!783,oa "_law_house" 1198 471 2 778 1208)::
(!784,f t.jC)::
(!790,oa "_law_sorted" 1211 480 2 785 1216)::
(!791,f t.eK)::
(!797,oa "_law_bent" 1219 486 2 792 1228)::
(!798,f t.kL)::
(!804,oa "_law_read" 1231 496 1 799 1236)::
(!805,f t.kJ)::
(!809,c [(S "_law_page" 1239),(S "_law_page" 1240),(F 1241),(I 503),(I 4),(I 0),(I 0),(I 3),(R 806),(Wh true),(I 181),(R 807),N,N,N,(R 808),(I 1242),(I 503),(F 1243)])::
(!810,f t.kK)::
(!814,c [(S "_law_walked" 1245),(S "_law_walked" 1246),(F 1247),(I 513),(I 4),(I 0),(I 0),(I 3),(R 811),(Wh true),(I 181),(R 812),N,N,N,(R 813),(I 1248),(I 513),(F 1249)])::
(!815,f t.hZ)::
(!821,oa "law" 1251 525 1 816 1265)::
(!822,f t.AY)::[]
noncomputable abbrev as:List Addr:=[786,2,3,4,30,31,43,44,55,56,140,141,147,148,154,155,161,162,168,169,175,176,182,183,189,190,196,197,210,211,217,218,220,221,233,239,240,246,247,249,250,260,266,267,273,274,276,277,287,293,294,300,301,303,304,307,311,312,318,319,323,324,328,329,335,336,342,343,356,357,361,362,375,376,380,392,393,397,398,404,405,411,412,421,422,439,440,446,447,470,471,479,480,493,494,500,501,514,515,521,522,533,534,552,553,559,560,566,567,573,574,580,581,587,588,590,591,608,609,615,616,629,630,715,716,732,733,741,742,748,749,755,756,762,763,769,770,776,777,783,784,790,791,797,798,804,805,809,810,814,815,821,822]
noncomputable abbrev p:Program:=PySem.Challenge.pw_staywalk_k66_whole_bent_tokens
abbrev q:Program:=view p [65]
def KT:Params->Frag:=λP=>(!786,PySem.W.tabObj #[])::K P
abbrev H:Hook:=kHook KT as λ_=>rfl
def said:OpenLaw.wellSaid PySem.Challenge.rw_staywalk_k66_whole_bent_tokens=true:=by
 rw[Fast.te9446332074065402090]
 kernel_rfl
noncomputable abbrev M':Nat:=12348
noncomputable abbrev L:List Str:="__name__"::"__doc__"::"__package__"::"__loader__"::"__spec__"::"__annotations__"::"__builtins__"::"__file__"::"__cached__"::"_wall"::"WalkError"::"NoToken"::"NoText"::"NoKey"::"Twice"::"TooOld"::"NoMoment"::"BITS"::"PLACES"::"turned"::"mark_of"::"place_of"::"slot_of"::"stretch_of"::"slot_at"::"is_whole"::"is_from"::"word_of"::"Token"::"BySlots"::"Up"::"Down"::"STRETCHES_A_KEY"::"ask"::"page_by_slots"::"page_by_keys"::"keys_of_page"::"keys_near"::"token_behind"::"MOST_IN_LEAF"::"LEAST_IN_TWO"::"Leaves"::"Makes"::"LEAST_SIZE"::"GREATEST_SIZE"::"empty_row"::"Slots"::"House"::"FIGURES"::"MOST_FIGURES"::"WORDS_OF_TOKEN"::"are_figures"::"read_whole"::"read_bound"::"read_token"::"_law_cell_at"::"_law_drawn"::"_law_house"::"_law_sorted"::"_law_bent"::"_law_read"::"_law_page"::"_law_walked"::[]
abbrev X:Shared->Bool:=λs=>xlAt q [] s&&recOk [] s
def lA:∀w:World,(HD.endP p w M').map (λs=>(((HD.gA q s,HD.gB p q L X s),HD.gC q L s),Hook.obs H s))=some (((((openGood q L).1,(openGood q L).2.1),(true,true)),(openGood q L).2.2.2.2),Hook.val H w):=λw=>by kernel_rfl
def left:LeftO p q L X (Hook.obs H) (Hook.val H) M':=HD.left_of (λw=>(HD.two<|lA w).1) (λw=>(HD.two<|lA w).2)
end ZK
abbrev cC:="self"
abbrev eN:="key"
abbrev eR:="list"
abbrev eZ:="_law_house_here"
abbrev fe:="_law_token"
abbrev ff:="_law_plain"
abbrev fx:="__debug__"
abbrev f':="ValueError.__new__"
abbrev gb:="<lambda>"
abbrev ge:="leaves"
abbrev gp:="token"
abbrev gt:="__init__"
abbrev gM:="_law_many"
abbrev hH:="__name__"
abbrev hL:="object.__class__"
abbrev hW:="end"
abbrev ir:="type.__call__"
abbrev iQ:="range"
abbrev i3:="tuple"
abbrev kj:="value"
abbrev kz:="_law_script"
abbrev kN:="_law_row"
abbrev kO:="sorted"
abbrev kP:="size"
abbrev kY:="0123456789- slotupdwn"
abbrev lm:="at"
abbrev lz:="_law_cell"
abbrev l7:="_law_text"
abbrev l9:="many"
abbrev ms:="most"
abbrev mu:="_law_k"
abbrev nj:="0123456789"
abbrev nz:="slots"
abbrev nX:="int"
namespace L2
open PySem PySem.Spec PyProof.Rows
abbrev Key:=Sum Int Str
noncomputable def kD:Key->Value->Bool
 | .inl k,v=>Value.isInt k v
 | .inr x,v=>Value.isStrOf x v
noncomputable def keyH(w:Nb):Key->Int
 | .inl k=>hashInt k
 | .inr x=>hashStr w x
def bO:∀{k:Key}{v:J'},kD k v=true->(∃i t,k=Sum.inl i/\v=Value.int i t)\/(∃x t,k=Sum.inr x/\v=Value.str x t)
 | .inl i,v,h=>by
  let{t,e}:=Value.isInt_shape (k:=i) (v:=v) h;exact .inl ⟨i,t,M,e⟩
 | .inr x,v,h=>by
  let{t,e}:=Value.isStrOf_shape (x:=x) (v:=v) h;exact .inr ⟨x,t,M,e⟩
def BW(i:Int)(t:Tok):kD (.inl i) (.int i t)=true:=by simp[kD,Value.isInt]
def BV(x:Str)(t:Tok):kD (.inr x) (.str x t)=true:=by simp[kD,Value.isStrOf]
def IN(a b:Int):decide ((Sum.inl a:Key)=Sum.inl b)=(a==b):=by
 by_cases e:a=b
 .subst e;simp
 .have h:¬(Sum.inl a:Key)=Sum.inl b:=λq=>e (Sum.inl.inj q);rw[VM h];exact(VQ.mpr e).symm
def IK(a b:Str):decide ((Sum.inr a:Key)=Sum.inr b)=decide (a=b):=by
 by_cases e:a=b
 .subst e;simp
 .have h:¬(Sum.inr a:Key)=Sum.inr b:=λq=>e (Sum.inr.inj q);rw[VM h,VM e]
def IM(a:Int)(b:Str):decide ((Sum.inl a:Key)=Sum.inr b)=false:=VM (λq=>nomatch q)
def IL(a:Str)(b:Int):decide ((Sum.inr a:Key)=Sum.inl b)=false:=VM (λq=>nomatch q)
def bL(prog:Mz)(w:Nb):PySem.KeyKind prog w Key where
 is:=kD
 hash:=keyH w
 inj:=λv a b ha hb=>by
  rcases bO ha with⟨i,t,rfl,rfl⟩|⟨x,t,rfl,rfl⟩
  .rcases bO hb with⟨j,u,rfl,e⟩|⟨y,u,rfl,e⟩
   .injection e with e1 _;rw[e1]
   .exact nomatch e
  .rcases bO hb with⟨j,u,rfl,e⟩|⟨y,u,rfl,e⟩
   .exact nomatch e
   .injection e with e1 _;rw[e1]
 byValue:=λk v h=>by
  rcases bO h with⟨i,t,rfl,rfl⟩|⟨x,t,rfl,rfl⟩<;>rfl
 pyHash:=λhv h=>by
  rcases bO hv with⟨i,t,rfl,rfl⟩|⟨x,t,rfl,rfl⟩
  .exact wpAny_pyHash_int h
  .exact wpAny_pyHash_str h
 eqBool:=λhu hv h=>by
  rcases bO hu with⟨i,t,rfl,rfl⟩|⟨x,t,rfl,rfl⟩
  .rcases bO hv with⟨j,u,rfl,rfl⟩|⟨y,u,rfl,rfl⟩
   .rw[IN]at h;exact wpAny_eqBool_int h
   .rw[IM]at h;exact SeqAt.EqAt.int_str i t y u _ _ _ _ h
  .rcases bO hv with⟨j,u,rfl,rfl⟩|⟨y,u,rfl,rfl⟩
   .rw[IL]at h;exact SeqAt.EqAt.str_int x t j u _ _ _ _ h
   .rw[IK]at h;exact wpAny_eqBool_str h
 «strs»:=λk x t v h=>by
  rcases bO h with⟨i,u,rfl,e⟩|⟨y,u,rfl,e⟩
  .exact nomatch e
  .injection e with e1 _;subst e1;cases v<;>rfl
def zI(prog:Mz)(w:Nb)(k:Key)(v:J'):(bL prog w).is k v=kD k v:=rfl
def ye(prog:Mz)(w:Nb)(i:Int)(t:Tok):(bL prog w).is (.inl i) (.int i t)=true:=BW i t
def yd(prog:Mz)(w:Nb)(x:Str)(t:Tok):(bL prog w).is (.inr x) (.str x t)=true:=BV x t
inductive V where
 |non|bl (b:Bool)|int (i:Int)|str (x:Str)|byt (b:Array UInt8)|flt (b:UInt64)|ref (a:G')|ty (n:String)
 deriving DecidableEq
abbrev _root_.K':=List V
variable{a b:G'}{o u:HO}{h h':Heap}{H:Hp}{xs:K'}{us:L'}{P:Mz}{x:V}{w:Nb}
def RelV:V->Value->Prop
 | .non,u=>u=Value.none
 | .bl b,u=>u=Value.bool b
 | .int i,u=>∃t,u=Value.int i t
 | .str x,u=>∃t,u=Value.str x t
 | .byt b,u=>∃t,u=Value.bytes b t
 | .flt b,u=>∃t,u=Value.float b t
 | .ref a,u=>u=Value.ref a
 | .ty n,u=>u=Value.type n
abbrev A7:List V->List Value->Prop:=Paired RelV
def A7.length(r:A7 xs us):xs.length=us.length:=Paired.length r
def A7.get{i:Nat}(h:A7 xs us)(e:xs[i]?=some x):∃u,us[i]?=some u/\RelV x u:=by
 induction h generalizing i with
 |nil=>cases e
 |cons r t z=>cases i with
  |zero=>cases e;exact{_,M,r}
  |succ i=>exact z e
def A7.set{u:J'}(r:RelV x u)(i:Nat)(h:A7 xs us):A7 (xs.set i x) (us.set i u):=by
 induction h generalizing i with
 |nil=>exact .nil
 |cons q t z=>cases i with
  |zero=>exact .cons r t
  |succ i=>exact .cons q<|z i
def A7.append{ys:K'}{z:L'}(h:A7 xs us)(s:A7 ys z):A7 (xs++ys) (us++z):=by
 induction h with
 |nil=>exact s
 |cons r t G=>exact .cons r G
theorem A7.take:∀{xs:K'}{us:L'}(n:Nat),A7 xs us->A7 (xs.take n) (us.take n)
 |_,_,0,_=> .nil
 |_,_,_+1,.nil=> .nil
 |_,_,n+1,.cons r t=> .cons r (A7.take n t)
theorem A7.drop:∀{xs:K'}{us:L'}(n:Nat),A7 xs us->A7 (xs.drop n) (us.drop n)
 |_,_,0,r=>r
 |_,_,_+1,.nil=> .nil
 |_,_,n+1,.cons _ t=>A7.drop n t
def A7.none_of:∀{xs:K'}{us:L'}{i:Nat},A7 xs us->xs[i]?=none->us[i]?=none:=λ{xs us i} r e=>by
 have h1:=r.length;have h2:xs.length<=i:=Zs.mp e;exact Zs.mpr ()
def LD:Option V->Option Value->Prop
 |some v,some u=>RelV v u
 |none,none=>True
 |_,_=>False
def KV{κ:Type}:List (κ×V)->List (κ×Value)->Prop:=Paired λ(p:κ×V)(q:κ×Value)=>p.1=q.1/\RelV p.2 q.2
noncomputable def kV:Key->V
 | .inl i=> .int i
 | .inr x=> .str x
abbrev _root_.Ni:=Array Value
abbrev _root_.Nl:=List (Str×V)
abbrev _root_.Nt:=Int->Bool
abbrev _root_.Nu:=List (Key×V)
abbrev _root_.Nw:=List (List Key×V)
inductive HO where
 |lst(xs:K')
 |tup(xs:K')
 |dK (kvs:Nu)|dT (kvs:Nw)
 |set(S:Nt)(n:Nat)
 |ins(C dx:G')(fs:Nl)
 |own(x:G')
 |xd(fs:Nl)
 |met(f x:G')
 |rng(lo hi:Int)
 |frz(o:Obj)(u:HO)
 |tbl(ps:Ni)
 |ext(φ:Heap->Prop)
abbrev Hp:=Addr->Option HO
def upd(H:Hp)(a:G')(o:HO):Hp:=λb=>if b=a then some o else H b
def ag:upd H a o a=some o:=by unfold upd;rw[VA M]
def ae(h:b≠a):upd H a o b=H b:=by unfold upd;rw[Vz h]
def bU:upd (upd H a o) a u=upd H a u:=by
 funext b;unfold upd;split<;>rfl
def cy(h:H a=some o)(h':H b=some u)(d:o≠u):a≠b:=by
 intro e;subst e;rw[h]at h';exact d<|VG h'
def aj(h:H a=some o)(h':H b=none):a≠b:=by
 intro e;subst e;rw[h]at h';cases h'
section
variable(P:Mz)(w:Nb)
def E3(H:Hp)(h:Heap)(a:G'):HO->Prop
 | .lst xs=>xs.length<=sizeLine/\∃(its:L')(n:Nat),A7 xs its/\h.get? a=some {cls:= .type eR,data:= .seq its.toArray n}
 | .tup xs=>xs.length<=sizeLine/\∃its:List Value,A7 xs its/\IsTup h a its.toArray
 | .dK kvs=>kvs.length<=sizeLine/\(a==sysModules)=false/\∃vs,KV kvs vs/\h.DictOf (bL P w) a vs
 | .dT kvs=>kvs.length<=sizeLine/\(a==sysModules)=false/\∃xs:List (List Key×Addr×Value),
   Paired (λ(p:List Key×V)(q:List Key×Addr×Value)=>p.1=q.1/\H q.2.1=some (.tup<|p.1.map kV)/\RelV p.2 q.2.2) kvs xs/\
   ∃o es ep,h.get? a=some o/\o.ExactDict/\o.data= .dict es ep/\es.toList=xs.map (entryOfKey<|tupleKind<|bL P w)/\(xs.map (·.1)).Nodup
 | .set S n=>h.SetOf (intKind P w) a S n
 | .ins C dx fs=>H dx=some (.own a)/\fs.length<=1000/\dx≠a/\h.get? a=some (PySem.W.instObj C dx)/\
   ∃mA,h.Ns1 dx mA/\(∀f,LD (fs.lookup f) (mA f))/\PySem.Within mA (fs.map (·.1))
 | .own _=>∃o,h.get? a=some o
 | .xd fs=>∃mA,h.Ns1 a mA/\∀f,LD (fs.lookup f) (mA f)
 | .rng lo hi=>∃t u v,h.get? a=some {cls:= .type iQ,data:= .fields #[.int lo t,.int hi u,.int 1 v]}
 | .frz o u=>h.get? a=some o/\E3 H h a u
 | .tbl ps=>h.get? a=some {cls:= .none,data:= .fields ps}
 | .met f x=>h.get? a=some (PySem.W.methodObj (.ref f)<|.ref x)
 | .ext φ=>φ h/\(∃o,h.get? a=some o)/\∀h1 h2:Heap,φ h1->(∀o,h1.get? a=some o->h2.get? a=some o)->φ h2
def KN(H:Hp)(h:Heap):Prop:=∀a o,H a=some o->E3 P w H h a o
end
section
variable{H':Hp}
def E3.lt(x:E3 P w H h a o):a<h.objs.size:=by
 cases o with
 |lst xs=>let{_,_,_,_,e}:=x;exact VJ e
 |tup xs=>let{_,_,_,p}:=x;exact p.lt
 |dK kvs=>let{_,_,_,_,o,_,_,e,_}:=x;exact VJ e
 |dT kvs=>let{_,_,_,_,o,_,_,e,_}:=x;exact VJ e
 |set S n=>let{o,_,_,_,e,_}:=x;exact VJ e
 |ins C dx fs=>let{_,_,_,e,_}:=x;exact VJ e
 |own y=>let{_,e}:=x;exact VJ e
 |xd fs=>let{_,{_,_,_,e,_},_}:=x;exact VJ e
 |rng lo hi=>let{_,_,_,e}:=x;exact VJ e
 |frz ob u=>let{e,_}:=x;exact VJ e
 |tbl ps=>exact VJ<|show h.get? a=some _ from x
 |met f y=>exact VJ<|show h.get? a=some _ from x
 |ext φ=>let{_,{_,e},_}:=x;exact VJ e
def Paired.mapP{α β:Type}{F G:α->β->Prop}{z:List α}{l₂:List β}(h:Paired F z l₂)(f:∀a b,F a b->G a b):Paired G z l₂:=by
 induction h with
 |nil=>exact .nil
 |cons r t I=>exact .cons (f _ _ r) I
def E3.stay(x:E3 P w H h a o)(k:∀b u,(b=a\/H b=some (.own a))->h.get? b=some u->h'.get? b=some u)
  (G:∀b,H b=some (.own a)->H' b=some (.own a)) (I:∀b xs,H b=some (.tup xs)->H' b=some (.tup xs)):E3 P w H' h' a o:=by
 induction o with
 |lst xs=>let{z,its,n,r,e}:=x;exact{z,its,n,r,k _ _ (.inl M) e}
 |tup xs=>let{z,its,r,ob,e,c}:=x;exact{z,its,r,ob,k _ _ (.inl M) e,c}
 |dK kvs=>let{z,y,vs,r,ob,es,ep,e,c}:=x;exact{z,y,vs,r,ob,es,ep,k _ _ (.inl M) e,c}
 |dT kvs=>
  let{z,y,xs,r,ob,es,ep,e,c}:=x;exact{z,y,xs,Paired.mapP r λp q z=>{z.1,I _ _ z.2.1,z.2.2},ob,es,ep,k _ _ (.inl M) e,c}
 |set S n=>let{ob,es,ep,t,e,c}:=x;exact{ob,es,ep,t,k _ _ (.inl M) e,c}
 |ins C dx fs=>
  let{d,z,O,e,mA,{od,es,ep,e2,c},r}:=x;exact{G _ d,z,O,k _ _ (.inl M) e,mA,{od,es,ep,k _ _ (.inr d) e2,c},r}
 |own y=>let{ob,e}:=x;exact{ob,k _ _ (.inl M) e}
 |xd fs=>let{mA,{od,es,ep,e,c},r}:=x;exact{mA,{od,es,ep,k _ _ (.inl M) e,c},r}
 |rng lo hi=>let{t,u,v,e}:=x;exact{t,u,v,k _ _ (.inl M) e}
 |frz ob u U=>let{e,q}:=x;exact{k _ _ (.inl M) e,U q}
 |tbl ps=>
  have e:h.get? a=some {cls:= .none,data:= .fields ps}:=x;show h'.get? a=some {cls:= .none,data:= .fields ps};exact k a _ (.inl M) e
 |met f y=>
  have e:h.get? a=some (PySem.W.methodObj (.ref f)<|.ref y):=x;show h'.get? a=some (PySem.W.methodObj (.ref f)<|.ref y);exact k a _ (.inl M) e
 |ext φ=>let{p,{o,e},st}:=x;exact{st _ _ p λo q=>k _ _ (.inl M) q,{o,k _ _ (.inl M) e},st}
def KN.lt(x:KN P w H h)(e:H a=some o):a<h.objs.size:=(x a o e).lt
def KN.fresh(x:KN P w H h)(e:h.objs.size<=a):H a=none:=by
 cases q:H a with
 |none=>rfl
 |some u=>exact VE (Qm (x.lt q) e)<|Zv _
def KN.kept(x:KN P w H h)(k:∀b u,h.get? b=some u->h'.get? b=some u):KN P w H h':=λa o e=>
 (x a o e).stay (λb u _ q=>k b u q) (λ_ q=>q) λ_ _ q=>q
def KN.laid(x:KN P w H h)(k:∀b u,h.get? b=some u->h'.get? b=some u)(hp:h.objs.size<=a)(new:E3 P w (upd H a o) h' a o):KN P w (upd H a o) h':=λb u e=>by
 have z:=x.fresh hp;by_cases hb:b=a
 .subst hb;rw[ag]at e;cases e;exact new
 .rw[ae hb]at e;exact(x b u e).stay (λc v _ q=>k c v q) (λc q=>by rw[ae (aj q z)];exact q) λc xs q=>by rw[ae (aj q z)];exact q
end
def Rd(H:Hp)(a:G')(u:HO):Prop:=H a=some u\/∃o,H a=some (.frz o u)
def Rd.ok(r:Rd H a u)(x:KN P w H h):E3 P w H h a u:=by
 rcases r with r|⟨o,r⟩
 .exact x a u r
 .let{_,q}:=x a _ r;exact q
def Mut:Option HO->Prop
 |some (.lst _)=>True
 |some (.dK _)=>True
 |some (.dT _)=>True
 |some (.set _ _)=>True
 |some (.ins _ _ _)=>True
 |some (.ext _)=>True
 |_=>False
section
variable{x e:G'}{o':HO}
def KN.write(ok:KN P w H h)(U:Mut (H x))(he:e=x\/H e=some (.own x))(k:∀b u,b≠e->h.get? b=some u->h'.get? b=some u)(Y:∃u,h'.get? e=some u)
  (new:E3 P w (upd H x o') h' x o'):KN P w (upd H x o') h':=λb u q=>by
 have I:∀c y,H c=some (.own y)->c≠x:=λc y r z=>by subst z;rw[r]at U;exact U
 have O:∀c xs,H c=some (.tup xs)->c≠x:=λc xs r z=>by subst z;rw[r]at U;exact U
 by_cases hb:b=x
 .subst hb;rw[ag]at q;cases q;exact new
 .rw[ae hb]at q;by_cases G:b=e
  .have q':H b=some (.own x):=by
    rcases he with z|z
    .exact VE (G.trans z) hb
    .rwa[G]
   rw[q]at q';cases q';let{v,Z}:=Y;exact{v,by rwa[G]}
  .refine(ok b u q).stay (λc v hc r=>k c v ?_ r) (λc r=>by rwa[ae (I c b r)]) λc xs r=>by rwa[ae (O c xs r)]
   rcases hc with rfl|hc
   .exact G
   .rintro rfl;rcases he with z|z
    .exact I c b hc z
    .rw[hc]at z;cases z;exact hb M
end
abbrev _root_.Nc:=List Addr
structure Un(fs ex:Nc)(H H':Hp)(h h':Heap):Prop where
 keep:∀b o,h.get? b=some o->H b=none->b∉fs->b∉ex->h'.get? b=some o
 slot:∀b o,h.get? b=some o->H b=none->b∈fs->b∉ex->∃sl,h'.get? b=some {o with slots:=sl}
 free:∀b o,h.get? b=some o->H b=none->b∉ex->H' b=none
 there:∀b o,h.get? b=some o->b∉ex->∃o',h'.get? b=some o'
 tups:∀b xs,H b=some (.tup xs)->H' b=some (.tup xs)
 frzs:∀b o u,H b=some (.frz o u)->H' b=some (.frz o u)
 tbls:∀b ps,H b=some (.tbl ps)->∃more,H' b=some (.tbl<|ps++more)
section
variable{fs fs' ex ex':Nc}{H1 H2:Hp}{h1 h2:Heap}{x e:G'}
def Un.any(u:Un fs ex H H1 h h1){ob:Obj}(q:h.get? b=some ob)(n:H b=none)(hx:b∉ex):∃z,h1.get? b=some {ob with slots:=z}:=by
 by_cases hb:b∈fs
 .exact u.slot b ob q n hb hx
 .exact{ob.slots,u.keep b ob q n hb hx}
def Un.kept(k:∀b u,h.get? b=some u->h'.get? b=some u):Un fs ex H H h h':=
 {λb ob q _ _ _=>k b ob q,λb ob q _ _ _=>{ob.slots,k b ob q},λ_ _ _ n _=>n,λb ob q _=>{ob,k b ob q},λ_ _ q=>q,λ_ _ _ q=>q,λ_ ps q=>{#[],by rw[q];simp}}
def Un.refl:Un fs ex H H h h:=Un.kept λ_ _ q=>q
def Un.laid(k:∀b u,h.get? b=some u->h'.get? b=some u)(hp:h.objs.size<=a)(z:H a=none):Un fs ex H (upd H a o) h h' where
 keep:=λb u q _ _ _=>k b u q
 slot:=λb u q _ _ _=>{u.slots,k b u q}
 free:=λb u q n _=>by rwa[ae (Qz<|Qm (VJ q) hp)]
 there:=λb u q _=>{u,k b u q}
 tups:=λb xs q=>by rw[ae (aj q z)];exact q
 frzs:=λb u xs q=>by rw[ae (aj q z)];exact q
 tbls:=λb ps q=>{#[],by rw[ae (aj q z),q];simp}
def Un.write(I:Mut (H x))(he:e=x\/H e=some (.own x))(k:∀b u,b≠e->h.get? b=some u->h'.get? b=some u)(O:∃u,h'.get? e=some u):Un fs ex H (upd H x o) h h':=by
 have hx:∀b,H b=none->b≠x:=λb n z=>by subst z;rw[n]at I;exact I
 have hb:∀b,H b=none->b≠e:=λb n z=>by
  subst z;rcases he with r|r
  .exact hx b n r
  .rw[n]at r;cases r
 have U:∀b u,H b=some u->¬Mut (some u)->b≠x:=λb u q nm z=>by subst z;rw[q]at I;exact nm I
 refine{λb u q n _ _=>k b u (hb b n) q,λb u q n _ _=>{u.slots,k b u (hb b n) q},λb u q n _=>by rwa[ae (hx b n)],λb u q _=>?_,
  λb xs q=>by rw[ae (U b _ q λz=>z)];exact q,λb u xs q=>by rw[ae (U b _ q λz=>z)];exact q,λb ps q=>{#[],by rw[ae (U b _ q λz=>z),q];simp}}
 by_cases G:b=e
 .subst G;exact O
 .exact{u,k b u G q}
end
def Mi(h:Heap)(H:Hp):List Addr:=(List.range h.objs.size).filter λa=>(H a).isSome
def xa(h:Heap)(H:Hp):Heap:=PySem.W.hideAll h (Mi h H)
def BZ(h:Heap)(H:Hp):(xa h H).objs.size=h.objs.size:=PySem.W.hideAll_size _ _
def D7{o:Obj}(e:h.get? b=some o)(n:H b=none):(xa h H).get? b=some o:=
 PySem.W.hideAll_get _ e λz=>by
  have q:(H b).isSome=true:=(Qy.mp z).2;rw[n]at q;simp at q
def FV{o:Obj}(e:(xa h H).get? b=some o):h.get? b=some o/\H b=none:=by
 have G:h.get? b=some o:=PySem.W.of_hideAll (Mi h H) e;refine{G,?_};cases q:H b with
 |none=>rfl
 |some x=>
  have I:b∈Mi h H:=Qy.mpr {Vs.mpr<|VJ G,by simp[q]};have z:(xa h H).get? b=none:=PySem.W.hideAll_none (Mi h H) I;rw[z]at e;cases e
abbrev Wi:=PySem.W.Frag
abbrev _root_.Mv:=List (Addr×Obj)
abbrev _root_.Ng:=Value->Shared->Prop
abbrev _root_.Nh:=Around
abbrev _root_.Nk:=List Env
abbrev _root_.Np:=List Expr
abbrev _root_.NC:=List (Str×Value)
variable{C a b dx f it:G'}{A:Nh}{g':Array GenState}{CX:CXT}{op:CmpOp}{X:Cx}{d':Drawn}{c e tg:Expr}{fd:Nj}{base h h':Heap}{H H':Hp}{lo:Int}{g:Int->Int->Int}{W:Mv}{kw:NC}{ch fp:Nc}{outer:Nk}{es:Np}{body:List Stmt}{N ps:Na}{vs xs:K'}{us:L'}{M':Model}{i j n t':Nat}{o:Option Value}{p pos:Pos}{P prog:Mz}{K:Wi}{r:R2}{R:Result->Shared->Prop}{scope:Scope}{s s':He}{sp:Sp}{B:St}{m name qual x:Str}{t ta te:TE}{tb:TS}{tc:TT}{v y:V}{u:J'}{E Q:Ng}{rd:V->V->Hp->VK->Prop}{w:Nb}
abbrev _root_.Nd:=Str->Option Value
structure Mod(K:Wi)(mg:Nd)(base:Heap):Prop where
 kin:K.In base
 glob:base.Ns mainGlobals mg
 blt:∃mb,base.Ns builtinsNs mb/\∀x:Str,x≠hH->mb x=bootBuiltins x
 nolimit:base.NoLimit
set_option genInjectivity false in
structure Cx where
 prog:Program
 w:World
 K:Wi
 mg:Str->Option Value
 base:Heap
 A:Around
 N:List Str
 s₀:Shared
 H₀:Hp
 env:Env
 outer:List Env
 stack:List Env
 ex:List Addr
 fn:Str->Bool
 calm:Bool
 pn:List (Addr×Obj)
 xe:Value->Shared->Prop
noncomputable def LR(l:Nk):List Addr:=l.filterMap (·.frame)
abbrev Cx.fs(X:Cx):List Addr:=LR X.outer
def Ms(sc:Scope)(x:Str):Prop:=sc.names.lookup x=some .local\/sc.names.lookup x=some .cell\/sc.names.lookup x=some .free
def Loc(sc:Scope)(x:Str):Prop:=sc.names.lookup x=some .local\/sc.names.lookup x=some .cell
def Look(env:Env)(h:Heap)(m:Nd)(x:Str)(u:J'):Prop:=
 (env.kindOf x=some .local/\m x=some u)\/((env.kindOf x=some .cell\/env.kindOf x=some .free)/\∃c,env.cells.lookup x=some c/\h.IsCell c (some u))
structure Cx.Ok(X:Cx):Prop where
 mod:Mod X.K X.mg X.base
 kind:X.env.scope.kind= .function
 glob:X.env.globals=mainGlobals
 blt:X.env.builtins=builtinsNs
 above:X.s₀.heap.objs.size<=X.env.locals
 inj:∀x y c,X.env.cells.lookup x=some c->X.env.cells.lookup y=some c->x=y
 has:∀x,(X.env.kindOf x=some .cell\/X.env.kindOf x=some .free)->∃c,X.env.cells.lookup x=some c
 cab:∀x c,X.fn x=true->X.env.cells.lookup x=some c->X.s₀.heap.objs.size<=c
 hd:X.calm=true->X.A.handled=none
 frames:X.A.frames=some X.stack
 stk:X.stack=X.outer\/(X.stack=X.env::X.outer/\X.env.frame=some X.env.locals)
 exf:∀b∈X.ex,b≠X.env.locals/\∀x c,X.env.cells.lookup x=some c->c≠b
 bs:∀b o,X.base.get? b=some o->X.s₀.heap.get? b=some o/\X.H₀ b=none
 bsz:X.base.objs.size<=X.s₀.heap.objs.size
 noex:∀b o,X.base.get? b=some o->b∉X.ex
 exfs:∀b∈X.ex,b∉X.fs
 funs:X.s₀.heap.FunFrames X.base X.outer
 frf:∀b∈X.fs,X.H₀ b=none
structure Inv(X:Cx)(W:Mv)(B:List (Option V))(H:Hp)(s:He):Prop where
 ok:X.Ok
 os:s.os=X.s₀.os
 bare:AllBare s.gens
 base:Un X.fs X.ex X.H₀ H X.s₀.heap s.heap
 loc:∃m,s.heap.Ns X.env.locals m/\∀(i:Nat)(x:Str)(v:V),X.N[i]?=some x->B[i]?=some (some v)->Ms X.env.scope x->∃u,RelV v u/\Look X.env s.heap m x u
 cell:∀x c,X.env.cells.lookup x=some c->∃v,s.heap.IsCell c v
 free:H X.env.locals=none
 freeC:∀x c,X.env.cells.lookup x=some c->H c=none
 pin:∀p∈X.pn++W,s.heap.get? p.1=some p.2/\H p.1=none/\p.1≠X.env.locals/\p.1∉X.fs/\∀v,p.2.data≠ .cell v
 hok:KN X.prog X.w H s.heap
 len:B.length=X.N.length
section
variable{B:List (Option V)}
def Cx.Ok.nofr(ok:X.Ok){o:Obj}(e:X.base.get? b=some o):b∉X.fs:=λhb=>by
 have:=(ok.funs.mem hb).1;rw[e]at this;cases this
def Inv.bs(I:Inv X W B H s):∀b o,X.base.get? b=some o->s.heap.get? b=some o/\H b=none:=λb o e=>
 {I.base.keep b o (I.ok.bs b o e).1 (I.ok.bs b o e).2 (I.ok.nofr e)<|I.ok.noex b o e,I.base.free b o (I.ok.bs b o e).1 (I.ok.bs b o e).2<|I.ok.noex b o e}
def Inv.bk(I:Inv X W B H s):∀b o,X.base.get? b=some o->s.heap.get? b=some o:=λb o e=>(I.bs b o e).1
def Inv.mod(I:Inv X W B H s):Mod X.K X.mg X.base:=I.ok.mod
def Inv.kIn(I:Inv X W B H s):X.K.In s.heap:=I.ok.mod.kin.keeps I.bk
def Inv.lt(I:Inv X W B H s):X.env.locals<s.heap.objs.size:=by let{_,z,_}:=I.loc;exact z.lt
def Inv.sz(I:Inv X W B H s):X.s₀.heap.objs.size<=s.heap.objs.size:=Qr I.ok.above (Z1 I.lt)
def Inv.nofs(I:Inv X W B H s)(h:s.heap.objs.size<=a):a∉X.fs:=λhb=>by
 let{_,o,z,_}:=I.ok.funs.mem hb;exact VE (Qm (VJ z)<|Qr I.sz h)<|Zv _
def Inv.cne(I:Inv X W B H s):∀x c,X.env.cells.lookup x=some c->c≠X.env.locals:=λx c e z=>by
 let{v,o,U,hd}:=I.cell x c e;let{m,{o',es,ep,G,O,_},_}:=I.loc;rw[z,G]at U;cases U;rw[O]at hd;cases hd
def Inv.funs(I:Inv X W B H s):s.heap.FunFrames X.base X.outer:=by
 have all:∀(l:Nk),(∀b∈LR l,b∈X.fs)->X.s₀.heap.FunFrames X.base l->s.heap.FunFrames X.base l:=by
  intro l
  induction l with
  |nil=>intro _ _;trivial
  |cons env r O=>
   intro hs hl;let{hk,{L,o,hf,U,Y,hd},Z}:=hl;have G:L∈X.fs:=hs L (by unfold LR;rw[XT,hf];exact Q7);let{sl,e}:=I.base.slot L o Y (I.ok.frf L G) G λz=>I.ok.exfs L z G;exact{hk,{L,_,hf,U,e,hd},O (λb hb=>hs b<|by unfold LR;rw[XT,hf];exact Q8 _ hb) Z}
 exact all X.outer (λ_ hb=>hb) I.ok.funs
def Inv.stack(I:Inv X W B H s):s.heap.FunFrames X.base X.stack:=by
 rcases I.ok.stk with e|⟨e,hf⟩
 .rw[e];exact I.funs
 .rw[e];let{m,z,_}:=I.loc;refine .cons (by rw[I.ok.kind];decide) hf z ?_ I.funs;exact Wg<|Qr I.ok.bsz I.ok.above
def Inv.stkSub(I:Inv X W B H s):∀b∈LR X.stack,b∈X.env.locals::X.fs:=λb hb=>by
 rcases I.ok.stk with e|⟨e,hf⟩
 .rw[e]at hb;exact Q8 _ hb
 .rw[e]at hb;unfold LR at hb;rw[XT,hf]at hb;exact hb
def Inv.stkFree(I:Inv X W B H s):∀b∈LR X.stack,H b=none:=λb hb=>by
 rcases Qc.mp (I.stkSub b hb)with e|hb
 .rw[e];exact I.free
 .let{_,o,G,_}:=I.ok.funs.mem hb;exact I.base.free b o G (I.ok.frf b hb) λz=>I.ok.exfs b z hb
def Inv.step(I:Inv X W B H s)
  (G:∀b∈ch,(b∈X.ex\/X.s₀.heap.objs.size<=b)/\b≠X.env.locals/\(∀x c,X.env.cells.lookup x=some c->c≠b)/\∀p∈X.pn++W,p.1≠b)
  (keep:∀b o,b≠X.env.locals->b∉X.fs->b∉ch->s.heap.get? b=some o->H b=none->h'.get? b=some o)
  (slot:∀b o,b≠X.env.locals->b∈X.fs->b∉ch->s.heap.get? b=some o->H b=none->∃sl,h'.get? b=some {o with slots:=sl}) (free:∀b o,b∉ch->s.heap.get? b=some o->H b=none->H' b=none)
  (there:∀b o,b∉ch->s.heap.get? b=some o->∃o',h'.get? b=some o')
  (tups:∀b xs,H b=some (.tup xs)->H' b=some (.tup xs)) (frzs:∀b o u,H b=some (.frz o u)->H' b=some (.frz o u)) (tbls:∀b ps,H b=some (.tbl ps)->∃more,H' b=some (.tbl<|ps++more))
  (ns:∀m,s.heap.Ns X.env.locals m->h'.Ns X.env.locals m) (hok:KN X.prog X.w H' h') (hg:AllBare g'):
  Inv X W B H' {s with heap:=h',gens:=g',drawn:=d',toks:=t'}:=by
 have a0:∀b o,X.s₀.heap.get? b=some o->b≠X.env.locals:=λb o e=>Qz (Qm (VJ e) I.ok.above);have Y:∀b o,X.s₀.heap.get? b=some o->b∉X.ex->b∉ch:=λb o e hx hb=>by
  rcases(G b hb).1 with z|z
  .exact hx z
  .exact VE (Qm (VJ e) z)<|Zv _
 have O:∀x c,X.env.cells.lookup x=some c->∀v,s.heap.IsCell c v->h'.IsCell c v:=λx c e v ⟨o,ho,hd⟩=>by
  have U:c∉ch:=λz=>(G c z).2.2.1 x c e M;by_cases hc:c∈X.fs
  .let{sl,q}:=slot c o (I.cne x c e) hc U ho (I.freeC x c e);exact{_,q,hd}
  .exact{o,keep c o (I.cne x c e) hc U ho<|I.freeC x c e,hd}
 refine{I.ok,I.os,hg,{λb o e n hb hx=>?_,λb o e n hb hx=>?_,λb o e n hx=>?_,λb o e hx=>?_,λb xs e=>tups b xs<|I.base.tups b xs e,λb o xs e=>frzs b o xs<|I.base.frzs b o xs e,λb ps e=>?_},?_,λx c e=>?_,?_,λx c e=>?_,λp hp=>?_,hok,I.len}
 .exact keep b o (a0 b o e) hb (Y b o e hx) (I.base.keep b o e n hb hx)<|I.base.free b o e n hx
 .let{sl,Z}:=I.base.slot b o e n hb hx;let{a1,e2}:=slot b _ (a0 b o e) hb (Y b o e hx) Z (I.base.free b o e n hx);exact⟨a1,e2⟩
 .let{o',Z}:=I.base.there b o e hx;exact free b o' (Y b o e hx) Z<|I.base.free b o e n hx
 .let{o',Z}:=I.base.there b o e hx;exact there b o' (Y b o e hx) Z
 .let{m1,Z}:=I.base.tbls b ps e;let{m2,e2}:=tbls b _ Z;exact{m1++m2,by rw[e2,Array.append_assoc]}
 .let{m,hn,hl}:=I.loc;refine{m,ns m hn,λi x v Z e2 e3=>?_};let{u,r,l}:=hl i x v Z e2 e3;refine{u,r,?_};rcases l with l|⟨k,c,e,z⟩
  .exact .inl l
  .exact .inr {k,c,e,O x c e _ z}
 .let{v,z}:=I.cell x c e;exact{v,O x c e v z}
 .let{m,{o,_,_,ho,_},_}:=I.loc;exact free _ o (λz=>(G _ z).2.1 rfl) ho I.free
 .let{v,o,ho,hd}:=I.cell x c e;exact free c o (λz=>(G c z).2.2.1 x c e M) ho<|I.freeC x c e
 .let{e,n,ne,nf,d}:=I.pin p hp;have U:p.1∉ch:=λz=>(G p.1 z).2.2.2 p hp M;exact{keep p.1 p.2 ne nf U e n,free p.1 p.2 U e n,ne,nf,d}
def Inv.un(I:Inv X W B H s)(u:Un X.fs [] H H' s.heap h')(hok:KN X.prog X.w H' h'):Inv X W B H' {s with heap:=h',toks:=t'}:=by
 let{m,{o,es,ep,Y,r},_}:=id I.loc;let{sl,Z}:=u.any Y I.free (by simp);exact I.step (g':=s.gens) (d':=s.drawn) (ch:=[]) (λ_ z=>nomatch z) (λb o _ hb _ e n=>u.keep b o e n hb<|by simp) (λb o _ hb _ e n=>u.slot b o e n hb<|by simp) (λb o _ e n=>u.free b o e n<|by simp) (λb o _ e=>u.there b o e<|by simp) u.tups u.frzs u.tbls (λm' hm=>by
  let{o',O,U,G,r'}:=hm;rw[Y]at G;cases G;exact{_,O,U,Z,r'}) hok I.bare
def Inv.call(I:Inv X W B H s)(u:Un (LR X.stack) ch H H' s.heap h')(hok:KN X.prog X.w H' h')(hg:AllBare g')
  (G:∀b∈ch,(b∈X.ex\/X.s₀.heap.objs.size<=b)/\b≠X.env.locals/\(∀x c,X.env.cells.lookup x=some c->c≠b)/\∀p∈X.pn++W,p.1≠b):
  Inv X W B H' {s with heap:=h',gens:=g',drawn:=d',toks:=t'}:=by
 let{m,{o,es,ep,ho,r},_}:=id I.loc;let{sl,U}:=u.any ho I.free λz=>(G _ z).2.1 rfl;exact I.step (ch:=ch) G (λb o U hb hc e n=>u.keep b o e n (λz=>(Qc.mp<|I.stkSub b z).elim U hb) hc) (λb o _ _ hc e n=>u.any e n hc) (λb o hc e n=>u.free b o e n hc) (λb o hc e=>u.there b o e hc) u.tups u.frzs u.tbls (λm' hm=>by
  let{o',Y,Z,O,r'}:=hm;rw[ho]at O;cases O;exact{_,Y,Z,U,r'}) hok hg
def Inv.turned(I:Inv X W B H s)(k:∀b o,b≠it->s.heap.get? b=some o->h'.get? b=some o)(U:H it=none)(O:it≠X.env.locals)
  (h1:it∈X.ex\/X.s₀.heap.objs.size<=it) (h2:∀x c,X.env.cells.lookup x=some c->c≠it) (Y:∀p∈X.pn++W,p.1≠it):Inv X W B H {s with heap:=h',toks:=t'}:=by
 have G:∀b u,H b=some u->b≠it:=λb u e z=>by rw[z,U]at e;cases e
 refine I.step (g':=s.gens) (d':=s.drawn) (ch:=[it]) (λb hb=>?_) (λb o _ _ hc e _=>k b o (λz=>hc<|by simp[z]) e) (λb o _ _ hc e _=>{o.slots,k b o (λz=>hc<|by simp[z]) e}) (λ_ _ _ _ n=>n)
  (λb o hc e=>{o,k b o (λz=>hc<|by simp[z]) e}) (λ_ _ e=>e) (λ_ _ _ e=>e) (λb ps e=>{#[],by rw[e];simp}) (λm Z=>?_) (λb u e=>?_) I.bare
 .have e:b=it:=by simpa using hb
  subst e;exact⟨h1,O,h2,Y⟩
 .let{o,es,ep,ho,r}:=Z;exact{o,es,ep,k _ o (Ne.symm O) ho,r}
 .refine(I.hok b u e).stay (λc v hc q=>k c v ?_ q) (λ_ q=>q) λ_ _ q=>q;rcases hc with z|z
  .rw[z];exact G b u e
  .exact G c _ z
def Inv.tok(I:Inv X W B H s)(t:Nat):Inv X W B H {s with toks:=t}:=I.un (h':=s.heap) (t':=t) Un.refl I.hok
def Inv.kept(I:Inv X W B H s)(k:∀b u,s.heap.get? b=some u->h'.get? b=some u):Inv X W B H {s with heap:=h',toks:=t'}:=I.un (Un.kept k) (I.hok.kept k)
def Inv.laid{o:HO}(I:Inv X W B H s)(k:∀b u,s.heap.get? b=some u->h'.get? b=some u)(hp:s.heap.objs.size<=a)(new:E3 X.prog X.w (upd H a o) h' a o):
  Inv X W B (upd H a o) {s with heap:=h',toks:=t'}:=I.un (Un.laid k hp<|I.hok.fresh hp) (I.hok.laid k hp new)
def Inv.write{x e:G'}{o:HO}(I:Inv X W B H s)(G:Mut (H x))(he:e=x\/H e=some (.own x))(k:∀b u,b≠e->s.heap.get? b=some u->h'.get? b=some u)(z:∃u,h'.get? e=some u)
  (new:E3 X.prog X.w (upd H x o) h' x o):Inv X W B (upd H x o) {s with heap:=h',toks:=t'}:=I.un (Un.write G he k z) (I.hok.write G he k z new)
def Inv.pins_of{G:Mv}(I:Inv X W B H s)(h:∀p∈G,s.heap.get? p.1=some p.2/\H p.1=none/\p.1≠X.env.locals/\p.1∉X.fs/\∀v,p.2.data≠ .cell v):Inv X G B H s:=
 {I.ok,I.os,I.bare,I.base,I.loc,I.cell,I.free,I.freeC,λp hp=>(Q6.mp hp).elim (λz=>I.pin p<|QW _ z)<|h p,I.hok,I.len}
def sP(hN:N.Nodup)(a:N[i]?=some x)(b:N[j]?=some x):i=j:=by
 let{h1,z}:=Q3.mp a;let{h2,e2}:=Q3.mp b;exact(List.getElem_inj hN).mp<|z.trans e2.symm
abbrev _root_.Nz:=Unit->Shared->Prop
def u9{Q:Nz}(I:Inv X W B H s)(hN:X.N.Nodup)(hi:X.N[i]?=some x)(hx:Loc X.env.scope x)(r:RelV v u)
  (h:∀s',Inv X W (B.set i<|some v) H s'->(∃a,Heap.SameBut a s.heap s'.heap/\(a=X.env.locals\/X.env.cells.lookup x=some a))->Q Unit.unit s') (hf:X.fn x=true\/X.env.scope.names.lookup x=some .local:=by ac_rfl):wpAny M' A (storeName X.env x u) Q E s:=by
 let{m,hn,hl}:=id I.loc;have a1:(X.env.scope.kind== .class||(X.env.scope.kind== .module&&X.env.locals !=X.env.globals))=false:=by rw[I.ok.kind];rfl
 have Y:i<B.length:=by rw[I.len];exact(Q3.mp hi).1
 have cne:=I.cne;have G:∀{a:G'}{h':Heap},(∃o,s.heap.get? a=some o/\H a=none)->Heap.SameBut a s.heap h'->KN X.prog X.w H h':=λ{a h'} ha hs b ob e=>by
  let{_,_,U}:=ha;refine(I.hok b ob e).stay (λc w' hc q=>(hs.2 c ?_).trans q) (λ_ q=>q) λ_ _ q=>q;rintro rfl;rcases hc with rfl|hc
  .rw[U]at e;cases e
  .rw[U]at hc;cases hc
 rcases hx with hk|hk
 .refine wpAny_storeName_local hk hn (λh' a7 hs=>?_) a1;let{oL,_,_,a8,_}:=id hn;refine h _ {I.ok,I.os,I.bare,{λb o e n hb hx=>?_,λb o e n hb hx=>?_,I.base.free,λb o e hx=>?_,I.base.tups,I.base.frzs,I.base.tbls},{_,a7,λj y v' O e2 e3=>?_},λy c e=>?_,I.free,I.freeC,λp hp=>?_,G ⟨oL,a8,I.free⟩ hs,by simpa using I.len} {_,hs,.inl M}
  .exact(hs.2 b<|Qz<|Qm (VJ e) I.ok.above).trans<|I.base.keep b o e n hb hx
  .let{sl,O}:=I.base.slot b o e n hb hx;exact{sl,(hs.2 b<|Qz<|Qm (VJ e) I.ok.above).trans O}
  .let{o',O}:=I.base.there b o e hx;exact{o',(hs.2 b<|Qz<|Qm (VJ e) I.ok.above).trans O}
  .by_cases Z:j=i
   .subst Z;rw[hi]at O;cases O;rw[Xu Y]at e2;cases e2;exact{u,r,.inl {hk,by simp}}
   .rw[List.getElem?_set_ne (Ne.symm Z)]at e2;let{u',r',q}:=hl j y v' O e2 e3;refine{u',r',?_};rcases q with⟨k,e⟩|⟨k,c,e,z⟩
    .refine .inl {k,?_};have:y≠x:=λe=>Z (sP hN O<|e▸hi);simp[this,e]
    .exact .inr {k,c,e,z.sameBut hs<|cne y c e}
  .let{w',z}:=I.cell y c e;exact{w',z.sameBut hs<|cne y c e}
  .let{e,n,ne,nf,d}:=I.pin p hp;exact{(hs.2 p.1 ne).trans e,n,ne,nf,d}
 .have a0:X.fn x=true:=by
   rcases hf with z|z
   .exact z
   .rw[z]at hk;cases hk
  let{c,hc}:=I.ok.has x (.inl hk);let{w',z}:=I.cell x c hc;refine wpAny_storeName_cell I.ok.kind hk hc z<|λh' a2 hs=>?_;let{oc,a3,a4}:=id z;refine h {s with heap:=h'} {I.ok,I.os,I.bare,{λb o e n hb hx=>?_,λb o e n hb hx=>?_,I.base.free,λb o e hx=>?_,I.base.tups,I.base.frzs,I.base.tbls},{m,hn.sameBut hs<|Ne.symm<|cne x c hc,λj y v' O e2 e3=>?_},λy c' e=>?_,I.free,I.freeC,λp hp=>?_,G {oc,a3,I.freeC x c hc} hs,by simpa using I.len} {c,hs,.inr hc}
  .exact(hs.2 b<|Qz<|Qm (VJ e)<|I.ok.cab x c a0 hc).trans<|I.base.keep b o e n hb hx
  .let{sl,O}:=I.base.slot b o e n hb hx;exact{sl,(hs.2 b<|Qz<|Qm (VJ e)<|I.ok.cab x c a0 hc).trans O}
  .let{o',O}:=I.base.there b o e hx;exact{o',(hs.2 b<|Qz<|Qm (VJ e)<|I.ok.cab x c a0 hc).trans O}
  .by_cases Z:j=i
   .subst Z;rw[hi]at O;cases O;rw[Xu Y]at e2;cases e2;exact{u,r,.inr {.inl hk,c,hc,a2}}
   .rw[List.getElem?_set_ne (Ne.symm Z)]at e2;let{u',r',q}:=hl j y v' O e2 e3;refine{u',r',?_};rcases q with q|⟨k,c',e,z'⟩
    .exact .inl q
    .refine .inr {k,c',e,z'.sameBut hs ?_};rintro rfl;exact Z<|sP hN O (I.ok.inj _ _ _ e hc▸hi)
  .by_cases a5:c'=c
   .subst a5;exact{_,a2}
   .let{w2,z2}:=I.cell y c' e;exact{w2,z2.sameBut hs a5}
  .let{e,n,ne,nf,d}:=I.pin p hp;refine{(hs.2 p.1 ?_).trans e,n,ne,nf,d};intro q;rw[q,a3]at e;have q':oc=p.2:=VG e;exact d w'<|by rwa[<-q']
def q9{Q:Nz}(I:Inv X W B H s)(hN:X.N.Nodup)(hi:X.N[i]?=some x)(hx:Loc X.env.scope x)(r:RelV v u)
  (h:∀s',Inv X W (B.set i<|some v) H s'->Q Unit.unit s') (hf:X.fn x=true\/X.env.scope.names.lookup x=some .local:=by ac_rfl):wpAny M' A (storeName X.env x u) Q E s:=
 u9 I hN hi hx r (λs' z _=>h s' z) hf
def Inv.call'(I:Inv X W B H s)(G:s'.os=s.os)(u:Un (LR X.stack) ch H H' s.heap s'.heap)(hok:KN X.prog X.w H' s'.heap)(O:AllBare s'.gens)
  (z:∀b∈ch,(b∈X.ex\/X.s₀.heap.objs.size<=b)/\b≠X.env.locals/\(∀x c,X.env.cells.lookup x=some c->c≠b)/\∀p∈X.pn++W,p.1≠b):Inv X W B H' s':=by
 let{h',g',d',t',o'}:=s';have e:o'=s.os:=G;subst e;exact I.call (g':=g') (t':=t') (d':=d') u hok O z
end
abbrev XK:=Value->Option Addr->Hp->Prop
abbrev St:=List (Option V)
abbrev VK:=V->Hp->Prop
abbrev TE:=St->Hp->VK->Prop
abbrev TT:=St->Hp->(Bool->Hp->Prop)->Prop
abbrev TA:=St->Hp->(List V->Hp->Prop)->Prop
structure iW where
 nx:St->Hp->Prop
 rt:VK
 bk:St->Hp->Prop:=λ_ _=>False
 ct:St->Hp->Prop:=λ_ _=>False
abbrev TS:=iW->St->Hp->Prop
def EP(X:Cx)(W:Mv)(B:St)(Q:VK)(u:J')(s':He):Prop:=∃v H',Inv X W B H' s'/\RelV v u/\Q v H'
def TP(X:Cx)(W:Mv)(B:St)(Q:Bool->Hp->Prop)(b:Bool)(s':He):Prop:=∃H',Inv X W B H' s'/\Q b H'
abbrev _root_.NA:=List V->Hp->Prop
def AP(X:Cx)(W:Mv)(B:St)(Q:NA)(us:L')(s':He):Prop:=∃vs H',Inv X W B H' s'/\A7 vs us/\Q vs H'
def SP(X:Cx)(W:Mv)(D:iW)(f:Flow)(s':He):Prop:=
 match f with
 | .next=>∃σ' H',Inv X W σ' H' s'/\D.nx σ' H'
 | .brk=>∃σ' H',Inv X W σ' H' s'/\D.bk σ' H'
 | .cont=>∃σ' H',Inv X W σ' H' s'/\D.ct σ' H'
 | .ret u=>∃v σ' H',Inv X W σ' H' s'/\RelV v u/\D.rt v H'
abbrev Wj(X:Cx){a}:=@wpAny a (model X.prog X.w) X.A
def PE(X:Cx)(e:Expr)(t:TE):Prop:=
 ∀(W:Mv)(s:He)(B:St)(H:Hp)(Q:VK),Inv X W B H s->t B H Q->Wj X (eval e X.env) (EP X W B Q) X.xe s
def PT(X:Cx)(e:Expr)(t:TT):Prop:=
 ∀(W:Mv)(s:He)(B:St)(H:Hp)(Q:Bool->Hp->Prop),Inv X W B H s->t B H Q->Wj X (isTrue e X.env<|eval e X.env) (TP X W B Q) X.xe s
def PW(X:Cx)(e:Expr)(t:TT):Prop:=
 ∀(whole:Sem Value)(W:Mv)(s:He)(B:St)(H:Hp)(Q:Bool->Hp->Prop),Inv X W B H s->t B H Q->Wj X (isTrue e X.env whole) (TP X W B Q) X.xe s
def PW.pt{t:TT}(h:PW X e t):PT X e t:=h _
def PA(X:Cx)(es:Np)(t:TA):Prop:=
 ∀(pos:Pos)(W:Mv)(s:He)(B:St)(H:Hp)(Q:NA),Inv X W B H s->t B H Q->Wj X (spliced<|backTo pos<|starEach es X.env) (AP X W B Q) X.xe s
def PS(X:Cx)(st:Stmt)(t:TS):Prop:=
 ∀(W:Mv)(s:He)(B:St)(H:Hp)(D:iW),Inv X W B H s->t D B H->Wj X (exec st X.env) (SP X W D) X.xe s
def Kw(X:Cx)(st:List Stmt)(t:TS):Prop:=
 ∀(W:Mv)(s:He)(B:St)(H:Hp)(D:iW),Inv X W B H s->t D B H->Wj X (execs st X.env) (SP X W D) X.xe s
def ED{α:Type}{t:Sem α}{Q Q':α->Shared->Prop}(h:wpAny M' A t Q E s)(z:∀a s,Q a s->Q' a s):wpAny M' A t Q' E s:=VV h z λ_ _ x=>x
section
inductive Fm(i:Nat)(B:St)(H:Hp)(Q:VK):Prop
 |mk(v:_)(_:B[i]?=some (some v))(_:Q v H)
def tC(v:V):TE:=λ_ H Q=>Q v H
def Il{i:Nat}(hN:X.N[i]?=some x)(O:Ms X.env.scope x)(hd:(x==(fx:Str))=false:=by decide)(G:(x==("__classdict__":Str))=false:=by decide):PE X (.Name x pos) (Fm i):=by
 intro W s B H Q I h;let{v,e,h}:=h;let{m,U,hl}:=I.loc;let{u,r,l}:=hl i x v hN e O;have fin:EP X W B Q u s:=⟨v,H,I,r,h⟩;rcases l with⟨hk,Y⟩|⟨hk,c,hc,z⟩
 .exact wpAny_Name (wpAny_loadName_local I.ok.kind hk U Y fin) hd
 .rcases hk with hk|hk
  .exact wpAny_Name (wpAny_loadName_cell I.ok.kind hk hc z fin) hd
  .exact wpAny_Name (wpAny_loadName_free I.ok.kind hk hc z fin G) hd
def ak{i j pos}:PE X (.Constant (.int i) j pos) (tC<|.int i):=λ_ _ _ H _ I h=>wpAny_Constant_int {.int i,H,I.tok _,{_,M},h}
def xZ{b j pos}:PE X (.Constant (.bool b) j pos) (tC<|.bl b):=λ_ _ _ H _ I h=>Constant_bool {.bl b,H,I,M,h}
def bS{j pos}:PE X (.Constant .none j pos) (tC .non):=λ_ _ _ H _ I h=>Constant_none {.non,H,I,M,h}
def bu{x j pos}:PE X (.Constant (.str x) j pos) (tC<|.str x):=λ_ _ _ H _ I h=>Calls.Constant_str {.str x,H,I.tok _,{_,M},h}
def Gl(X:Cx)(x:Str):Prop:=X.env.kindOf x=some .globalImplicit
def gK{B:St}{H:Hp}{Q:Ng}(I:Inv X W B H s)(z:Gl X x)(G:X.mg x=some u)(h:Q u s)
  (hd:(x==(fx:Str))=false:=by decide):Wj X (eval (.Name x pos) X.env) Q E s:=
 Calls.Name_function_global I.ok.kind z (Calls.loadGlobal_global (by rw[I.ok.glob];exact I.mod.glob.keeps I.bk) G h) hd
def m5{B:St}{H:Hp}{Q:Ng}(I:Inv X W B H s)(z:Gl X x)(G:X.mg x=none)(O:bootBuiltins x=some u)(h:Q u s)
  (U:x≠hH:=by decide) (hd:(x==(fx:Str))=false:=by decide):Wj X (eval (.Name x pos) X.env) Q E s:=by
 let{Y,h1,h2}:=I.mod.blt;exact Calls.Name_function_global I.ok.kind z (Calls.loadGlobal_builtin (by rw[I.ok.glob];exact I.mod.glob.keeps I.bk) G (by rw[I.ok.blt];exact h1.keeps I.bk) ((h2 x U).trans O) h) hd
def bK{v:V}(z:Gl X x)(G:X.mg x=some u)(r:RelV v u)(hd:(x==(fx:Str))=false:=by decide):PE X (.Name x pos) (tC v):=
 λ_ _ _ H _ I h=>gK I z G ⟨v,H,I,r,h⟩ hd
def qO{v:V}(z:Gl X x)(G:X.mg x=none)(O:bootBuiltins x=some u)(r:RelV v u)(U:x≠hH:=by decide)(hd:(x==(fx:Str))=false:=by decide):PE X (.Name x pos) (tC v):=
 λ_ _ _ H _ I h=>m5 I z G O ⟨v,H,I,r,h⟩ U hd
variable{a b:Expr}{tb:TE}
def PC(X:Cx)(op:CmpOp)(a b:Expr)(t:TE):Prop:=
 ∀(W:Mv)(s:He)(B:St)(H:Hp)(Q:VK),Inv X W B H s->t B H Q->
  Wj X (eval a X.env) (λv s₁=>Wj X (eval b X.env) (λu s₂=>Wj X (compareOp op v u) (EP X W B Q) X.xe s₂) X.xe s₁) X.xe s
inductive tBR(Q:Bool->Hp->Prop)(x:V)(H1:Hp):Prop
 |mk(c:_)(_:x= .bl c)(_:Q c H1)
def tB(t:TE):TT:=λB H Q=>t B H λx H1=>tBR Q x H1
def Ip(h:PC X op a b t)(h1:behindInMarks op b=false:=by first|exact nobehind _ (_) (_)|rfl):PE X (.Compare a [op] [b] pos) t:=λW s B H Q I hw=>wpAny_Compare1 (h W s B H Q I hw) h1
def zA(h:PC X op a b t)(h1:behindInMarks op b=false:=by first|exact nobehind _ (_) (_)|rfl):PT X (.Compare a [op] [b] pos) (tB t):=by
 intro W s B H Q I hw;refine wpAny_isTrue_Compare1 (ED (h W s B H _ I hw) λv s1 h1=>ED h1 λu s2 h2=>ED h2 λc s3 z=>?_) h1;let{x,H1,G,r1,O}:=z;let{d,rfl,q}:=O;cases r1;exact VZ ⟨H1,G,q⟩
def bF(h:PE X e t)(he:∀z,isTrue e X.env z=(do let v<-z;standAt e.pos;holding [v] (truthy v)):=by subst_eqs):PT X e (tB t):=by
 intro W s B H Q I hw;refine isTrue_plain (ED (h W s B H _ I hw) λv s1 G=>?_)<|he _;let{x,H1,O,r1,U}:=G;let{d,rfl,q}:=U;cases r1;exact VZ ⟨H1,O,q⟩
variable{tA tB':TT}{rest:Np}
def tAnd(t u:TT):TT:=λB H Q=>t B H λc H1=>if c=true then u B H1 Q else Q false H1
def tOr(t u:TT):TT:=λB H Q=>t B H λc H1=>if c=true then Q true H1 else u B H1 Q
def tNot(t:TT):TT:=λB H Q=>t B H λc H1=>Q (!c) H1
def eI(ha:PT X a tA):PW X (.BoolOp .And [a] pos) tA:=by
 intro z W s B H Q I h;refine isTrue_and<|ED (ha W s B H Q I h) λc s1 e=>?_;cases c with
 |true=>exact isTrue_and_nil e
 |false=>exact e
def mV(ha:PT X a tA):PW X (.BoolOp .Or [a] pos) tA:=by
 intro z W s B H Q I h;refine isTrue_or<|ED (ha W s B H Q I h) λc s1 e=>?_;cases c with
 |false=>exact isTrue_or_nil e
 |true=>exact e
def fV(ha:PT X a tA)(hb:PW X (.BoolOp .And (b::rest) pos) tB'):PW X (.BoolOp .And (a::b::rest) pos) (tAnd tA tB'):=by
 intro O W s B H Q I h;refine isTrue_and<|ED (ha W s B H _ I h) λc s1 zz=>?_;let{H1,z,G}:=zz;cases c with
 |true=>exact hb O W s1 B H1 Q z G
 |false=>exact⟨H1,z,G⟩
def qf(ha:PT X a tA)(hb:PW X (.BoolOp .Or (b::rest) pos) tB'):PW X (.BoolOp .Or (a::b::rest) pos) (tOr tA tB'):=by
 intro O W s B H Q I h;refine isTrue_or<|ED (ha W s B H _ I h) λc s1 zz=>?_;let{H1,z,G}:=zz;cases c with
 |true=>exact⟨H1,z,G⟩
 |false=>exact hb O W s1 B H1 Q z G
def jj(ha:PT X a tA):PT X (.UnaryOp .Not a pos) (tNot tA):=by
 intro W s B H Q I h;exact isTrue_not<|ha W s B H (λc H1=>Q (!c) H1) I h
def JM(ta tb:TE):TE:=λB H Q=>ta B H λx H1=>∃c,x= .bl c/\if c=true then tb B H1 Q else Q (.bl false) H1
def tOrV(ta tb:TE):TE:=λB H Q=>ta B H λx H1=>∃c,x= .bl c/\if c=true then Q (.bl true) H1 else tb B H1 Q
def JG(ta:TE):TE:=λB H Q=>ta B H λx H1=>∃c,x= .bl c/\Q (.bl<|!c) H1
def j9{op}(h:PE X a t):PE X (.BoolOp op [a] pos) t:=λW s B H Q I hw=>BoolOp_one (h W s B H Q I hw)
def pG(ha:PE X a ta)(hb:PE X (.BoolOp .And (b::rest) pos) tb):PE X (.BoolOp .And (a::b::rest) pos) (JM ta tb):=by
 intro W s B H Q I h;refine BoolOp_and<|ED (ha W s B H _ I h) λv s1 G=>?_;let{x,H1,O,r1,z}:=G;let{c,rfl,z}:=z;cases r1;refine VZ ?_;cases c with
 |true=>exact hb W s1 B H1 Q O z
 |false=>exact{.bl false,H1,O,M,z}
def Hg(ha:PE X a ta)(hb:PE X (.BoolOp .Or (b::rest) pos) tb):PE X (.BoolOp .Or (a::b::rest) pos) (tOrV ta tb):=by
 intro W s B H Q I h;refine BoolOp_or<|ED (ha W s B H _ I h) λv s1 G=>?_;let{x,H1,O,r1,z}:=G;let{c,rfl,z}:=z;cases r1;refine VZ ?_;cases c with
 |false=>exact hb W s1 B H1 Q O z
 |true=>exact{.bl true,H1,O,M,z}
def Im(ha:PE X a ta):PE X (.UnaryOp .Not a pos) (JG ta):=by
 intro W s B H Q I h;refine UnaryOp_<|ED (ha W s B H _ I h) λv s1 z=>?_;let{x,H1,O,r1,G}:=z;let{c,rfl,G}:=G;cases r1;exact not_of<|VZ {.bl<|!c,H1,O,M,G}
def tIf(t:TT)(ta tb:TE):TE:=λB H Q=>t B H λc H1=>if c=true then ta B H1 Q else tb B H1 Q
def xW(hc:PT X c tA)(ha:PE X a ta)(hb:PE X b tb):PE X (.IfExp c a b pos) (tIf tA ta tb):=by
 intro W s B H Q I h;refine wpAny_IfExp<|ED (hc W s B H _ I h) λd s1 zz=>?_;let{H1,z,G}:=zz;cases d with
 |true=>exact ha W s1 B H1 Q z G
 |false=>exact hb W s1 B H1 Q z G
end
def Do(K:Wi)(H:Hp)(a:G')(xs:K'):Prop:=
 Rd H a (.lst xs)\/
  ∃(o:Obj)(its:Ni)(n:Nat),K.lookup a=some o/\o.cls= .type eR/\o.dict=none/\o.data= .seq its n/\its.size<=sizeLine/\A7 xs its.toList
def LB(K:Wi)(H:Hp)(a:G')(xs:K'):Prop:=
 Rd H a (.tup xs)\/
  ∃(o:Obj)(its:Ni)(n:Nat),K.lookup a=some o/\o.cls= .type i3/\o.data= .seq its n/\its.size<=sizeLine/\A7 xs its.toList
noncomputable def absV:Value->Option V
 | .none=>some .non
 | .bool b=>some (.bl b)
 | .int i _=>some (.int i)
 | .str x _=>some (.str x)
 | .bytes b _=>some (.byt b)
 | .float b _=>some (.flt b)
 | .ref a=>some (.ref a)
 | .type n=>some (.ty n)
 |_=>none
def RelV.abs{x:V}(r:RelV x u):absV u=some x:=by
 cases x with
 |non=>cases r;rfl
 |bl _=>cases r;rfl
 |int _=>let{t,rfl}:=r;rfl
 |str _=>let{t,rfl}:=r;rfl
 |byt _=>let{t,rfl}:=r;rfl
 |flt _=>let{t,rfl}:=r;rfl
 |ref _=>cases r;rfl
 |ty _=>cases r;rfl
def RelV.inj{x:V}(r:RelV x u)(q:RelV y u):x=y:=VG (r.abs.symm.trans q.abs)
def A7.inj{ys:K'}(h:A7 xs us)(h':A7 ys us):xs=ys:=by
 induction h generalizing ys with
 |nil=>cases h';rfl
 |cons r t z=>cases h' with
  |cons r' t'=>rw[r.inj r',z t']
section
variable{ys:K'}
def Do.of(h:H a=some (.lst xs)):Do K H a xs:= .inl (.inl h)
def LB.of(h:H a=some (.tup xs)):LB K H a xs:= .inl (.inl h)
def Inv.list(I:Inv X W B H s)(h:Do X.K H a xs):∃its:List Value,A7 xs its/\PlainL s.heap a its.toArray/\xs.length<=sizeLine:=by
 rcases h with h|⟨o,its,n,hk,hc,hd,hs,hz,r⟩
 .let{z,its,n,r,e}:=h.ok I.hok;exact{its,r,{_,n,e,M,M,M},z}
 .refine{its.toList,r,{o,n,I.kIn a o hk,hc,hd,by simpa using hs},?_};have e:=r.length;simp only[Qg]at e;lia
def Inv.tuple(I:Inv X W B H s)(h:LB X.K H a xs):∃its:List Value,A7 xs its/\IsTup s.heap a its.toArray/\xs.length<=sizeLine:=by
 rcases h with h|⟨o,its,n,hk,hc,hs,hz,r⟩
 .let{z,its,r,p}:=h.ok I.hok;exact⟨its,r,p,z⟩
 .refine{its.toList,r,{o,I.kIn a o hk,hc,n,by simpa using hs},?_};have e:=r.length;simp only[Qg]at e;lia
def Inv.list_inj(I:Inv X W B H s)(h:Do X.K H a xs)(h':Do X.K H a ys):xs=ys:=by
 let{its,r,{o,n,e,_,_,d},_}:=I.list h;let{its',r',{o',n',z,_,_,d'},_}:=I.list h';rw[e]at z;cases z;rw[d]at d';injection d' with d1 _;have:its=its':=by simpa using VT Array.toList d1
 subst this;exact r.inj r'
end
abbrev Cx.wish(X:Cx)(E:Ng):Cx:={X with xe:=E}
abbrev Cx.nox(X:Cx):Cx:=X.wish λ_ _=>False
def Cx.Ok.wish(ok:X.Ok)(E:Ng):(X.wish E).Ok:=
 ⟨ok.mod,ok.kind,ok.glob,ok.blt,ok.above,ok.inj,ok.has,ok.cab,ok.hd,ok.frames,ok.stk,ok.exf,ok.bs,ok.bsz,ok.noex,ok.exfs,ok.funs,ok.frf⟩
def Cx.Ok.unwish(ok:(X.wish E).Ok):X.Ok:=
 ⟨ok.mod,ok.kind,ok.glob,ok.blt,ok.above,ok.inj,ok.has,ok.cab,ok.hd,ok.frames,ok.stk,ok.exf,ok.bs,ok.bsz,ok.noex,ok.exfs,ok.funs,ok.frf⟩
def Inv.wish(I:Inv X W B H s)(E:Ng):Inv (X.wish E) W B H s:={I.ok.wish E,I.os,I.bare,I.base,I.loc,I.cell,I.free,I.freeC,I.pin,I.hok,I.len}
def Inv.unwish(I:Inv (X.wish E) W B H s):Inv X W B H s:=⟨I.ok.unwish,I.os,I.bare,I.base,I.loc,I.cell,I.free,I.freeC,I.pin,I.hok,I.len⟩
def SP.unwish{D:iW}{f:Flow}(h:SP (X.wish E) W D f s'):SP X W D f s':=by
 cases f with
 |next=>let{z,H',I,q}:=h;exact⟨z,H',I.unwish,q⟩
 |brk=>let{z,H',I,q}:=h;exact⟨z,H',I.unwish,q⟩
 |cont=>let{z,H',I,q}:=h;exact⟨z,H',I.unwish,q⟩
 |ret u=>let{v,z,H',I,r,q}:=h;exact⟨v,z,H',I.unwish,r,q⟩
def PE.nox(h:PE X.nox e t):PE X e t:=λW s B H Q I hw=>
 VV (h W s B H Q (I.wish _) hw) (λ_ _ zz=>by let{v,H',G,r,q}:=zz;exact⟨v,H',G.unwish,r,q⟩) λ_ _ z=>False.elim z
def Kw.nox{st:List Stmt}{t:TS}(h:Kw X.nox st t):Kw X st t:=λW s B H D I hw=>
 VV (h W s B H D (I.wish _) hw) (λ_ _ q=>q.unwish) λ_ _ z=>False.elim z
section
variable{st:Stmt}{rest:List Stmt}{t u:TS}
def CQ:TS:=λD B H=>D.nx B H
def xF(t u:TS):TS:=λD B H=>t {D with nx:=u D} B H
def aE:Kw X [] CQ:=λ_ _ B H _ I h=>wpAny_execs_nil ⟨B,H,I,h⟩
def j7(h1:PS X st t)(h2:Kw X rest u):Kw X (st::rest) (xF t u):=by
 intro W s B H D I h;refine wpAny_execs_cons<|ED (h1 W s B H {D with nx:=u D} I h) λf s1 q=>?_;cases f with
 |next=>
  let{z,H',G,q}:=q;exact h2 W s1 z H' D G q
 |ret v=>exact q
 |brk=>exact q
 |cont=>exact q
def aq(h1:PS X st t):Kw X [st] t:=by
 intro W s B H D I h;refine wpAny_execs_cons<|ED (h1 W s B H D I h) λf s1 q=>?_;cases f with
 |next=>exact wpAny_execs_nil q
 |ret v=>exact q
 |brk=>exact q
 |cont=>exact q
def HS:TS:=λD B H=>D.bk B H
def Dh:PS X (.Break pos) HS:=λ_ _ B H _ I h=>wpAny_Break ⟨B,H,I,h⟩
def Inv.quiet(I:Inv X W B H s):interactive X.env=false:=by simp[interactive,I.ok.kind]
def JI(te:TE):TS:=λD B H=>te B H λ_ H1=>D.nx B H1
def bf(he:PE X e te)(hs:swapsWith e none pos.line X.env=pure false:=by rfl):PS X (.Expr e pos) (JI te):=by
 intro W s B H D I h;exact wpAny_Expr_any (ED (he W s B H _ I h) λv s1 zz=>by let{x,H1,z,r1,G}:=zz;exact⟨B,H1,z,G⟩) I.quiet hs
def tRet(te:TE):TS:=λD B H=>te B H D.rt
def aw(he:PE X e te):PS X (.Return (some e) pos) (tRet te):=by
 intro W s B H D I h;exact wpAny_Return_some<|ED (he W s B H _ I h) λv s1 zz=>by let{x,H1,z,r1,G}:=zz;exact⟨x,B,H1,z,r1,G⟩
def JF:TS:=λD _ H=>D.rt .non H
def wI:PS X (.Return none pos) JF:=λ_ _ B H _ I h=>wpAny_Return_none {.non,B,H,I,M,h}
def tIfS(c:TT)(t u:TS):TS:=λD B H=>c B H λb H1=>if b=true then t D B H1 else u D B H1
def aT{a b:List Stmt}(hc:PT X c tc)(ha:Kw X a t)(hb:Kw X b u):PS X (.If c a b pos) (tIfS tc t u):=by
 intro W s B H D I h;refine wpAny_If<|ED (hc W s B H _ I h) λd s1 zz=>?_;let{H1,z,G}:=zz;cases d with
 |true=>exact ha W s1 B H1 D z G
 |false=>exact hb W s1 B H1 D z G
end
abbrev TG:=V->St->Hp->(St->Hp->Prop)->Prop
abbrev TGs:=List V->St->Hp->(St->Hp->Prop)->Prop
abbrev _root_.Nx:=St->Hp->Prop
def PG(X:Cx)(target:Expr)(t:TG):Prop:=
 ∀(W:Mv)(s:He)(B:St)(H:Hp)(v:V)(u:J')(Q:Nx),Inv X W B H s->RelV v u->t v B H Q->
  Wj X (assign target X.env u) (λ_ s'=>∃σ' H',Inv X W σ' H' s'/\Q σ' H') X.xe s
def PGs(X:Cx)(ts:Np)(t:TGs):Prop:=
 ∀(W:Mv)(s:He)(B:St)(H:Hp)(vs:K')(us:L')(Q:Nx),Inv X W B H s->A7 vs us->t vs B H Q->
  Wj X (assignInOrder ((assignEach ts X.env).map (·.2)) us) (λ_ s'=>∃σ' H',Inv X W σ' H' s'/\Q σ' H') X.xe s
abbrev Jo:=V->V->V->Hp->(Hp->Prop)->Prop
def PSet(X:Cx)(t:Jo):Prop:=
 ∀(W:Mv)(s:He)(B:St)(H:Hp)(o i v:V)(ov iv u:J')(Q:Hp->Prop),Inv X W B H s->RelV o ov->RelV i iv->RelV v u->t o i v H Q->
  Wj X (setItem ov iv u) (λ_ s'=>∃H',Inv X W B H' s'/\Q H') X.xe s
abbrev TIp:=V->V->Hp->VK->Prop
def PIp(X:Cx)(op:Operator)(t:TIp):Prop:=
 ∀(W:Mv)(s:He)(B:St)(H:Hp)(x y:V)(v u:J')(Q:VK),Inv X W B H s->RelV x v->RelV y u->t x y H Q->
  Wj X (inplaceOp op v u) (EP X W B Q) X.xe s
abbrev kF(i:Nat):TG:=λv B H Q=>Q (B.set i<|some v) H
def Ay(hN:X.N.Nodup)(hi:X.N[i]?=some x)(hx:Loc X.env.scope x)(hf:X.fn x=true\/X.env.scope.names.lookup x=some .local:=by ac_rfl):PG X (.Name x pos) (kF i):=by
 intro W s B H v u Q I r h;exact wpAny_assign_Name<|q9 I hN hi hx r (λs' z=>{_,H,z,h}) hf
def gNil:TGs:=λvs B H Q=>vs=[]/\Q B H
inductive Kj(t:TG)(u:TGs)(vs:K')(B:St)(H:Hp)(Q:Nx):Prop
 |mk(v r:_)(_:vs=v::r)(_:t v B H λσ' H'=>u r σ' H' Q)
def qN:PGs X [] gNil:=by
 intro W s B H vs us Q I r h;let{e,h}:=h;subst e;cases r;exact assignInOrder_nil ⟨B,H,I,h⟩
def eT{t:TG}{u:TGs}(h1:PG X e t)(h2:PGs X es u)
  (hs:(assignEach (e::es) X.env).map (·.2)=assign e X.env::(assignEach es X.env).map (·.2):=by rfl):PGs X (e::es) (Kj t u):=by
 intro W s B H vs us Q I r h;let{v,vr,O,h}:=h;subst O;cases r with
 |cons r U=>
  rw[hs];refine assignInOrder_cons<|ED (h1 W s B H _ _ _ I r h) λ_ s1 z=>?_;let{G,H1,Y,Z}:=z;exact h2 W s1 G H1 _ _ Q Y U Z
inductive gTup(K:Wi)(n:Nat)(t:TGs)(v:V)(B:St)(H:Hp)(Q:Nx):Prop
 |mk(a xs:_)(_:v= .ref a)(_:LB K H a xs)(_:xs.length=n)(_:t xs B H Q)
def wL{k:Nat}{t:TGs}(hc:X.calm=true)(h:PGs X es t)
  (G:(assignEach es X.env).length=n:=by rfl) (z:(assignEach es X.env).findIdx? (·.1)=none:=by rfl):PG X (.Tuple es k pos) (gTup X.K n t):=by
 intro W s B H v u Q I r hw;let{a,xs,O,hq,hl,hw}:=hw;subst O;cases r;let{its,rv,U,hz}:=I.tuple hq;refine assign_Tuple_tuple (I.ok.hd hc) U (by simp[G,<-hl,rv.length]) z λh' hx=>?_;have Y:Inv X W B H {s with heap:=h'}:=I.kept (t':=s.toks) λb o e=>hx b o (Qz<|VJ e) e;exact h W _ B H xs _ Q Y (by simpa using rv) hw
def gSub(to ti:TE)(t:Jo):TG:=λv B H Q=>to B H λo H1=>ti B H1 λi H2=>t o i v H2 λH3=>Q B H3
def Di{o i:Expr}{to U:TE}{t:Jo}(Y:PE X o to)(hi:PE X i U)(hs:PSet X t)
  (ha:∀v,assign (.Subscript o i pos) X.env v=(do
   let G<-holding [v] (eval o X.env)
   let O<-holding [v,G] (eval i X.env)
   standAt pos
   holding [v,G,O] (setItem G O v)
   release [v,G,O] []):=by subst_eqs):PG X (.Subscript o i pos) (gSub to U t):=by
 intro W s B H v u Q I r h;rw[ha];refine VC<|W4 (ED (Y W s B H _ I h) λG s1 z=>?_);let{x,H1,Z,r1,q1}:=z;refine VC<|W4 (ED (hi W s1 B H1 _ Z q1) λO s2 z=>?_);let{y,H2,I2,r2,q2}:=z;refine VC<|wpAny_standAt (VC<|W4<|ED (hs W s2 B H2 x y v G O u _ I2 r1 r2 r q2) λ_ s3 z=>?_);let{H3,I3,q3}:=z;exact wpAny_release ⟨B,H3,I3,q3⟩
def CV(te:TE)(g:TG):TS:=λD B H=>te B H λx H1=>g x B H1 D.nx
def zC{g:TG}(he:PE X e te)(G:PG X tg g)(hs:swapsWithSole [tg] e pos.line X.env=pure false:=by rfl)(hw:swappedStores [tg] e X.env=pure none:=by rfl)
  (h1:(assignEach [tg] X.env).map (·.2)=[assign tg X.env]:=by rfl):PS X (.Assign [tg] e pos) (CV te g):=by
 intro W s B H D I h;refine wpAny_Assign_stores (ED (he W s B H _ I h) λv s1 z=>?_) hs hw;let{x,H1,O,r1,U}:=z;rw[h1];exact ED (G W s1 B H1 x v _ O r1 U) λ_ s2 q=>q
def wH{i:Nat}{x:Str}{e:Expr}{te:TE}{pos':Pos}(hN:X.N.Nodup)(hi:X.N[i]?=some x)(hx:Loc X.env.scope x)(he:PE X e te)(hs:swapsWith e (some<|.Name x pos') pos.line X.env=pure false:=by rfl)(hf:X.fn x=true\/X.env.scope.names.lookup x=some .local:=by ac_rfl):
  PS X (.Assign [.Name x pos'] e pos) (CV te<|kF i):=by
 intro W s B H D I h;refine wpAny_Assign_Name (ED (he W s B H _ I h) λv s1 z=>?_) hs;let{y,H1,G,r1,O}:=z;exact q9 G hN hi hx r1 (λs2 U=>{_,H1,U,O}) hf
inductive tAug(i:Nat)(te:TE)(ti:TIp)(D:iW)(B:St)(H:Hp):Prop
 |mk(x:_)(_:B[i]?=some (some x))(_:te B H λy H1=>ti x y H1 λz H2=>D.nx (B.set i<|some z) H2)
def zB{op:Operator}{Z:TIp}{pos':Pos}(hN:X.N.Nodup)(hi:X.N[i]?=some x)(hx:Loc X.env.scope x)(he:PE X e te)(ho:PIp X op Z)(hf:X.fn x=true\/X.env.scope.names.lookup x=some .local:=by ac_rfl):
  PS X (.AugAssign (.Name x pos') op e pos) (tAug i te Z):=by
 intro W s B H D I h;let{v,e1,h}:=h;let{m,hn,hl}:=I.loc;have Y:Ms X.env.scope x:=by rcases hx with k|k;exact .inl k;exact .inr<|.inl k
 let{u,r,l}:=hl i x v hi e1 Y;refine wpAny_AugAssign_Name ?_;have go:Wj X (eval e X.env) (λw s₂=>Wj X (inplaceOp op u w) (λr U=>Wj X (storeName X.env x r) (λ_=>SP X W D .next) X.xe U) X.xe s₂) X.xe s:=by
  refine ED (he W s B H _ I h) λw s1 G=>?_;let{y,H1,I1,r1,q1}:=G;refine ED (ho W s1 B H1 v y u w _ I1 r r1 q1) λz s2 G=>?_;let{zv,H2,I2,r2,q2}:=G;exact q9 I2 hN hi hx r2 (λs3 I3=>{_,H2,I3,q2}) hf
 rcases l with⟨hk,hm⟩|⟨hk,c,hc,O⟩
 .exact wpAny_loadName_local I.ok.kind hk hn hm go
 .rcases hk with hk|hk
  .exact wpAny_loadName_cell I.ok.kind hk hc O go
  .rcases hx with k|k
   .have:X.env.scope.names.lookup x=some .free:=hk;rw[k]at this;cases this
   .have:X.env.scope.names.lookup x=some .free:=hk;rw[k]at this;cases this
inductive ipI(f:Int->Int->Int)(x y:V)(H:Hp)(Q:VK):Prop
 |mk(i j:_)(_:x= .int i)(_:y= .int j)(_:Q (.int<|f i j) H)
def D4:PIp X .Add (ipI λi j=>i+j):=by
 intro W s B H x y v u Q I r1 z h;let{i,j,G,e2,q}:=h;subst G;subst e2;let{t,rfl}:=r1;let{t',rfl}:=z;exact iadd_int {.int _,H,I.tok _,{_,M},q}
def IR:PIp X .Sub (ipI λi j=>i-j):=by
 intro W s B H x y v u Q I r1 z h;let{i,j,G,e2,q}:=h;subst G;subst e2;let{t,rfl}:=r1;let{t',rfl}:=z;exact isub_int {.int _,H,I.tok _,{_,M},q}
def CO(c:TT)(tb:TS):TS:=λD B H=>∃J2:Nat->St->Hp->Prop,(∃m,J2 m B H)/\∀m B H,J2 m B H->
 c B H λb H1=>if b=true then ∃N:St->Hp->Prop,(∀σ' H',N σ' H'->∃m',m'<m/\J2 m' σ' H')/\tb {D with nx:=N,ct:=N,bk:=D.nx} B H1 else D.nx B H1
def j8(hp:PassesOwn (model X.prog X.w) X.A X.env X.xe)(hc:PT X c tc)(hb:Kw X body tb):PS X (.While c body [] pos) (CO tc tb):=by
 intro W s B H D I h;let{J2,{m0,w0},turn}:=h;refine wpAny_While<|codeAny_whileLoop (λn s'=>∃O H',Inv X W O H' s'/\J2 n O H') ?_ m0 ⟨B,H,I,w0⟩;rintro n s1 ⟨G,H1,I1,w1⟩;refine W8 hp<|ED (hc W s1 G H1 _ I1<|turn n G H1 w1) λb s2 zz=>?_;let{H2,I2,U}:=zz;cases b with
 |true=>
  let{N,hN,U}:=U;rw[VA M];refine W8 hp<|ED (hb W s2 G H2 _ I2 U) λf s3 Y=>?_;cases f with
  |next=>
   let{z,H3,Z,n3}:=Y;let{m',hm,w3}:=hN z H3 n3;exact⟨m',hm,z,H3,Z,w3⟩
  |cont=>
   let{z,H3,Z,n3}:=Y;let{m',hm,w3}:=hN z H3 n3;exact⟨m',hm,z,H3,Z,w3⟩
  |brk=>exact Y
  |ret v=>exact Y
 |false=>
  rw[Vz Qa];exact wpAny_execs_nil ⟨G,H2,I2,U⟩
set_option genInjectivity false in
structure It where
 go:Nat->Hp->Prop
 yld:Nat->Hp->V->Hp->Prop
 stop:Nat->Hp->Prop
def gx(X:Cx)(W:Mv)(H:Hp)(b:G'):Prop:=
 H b=none/\b≠X.env.locals/\b∉X.fs/\(b∈X.ex\/X.s₀.heap.objs.size<=b)/\(∀x c,X.env.cells.lookup x=some c->c≠b)/\∀p∈X.pn++W,p.1≠b
def Inv.fpOk(I:Inv X W B H s)(hb:s.heap.objs.size<=b)(G:H' b=none):gx X W H' b:=by
 refine{G,ZC<|Qm I.lt hb,I.nofs hb,.inr<|Qr I.sz hb,λx c e z=>?_,λp hp z=>?_}
 .let{v,q}:=I.cell x c e;exact VE (Qm q.lt<|by rwa[z])<|Zv _
 .exact VE (Qm (VJ (I.pin p hp).1)<|by rwa[z]) (Zv _)
structure xq(P:Mz)(w:Nb)(K:Wi)(tg:Expr)(J:It)(fp:Nc)(it:G')(tn:Nat->Heap->Prop):Prop where
 mem:it∈fp
 obj:∀i h,tn i h->∀b∈fp,∃o,h.get? b=some o/\∀v,o.data≠ .cell v
 keep:∀i h h',tn i h->(∀b∈fp,∀o,h.get? b=some o->h'.get? b=some o)->tn i h'
 item:∀(X:Cx),X.prog=P->X.w=w->X.K=K->X.calm=true->∀(i:Nat)(W:Mv)(s:He)(B:St)(H:Hp)(E:Ng),Inv X W B H s->(∀b∈fp,gx X W H b)->tn i s.heap->J.go i H->
  wpAny (model P w) X.A (pyNext<|.ref it) (λr s1=>∃u,r=some u/\
   wpAny (model P w) X.A (letOwnedTupleGo tg (.ref it) u) (λ_ s2=>∃x H',Inv X W B H' s2/\RelV x u/\J.yld i H x H'/\tn (i+1) s2.heap/\∀b∈fp,H' b=none) E s1) E s
 done:∀(X:Cx),X.prog=P->X.w=w->X.K=K->X.calm=true->∀(i:Nat)(W:Mv)(s:He)(B:St)(H:Hp)(E:Ng),Inv X W B H s->(∀b∈fp,gx X W H b)->tn i s.heap->J.stop i H->
  wpAny (model P w) X.A (pyNext<|.ref it) (λr s1=>r=none/\Inv X W B H s1) E s
 self:∀(A:Nh)(i:Nat)(s:He)(Q:Ng)(E:Ng),tn i s.heap->Q (.ref it) s->wpAny (model P w) A (pyIter<|.ref it) Q E s
abbrev TI:=St->Hp->(It->Hp->Prop)->Prop
def PIE(X:Cx)(W:Mv)(B:St)(tg:Expr)(R:It->Hp->Prop)(itv:J')(s2:He):Prop:=
 ∃(it:G')(fp:Nc)(tn:Nat->Heap->Prop)(J:It)(H':Hp),itv= .ref it/\Inv X W B H' s2/\xq X.prog X.w X.K tg J fp it tn/\tn 0 s2.heap/\(∀b∈fp,gx X W H' b)/\R J H'
def PI(X:Cx)(tg iter:Expr)(wi:TI):Prop:=
 ∀(W:Mv)(s:He)(B:St)(H:Hp)(R:It->Hp->Prop),Inv X W B H s->wi B H R->
  Wj X (eval iter X.env) (λv s1=>Wj X (pyIter v) (PIE X W B tg R) X.xe s1) X.xe s
def sZ{o:Obj}{n:String}{vs:Ni}{Q:Nz}(G:s.heap.get? it=some o)(hc:o.cls= .type n)(hd:o.data= .fields vs)
  (I:["enumerate","zip","dict_itemiterator","dict_reverseitemiterator","odict_iterator","itertools.zip_longest","itertools.pairwise"].contains n=false) (z:Q Unit.unit s):wpAny M' A (letOwnedTupleGo tg (.ref it) u) Q E s:=by
 unfold letOwnedTupleGo;cases tg<;>first
  |exact VN z
  |(cases u<;>first
    |exact VN z
    |(refine VC<|wpAny_load G ?_
      rw[hc,hd];show wpAny M' A (if(["enumerate","zip","dict_itemiterator","dict_reverseitemiterator","odict_iterator","itertools.zip_longest","itertools.pairwise"].contains n&&vs[0]?==some (rawInt _))=true then _ else _) Q E s;rw[Vz (by intro h;rw[I,ZZ]at h;cases h)];exact VN z))
def ME(K:Wi)(a:G'):It:=
 {λi H=>∃xs x,Do K H a xs/\xs[i]?=some x,λi H x H'=>H'=H/\∀xs,Do K H a xs->xs[i]?=some x,λi H=>∃xs,Do K H a xs/\xs.length<=i}
def MI(lo:Int)(n:Nat):It:={λi _=>i<n,λi H x H'=>H'=H/\x= .int (lo+i),λi _=>n<=i}
def Bo(a it:G'):xq P w K tg (ME K a) [it] it (λi h=>h.IsListIter it a i) where
 mem:=by simp
 obj:=λi h st b hb=>by
  have e:b=it:=by simpa using hb
  subst e;let{o,e,c,d}:=st;exact{o,e,λv z=>by rw[d]at z;cases z}
 keep:=λi h h' st k=>st.at λo e=>k it (by simp) o e
 item:=by
  intro X G hw hK hc i W s B H E I hf st O;subst G hw hK;let{xs,x,hq,hx}:=O;let{its,rv,p,hz}:=I.list hq;let{u,hu,ru}:=rv.get hx;let{U,Y,f2,Z,f4,f5}:=hf it (by simp);refine wpAny_pyNext_list_item st p.isList (x:=u) (by simpa using hu) λh' st' sb=>?_;have I1:Inv X W B H {s with heap:=h'}:=I.turned (t':=s.toks) (λb o hb e=>(sb.2 b hb).trans e) U Y Z f4 f5;let{o,e,c,d}:=id st';exact{u,M,sZ (s:={s with heap:=h'}) e c d (_) {x,H,I1,ru,{M,λys hy=>by rwa[I.list_inj hy hq]},st',λb hb=>(hf b hb).1}}
 done:=by
  intro X G hw hK hc i W s B H E I hf st O;subst G hw hK;let{xs,hq,hx}:=O;let{its,rv,p,hz}:=I.list hq;let{U,Y,f2,Z,f4,f5}:=hf it (by simp);have hl:=rv.length;exact wpAny_pyNext_list_end (I.ok.hd hc) st p.isList (by simp;lia) λh' eb=>{M,I.turned (t':=s.toks) (λb o hb e=>eb b o hb e) U Y Z f4 f5}
 self:=λ_ _ _ _ _ st h=>wpAny_pyIter_listiter st h
def zb(it:G')(lo:Int)(n:Nat):xq P w K tg (MI lo n) [it] it (λi h=>IsRangeIter h it (lo+(i:Nat)*1) ((n:Int)-(i:Nat)) 1) where
 mem:=by simp
 obj:=λi h st b hb=>by
  have e:b=it:=by simpa using hb
  subst e;exact{_,st,λv z=>by
   have z':Data.fields _=Data.cell v:=z;cases z'}
 keep:=λi h h' st k=>k it (by simp) _ st
 item:=by
  intro X G hw hK hc i W s B H E I hf st O;subst G hw hK;let{U,Y,f2,Z,f4,f5}:=hf it (by simp);have J2:=Walks.range (prog:=X.prog) (w:=X.w) (I.ok.hd hc) it lo 1 n;refine J2.item i s _ _ O st λv h' tk hv st' kk=>?_;let{t,rfl}:=hv;have I1:Inv X W B H {s with heap:=h',toks:=tk}:=I.turned (λb o hb e=>kk b o (by simpa using hb) e) U Y Z f4 f5;refine{_,M,sZ (s:={s with heap:=h',toks:=tk}) (n:="range_iterator") st' M M (_) {.int<|lo+i,H,I1,{t,?_},⟨M,M⟩,st',λb hb=>(hf b hb).1}};rw[Int.mul_one]
 done:=by
  intro X G hw hK hc i W s B H E I hf st O;subst G hw hK;let{U,Y,f2,Z,f4,f5}:=hf it (by simp);exact wpAny_pyNext_range_end (I.ok.hd hc) st (by have:n<=i:=O;lia) λh' eb=>{M,I.turned (t':=s.toks) (λb o hb e=>eb b o hb e) U Y Z f4 f5}
 self:=λ_ _ _ _ _ st h=>wpAny_pyIter_rangeiter st h
inductive IT(K:Wi)(R:It->Hp->Prop)(x:V)(H1:Hp):Prop
 |mk(a:_)(_:x= .ref a)(_:(∃xs,Do K H1 a xs))(_:R (ME K a) H1)
def Ke(K:Wi)(tl:TE):TI:=λB H R=>tl B H λx H1=>IT K R x H1
def dI{l:Expr}{tl:TE}(hl:PE X l tl):PI X tg l (Ke X.K tl):=by
 intro W s B H R I h;refine ED (hl W s B H _ I h) λv s1 G=>?_;let{x,H1,z,r1,O}:=G;let{a,e,{xs,hq},q}:=O;subst e;cases r1;let{its,rv,p,hz}:=z.list hq;refine wpAny_pyIter_list p.isList ?_;refine{s1.heap.objs.size,[s1.heap.objs.size],_,_,H1,M,z.kept (t':=s1.toks) λb o e=>VB _ e,Bo a _,{_,VL _ M,M,M},λb hb=>?_,q};have e:b=s1.heap.objs.size:=by simpa using hb
 subst e;exact z.fpOk (Q5 _)<|z.hok.fresh (Q5 _)
def Dd{R:It->Hp->Prop}{hi:Int}{t u v:Tok}{tk:Nat}(I:Inv X W B H s)(h1: -(2^62)<=lo)(h2:lo<2^62)(G: -(2^62)<=hi)(O:hi<2^62)
  (q:R (MI lo (hi-lo).toNat) H):Wj X (pyIter<|.ref s.heap.objs.size) (PIE X W B tg R) E {s with heap:=s.heap.push {cls:= .type iQ,data:= .fields #[.int lo t,.int hi u,.int 1 v]},toks:=tk}:=by
 refine wpAny_pyIter_range (IsRange.new ..) (small_one h1 h2 G O) ?_;have z:Inv X W B H {s with heap:=s.heap.push {cls:= .type iQ,data:= .fields #[.int lo t,.int hi u,.int 1 v]},toks:=tk}:=I.kept λb o e=>VB _ e;refine{(s.heap.push {cls:= .type iQ,data:= .fields #[.int lo t,.int hi u,.int 1 v]}).objs.size,[(s.heap.push {cls:= .type iQ,data:= .fields #[.int lo t,.int hi u,.int 1 v]}).objs.size],_,_,H,M,
  z.kept (t':=tk) λb o e=>VB _ e,zb _ lo (hi-lo).toNat,?_,λb hb=>?_,q}
 .have U:lo+((0:Nat):Int)*1=lo:=by simp
  have e2:(((hi-lo).toNat:Nat):Int)-((0:Nat):Int)=Builtin.Range.rangeSize lo hi 1:=by rw[rangeSize_one];split<;>lia
  show IsRangeIter _ _ (lo+((0:Nat):Int)*1) ((((hi-lo).toNat:Nat):Int)-((0:Nat):Int)) 1;rw[U,e2];exact VL _ M
 .have e:b=(s.heap.push {cls:= .type iQ,data:= .fields #[.int lo t,.int hi u,.int 1 v]}).objs.size:=by simpa using hb
  subst e;exact z.fpOk (Q5 _) (z.hok.fresh<|Q5 _)
inductive IS(R:It->Hp->Prop)(vs:K')(H1:Hp):Prop
 |mk(j:Int)(_:vs=[.int j])(_: -(2^62)<=j)(_:j<2^62)(_:R (MI 0 j.toNat) H1)
def Kd(ta:TA):TI:=λB H R=>ta B H λvs H1=>IS R vs H1
def lB{a:Expr}{ta:TA}(O:Gl X iQ)(U:X.mg iQ=none)(ha:PA X [a] ta)(hs:starEach [a] X.env=[(false,eval a X.env)]:=by rfl):PI X tg (.Call (.Name iQ p) [a] [] pos) (Kd ta):=by
 intro W s B H R I h;refine Call_<|m5 I O U boot_range (PyProof.Rows.callWith_type1 (ED (ha pos W s B H _ I h) λus s1 z=>?_) hs M);let{vs,H1,Y,r1,G}:=z;let{j,e,G,Z,q}:=G;subst e;cases r1 with
 |cons r rr=>
  cases rr;let{t,rfl}:=r;exact call_range_1<|Dd Y () () G Z (by simpa using q)
def tFor(wi:TI)(g:TG)(tb:TS):TS:=λD B H=>wi B H λJ H1=>∃J2:Nat->Nat->St->Hp->Prop,(∃m,J2 0 m B H1)/\∀i m B H,J2 i m B H->
 (J.stop i H/\D.nx B H)\/(J.go i H/\∃N:St->Hp->Prop,(∀σ' H',N σ' H'->∃m',m'<m/\J2 (i+1) m' σ' H')/\∀x H',J.yld i H x H'->g x B H' λσ2 H2=>tb {D with nx:=N,ct:=N,bk:=D.nx} σ2 H2)
def sk(fp:Nc)(h:Heap):List (Addr×Obj):=fp.filterMap λb=>(h.get? b).map λo=>(b,o)
def jt{o:Obj}(hb:b∈fp)(e:h.get? b=some o):(b,o)∈sk fp h:=List.mem_filterMap.mpr {b,hb,by rw[e];rfl}
def BI{p:Addr×Obj}(hp:p∈sk fp h):p.1∈fp/\h.get? p.1=some p.2:=by
 let{b,hb,e}:=List.mem_filterMap.mp hp;cases q:h.get? b with
 |none=>rw[q]at e;cases e
 |some o=>
  rw[q]at e;have z:(b,o)=p:=VG e;subst z;exact⟨hb,q⟩
def Inv.pinned(I:Inv X W B H s)(hf:∀b∈fp,gx X W H b)(O:∀b∈fp,∃o,s.heap.get? b=some o/\∀v,o.data≠ .cell v):Inv X (W++sk fp s.heap) B H s:=
 I.pins_of λp hp=>(Q6.mp hp).elim (λz=>I.pin p<|Qp _ z) λz=>by
  let{hb,e}:=BI z;let{U,Y,Z,_}:=hf p.1 hb;let{o,G,d}:=O p.1 hb;rw[e]at G;cases G;exact⟨e,U,Y,Z,d⟩
def Inv.unpinned{pl:Mv}(I:Inv X (W++pl) B H s):Inv X W B H s:=I.pins_of λp hp=>I.pin p (Qp _<|QW _ hp)
def jo{iter:Expr}{wi:TI}{g:TG}(hp:PassesOwn (model X.prog X.w) X.A X.env X.xe)(hc:X.calm=true)(hi:PI X tg iter wi)(hg:PG X tg g)(hb:Kw X body tb)
  (hs:∀x,foldedSetIterable iter X.env x=pure x:=by subst_eqs):PS X (.For tg iter body [] pos) (tFor wi g tb):=by
 intro W s B H D I h;refine wpAny_For (ED (hi W s B H _ I h) λv s1 h1=>ED h1 λac s2 h2=>?_) hs;let{it,fp,tn,J,H2,e,I2,T,st2,f2,J2,{m0,w0},turn}:=h2;subst e;have G:∀{H':Hp},(∀b∈fp,H' b=none)->∀b∈fp,gx X W H' b:=λhn b hb=>{hn b hb,(f2 b hb).2};refine codeAny_forLoop_any (λn s'=>∃i O H',Inv X W O H' s'/\tn i s'.heap/\(∀b∈fp,H' b=none)/\J2 i n O H') ?_ m0 {0,B,H2,I2,st2,λb hb=>(f2 b hb).1,w0};rintro n s3 ⟨i,U,H3,I3,a2,a3,w3⟩;rcases turn i n U H3 w3 with⟨a4,qn⟩|⟨go,N,hN,step⟩
 .refine W8 hp<|ED (T.done X M M M hc i W s3 U H3 X.xe I3 (G a3) a2 a4) λr s4 zz=>?_;let{hr,I4}:=zz;subst hr;exact wpAny_execs_nil ⟨U,H3,I4,qn⟩
 .refine W8 hp<|ED (T.item X M M M hc i W s3 U H3 X.xe I3 (G a3) a2 go) λr s4 zz=>?_;let{u,hr,h4}:=zz;subst hr;refine W8 hp<|ED h4 λ_ s5 a0=>?_;let{x,H5,I5,r5,y5,a1,a5}:=a0;have a7:=I5.pinned (G a5) (T.obj _ _ a1);refine W8 hp<|ED (hg _ s5 U H5 x u _ a7 r5<|step x H5 y5) λ_ s6 a0=>?_;let{a8,H6,I6,q6}:=a0;refine W8 hp<|ED (hb _ s6 a8 H6 _ I6 q6) λf s7 q7=>?_;have again:∀{z:St}{Y:Hp},Inv X (W++sk fp s5.heap) z Y s7->N z Y->∃m,m<n/\∃i O H',Inv X W O H' s7/\tn i s7.heap/\(∀b∈fp,H' b=none)/\J2 i m O H':=λ{z Y} Z n7=>by
   let{m',hm,w7}:=hN z Y n7;refine{m',hm,i+1,z,Y,Z.unpinned,T.keep _ _ _ a1 λb hb o e=>(Z.pin (b,o)<|Qp _<|Qp _<|jt hb e).1,λb hb=>?_,w7};let{o,e,d}:=T.obj _ _ a1 b hb;exact(Z.pin (b,o)<|Qp _<|Qp _<|jt hb e).2.1
  cases f with
  |next=>let{z,Y,Z,n7}:=q7;exact again Z n7
  |cont=>let{z,Y,Z,n7}:=q7;exact again Z n7
  |brk=>let{z,Y,Z,q7}:=q7;exact⟨z,Y,Z.unpinned,q7⟩
  |ret v=>let{x7,z,Y,Z,r7,q7}:=q7;exact⟨x7,z,Y,Z.unpinned,r7,q7⟩
abbrev _root_.ND:=Nat->St->Hp->Prop
def Ed{g:TG}{D:iW}(Pv:ND)(O:Pv 0 B H)(hl:∀i B H,i<=xs.length->Pv i B H->Do K H a xs)
  (hs:∀i x B H,xs[i]?=some x->Pv i B H->g x B H λz H2=>tb {D with nx:=Pv (i+1),ct:=Pv (i+1),bk:=D.nx} z H2) (hd:∀B H,Pv xs.length B H->D.nx B H):
  ∃J2:Nat->Nat->St->Hp->Prop,(∃m,J2 0 m B H)/\∀i m B H,J2 i m B H->
   ((ME K a).stop i H/\D.nx B H)\/((ME K a).go i H/\∃N:St->Hp->Prop,(∀G H',N G H'->∃m',m'<m/\J2 (i+1) m' G H')/\∀x H',(ME K a).yld i H x H'->g x B H' λz H2=>tb {D with nx:=N,ct:=N,bk:=D.nx} z H2):=by
 refine{λi m B H=>m=xs.length-i/\i<=xs.length/\Pv i B H,{xs.length,by simp,Qh _,O},?_};rintro i m B H ⟨rfl,hi,p⟩;have q:=hl i B H hi p;by_cases I:i<xs.length
 .refine .inr {{xs,xs[i],q,by simp[I]},Pv<|i+1,λG H' U=>{xs.length-(i+1),(),M,I,U},λx H' y=>?_};let{e,y}:=y;subst e;exact hs i x B _ (y xs q) p
 .have e:i=xs.length:=();subst e;exact .inl {{xs,q,Q5 _},hd B H p}
def vF{g:TG}{D:iW}(Pv:ND)(O:Pv 0 B H)
  (hs:∀i B H,i<n->Pv i B H->g (.int<|lo+i) B H λz H2=>tb {D with nx:=Pv (i+1),ct:=Pv (i+1),bk:=D.nx} z H2) (hd:∀B H,Pv n B H->D.nx B H):
  ∃J2:Nat->Nat->St->Hp->Prop,(∃m,J2 0 m B H)/\∀i m B H,J2 i m B H->
   ((MI lo n).stop i H/\D.nx B H)\/((MI lo n).go i H/\∃N:St->Hp->Prop,(∀G H',N G H'->∃m',m'<m/\J2 (i+1) m' G H')/\∀x H',(MI lo n).yld i H x H'->g x B H' λz H2=>tb {D with nx:=N,ct:=N,bk:=D.nx} z H2):=by
 refine{λi m B H=>m=n-i/\i<=n/\Pv i B H,{n,by simp,Qh _,O},?_};rintro i m B H ⟨rfl,hi,p⟩;by_cases I:i<n
 .refine .inr {I,Pv<|i+1,λG H' U=>{n-(i+1),(),M,I,U},λx H' y=>?_};let{e,y}:=y;subst e y;exact hs i B _ I p
 .have e:i=n:=();subst e;exact .inl {Q5 _,hd B H p}
abbrev R2:=V->V->Hp->VK->Prop
abbrev _root_.NF:=Value->Value->Sem Value
def LK(X:Cx)(f:NF)(r:R2):Prop:=
 ∀(W:Mv)(s:He)(B:St)(H:Hp)(x y:V)(v u:J')(Q:VK),Inv X W B H s->RelV x v->RelV y u->r x y H Q->
  Wj X (f v u) (EP X W B Q) X.xe s
def UnR(X:Cx)(f:Value->Sem Value)(r:V->Hp->VK->Prop):Prop:=
 ∀(W:Mv)(s:He)(B:St)(H:Hp)(x:V)(v:J')(Q:VK),Inv X W B H s->RelV x v->r x H Q->
  Wj X (f v) (EP X W B Q) X.xe s
def e6(X:Cx)(f:J')(r:List V->Hp->VK->Prop):Prop:=
 ∀(W:Mv)(s:He)(B:St)(H:Hp)(xs:K')(us:L')(Q:VK),Inv X W B H s->A7 xs us->r xs H Q->
  Wj X (call f us) (EP X W B Q) X.xe s
def tOp(r:R2)(ta tb:TE):TE:=λB H Q=>ta B H λx H1=>tb B H1 λy H2=>r x y H2 Q
def tUn(r:V->Hp->VK->Prop)(ta:TE):TE:=λB H Q=>ta B H λx H1=>r x H1 Q
inductive rI(C:Int->Int->Prop)(g:Int->Int->V)(x y:V)(H:Hp)(Q:VK):Prop
 |mk(i j:_)(_:x= .int i)(_:y= .int j)(_:C i j)(_:Q (g i j) H)
inductive Mc(g:Int->Int->V)(x y:V)(H:Hp)(Q:VK):Prop
 |mk(i j:_)(_:x= .int i)(_:y= .int j)(_:Q (g i j) H)
inductive rU(g:Int->V)(x:V)(H:Hp)(Q:VK):Prop
 |mk(i:_)(_:x= .int i)(_:Q (g i) H)
section
variable{a b:Expr}{tb tc:TE}
def Jl(ha:PE X a ta)(hb:PE X b tb){R:V->V->Hp->Prop}(I:Inv X W B H s)
  (h:ta B H λx H1=>tb B H1 λy H2=>R x y H2) {f:NF}
  (hf:∀v u s2 x y H2,Inv X W B H2 s2->RelV x v->RelV y u->R x y H2->Wj X (f v u) Q X.xe s2):
  Wj X (eval a X.env) (λv s₁=>Wj X (eval b X.env) (λu s₂=>Wj X (f v u) Q X.xe s₂) X.xe s₁) X.xe s:=by
 refine ED (ha W s B H _ I h) λv s1 z=>?_;let{x,H1,G,r1,O}:=z;refine ED (hb W s1 B H1 _ G O) λu s2 z=>?_;let{y,H2,U,Y,Z}:=z;exact hf v u s2 x y H2 U r1 Y Z
def aF{op:Operator}(z:LK X (binaryOp op) r)(ha:PE X a ta)(hb:PE X b tb):PE X (.BinOp a op b pos) (tOp r ta tb):=by
 intro W s B H Q I h;exact wpAny_BinOp<|Jl ha hb I h λv u s2 x y H2 G O U q=>z W s2 B H2 x y v u Q G O U q
def Dj{op:UnaryOp}{r:V->Hp->VK->Prop}(z:UnR X (unaryOp op) r)(ha:PE X a ta):PE X (.UnaryOp op a pos) (tUn r ta):=by
 intro W s B H Q I h;exact UnaryOp_<|ED (ha W s B H _ I h) λv s1 zz=>by let{x,H1,G,r1,O}:=zz;exact z W s1 B H1 x v Q G r1 O
def opI{f:NF}{C:Int->Int->Prop} 
  (rule:∀(i j:Int)(t u:Tok)(s:He)(Q:Ng)(E:Ng),C i j->Q (.int (g i j) s.toks) {s with toks:=s.toks+1}->Wj X (f (.int i t)<|.int j u) Q E s):
  LK X f (rI C λi j=> .int<|g i j):=by
 intro W s B H x y v u Q I z G h;let{i,j,rfl,rfl,hc,q}:=h;let{t,rfl}:=z;let{t',rfl}:=G;exact rule i j t t' s _ _ hc {.int<|g i j,H,I.tok _,{_,M},q}
def opI0{f:NF} 
  (rule:∀(i j:Int)(t u:Tok)(s:He)(Q:Ng)(E:Ng),Q (.int (g i j) s.toks) {s with toks:=s.toks+1}->Wj X (f (.int i t)<|.int j u) Q E s):
  LK X f (Mc λi j=> .int<|g i j):=by
 intro W s B H x y v u Q I z G h;let{i,j,rfl,rfl,q}:=h;let{t,rfl}:=z;let{t',rfl}:=G;exact rule i j t t' s _ _ {.int<|g i j,H,I.tok _,{_,M},q}
def FT{f:NF}{g:Int->Int->Bool}
  (rule:∀(i j:Int)(t u:Tok)(s:He)(Q:Ng)(E:Ng),Q (.bool<|g i j) s->Wj X (f (.int i t)<|.int j u) Q E s):
  LK X f (Mc λi j=> .bl<|g i j):=by
 intro W s B H x y v u Q I z G h;let{i,j,rfl,rfl,q}:=h;let{t,rfl}:=z;let{t',rfl}:=G;exact rule i j t t' s _ _ {.bl<|g i j,H,I,M,q}
def CDiv(i j:Int):Prop:=0<j/\j<1073741824
def CPow(i j:Int):Prop:=0<=j/\j<=1000000/\i.natAbs<2^64
def Me(i j:Int):Prop:=(-(2^64)<i/\i<2^64)\/(-(2^64)<j/\j<2^64)
def Me.ok{i j:Int}(h:Me i j):IntMulOk i j:=by
 rcases h with⟨h1,h2⟩|⟨h1,h2⟩
 .exact .of_left<|intBits_le_64 h1 h2
 .exact .of_right<|intBits_le_64 h1 h2
def za(k:Nat):(0:Int)<=2^k:=by
 rw[two_pow_cast];exact ZX _
def bY:LK X (binaryOp .Add) (Mc λi j=> .int<|i+j):=opI0 λ_ _ _ _ _ _ _ q=>add_int q
def su:LK X (binaryOp .Sub) (Mc λi j=> .int<|i-j):=opI0 λ_ _ _ _ _ _ _ q=>sub_int q
def fX:LK X (binaryOp .Mult) (rI Me λi j=> .int<|i*j):=opI λ_ _ _ _ _ _ _ hc q=>mul_int q hc.ok
def eJ:LK X (binaryOp .FloorDiv) (rI CDiv λi j=> .int<|i/j):=opI λi j _ _ _ _ _ hc q=>by
 have h1:(0:Int)<j:=hc.1;have h2:j<1073741824:=hc.2;exact floordiv_int () (by rw[Vt i ()];exact q)<|.inl (PyProof.noPylong_small ())
def bG:LK X (binaryOp .Mod) (rI (λ_ j=>0<j) λi j=> .int<|i%j):=opI λi j _ _ _ _ _ hc q=>by
 have h1:(0:Int)<j:=hc;exact mod_int' ()<|by rw[Int.fmod_eq_emod_of_nonneg i ()];exact q
def zE:LK X (binaryOp .Pow) (rI CPow λi j=> .int<|i^j.toNat):=opI λ_ _ _ _ _ _ _ hc q=>pow_int_small hc.1 hc.2.1 hc.2.2 q
def Iv:LK X (binaryOp .RShift) (rI (λ_ j=>0<=j) λi j=> .int<|i/2^j.toNat):=opI λi j _ _ _ _ _ hc q=>
 rshift_int hc (by rw[Vt i (za _)];exact q)
def unI{f:Value->Sem Value}{g:Int->Int}
  (rule:∀(i:Int)(t:Tok)(s:He)(Q:Ng)(E:Ng),Q (.int (g i) s.toks) {s with toks:=s.toks+1}->Wj X (f<|.int i t) Q E s):
  UnR X f (rU λi=> .int<|g i):=by
 intro W s B H x v Q I z h;let{i,rfl,q}:=h;let{t,rfl}:=z;exact rule i t s _ _ {.int<|g i,H,I.tok _,{_,M},q}
def y9:UnR X (unaryOp .USub) (rU λi=> .int<|-i):=unI λ_ _ _ _ _ q=>neg_int q
end
noncomputable def scal:V->V->Bool
 | .non,.non=>true| .non,.int _=>true| .int _,.non=>true| .non,.bl _=>true| .bl _,.non=>true| .non,.str _=>true| .str _,.non=>true
 | .int _,.int _=>true| .bl _,.bl _=>true| .str _,.str _=>true| .byt _,.byt _=>true
 | .int _,.str _=>true| .str _,.int _=>true| .bl _,.str _=>true| .str _,.bl _=>true
 |_,_=>false
def rEq:R2:=λx y H Q=>scal x y=true/\Q (.bl<|decide (x=y)) H
def rNe:R2:=λx y H Q=>scal x y=true/\Q (.bl<|!decide (x=y)) H
def AW{i j:Int}:decide (V.int i=V.int j)=(i==j):=by
 rw[Xe];simp
def Ep{i j:Bool}:decide (V.bl i=V.bl j)=(i==j):=by
 rw[Xe];simp
def AV{i j:Str}:decide (V.str i=V.str j)=(i==j):=by
 rw[Xe];simp
def AX{i j:Array UInt8}:decide (V.byt i=V.byt j)=(i.toList==j.toList):=by
 rw[Xe];cases i;cases j;simp
section
variable{a b:Expr}{tb tc:TE}
def aU{Q:VK}{k k':Bool}(I:Inv X W B H s)(q:Q (.bl k) H)(e:k=k'):EP X W B Q (.bool k') s:=by
 subst e;exact{.bl k,H,I,M,q}
def eV:LK X (compareOp .Eq) rEq:=by
 intro W s B H x y v u Q I G z h;let{hs,q}:=h;cases x with
 |non=>
  cases G;cases y with
  |non=>cases z;exact PySem.EqNone.eq_none_none<|aU I q (by simp)
  |bl j=>cases z;exact PySem.EqNone.eq_none_bool<|aU I q (by simp)
  |int j=>let{t',rfl}:=z;exact PySem.EqNone.eq_none_int<|aU I q (by simp)
  |str j=>let{t',rfl}:=z;exact PySem.EqNone.eq_none_str<|aU I q (by simp)
  |_=>exact VE (show false=true from hs) Qa
 |bl i=>
  cases G;cases y with
  |non=>cases z;exact PySem.EqNone.eq_bool_none<|aU I q (by simp)
  |bl j=>cases z;exact eq_bool<|aU I q Ep
  |str j=>let{t',rfl}:=z;exact PySem.EqMixed.eq_bool_str<|aU I q (by simp)
  |_=>exact VE (show false=true from hs) Qa
 |int i=>
  let{t,rfl}:=G;cases y with
  |non=>cases z;exact PySem.EqNone.eq_int_none<|aU I q (by simp)
  |int j=>let{t',rfl}:=z;exact eq_int<|aU I q AW
  |str j=>let{t',rfl}:=z;exact PySem.EqMixed.eq_int_str<|aU I q (by simp)
  |_=>exact VE (show false=true from hs) Qa
 |str i=>
  let{t,rfl}:=G;cases y with
  |non=>cases z;exact PySem.EqNone.eq_str_none<|aU I q (by simp)
  |bl j=>cases z;exact PySem.EqMixed.eq_str_bool<|aU I q (by simp)
  |int j=>let{t',rfl}:=z;exact PySem.EqMixed.eq_str_int<|aU I q (by simp)
  |str j=>let{t',rfl}:=z;exact eq_str<|aU I q AV
  |_=>exact VE (show false=true from hs) Qa
 |byt i=>
  let{t,rfl}:=G;cases y with
  |byt j=>let{t',rfl}:=z;exact PySem.W.eq_bytes<|aU I q AX
  |_=>exact VE (show false=true from hs) Qa
 |_=>cases y<;>exact VE (show false=true from hs) Qa
def AA:LK X (compareOp .NotEq) rNe:=by
 intro W s B H x y v u Q I G z h;let{hs,q}:=h;cases x with
 |non=>
  cases G;cases y with
  |non=>cases z;exact PySem.EqNone.ne_none_none<|aU I q (by simp)
  |bl j=>cases z;exact PySem.EqNone.ne_none_bool<|aU I q (by simp)
  |int j=>let{t',rfl}:=z;exact PySem.EqNone.ne_none_int<|aU I q (by simp)
  |str j=>let{t',rfl}:=z;exact PySem.EqNone.ne_none_str<|aU I q (by simp)
  |_=>exact VE (show false=true from hs) Qa
 |bl i=>
  cases G;cases y with
  |non=>cases z;exact PySem.EqNone.ne_bool_none<|aU I q (by simp)
  |bl j=>cases z;exact ne_bool<|aU I q (VT not Ep)
  |str j=>let{t',rfl}:=z;exact PySem.EqMixed.ne_bool_str<|aU I q (by simp)
  |_=>exact VE (show false=true from hs) Qa
 |int i=>
  let{t,rfl}:=G;cases y with
  |non=>cases z;exact PySem.EqNone.ne_int_none<|aU I q (by simp)
  |int j=>let{t',rfl}:=z;exact ne_int<|aU I q (VT not AW)
  |str j=>let{t',rfl}:=z;exact PySem.EqMixed.ne_int_str<|aU I q (by simp)
  |_=>exact VE (show false=true from hs) Qa
 |str i=>
  let{t,rfl}:=G;cases y with
  |non=>cases z;exact PySem.EqNone.ne_str_none<|aU I q (by simp)
  |bl j=>cases z;exact PySem.EqMixed.ne_str_bool<|aU I q (by simp)
  |int j=>let{t',rfl}:=z;exact PySem.EqMixed.ne_str_int<|aU I q (by simp)
  |str j=>let{t',rfl}:=z;exact ne_str<|aU I q (VT not AV)
  |_=>exact VE (show false=true from hs) Qa
 |byt i=>
  let{t,rfl}:=G;cases y with
  |byt j=>let{t',rfl}:=z;exact PySem.W.ne_bytes<|aU I q (VT not AX)
  |_=>exact VE (show false=true from hs) Qa
 |_=>cases y<;>exact VE (show false=true from hs) Qa
def fY:LK X (compareOp .Lt) (Mc λi j=> .bl<|decide (i<j)):=FT λ_ _ _ _ _ _ _ q=>lt_int q
def nZ:LK X (compareOp .LtE) (Mc λi j=> .bl<|decide (i<=j)):=FT λ_ _ _ _ _ _ _ q=>le_int q
def Dq:LK X (compareOp .Gt) (Mc λi j=> .bl<|decide (j<i)):=FT λ_ _ _ _ _ _ _ q=>gt_int q
def vo:LK X (compareOp .GtE) (Mc λi j=> .bl<|decide (j<=i)):=FT λ_ _ _ _ _ _ _ q=>ge_int q
def BF:LK X (compareOp .In) (λx y H Q=>∃i j,x= .str i/\y= .str j/\Q (.bl<|!(Builtin.Str.occurrences j i 0 j.length 1).isEmpty) H):=by
 intro W s B H x y v u Q I z G h;let{i,j,rfl,rfl,q}:=h;let{t,rfl}:=z;let{t',rfl}:=G;exact in_str<|aU I q M
def g7:LK X (compareOp .Is) (λx y H Q=>y= .non/\Q (.bl<|decide (x= .non)) H):=by
 intro W s B H x y v u Q I z G h;let{rfl,q}:=h;cases G;refine is_none_gen<|aU I q ?_;cases x<;>first
  |(cases z;rfl)
  |(let{t,rfl}:=z;rfl)
def wQ:LK X (compareOp .IsNot) (λx y H Q=>y= .non/\Q (.bl<|!decide (x= .non)) H):=by
 intro W s B H x y v u Q I z G h;let{rfl,q}:=h;cases G;refine isnot_none_gen<|aU I q ?_;cases x<;>first
  |(cases z;rfl)
  |(let{t,rfl}:=z;rfl)
def aB(b:Expr)(h:op≠ .In:=by decide)(h2:op≠ .NotIn:=by decide):behindInMarks op b=false:=by
 have z:(op==CmpOp.In)=false:=by cases op<;>first|rfl|exact VE M h
 have e2:(op==CmpOp.NotIn)=false:=by cases op<;>first|rfl|exact VE M h2
 cases b with
 |Set x k y=>
  show(k==0&&(op== .In||op== .NotIn)&&_)=false;rw[z,e2,Bool.or_false,XJ,ZZ]
 |_=>rfl
def c6(z:LK X (compareOp op) r)(ha:PE X a ta)(hb:PE X b tb)(G:behindInMarks op b=false):PE X (.Compare a [op] [b] pos) (tOp r ta tb):=by
 intro W s B H Q I h;exact wpAny_Compare1 (Jl ha hb I h λv u s2 x y H2 O U Y q=>z W s2 B H2 x y v u Q O U Y q) G
inductive HL(Q:Bool->Hp->Prop)(x:V)(H':Hp):Prop
 |mk(k:_)(_:x= .bl k)(_:Q k H')
def GY(t:TE):TT:=λB H Q=>t B H λx H'=>HL Q x H'
def az(G:LK X (compareOp op) r)(ha:PE X a ta)(hb:PE X b tb)(O:behindInMarks op b=false):PT X (.Compare a [op] [b] pos) (GY<|tOp r ta tb):=by
 intro W s B H Q I h;refine wpAny_isTrue_Compare1 (ED (ha W s B H _ I h) λv s1 zz=>?_) O;let{x,H1,U,r1,Y}:=zz;refine ED (hb W s1 B H1 _ U Y) λu s2 zz=>?_;let{y,H2,Z,r2,q2}:=zz;refine ED (G W s2 B H2 x y v u _ Z r1 r2 q2) λc s3 zz=>?_;let{z,H3,I3,r3,k,e,q3}:=zz
 subst e;cases r3;exact VZ ⟨H3,I3,q3⟩
def CU(r r':R2)(ta tb tc:TE):TE:=λB H Q=>ta B H λx H1=>tb B H1 λy H2=>r x y H2 λz H3=>∃k,z= .bl k/\
 (if k=true then tc B H3 λw' H4=>r' y w' H4 Q else Q (.bl false) H3)
def Dl{G:CmpOp}{r':R2}(ho:LK X (compareOp op) r)(O:LK X (compareOp G) r')(ha:PE X a ta)(hb:PE X b tb)(hc:PE X c tc)
  (hm:lastMarks [op,G] [b,c]=false:=by with_unfolding_all rfl):PE X (.Compare a [op,G] [b,c] pos) (CU r r' ta tb tc):=by
 intro W s B H Q I h;refine Compare_chain (ED (ha W s B H _ I h) λv s1 zz=>?_) hm;let{x,H1,I1,r1,q1}:=zz;refine chain_link (ED (hb W s1 B H1 _ I1 q1) λu s2 zz=>?_);let{y,H2,I2,U,q2}:=zz;refine ED (ho W s2 B H2 x y v u _ I2 r1 U q2) λd s3 zz=>?_;let{z,H3,Y,r3,k,e,Z}:=zz
 subst e;cases r3;refine VZ ?_;cases k with
 |false=>exact ite_ff {.bl false,H3,Y,M,Z}
 |true=>exact ite_tt<|chain_last (ED (hc W s3 B H3 _ Y Z) λw' s4 zz=>by let{z',H4,I4,r4,q4}:=zz;exact O W s4 B H4 y z' u w' Q I4 U r4 q4)
def xT{G:CmpOp}{r':R2}(ho:LK X (compareOp op) r)(O:LK X (compareOp G) r')(ha:PE X a ta)(hb:PE X b tb)(hc:PE X c tc)
  (hm:lastMarks [op,G] [b,c]=false:=by with_unfolding_all rfl):PT X (.Compare a [op,G] [b,c] pos) (GY<|CU r r' ta tb tc):=by
 intro W s B H Q I h;refine isTrue_chain (ED (ha W s B H _ I h) λv s1 zz=>?_) hm;let{x,H1,I1,r1,q1}:=zz;refine test_link (ED (hb W s1 B H1 _ I1 q1) λu s2 zz=>?_);let{y,H2,I2,Y,q2}:=zz;refine ED (ho W s2 B H2 x y v u _ I2 r1 Y q2) λd s3 zz=>?_;let{z,H3,Z,r3,k,e,q3}:=zz
 subst e;cases r3;refine VZ ?_;cases k with
 |false=>
  let{k',e',q'}:=q3;cases e';exact ite_ff ⟨H3,Z,q'⟩
 |true=>
  refine ite_tt<|test_last (ED (hc W s3 B H3 _ Z q3) λw' s4 zz=>?_);let{z',H4,I4,r4,q4}:=zz;refine ED (O W s4 B H4 y z' u w' _ I4 Y r4 q4) λd' s5 U=>?_;let{z2,H5,I5,r5,k2,e2,q5}:=U;subst e2;cases r5;exact VZ ⟨H5,I5,q5⟩
def m4:(sizeLine:Nat)<2^63:=by rw[sizeLine_eq];decide
def fZ:LK X (binaryOp .Add) (λx y H Q=>∃i j,x= .str i/\y= .str j/\i.length+j.length<=sizeLine/\Q (.str<|i++j) H):=by
 intro W s B H x y v u Q I z G h;let{i,j,rfl,rfl,hz,q}:=h;let{t,rfl}:=z;let{t',rfl}:=G;exact add_str (λt' tk=>{.str<|i++j,H,I.tok _,{_,M},q}) hz
def jQ{x:V}(r:A7 [x] us):∃u,us=[u]/\RelV x u:=by
 cases r with
 |cons r1 z=>cases z;exact{_,M,r1}
def qY{x:V}(r:A7 [x,y] us):∃u w',us=[u,w']/\RelV x u/\RelV y w':=by
 cases r with
 |cons r1 z=>
  cases z with
  |cons G I=>cases I;exact{_,_,M,r1,G}
def vK(hc:X.calm=true):e6 X (.builtin "max") (λxs H Q=>∃i j,xs=[.int i,.int j]/\Q (.int<|if j>i then j else i) H):=by
 intro W s B H xs us Q I r h;let{i,j,rfl,q}:=h;let{u,w',rfl,{t,rfl},{t',rfl}}:=qY r;refine max_two_ints (I.ok.hd hc) λh' tk k=>{_,H,I.kept k,?_,q};by_cases z:j>i
 .rw[VA z,VA z];exact{_,M}
 .rw[Vz z,Vz z];exact{_,M}
def lL(hc:X.calm=true):e6 X (.builtin "min") (λxs H Q=>∃i j,xs=[.int i,.int j]/\Q (.int<|if j<i then j else i) H):=by
 intro W s B H xs us Q I r h;let{i,j,rfl,q}:=h;let{u,w',rfl,{t,rfl},{t',rfl}}:=qY r;refine min_two_ints (I.ok.hd hc) λh' tk k=>{_,H,I.kept k,?_,q};by_cases z:j<i
 .rw[VA z,VA z];exact{_,M}
 .rw[Vz z,Vz z];exact{_,M}
def xg:e6 X (.type "str") (λxs H Q=>∃i,xs=[.int i]/\i.natAbs.log2<1920/\Q (.str<|toString i) H):=by
 intro W s B H xs us Q I r h;let{i,rfl,hz,q}:=h;let{u,rfl,t,rfl}:=jQ r;exact PySem.P.str_of_int hz {.str _,H,I.tok _,{_,M},q}
end
structure MB(h:Heap)(x dx C:G')(mA:Nd):Prop where
 obj:h.get? x=some (PySem.W.instObj C dx)
 ns:h.Ns1 dx mA
 ne:dx≠x
set_option tactic.hygienic true in
def BR{mA:Nd}(n:h.Ns1 dx mA):∃od,h.get? dx=some od/\∀name,PySem.W.lookIn name od=some (mA name):=by
 let{o,es,ep,I,hd,hk,_,O}:=n;refine{o,I,λname=>?_};have e:=O name;unfold nsFind findBy at e;rw[<-Array.find?_toList]at e;unfold PySem.W.lookIn;rw[hd];dsimp only;split
 .rename_i y q
  rw[q]at e;exact VT some e
 .rename_i q
  rw[q]at e;have a:es.toList.any (·.refKey)=false:=by
   rw[List.any_eq_false];intro y hy;let{z,t,G}:=hk y (Array.mem_toList_iff.mp hy);simp[DictEntry.refKey,G]
  have a':¬es.toList.any (·.refKey)=true:=by rw[a];exact Qa
  rw[Vz a'];exact VT some e
def MB.look{x:G'}{mA:Nd}(I:MB h x dx C mA):∃od,PySem.W.InstAt h x (PySem.W.instObj C dx) C (some od)/\∀name,PySem.W.lookIn name od=some (mA name):=
 let⟨od,ho,hl⟩:=BR I.ns
 {od,⟨I.obj,M,M,ho⟩,hl}
section
variable{x:G'}{mA:Nd}{v:J'}
def Gq{z:Bool}(X:K.In s.heap)(I:MB s.heap x dx C mA)(O:PySem.W.plainGet K C name=true)(U:PySem.W.hasDictIn K C=true)
  (ha:PySem.W.findIn K (.ref C) name=some none) (Y:mA name=some v) (G:PySem.W.handedIn v=true) (h:Q v {s with toks:=s.toks+1}):
  wpAny (model prog w) A (getAttr (.ref x) name z) Q E s:=by
 let{od,J,hl}:=I.look;exact PySem.W.get_value X J (XU O).1 (PySem.W.findObj_own U ha M<|by rw[hl,Y]) G h
def Ea{pl:Sem Bool}{Q:Value×List Value->Shared->Prop}(X:K.In s.heap)(I:MB s.heap x dx C mA)(z:PySem.W.plainGet K C name=true)
  (hf:PySem.W.findIn K (.ref C) name=some (some<|.ref f)) (G:PySem.W.isFn K (.ref f)=true) (O:mA name=none) (h:Q (.ref f,[.ref x]) s):
  wpAny (model prog w) A (getMethod (.ref x) name pl) Q E s:=by
 let{od,J,hl}:=I.look;exact PySem.W.method_fn X J (XU z).1 (XU z).2 hf (VP.mp G) (by show(PySem.W.lookIn name od).map (·.isSome)=some false;rw[hl,O];rfl) h
def Fu{ns:Na}{Q:Nz}(X:K.In s.heap)(I:MB s.heap x dx C mA)
  (hs:PySem.W.findIn K (.ref C) "__setattr__"=some (some<|.builtin "object.__setattr__")) (hp:PySem.W.plainOver K C=true) (ht:PySem.W.takerIn K C name=some none) (hh:PySem.W.hasDictIn K C=true)
  (hw:PySem.Within mA ns) (hsz:ns.length<=sizeLine)
  (h:∀h',MB h' x dx C (λy=>if y=name then some v else mA y)->Heap.SameBut dx s.heap h'->Q Unit.unit {s with heap:=h',toks:=s.toks+2}):
  wpAny (model prog w) A (setAttr (.ref x) name v) Q E s:=by
 let{od,J,hl}:=I.look;refine PySem.W.set_plain X J hs<|PySem.W.osa_open (s:={s with toks:=s.toks+1}) (r:=none) X J hp ht λb=>?_;let{cd,hc,O}:=PySem.W.any_some hh;have hx:s.heap.get? x=some {.ref C,some dx,.plain, #[]}:=I.obj;refine VC<|VN (VC<|VC<|wpAny_loadPart hx<|VC<|PySem.W.Looks.here (s:={s with toks:=s.toks+1}) (PySem.W.looks_clsIn X hc) ?_);rw[O];refine VN (a:=some dx)<|VC (VN<|VC ?_);refine wpAny_nsSet1 (s:={s with toks:=s.toks+1}) I.ns λh' z G=>?_;let{oD,a0,a1,U,Y,Z}:=z.count (PySem.Within.cons name v hw);refine VC<|wpAny_lookBehind U (by rw[Y];exact pastItsLine_dict<|Qr Z<|by rw[Ql];lia) ?_;exact VN<|h _ {(G.2 _<|Ne.symm I.ne).trans I.obj,z,I.ne} G
def DM{vs:L'}(X:K.In s.heap)(z:PySem.W.makesIn K C=true)
  (hi:PySem.W.findIn K (.ref C) gt=some (some<|.ref f)) (hf:PySem.W.typeIn K (.ref f)=some (.type "function"))
  (h:codeAny (model prog w) (A.under<|.builtin ir {.ref C::vs,kw}) (.call (.ref f) {.ref (s.heap.objs.size+1)::vs,kw}) (PySem.W.InitBack (s.heap.objs.size+1) R)
   {s with heap:=(s.heap.push PySem.W.emptyDict).push (PySem.W.instObj C s.heap.objs.size)}):
  codeAny (model prog w) A (.call (.ref C) ⟨vs,kw⟩) R s:=by
 let{G,g,d,t,os}:=s;exact PySem.W.make_core (PySem.W.makes_of X z) (PySem.W.looks_findIn X hi) (λself=>PySem.W.bind_fn X self hf) (.inl M) h
end
def bR(f:Str)(v:V):List (Str×V)->List (Str×V)
 | []=> [(f,v)]
 |(g,x)::r=>if g=f then(g,v)::r else(g,x)::bR f v r
theorem aV(f g:Str)(v:V):∀fs:List (Str×V),(bR f v fs).lookup g=if g=f then some v else fs.lookup g
 | []=>by
  show List.lookup g [(f,v)]=_;by_cases h:g=f
  .have hb:(g==f)=true:=VP.mpr h;simp only[List.lookup,hb,VA h]
  .have hb:(g==f)=false:=VQ.mpr h;simp only[List.lookup,hb,Vz h]
 |(k,x)::r=>by
  have z:=aV f g v r;rw[show bR f v ((k,x)::r)=(if k=f then(k,v)::r else(k,x)::bR f v r) from rfl];by_cases hk:k=f
  .rw[VA hk];by_cases h:g=k
   .have hb:(g==k)=true:=VP.mpr h;simp only[List.lookup,hb,VA (h.trans hk)]
   .have hb:(g==k)=false:=VQ.mpr h;simp only[List.lookup,hb,Vz (λe:g=f=>h<|e.trans hk.symm)]
  .rw[Vz hk];by_cases h:g=k
   .have hb:(g==k)=true:=VP.mpr h;simp only[List.lookup,hb,Vz (λe:g=f=>hk<|h.symm.trans e)]
   .have hb:(g==k)=false:=VQ.mpr h;simp only[List.lookup,hb];exact z
theorem pP(f:Str)(v:V):∀fs:List (Str×V),f∈(bR f v fs).map (·.1)/\∀g,g∈fs.map (·.1)->g∈(bR f v fs).map (·.1)
 | []=>{by simp[bR],λg h=>by simp at h}
 |(k,x)::r=>by
  let{z,G}:=pP f v r;rw[show bR f v ((k,x)::r)=(if k=f then(k,v)::r else(k,x)::bR f v r) from rfl];by_cases hk:k=f
  .rw[VA hk];subst hk;exact{by simp,λg h=>by simpa using h}
  .rw[Vz hk];refine{?_,λg h=>?_}
   .rw[Qt];exact Q8 _ z
   .rw[Qt]at h⊢;rcases Qc.mp h with e|e
    .exact Qc.mpr<|.inl e
    .exact Q8 _<|G g e
theorem qi(f:Str)(v:V):∀fs:List (Str×V),(bR f v fs).length<=fs.length+1
 | []=>by simp[bR]
 |(k,x)::r=>by
  have z:=qi f v r;rw[show bR f v ((k,x)::r)=(if k=f then(k,v)::r else(k,x)::bR f v r) from rfl];by_cases hk:k=f
  .rw[VA hk,Ql,Ql];lia
  .rw[Vz hk,Ql,Ql];lia
def LD.some_of(r:LD (some v) o):∃u,o=some u/\RelV v u:=by
 cases o with
 |none=>exact(show False from r).elim
 |some u=>exact⟨u,M,r⟩
def LD.none_of(r:LD none o):o=none:=by
 cases o with
 |none=>rfl
 |some u=>exact(show False from r).elim
def B0(r:RelV v u):PySem.W.handedIn u=true:=by
 cases v with
 |non=>cases (show u=Value.none from r);rfl
 |bl b=>cases (show u=Value.bool b from r);rfl
 |int i=>let{t,e}:=(show ∃t,u=Value.int i t from r);cases e;rfl
 |str x=>let{t,e}:=(show ∃t,u=Value.str x t from r);cases e;rfl
 |byt b=>let{t,e}:=(show ∃t,u=Value.bytes b t from r);cases e;rfl
 |flt b=>let{t,e}:=(show ∃t,u=Value.float b t from r);cases e;rfl
 |ref a=>cases (show u=Value.ref a from r);rfl
 |ty n=>cases (show u=Value.type n from r);rfl
section
variable{fs fs':Nl}
def KZ(hok:KN P w H h)(e:H a=some (.ins C dx fs)):∃mA,MB h a dx C mA/\(∀f,LD (fs.lookup f) (mA f))/\PySem.Within mA (fs.map (·.1))/\fs.length<=1000/\H dx=some (.own a):=by
 let{d,z,G,ob,mA,n,r,q}:=(show E3 P w H h a (.ins C dx fs) from hok a _ e);exact{mA,⟨ob,n,G⟩,r,q,z,d}
end
structure Le(K:Wi)(C:G'):Prop where
 pg:PySem.W.plainGet K C Str.empty=true
 hd:PySem.W.hasDictIn K C=true
 po:PySem.W.plainOver K C=true
 sa:PySem.W.findIn K (.ref C) "__setattr__"=some (some<|.builtin "object.__setattr__")
def Le.get(c:Le K C)(f:Str):PySem.W.plainGet K C f=true:=c.pg
def E2(K:Wi)(C:G')(f:Str):Prop:=PySem.W.findIn K (.ref C) f=some none
def E2.taker{f:Str}(n:E2 K C f):PySem.W.takerIn K C f=some none:=by
 unfold PySem.W.takerIn;rw[show PySem.W.findIn K (.ref C) f=some none from n];rfl
structure cv(K:Wi)(C:G')(m:Str)(f:G'):Prop where
 at_:PySem.W.findIn K (.ref C) m=some (some<|.ref f)
 fn:PySem.W.isFn K (.ref f)=true
 kp:PySem.W.keepIn K (.ref f)=true
section
variable{fs:Nl}{f:Str}
def tj{b:Bool}(I:Inv X W B H s)(e:H a=some (.ins C dx fs))(c:Le X.K C)(n:E2 X.K C f)(l:fs.lookup f=some v)
  (h:∀u s',Inv X W B H s'->RelV v u->Q u s'):wpAny (model X.prog X.w) A (getAttr (.ref a) f b) Q E s:=by
 let{mA,O,r,_,_,_}:=KZ I.hok e;let{u,hu,z}:=LD.some_of (v:=v) (o:=mA f) (by rw[<-l];exact r f);exact Gq I.kIn O (c.get f) c.hd n hu (B0 z)<|h u _ (I.tok _) z
def jv{g:G'}{pl:Sem Bool}{Q:Value×List Value->Shared->Prop}(I:Inv X W B H s)(e:H a=some (.ins C dx fs))(c:Le X.K C)(k:cv X.K C m g)(l:fs.lookup m=none)
  (h:Q (.ref g,[.ref a]) s):wpAny (model X.prog X.w) A (getMethod (.ref a) m pl) Q E s:=by
 let{mA,O,r,_,_,_}:=KZ I.hok e;have z:mA m=none:=LD.none_of (by rw[<-l];exact r m);exact Ea I.kIn O (c.get m) k.at_ k.fn z h
def rL{Q:Nz}(I:Inv X W B H s)(e:H a=some (.ins C dx fs))(c:Le X.K C)(n:E2 X.K C f)(hl:fs.length<1000)(Y:RelV y u)
  (h:∀s',Inv X W B (upd H a<|.ins C dx<|bR f y fs) s'->Q Unit.unit s'):wpAny (model X.prog X.w) A (setAttr (.ref a) f u) Q E s:=by
 let{mA,O,r,wi,_,U}:=KZ I.hok e;have hz:(fs.map (·.1)).length<=sizeLine:=by rw[Q0,sizeLine_eq];lia
 refine Fu I.kIn O c.sa c.po n.taker c.hd wi hz λh' G Z=>h _ ?_;have hd:∃o,h'.get? dx=some o:=by let{o,_,_,e',_}:=G.ns;exact⟨o,e'⟩
 refine I.write (x:=a) (e:=dx) (by rw[e];exact VU) (.inr U) (λb q hb z=>(Z.2 b hb).trans z) hd ?_;refine{by rwa[ae O.ne],?_,O.ne,G.obj,_,G.ns,λg=>?_,λg hg=>?_}
 .have:=qi f y fs;lia
 .show LD ((bR f y fs).lookup g) (if g=f then some u else mA g);rw[aV];by_cases q:g=f
  .rwa[VA q,VA q]
  .rw[Vz q,Vz q];exact r g
 .by_cases q:g=f
  .rw[q];exact(pP f y fs).1
  .refine(pP f y fs).2 g<|wi g λz=>hg ?_;show(if g=f then some u else mA g)=none;rwa[Vz q]
def Inv.made(I:Inv X W B H s):Inv X W B (upd (upd H s.heap.objs.size<|.own<|s.heap.objs.size+1) (s.heap.objs.size+1)<|.ins C s.heap.objs.size [])
  {s with heap:=(s.heap.push PySem.W.emptyDict).push (PySem.W.instObj C s.heap.objs.size)}:=by
 have z:(s.heap.push PySem.W.emptyDict).get? s.heap.objs.size=some PySem.W.emptyDict:=VL s.heap M;have e2:((s.heap.push PySem.W.emptyDict).push<|PySem.W.instObj C s.heap.objs.size).get? (s.heap.objs.size+1)=some (PySem.W.instObj C s.heap.objs.size):=by
  have:=VL (s.heap.push PySem.W.emptyDict) (o:=PySem.W.instObj C s.heap.objs.size) M;rwa [Heap.size_push]at this
 have O:(s.heap.push PySem.W.emptyDict).Ns s.heap.objs.size (λ_=>none):={PySem.W.emptyDict, #[],_,z,M,(λe he=>VE he<|by simp),λ_=>M};have U:=I.laid (a:=s.heap.objs.size) (o:= .own<|s.heap.objs.size+1) (h':=s.heap.push PySem.W.emptyDict) (t':=s.toks) (λb u q=>VB _ q) (Q5 _) {_,z};refine U.laid (a:=s.heap.objs.size+1) (o:= .ins C s.heap.objs.size []) (t':=s.toks) (λb u q=>VB _ q) (QO<|Heap.size_push _ _) ?_;have G:s.heap.objs.size≠s.heap.objs.size+1:=Qz (ZM _);refine{by rw[ae G,ag],Qh _,G,e2,λ_=>none,(Heap.Ns1.of_empty O).at λo q=>VB _ q,λ_=>VU,λy hy=>VE M hy}
def GH{env:Env}{f:Str}(hb:attributeBase e f env (eval e env)=eval e env)
  (h:wpAny (model prog w) A (eval e env) (λo s₁=>wpAny (model prog w) A (getAttr o f true) Q E s₁) E s):wpAny (model prog w) A (eval (.Attribute e f pos) env) Q E s:=
 Attribute_any_ h (by rw[arm_eval_Attribute,hb])
end
inductive JH(K:Wi)(f:Str)(Q:VK)(x:V)(H1:Hp):Prop
 |mk(a C dx fs v:_)(_:x= .ref a)(_:H1 a=some (.ins C dx fs))(_:Le K C)(_:E2 K C f)(_:fs.lookup f=some v)(_:Q v H1)
def tFld(K:Wi)(ta:TE)(f:Str):TE:=λB H Q=>ta B H λx H1=>JH K f Q x H1
inductive JP(K:Wi)(f:Str)(D:iW)(B:St)(y x:V)(H2:Hp):Prop
 |mk(a C dx fs:_)(_:x= .ref a)(_:H2 a=some (.ins C dx fs))(_:Le K C)(_:E2 K C f)(_:fs.length<1000)(_:D.nx B (upd H2 a<|.ins C dx<|bR f y fs))
def sFld(K:Wi)(ta tv:TE)(f:Str):TS:=λD B H=>tv B H λy H1=>ta B H1 λx H2=>JP K f D B y x H2
def InOp(X:Cx)(op:Operator)(rd:V->V->Hp->VK->Prop):Prop:=
 ∀(W:Mv)(s:He)(B:St)(H:Hp)(x y:V)(u v:J')(Q:VK),Inv X W B H s->RelV x u->RelV y v->rd x y H Q->Wj X (inplaceOp op u v) (EP X W B Q) X.xe s
inductive C6(K:Wi)(tv:TE)(rd:V->V->Hp->VK->Prop)(f:Str)(D:iW)(B:St)(x:V)(H1:Hp):Prop
 |mk(a C dx fs v:_)(_:x= .ref a)(_:H1 a=some (.ins C dx fs))(_:Le K C)(_:E2 K C f)(_:fs.lookup f=some v)(_:tv B H1 λy H2=>rd v y H2 λz H3=>∃dx' fs',H3 a=some (.ins C dx' fs')/\fs'.length<1000/\D.nx B (upd H3 a<|.ins C dx'<|bR f z fs'))
def Fv(K:Wi)(ta tv:TE)(rd:V->V->Hp->VK->Prop)(f:Str):TS:=λD B H=>ta B H λx H1=>C6 K tv rd f D B x H1
section
variable{o value:Expr}{f:Str}{pos' tpos:Pos}{tv:TE}
def aC(he:PE X e ta)(hb:attributeBase e f X.env (eval e X.env)=eval e X.env):PE X (.Attribute e f pos) (tFld X.K ta f):=by
 intro W s B H Q I h;refine GH hb<|ED (he W s B H _ I h) λu s1 z=>?_;let{x,H1,G,O,a,C,dx,fs,v,ex,ea,c,n,l,q}:=z;subst ex;obtain rfl:u=Value.ref a:=O;exact tj G ea c n l λZ s2 U Y=>⟨v,H1,U,Y,q⟩
def cu(ha:PE X o ta)(G:PE X value tv)(hs:swapsWith value (some<|.Attribute o f pos') pos.line X.env=pure false):PS X (.Assign [.Attribute o f pos'] value pos) (sFld X.K ta tv f):=by
 intro W s B H D I h;refine plainObj_wpAny_Assign_Attribute (ED (G W s B H _ I h) λu s1 zz=>?_) hs;let{y,H1,O,U,q}:=zz;refine ED (ha W s1 B H1 _ O q) λY s2 z=>?_;let{x,H2,Z,rx,a,C,dx,fs,ex,ea,c,n,l,q2}:=z;subst ex;obtain rfl:Y=Value.ref a:=rx;exact rL Z ea c n l U λs3 I3=>{B,_,I3,q2}
def pE{op:Operator}(ha:PE X o ta)(U:PE X value tv)(O:InOp X op rd):PS X (.AugAssign (.Attribute o f tpos) op value pos) (Fv X.K ta tv rd f):=by
 intro W s B H D I h;refine wpAny_AugAssign_AttributeAny<|ED (ha W s B H _ I h) λY s1 G=>?_;let{x,H1,Z,rx,a,C,dx,fs,v,ex,ea,c,n,l,q}:=G;subst ex;obtain rfl:Y=Value.ref a:=rx;refine tj Z ea c n l λu s2 I2 ru=>ED (U W s2 B H1 _ I2 q) λw3 s3 zz=>?_;let{y,H2,I3,ry,q3}:=zz;refine ED (O W s3 B H2 v y u w3 _ I3 ru ry q3) λw4 s4 G=>?_;let{z,H3,I4,rz,a0,fs',ea',l',q4}:=G;exact rL I4 ea' c n l' rz λs5 I5=>{B,_,I5,q4}
inductive rAdd(x y:V)(H:Hp)(Q:VK):Prop
 |mk(i j:_)(_:x= .int i)(_:y= .int j)(_:Q (.int<|i+j) H)
def zQ:InOp X .Add rAdd:=by
 rintro W s B H x y u v Q I z G ⟨i,j,rfl,rfl,q⟩;let{t,rfl}:=(show ∃t,u=Value.int i t from z);let{t',rfl}:=(show ∃t',v=Value.int j t' from G);exact PyProof.Rows.iadd_int {.int<|i+j,H,I.tok _,{_,M},q}
end
section
variable{c:J'}{b:Bool}
inductive KD(K:Wi)(H:Hp):V->Value->Prop where
 |non:KD K H .non (.type "NoneType")
 |bl(x:Bool):KD K H (.bl x) (.type "bool")
 |int(i:Int):KD K H (.int i) (.type nX)
 |str(x:Str):KD K H (.str x) (.type "str")
 |flt(x:UInt64):KD K H (.flt x) (.type "float")
 |lst{a:G'}{xs:K'}(e:H a=some (.lst xs)):KD K H (.ref a) (.type eR)
 |frz{a:G'}{o:Obj}{xs:K'}(e:H a=some (.frz o<|.lst xs)):KD K H (.ref a) (.type eR)
 |tup{a:G'}{xs:K'}(e:H a=some (.tup xs)):KD K H (.ref a) (.type i3)
 |dK{a:G'}{kvs:Nu}(e:H a=some (.dK kvs)):KD K H (.ref a) (.type "dict")
 |dT{a:G'}{kvs:Nw}(e:H a=some (.dT kvs)):KD K H (.ref a) (.type "dict")
 |ins{a C dx:G'}{fs:Nl}(e:H a=some (.ins C dx fs))(cl:Le K C)(ha:PySem.W.findIn K (.ref C) "__class__"=some (some<|.builtin hL))
   (hn:PySem.W.specialIn K (.builtin hL) "__get__"=some (some<|.builtin "getset_descriptor.__get__")) (htk:PySem.W.takesIn K (.builtin hL)=some true)
   (hm:PySem.W.mroIn K C (.type "object")=some true):KD K H (.ref a) (.ref C)
def vD{x:V}{t:J'}(I:Inv X W B H s)(G:RelV x u)(ty:KD X.K H x t)(e:PySem.W.kitOne X.K t c=some b)(h:∀tk,Q (.bool b) {s with toks:=tk}):
  wpAny (model X.prog X.w) A (call (.builtin "isinstance") [u,c]) Q E s:=by
 cases ty with
 |non=>cases (show u=Value.none from G);exact Z4 PySem.W.kitx_none I.kIn VU e (λz=>nomatch z) h
 |bl y=>cases (show u=Value.bool y from G);exact Z4 PySem.W.kitx_bool I.kIn VU e (λz=>nomatch z) h
 |int i=>let{t,q}:=(show ∃t,u=Value.int i t from G);cases q;exact Z4 PySem.W.kitx_int I.kIn VU e (λz=>nomatch z) h
 |str y=>let{t,q}:=(show ∃t,u=Value.str y t from G);cases q;exact Z4 PySem.W.kitx_str I.kIn VU e (λz=>nomatch z) h
 |flt y=>let{t,q}:=(show ∃t,u=Value.float y t from G);cases q;exact Z4 PySem.W.kitx_float I.kIn VU e (λz=>nomatch z) h
 | @lst a xs ea=>
  cases (show u=Value.ref a from G);let{_,_,n,_,h1}:=(show E3 X.prog X.w H s.heap a (.lst xs) from I.hok a _ ea);exact Z4 PySem.W.kitx_list I.kIn {_,h1,M} e (λz=>nomatch z) h
 | @frz a ob xs ea=>
  cases (show u=Value.ref a from G);let{_,_,_,n,_,h1}:=(show E3 X.prog X.w H s.heap a (.frz ob<|.lst xs) from I.hok a _ ea);exact Z4 PySem.W.kitx_list I.kIn {_,h1,M} e (λz=>nomatch z) h
 | @tup a xs ea=>
  cases (show u=Value.ref a from G);let{_,_,_,p}:=(show E3 X.prog X.w H s.heap a (.tup xs) from I.hok a _ ea);let{o,h1,h2,_}:=p;exact Z4 PySem.W.kitx_tuple I.kIn ⟨o,h1,h2⟩ e (λz=>nomatch z) h
 | @dK a kvs ea=>
  cases (show u=Value.ref a from G);let{_,_,vs,_,p}:=(show E3 X.prog X.w H s.heap a (.dK kvs) from I.hok a _ ea);let{o,es,ep,h1,h2,_}:=p;exact Z4 PySem.W.kitx_dict I.kIn ⟨o,h1,h2.1⟩ e (λz=>nomatch z) h
 | @dT a kvs ea=>
  cases (show u=Value.ref a from G);let{_,_,xs,_,o,es,ep,h1,h2,_}:=(show E3 X.prog X.w H s.heap a (.dT kvs) from I.hok a _ ea);exact Z4 PySem.W.kitx_dict I.kIn ⟨o,h1,h2.1⟩ e (λz=>nomatch z) h
 | @ins a C dx fs ea cl ha Y U Z=>
  cases (show u=Value.ref a from G);let{mA,O,_}:=KZ I.hok ea;let{od,J,_}:=O.look;exact Z4 (PySem.W.kitx_own (cl.get _) cl.hd ha Y U Z) I.kIn J e (λz=>nomatch z) h
end
structure K7(k:Nat)(A:Nh):Prop where
 hd:A.handled=none
 dp:A.depth+3*k+5<recursionLimit
 un:A.units+16*k+200<cLine
def K7.mono{k:Nat}(r:K7 k A)(h:j<=k):K7 j A:={r.hd,by have:=r.dp;lia,by have:=r.un;lia}
def K7.deeper{k:Nat}(r:K7 (k+1) A)(env:Env):K7 k (A.deeper env):=
 {r.hd,by have:=r.dp;show A.depth+1+3*k+5<_;lia,by have:=r.un;show A.units+3+16*k+200<_;lia}
def K7.in1{k:Nat}(r:K7 (k+1) A):K7 k A.in1:=
 {r.hd,by have:=r.dp;show A.depth+3*k+5<_;lia,by have:=r.un;show A.units+1+16*k+200<_;lia}
def zN:(A.under<|.builtin ir {.ref C::us,kw}).depth=A.depth+1:=by
 first|rfl|simp[Around.under,Code.weight,Code.isCreation,Code.isGuard,Code.isCaller,Code.frames,Code.isFrame,guardIds]
def zM:(A.under<|.builtin ir {.ref C::us,kw}).units=A.units+1:=by
 first|rfl|simp[Around.under,Code.cUnits,Code.frames,Code.isFrame]
def K7.make{k:Nat}(r:K7 (k+1) A)(C:G')(us:L')(kw:NC):K7 k (A.under<|.builtin ir {.ref C::us,kw}):=
 {r.hd,by have:=r.dp;rw[zN];lia,by have:=r.un;rw[zM];lia}
def K7.depth{k:Nat}(r:K7 k A):A.depth<recursionLimit:=by have:=r.dp;lia
def K7.units{k:Nat}(r:K7 k A):A.units+64<cLine:=by have:=r.un;lia
def Bs:TA:=λ_ H Q=>Q [] H
def Ao(ta:TE)(tr:TA):TA:=λB H Q=>ta B H λx H1=>tr B H1 λxs H2=>Q (x::xs) H2
section
variable{t:TA}
def af:PA X [] Bs:=λ_ _ _ _ H Q I h=>Calls.spliced_nil {[],H,I,.nil,h}
def aa(ha:PE X e te)(G:PA X es t)(hs:starEach (e::es) X.env=(false,eval e X.env)::starEach es X.env:=by rfl):PA X (e::es) (Ao te t):=by
 intro pos W s B H Q I h;rw[hs];show wpAny _ _ (spliced ((false,eval e X.env)::backTo pos (starEach es X.env))) _ _ s;refine Calls.spliced_cons<|ED (ha W s B H _ I h) λu s1 z=>?_;let{x,H1,O,r1,U}:=z;exact ED (G pos W s1 B H1 _ O U) λus s2 zz=>by let{xs,H2,Y,Z,q2}:=zz;exact{x::xs,H2,Y,.cons r1 Z,q2}
def tTup(t:TA):TE:=λB H Q=>t B H λxs H1=>xs.length<=sizeLine/\∀p,H1 p=none->Q (.ref p) (upd H1 p<|.tup xs)
def tLst(t:TA):TE:=λB H Q=>t B H λxs H1=>xs.length<=sizeLine/\∀p,H1 p=none->Q (.ref p) (upd H1 p<|.lst xs)
def db{x1}(h:PA X es t):PE X (.Tuple es x1 pos) (tTup t):=by
 intro W s B H Q I hq;refine wpAny_Tuple_spliced<|ED (h pos W s B H _ I hq) λus s1 zz=>?_;let{xs,H1,G,r,z,q}:=zz;refine{by rwa[<-r.length],?_};have hf:H1 s1.heap.objs.size=none:=G.hok.fresh (Q5 _);refine{.ref s1.heap.objs.size,upd H1 s1.heap.objs.size<|.tup xs,G.laid (t':=s1.toks) (λb u e=>VB _ e) (Q5 _) ?_,M,q _ hf};exact{z,us,r,{_,VL _ M,M,_,M}}
def de(h:PA X es t):PE X (.List es pos) (tLst t):=by
 intro W s B H Q I hq;refine wpAny_List_spliced<|ED (h pos W s B H _ I hq) λus s1 zz=>?_;let{xs,H1,G,r,z,q}:=zz;refine{by rwa[<-r.length],?_};have hf:H1 s1.heap.objs.size=none:=G.hok.fresh (Q5 _);refine{.ref s1.heap.objs.size,upd H1 s1.heap.objs.size<|.lst xs,G.laid (t':=s1.toks) (λb u e=>VB _ e) (Q5 _) ?_,M,q _ hf};exact{z,us,0,r,VL _ M}
end
abbrev Sp:=List V->Hp->VK->XK->Prop
abbrev CXT:=List Env->Hp->Shared->XK->Value->Shared->Prop
structure Lf(P:Mz)(w:Nb)(K:Wi)(mg:Nd)(base:Heap)(A:Nh)(outer:Nk)(s:He)(H:Hp):Prop where
 frames:A.frames=some outer
 mod:Mod K mg base
 bs:∀b o,base.get? b=some o->s.heap.get? b=some o/\H b=none
 bsz:base.objs.size<=s.heap.objs.size
 funs:s.heap.FunFrames base outer
 frf:∀b∈LR outer,H b=none
 hok:KN P w H s.heap
 bare:AllBare s.gens
def CE(outer:Nk)(P:Mz)(w:Nb)(H:Hp)(s:He)(Q:VK)(u:J')(s':He):Prop:=
 ∃v H',s'.os=s.os/\AllBare s'.gens/\Un (LR outer) [] H H' s.heap s'.heap/\KN P w H' s'.heap/\RelV v u/\Q v H'
def CR(CX:CXT)(outer:Nk)(P:Mz)(w:Nb)(H:Hp)(s:He)(Q:VK)(E:XK)(r:Result)(s':He):Prop:=
 match r with
 | .ok (.ret u)=>CE outer P w H s Q u s'
 | .ok _=>False
 | .error e=>CX outer H s E e s'
structure AZ(P:Mz)(w:Nb)(K:Wi)(mg:Nd)(base:Heap)(CX:CXT)(k:Nat)(f:G')(fd:Nj)(ps:Na)(sp:Sp):Prop where
 len:∀vs H Q E,sp vs H Q E->vs.length=ps.length
 run:∀(A:Nh)(outer:Nk)(s:He)(H:Hp)(args:Args)(us:L')(vs:K')(Q:VK)(E:XK),K7 k A->Lf P w K mg base A outer s H->BindsTo s fd args (ps.zip us)->A7 vs us->sp vs H Q E->
  codeAny (model P w) A (.call (.ref f) args) (CR CX outer P w H s Q E) s
def AZ.mono{mg:Nd}{k:Nat}(F:AZ P w K mg base CX j f fd ps sp)(h:j<=k):
  AZ P w K mg base CX k f fd ps sp:={F.len,λA outer s H args us vs Q E z=>F.run A outer s H args us vs Q E<|z.mono h}
def Lf.make{mg:Nd}(e:Lf P w K mg base A outer s H)(C:G')(us:L')(kw:NC):
  Lf P w K mg base (A.under<|.builtin ir {.ref C::us,kw}) outer s H:={by first|exact e.frames|(simpa[Around.under,Code.envs,Code.isFrame,pushEnvs]using e.frames),e.mod,e.bs,e.bsz,e.funs,e.frf,e.hok,e.bare}
def Lf.in1{mg:Nd}(e:Lf P w K mg base A outer s H):
  Lf P w K mg base A.in1 outer s H:=⟨e.frames,e.mod,e.bs,e.bsz,e.funs,e.frf,e.hok,e.bare⟩
def Inv.env0(I:Inv X W B H s):Lf X.prog X.w X.K X.mg X.base X.A X.stack s H:=
 {I.ok.frames,I.ok.mod,I.bs,Qr I.ok.bsz I.sz,I.stack,I.stkFree,I.hok,I.bare}
def Inv.after{Q:VK}(I:Inv X W B H s)(h:CE X.stack X.prog X.w H s Q u s'):EP X W B Q u s':=by
 let{v,H',os,bare,un,hok,r,q}:=h;let{O,g,d,t,G}:=s';obtain rfl:G=s.os:=os;exact{v,H',I.call (h':=O) (g':=g) (d':=d) (t':=t) (ch:=[]) un hok bare<|λb z=>VE z (by simp),r,q}
def G3(sp:Sp)(dvs:K')(E:XK)(t:TA):TE:=λB H Q=>t B H λvs H1=>sp (vs++dvs) H1 Q E
inductive HN(C:G')(m:Str)(sp:Sp)(dvs:K')(E:XK)(t:TA)(B:St)(Q:VK)(x:V)(H1:Hp):Prop
 |mk(a dx fs:_)(_:x= .ref a)(_:H1 a=some (.ins C dx fs))(_:fs.lookup m=none)(_:t B H1 λvs H2=>sp (x::(vs++dvs)) H2 Q E)
def G0(C:G')(m:Str)(sp:Sp)(dvs:K')(E:XK)(ta:TE)(t:TA):TE:=λB H Q=>ta B H λx H1=>HN C m sp dvs E t B Q x H1
def G1(C:G')(sp:Sp)(dvs:K')(E:XK)(t:TA):TE:=λB H Q=>t B H λvs H1=>∀x dx,H1 x=none->H1 dx=none->dx≠x->
 sp (.ref x::(vs++dvs)) (upd (upd H1 dx<|.own x) x<|.ins C dx []) (λv H2=>v= .non/\Q (.ref x) H2) E
def Binds(K:Wi)(fd:Nj)(ps:Na)(ds:L'):Prop:=
 ∀(s:He)(us:L'),K.In s.heap->(us++ds).length=ps.length->BindsTo s fd {us,[]} (ps.zip<|us++ds)
def Binds.all(h:∀us:List Value,us.length=ps.length->bindArgs fd {us,[]}=pure (ps.zip us)):Binds K fd ps []:=λs us _ hl=>by
 rw[ZE]at hl⊢;exact .of_eq<|h us hl
def gw(CX:CXT)(X:Cx)(E:XK):Prop:=∀(W:Mv)(B:St)(H:Hp)(s:He)(e:J')(s':He),Inv X W B H s->CX X.stack H s E e s'->X.xe e s'
section
variable{k:Nat}{dvs:K'}{ds:L'}{E:XK}{apos:Pos}{o:Expr}{t:TA}
def pB{Q:VK}(F:AZ X.prog X.w X.K X.mg X.base CX k f fd ps sp)(G:K7 k X.A)(hb:Binds X.K fd ps ds)(hd:A7 dvs ds)(hx:gw CX X E)
  (I:Inv X W B H s) (r:A7 vs us) (h:sp (vs++dvs) H Q E):Wj X (call (.ref f) us) (EP X W B Q) X.xe s:=by
 have z:A7 (vs++dvs) (us++ds):=r.append hd;have hl:(us++ds).length=ps.length:=by rw[<-z.length];exact F.len _ _ _ _ h
 refine wpAny_call<|codeAny_mono (F.run X.A X.stack s H {us,[]} (us++ds) (vs++dvs) Q E G I.env0 (hb s us I.kIn hl) z h) λr s' hq=>?_;cases r with
 |error e=>exact hx W B H s e s' I hq
 |ok fl=>
  cases fl with
  |ret u=>exact I.after hq
  |next=>exact False.elim hq
  |brk=>exact False.elim hq
  |cont=>exact False.elim hq
def au(F:AZ X.prog X.w X.K X.mg X.base CX k f fd ps sp)(U:K7 k X.A)(Y:Gl X x)(Z:X.mg x=some (.ref f))(hk:PySem.W.keepIn X.K (.ref f)=true)(hb:Binds X.K fd ps ds)(hd:A7 dvs ds)(hx:gw CX X E)
  (ha:PA X (e::es) t) (z:(x==(fx:Str))=false:=by decide) (he:starEach (e::es) X.env=(false,eval e X.env)::starEach es X.env:=by rfl) (G:(backTo pos<|starEach es X.env).any (·.1)=false:=by rfl):
  PE X (.Call (.Name x p) (e::es) [] pos) (G3 sp dvs E t):=by
 intro W s B H Q I h;refine W3<|gK I Y Z ?_ z;refine Zn (h₀:=X.base) I.ok.mod.kin hk (ED (ha pos W s B H _ I h) λus s1 zz=>?_) he G;let{vs,H1,O,r,q}:=zz;refine{O.kIn,?_};exact pB F U hb hd hx O r q
def a9{pl:Sem Bool}(he:PE X o ta)(c:Le X.K C)(U:cv X.K C m f)(F:AZ X.prog X.w X.K X.mg X.base CX k f fd ps sp)(hr:K7 k X.A)(hb:Binds X.K fd ps ds)(hd:A7 dvs ds)(hx:gw CX X E)(ha:PA X (e::es) t)
  (z:starEach (e::es) X.env=(false,eval e X.env)::starEach es X.env:=by rfl) (G:(backTo pos<|starEach es X.env).any (·.1)=false:=by rfl)
  (ht:eval (.Call (.Attribute o m apos) (e::es) [] pos) X.env=(do
   let ov<-eval o X.env
   standAt apos.atName
   let(f,first)<-holding [ov] (getMethod ov m pl)
   callWith pos f first (backTo pos<|starEach (e::es) X.env) (backToKw pos<|keywordEach [] X.env)):=by rfl):
  PE X (.Call (.Attribute o m apos) (e::es) [] pos) (G0 C m sp dvs E ta t):=by
 intro W s B H Q I h;refine ZG (pl:=pl) (ED (he W s B H _ I h) λu s1 O=>?_) ht;let{x,H1,Y,rx,a,dx,fs,ex,ea,l,q}:=O;subst ex;obtain rfl:u=Value.ref a:=rx;refine jv Y ea c U l ?_;refine Zn (first:=[.ref a]) (h₀:=X.base) I.ok.mod.kin U.kp (ED (ha pos W s1 B H1 _ Y q) λus s2 zz=>?_) z G;let{vs,H2,Z,r,q2}:=zz;refine{Z.kIn,?_};exact pB (us:= .ref a::us) (vs:= .ref a::vs) F hr hb hd hx Z (.cons M r) q2
def nY{pl:Sem Bool}(he:PE X o ta)(c:Le X.K C)(O:cv X.K C m f)(F:AZ X.prog X.w X.K X.mg X.base CX k f fd ps sp)(U:K7 k X.A)(hb:Binds X.K fd ps ds)(hd:A7 dvs ds)(hx:gw CX X E)
  (Y:eval (.Call (.Attribute o m apos) [] [] pos) X.env=(do
   let ov<-eval o X.env
   standAt apos.atName
   let(f,first)<-holding [ov] (getMethod ov m pl)
   callWith pos f first (backTo pos<|starEach [] X.env) (backToKw pos<|keywordEach [] X.env)):=by rfl):
  PE X (.Call (.Attribute o m apos) [] [] pos) (G0 C m sp dvs E ta Bs):=by
 intro W s B H Q I h;refine ZG (pl:=pl) (ED (he W s B H _ I h) λu s1 z=>?_) Y;let{x,H1,G,Z,a,dx,fs,ex,ea,l,q}:=z;subst ex;obtain rfl:u=Value.ref a:=Z;refine jv G ea c O l ?_;exact XV (first:=[.ref a]) G.kIn O.kp (pB (us:=[.ref a]) (vs:=[.ref a]) F U hb hd hx G (.cons M .nil) q)
structure Mk(K:Wi)(C f:G'):Prop where
 makes:PySem.W.makesIn K C=true
 init:PySem.W.findIn K (.ref C) gt=some (some<|.ref f)
 fn:PySem.W.isFn K (.ref f)=true
 kp:PySem.W.keepIn K (.ref C)=true
def xQ{Q:VK}(M':Mk X.K C f)(F:AZ X.prog X.w X.K X.mg X.base CX k f fd ps sp)(U:K7 (k+1) X.A)(hb:Binds X.K fd ps ds)(hd:A7 dvs ds)
  (hx:gw CX X E) (I:Inv X W B H s) (r:A7 vs us)
  (h:∀x dx,H x=none->H dx=none->dx≠x->sp (.ref x::(vs++dvs)) (upd (upd H dx<|.own x) x<|.ins C dx []) (λv H2=>v= .non/\Q (.ref x) H2) E):
  Wj X (call (.ref C) us) (EP X W B Q) X.xe s:=by
 have hq:=h (s.heap.objs.size+1) s.heap.objs.size (I.hok.fresh<|QX _) (I.hok.fresh<|Q5 _) (Qz<|ZM _);have G:=Inv.made (C:=C) I;have O:A7 (V.ref (s.heap.objs.size+1)::(vs++dvs)) (Value.ref (s.heap.objs.size+1)::(us++ds)):= .cons M (r.append hd);have hl:(Value.ref (s.heap.objs.size+1)::us++ds).length=ps.length:=by
  have e:=O.length;rw[F.len _ _ _ _ hq]at e;exact e.symm
 refine wpAny_call (DM (f:=f) I.kIn M'.makes M'.init (VP.mp M'.fn) (codeAny_mono (F.run _ X.stack _ _ {Value.ref (s.heap.objs.size+1)::us,[]} (Value.ref (s.heap.objs.size+1)::(us++ds)) _ _ E (U.make C us [])
  (G.env0.make C us []) (hb _ (Value.ref (s.heap.objs.size+1)::us) G.kIn hl) O hq) λr s' z=>?_))
 cases r with
 |error e=>exact hx W B _ _ e s' G z
 |ok fl=>
  cases fl with
  |ret u=>
   let{v,H',Y,rv,Z,q3}:=G.after z;subst Z;exact{rv,{V.ref<|s.heap.objs.size+1,H',Y,M,q3}}
  |next=>exact False.elim z
  |brk=>exact False.elim z
  |cont=>exact False.elim z
def lC(M':Mk X.K C f)(F:AZ X.prog X.w X.K X.mg X.base CX k f fd ps sp)(U:K7 (k+1) X.A)(Y:Gl X x)(Z:X.mg x=some (.ref C))(hb:Binds X.K fd ps ds)(hd:A7 dvs ds)(hx:gw CX X E)
  (ha:PA X (e::es) t) (z:(x==(fx:Str))=false:=by decide) (he:starEach (e::es) X.env=(false,eval e X.env)::starEach es X.env:=by rfl) (G:(backTo pos<|starEach es X.env).any (·.1)=false:=by rfl):
  PE X (.Call (.Name x p) (e::es) [] pos) (G1 C sp dvs E t):=by
 intro W s B H Q I h;refine W3<|gK I Y Z ?_ z;refine Zn (h₀:=X.base) I.ok.mod.kin M'.kp (ED (ha pos W s B H _ I h) λus s1 zz=>?_) he G;let{vs,H1,O,r,q}:=zz;refine{O.kIn,?_};exact xQ M' F U hb hd hx O r q
def fW(M':Mk X.K C f)(F:AZ X.prog X.w X.K X.mg X.base CX k f fd ps sp)(G:K7 (k+1) X.A)(O:Gl X x)(U:X.mg x=some (.ref C))(hb:Binds X.K fd ps ds)(hd:A7 dvs ds)(hx:gw CX X E)
  (z:(x==(fx:Str))=false:=by decide):PE X (.Call (.Name x p) [] [] pos) (G1 C sp dvs E Bs):=by
 intro W s B H Q I h;refine W3<|gK I O U ?_ z;exact XV I.kIn M'.kp<|xQ (us:=[]) M' F G hb hd hx I .nil h
end
structure ao(N P:Na)(sc:Scope):Prop where
 kind:sc.kind= .function
 co:sc.isCoroutine=false
 gen:sc.isGenerator=false
 nd:N.Nodup
 pre:N.take P.length=P
 par:∀x∈P,sc.names.lookup x=some .local\/sc.names.lookup x=some .cell
 nofree:∀y∈sc.names,y.2≠ .free
theorem vL{kindOf:Str->Option NameKind}{x:Str}:∀{z:NC}{m:Nd},(∀v,(x,v)∉z)->bindL kindOf z m x=m x
 | [],_,_=>rfl
 |(n,v)::r,m,h=>by
  unfold bindL;rw[vL λw hw=>h w (Q8 _ hw)];split
  .have:x≠n:=by rintro rfl;exact h v Q7
   simp[this]
  .rfl
theorem vN{kindOf:Str->Option NameKind}{x:Str}:∀{z:NC}{m:Nd},(∀v,(x,v)∉z)->bindC kindOf z m x=m x
 | [],_,_=>rfl
 |(n,v)::r,m,h=>by
  unfold bindC;rw[vN λw hw=>h w (Q8 _ hw)];split
  .rfl
  .have:x≠n:=by rintro rfl;exact h v Q7
   simp[this]
theorem vM{kindOf:Str->Option NameKind}{x:Str}{v:J'}:∀{P:Na}{vs:L'}{i:Nat}{m:Nd},P.Nodup->P[i]?=some x->vs[i]?=some v->kindOf x=some .local->
  bindL kindOf (P.zip vs) m x=some v
 | [],_,_,_,_,h,_,_=>by simp at h
 |_::_,[],_,_,_,_,h,_=>by simp at h
 |p::P,w::vs,0,m,nd,h1,h2,hk=>by
  simp at h1 h2;subst h1;subst h2;show bindL kindOf ((p,w)::P.zip vs) m p=_;unfold bindL;rw[vL λv z=>(Z9.mp nd).1 (XA z).1,VA hk];simp
 |p::P,w::vs,i+1,m,nd,h1,h2,hk=>by
  show bindL kindOf ((p,w)::P.zip vs) m x=_;unfold bindL;exact vM (i:=i) (Z9.mp nd).2 (by simpa using h1) (by simpa using h2) hk
theorem vO{kindOf:Str->Option NameKind}{x:Str}{v:J'}:∀{P:Na}{vs:L'}{i:Nat}{m:Nd},P.Nodup->P[i]?=some x->vs[i]?=some v->kindOf x≠some .local->
  bindC kindOf (P.zip vs) m x=some v
 | [],_,_,_,_,h,_,_=>by simp at h
 |_::_,[],_,_,_,_,h,_=>by simp at h
 |p::P,w::vs,0,m,nd,h1,h2,hk=>by
  simp at h1 h2;subst h1;subst h2;show bindC kindOf ((p,w)::P.zip vs) m p=_;unfold bindC;rw[vN λv z=>(Z9.mp nd).1 (XA z).1,Vz hk];simp
 |p::P,w::vs,i+1,m,nd,h1,h2,hk=>by
  show bindC kindOf ((p,w)::P.zip vs) m x=_;unfold bindC;exact vO (i:=i) (Z9.mp nd).2 (by simpa using h1) (by simpa using h2) hk
def start(N:Na)(vs:K'):St:=vs.map some++List.replicate (N.length-vs.length) none
def kQ(CX:CXT)(P:Mz)(w:Nb)(K:Wi)(mg:Nd)(base:Heap)(N:Na)(qual:Str)(scope:Scope)(f:G')(cd:J')(A:Nh)(outer:Nk)(s:He)(H:Hp)(E:XK):Cx where
 prog:=P
 w:=w
 K:=K
 mg:=mg
 base:=base
 A:=A.deeper (envOfC qual scope s.heap.objs.size f cd)
 N:=N
 s₀:=s
 H₀:=H
 env:=envOfC qual scope s.heap.objs.size f cd
 outer:=outer
 stack:=envOfC qual scope s.heap.objs.size f cd::outer
 ex:=[]
 calm:=true
 fn:=λ_=>true
 pn:=[]
 xe:=λe s'=>wpAny (model P w) (A.deeper<|envOfC qual scope s.heap.objs.size f cd) (leaving (envOfC qual scope s.heap.objs.size f cd) e) (λ_ s''=>CX outer H s E e s'') (λe' s''=>CX outer H s E e' s'') s'
def yK{sc:Scope}(h:sc.names.lookup x=some .cell):∃c,(cellsFrom n sc.names []).lookup x=some c:=by
 have q:=PySem.W.cellsFrom_some sc.names n [] (.inl h);exact Xo.mp q
def BX{mg:Nd}{cd:J'}{s1:He}{E:XK} 
  (S:ao N ps scope) (hd:A.handled=none) (e0:Lf P w K mg base A outer s H) (hl:vs.length=ps.length) (r:A7 vs us)
  (x:InCallC s s.heap.objs.size (bindL (envOfC qual scope s.heap.objs.size f cd).kindOf (ps.zip us) λ_=>none) (cellsFrom (s.heap.objs.size+1) scope.names []) (bindC (envOfC qual scope s.heap.objs.size f cd).kindOf (ps.zip us) λ_=>none) s1):
  Inv (kQ CX P w K mg base N qual scope f cd A outer s H E) [] (start N vs) H s1:=by
 have O:ps.length<=N.length:=by have:=VT List.length S.pre;rw[Qe]at this;lia
 let{h1,tk,rfl,hk}:=x.done;have G:∀b:Addr,b∉(kQ CX P w K mg base N qual scope f cd A outer s H E).ex:=λb z=>VE (show b∈([]:Nc) from z) (by simp);refine{{e0.mod,S.kind,M,M,Q5 _,λy z c h1 h2=>?_,λy hy=>?_,λy c _ h=>?_,λ_=>hd,Around.frames_deeper e0.frames,.inr ⟨M,M⟩,λb z=>VE z<|G b,e0.bs,e0.bsz,λb _ _=>G b,λb z=>VE z<|G b,e0.funs,e0.frf},
  rfl,e0.bare,Un.kept hk,{_,x.toInCall.ns,λi y v h1 h2 U=>?_},λy c h=>{_,x.cell y c h},e0.hok.fresh<|Q5 _,λy c h=>?_,λp hp=>VE (show p∈([]:Mv) from hp) (by simp),e0.hok.kept hk,?_}
 .exact name_of_addr x.apart (PySem.mem_of_lookup h1)<|PySem.mem_of_lookup h2
 .have hy:scope.names.lookup y=some .cell\/scope.names.lookup y=some .free:=hy;rcases hy with hy|hy
  .exact yK hy
  .exact VE M<|S.nofree _ (PySem.mem_of_lookup hy)
 .exact Z1<|x.above y c (PySem.mem_of_lookup h)
 .have hi:i<vs.length:=by
   unfold start at h2;by_cases hi:i<vs.length
   .exact hi
   .rw[QS (by simpa using hi)]at h2;rw[List.getElem?_replicate]at h2;split at h2<;>cases h2
  have ha:vs[i]?=some v:=by
   unfold start at h2;rw[QV (by simpa using hi),Qu]at h2;cases e:vs[i]? with
   |none=>rw[e]at h2;cases h2
   |some a=>rw[e]at h2;cases h2;rfl
  let{u,hu,rv}:=r.get ha;have hp:ps[i]?=some y:=by
   rwa[<-S.pre,Xp ()]
  have I:ps.Nodup:=by rw[<-S.pre];exact S.nd.sublist<|X0 _ _
  refine{u,rv,?_};rcases S.par y (Q2 hp)with k|k
  .exact .inl {k,vM I hp hu k}
  .let{c,e}:=yK (n:=s.heap.objs.size+1) k;refine .inr {.inl k,c,e,?_};have q:=x.cell y c e;rw[vO I hp hu (by show scope.names.lookup y≠_;rw[k];decide)]at q;exact q
 .exact e0.hok.fresh<|Z1 (x.above y c<|PySem.mem_of_lookup h)
 .unfold start;show _=N.length;rw[Qd,Q0,Zq];lia
abbrev _root_.NE:=Array (Option Value)
def yx{mg:Nd}{k:Nat}{params:Arguments}{dV kV Y pm z ct oc:J'}{an od:Nf}
  {a0:NE} (lk:K.lookup f=some {oc,od,.func<|PySem.W.fnOf name qual params body scope dV kV Y pm an z ct,a0}) (a1:PySem.W.codeIn K z qual=true) (S:ao N ps scope)
  (len:∀vs H Q E,sp vs H Q E->vs.length=ps.length)
  (O:∀(A:Nh)(outer:Nk)(s:He)(H:Hp)(vs:K')(Q:VK)(E:XK),K7 k (A.deeper<|envOfC qual scope s.heap.objs.size f z)->sp vs H Q E->
   ∃t,Kw (kQ CX P w K mg base N qual scope f z A outer s H E) body t/\t {nx:=λ_ H'=>Q .non H',rt:=Q} (start N vs) H):
  AZ P w K mg base CX (k+1) f (PySem.W.fnOf name qual params body scope dV kV Y pm an z ct) ps sp:=by
 refine{len,λA outer s H args us vs Q E hr e0 hb r Z=>?_};have hl:=len _ _ _ _ Z;have KX:K.In s.heap:=e0.mod.kin.keeps λb o e=>(e0.bs b o e).1;have a2:s.heap.NoLimit:=e0.mod.nolimit.keeps λb o e=>(e0.bs b o e).1;have U:∀y∈ps.zip us,scope.names.lookup y.1=some .local\/(scope.names.lookup y.1=some .cell/\((cellsFrom (s.heap.objs.size+1) scope.names []).lookup y.1).isSome=true):=λ⟨n,v⟩ hy=>by
  rcases S.par n (XA hy).1 with q|q
  .exact .inl q
  .exact .inr {q,PySem.W.cellsFrom_some _ _ _<|.inl q}
 refine codeAny_call_function hr.depth (KX _ _ lk) M S.co S.gen M (PySem.W.codeRec_of KX a1)<|hb _ _ _ _ ?_;refine wpAny_newFunctionEnv_cells S.kind U λenv he s1 x=>?_;subst he;refine{a2.keeps x.toInCall.keep,codeAny_func ?_};let{t,ht,hq}:=O A outer s H vs Q E (hr.deeper _) Z;have I:Inv (kQ CX P w K mg base N qual scope f z A outer s H E) [] (start N vs) H s1:=BX S hr.hd e0 hl r x;refine VV (ht [] s1 (start N vs) H _ I hq) (λfl s' hs=>?_) λe s' hs=>hs;have fin:∀{G:St}{H':Hp}{v:V}{u:J'},Inv (kQ CX P w K mg base N qual scope f z A outer s H E) [] G H' s'->RelV v u->Q v H'->CE outer P w H s Q u s':=
  λ{G H' v u} J rv q=>⟨v,H',J.os,J.bare,J.base,J.hok,rv,q⟩
 cases fl with
 |ret u=>
  let{v,G,H',J,rv,q}:=hs;exact fin J rv q
 |next=>
  let{G,H',J,q}:=hs;exact fin (v:=V.non) (u:=Value.none) J M q
 |brk=>
  let{_,_,_,q}:=hs;exact False.elim q
 |cont=>
  let{_,_,_,q}:=hs;exact False.elim q
section
variable{t:TA}{id T:String}{r:List V->Hp->VK->Prop}
def tCB(r:List V->Hp->VK->Prop)(t:TA):TE:=λB H Q=>t B H λvs H1=>r vs H1 Q
def ar(hc:e6 X (.builtin id) r)(O:Gl X x)(U:X.mg x=none)(Y:bootBuiltins x=some (.builtin id))(ha:PA X (e::es) t)(Z:x≠hH:=by decide)(z:(x==(fx:Str))=false:=by decide)
  (he:starEach (e::es) X.env=(false,eval e X.env)::starEach es X.env:=by rfl) (G:(backTo pos<|starEach es X.env).any (·.1)=false:=by rfl):PE X (.Call (.Name x p) (e::es) [] pos) (tCB r t):=by
 intro W s B H Q I h;refine W3<|m5 I O U Y ?_ Z z;exact PyProof.Rows.callWith_builtin1 (ED (ha pos W s B H _ I h) λus s1 zz=>by let{vs,H1,I1,r1,q1}:=zz;exact hc W s1 B H1 vs us Q I1 r1 q1) he G
def pF(hc:e6 X (.type T) r)(O:Gl X x)(U:X.mg x=none)(Y:bootBuiltins x=some (.type T))(ha:PA X (e::es) t)(Z:x≠hH:=by decide)(z:(x==(fx:Str))=false:=by decide)
  (he:starEach (e::es) X.env=(false,eval e X.env)::starEach es X.env:=by rfl) (G:(backTo pos<|starEach es X.env).any (·.1)=false:=by rfl):PE X (.Call (.Name x p) (e::es) [] pos) (tCB r t):=by
 intro W s B H Q I h;refine W3<|m5 I O U Y ?_ Z z;exact PyProof.Rows.callWith_type1 (ED (ha pos W s B H _ I h) λus s1 zz=>by let{vs,H1,I1,r1,q1}:=zz;exact hc W s1 B H1 vs us Q I1 r1 q1) he G
end
end L2
namespace HT
open PySem PyProof.Rows
variable{E:Ng}
noncomputable def lexLt:List Int->List Int->Bool
 | [],[]=>false
 | [],_::_=>true
 |_::_,[]=>false
 |x::xs,y::ys=>if x=y then lexLt xs ys else decide (x<y)
abbrev _root_.Mu:=List Int
def lexLt_cons(x y:Int)(xs ys:Mu):lexLt (x::xs) (y::ys)=if x=y then lexLt xs ys else decide (x<y):=rfl
def lexLt_nil_nil:lexLt [] []=false:=rfl
def lexLt_nil_cons(y:Int)(ys:Mu):lexLt [] (y::ys)=true:=rfl
def lexLt_cons_nil(x:Int)(xs:Mu):lexLt (x::xs) []=false:=rfl
section
variable{prog:Mz}{w:Nb}{A:Nh}{s:He}
noncomputable def sIx(n d:Nat):Option Int->Nat
 |none=>d
 |some v=>if v<0 then(v+(n:Int)).toNat else min v.toNat n
end
end HT
namespace L2
open PySem PySem.Spec PyProof.Rows
abbrev _root_.Nm:=Option V
variable{a b:G'}{A:Nh}{X:Cx}{e:Expr}{h':Heap}{H H':Hp}{i:Int}{W:Mv}{kvs:Nu}{vs:List (Key×Value)}{xs:K'}{its its':L'}{j n t':Nat}{o:Nm}{pos:Pos}{P:Mz}{s:He}{B:St}{T:String}{α:Type}{x y:V}{u v:J'}{E Q:Ng}{w:Nb}
abbrev TO:=St->Hp->(Option Int->Hp->Prop)->Prop
def PO(X:Cx)(e:Option Expr)(t:TO):Prop:=
 ∀(W:Mv)(s:He)(B:St)(H:Hp)(Q:Option Int->Hp->Prop),Inv X W B H s->t B H Q->
  Wj X (evalPart e X.env) (λu s'=>∃o H',Inv X W B H' s'/\IsPart u o/\Q o H') X.xe s
def Fn:TO:=λ_ H Q=>Q none H
inductive HM(Q:Option Int->Hp->Prop)(x:V)(H1:Hp):Prop
 |mk(i:_)(_:x= .int i)(_:Q (some i) H1)
def GZ(t:TE):TO:=λB H Q=>t B H λx H1=>HM Q x H1
def sX{ns:Mu}:∀{us:L'},A7 (ns.map V.int) us->IntsAre us ns:=by
 induction ns with
 |nil=>intro us r;rw[Xv]at r;cases r;exact .nil
 |cons n ns z=>
  intro us r;rw[Qt]at r;cases r with
  |cons r1 G=>
   let{t,e}:=r1;subst e;exact .cons n t<|z G
section
variable{te:TE}{lo hi:Option Expr}{tl th:TO}{p2:Pos}
def cx:PO X none Fn:=by
 intro W s B H Q I h;rw[evalPart_none];exact VN {none,H,I,.none,h}
def b7(h:PE X e te):PO X (some e) (GZ te):=by
 intro W s B H Q I hw;rw[evalPart_some];refine ED (h W s B H _ I hw) λu s1 z=>?_;let{x,H1,G,r1,O}:=z;let{i,rfl,q}:=O;let{t,rfl}:=r1;exact{some i,H1,G,.int i t,q}
abbrev _root_.No:=Option Int
def SlR(X:Cx)(r:V->Option Int->Option Int->Hp->VK->Prop):Prop:=
 ∀(W:Mv)(s:He)(B:St)(H:Hp)(x:V)(v vl vu:J')(lo hi:No)(sl:G')(Q:VK),Inv X W B H s->RelV x v->s.heap.IsSliceOf sl vl vu .none->IsPart vl lo->IsPart vu hi->r x lo hi H Q->
  ∃T id,typeLookup (.type T) "__getitem__"=pure (some<|.builtin id)/\s.TypeIs v T/\Wj X (getItem v<|.ref sl) (EP X W B Q) X.xe s
def tSl(r:V->Option Int->Option Int->Hp->VK->Prop)(te:TE)(tl th:TO):TE:=λB H Q=>te B H λx H1=>tl B H1 λl H2=>th B H2 λu H3=>r x l u H3 Q
def bX{r:V->Option Int->Option Int->Hp->VK->Prop}(U:SlR X r)(he:PE X e te)(hl:PO X lo tl)(hu:PO X hi th):PE X (.Subscript e (.Slice lo hi none p2) pos) (tSl r te tl th):=by
 intro W s B H Q I h;refine Subscript_<|ED (he W s B H _ I h) λv s1 z=>?_;let{x,H1,Y,r1,Z}:=z;refine wpAny_Slice<|ED (hl W s1 B H1 _ Y Z) λG s2 zz=>?_;let{l,H2,I2,pl,q2}:=zz;refine ED (hu W s2 B H2 _ I2 q2) λO s3 z=>?_;let{u,H3,I3,pu,q3}:=z;rw[evalPart_none];refine VN ?_;have I4:Inv X W B H3 {s3 with heap:=s3.heap.push {cls:= .type "slice",data:= .fields #[G,O,.none]}}:=I3.kept (t':=s3.toks) λb ob q=>VB _ q;let{T,id,hT,ht,hg}:=U W {s3 with heap:=s3.heap.push {cls:= .type "slice",data:= .fields #[G,O,.none]}} B H3 x v G O l u s3.heap.objs.size Q I4 r1 (Heap.IsSliceOf.new ..) pl pu q3;show Wj X (subscriptTail e (.Slice lo hi none p2) v<|.ref s3.heap.objs.size) (EP X W B Q) X.xe {s3 with heap:=s3.heap.push {cls:= .type "slice",data:= .fields #[G,O,.none]}};exact tail_any (ops:=[.ref s3.heap.objs.size,v]) ht hT hg (by with_unfolding_all rfl)
def oA(xs:K')(lo hi:No):List V:=(xs.drop<|HT.sIx xs.length 0 lo).take (HT.sIx xs.length xs.length hi-HT.sIx xs.length 0 lo)
def yI(xs:K')(lo hi:No):(oA xs lo hi).length<=xs.length:=by
 unfold oA;rw[Qe,QN];lia
end
noncomputable def MJ(n:Nat)(i:Int):Option Nat:=if 0<=i then(if i<n then some i.toNat else none)else if-(n:Int)<=i then some (i+n).toNat else none
def Lv{α:Type}(xs:List α)(i:Int):Option α:=(MJ xs.length i).bind λj=>xs[j]?
def AN(h:MJ n i=some j):seqIndex? i n=some j/\j<n/\-(n:Int)<=i/\i<n:=by
 unfold MJ at h;by_cases z:0<=i
 .rw[VA z]at h;by_cases h1:i<n
  .rw[VA h1]at h;have e:i.toNat=j:=VG h;exact{by rw[seqIndex_of z h1,e],(),(),h1}
  .rw[Vz h1]at h;cases h
 .rw[Vz z]at h;by_cases h1: -(n:Int)<=i
  .rw[VA h1]at h;have e:(i+n).toNat=j:=VG h;exact{by rw[seqIndex_neg () h1,e],(),h1,()}
  .rw[Vz h1]at h;cases h
def xn{xs:List α}{v:α}(h:Lv xs i=some v):∃j,seqIndex? i xs.length=some j/\xs[j]?=some v/\j<xs.length/\-(xs.length:Int)<=i/\i<xs.length:=by
 unfold Lv at h;cases e:MJ xs.length i with
 |none=>rw[e]at h;cases h
 |some j=>
  rw[e]at h;let{h1,h2,z,G}:=AN e;exact⟨j,h1,h,h2,z,G⟩
def qU{xs:List α}{v:α}(h:xs[j]?=some v):Lv xs (j:Int)=some v:=by
 have z:j<xs.length:=(Q3.mp h).1;have e:MJ xs.length (j:Int)=some j:=by
  unfold MJ;rw[VA (),VA ()];simp
 unfold Lv;rwa[e]
def GL(b:Expr):Prop:=∀o i,subscripted b false o i=operate [o,i] (getItem o i)
def IxR(X:Cx)(r:R2):Prop:=
 ∀(value slice:Expr)(W:Mv)(s:He)(B:St)(H:Hp)(x y:V)(v u:J')(Q:VK),Inv X W B H s->RelV x v->RelV y u->r x y H Q->
  subscripted slice false v u=operate [v,u] (getItem v u)->Wj X (subscriptTail value slice v u) (EP X W B Q) X.xe s
def Mf(X:Cx)(id:String)(r:V->List V->Hp->VK->Prop):Prop:=
 ∀(W:Mv)(s:He)(B:St)(H:Hp)(x:V)(xs:K')(v:J')(us:L')(Q:VK),Inv X W B H s->RelV x v->A7 xs us->r x xs H Q->
  Wj X (call (.builtin id) (v::us)) (EP X W B Q) X.xe s
section
variable{a b:Expr}{ta tb:TE}
def aY{r:R2}(z:IxR X r)(ha:PE X a ta)(hb:PE X b tb)(hs:GL b):PE X (.Subscript a b pos) (tOp r ta tb):=by
 intro W s B H Q I h;exact Subscript_ (Jl ha hb I h λv u s2 x y H2 G O U q=>z a b W s2 B H2 x y v u Q G O U q<|hs _ _)
inductive rIxL(K:Wi)(x y:V)(H:Hp)(Q:VK):Prop
 |mk(p xs i v:_)(_:x= .ref p)(_:y= .int i)(_:Do K H p xs)(_:Lv xs i=some v)(_:Q v H)
inductive rIxT(K:Wi)(x y:V)(H:Hp)(Q:VK):Prop
 |mk(p xs i v:_)(_:x= .ref p)(_:y= .int i)(_:LB K H p xs)(_:Lv xs i=some v)(_:Q v H)
inductive rIxS(x y:V)(H:Hp)(Q:VK):Prop
 |mk(z i c:_)(_:x= .str z)(_:y= .int i)(_:z.length<=sizeLine)(_:Lv z.cps.toList i=some c)(_:Q (.str {#[c]}) H)
def aW:IxR X (rIxL X.K):=by
 intro value G W s B H x y v u Q I rx ry h hs;let{p,xs,i,z,rfl,rfl,hq,he,q}:=h;cases rx;let{t,rfl}:=ry;let{its,r,pl,hz}:=I.list hq;let{j,h1,h2,h3,h4,h5}:=xn he;let{w,Y,O}:=r.get h2;have hl:=r.length;have hn:=m4;have fin:EP X W B Q w s:=⟨z,H,I,O,q⟩;by_cases Z:0<=i
 .have U:i.toNat=j:=by
   rw[seqIndex_of Z h5]at h1;exact VG h1
  exact item_listR pl.isList Z () (by rw[U];simpa using Y) fin hs
 .have U:(i+(its.toArray.size:Int)).toNat=j:=by
   rw[seqIndex_neg () h4]at h1;rw[Q9,<-hl];exact VG h1
  exact subscriptTail_builtinR (x:=w) pl.isList.typeIs slot_list_getitem.lookup
   (wpAny_getItem_list_neg (Q:=λr s'=>r=w/\EP X W B Q r s') pl.isList () (by rw[Q9]<;>lia) () (by rw[U];simpa using Y) ⟨M,fin⟩) hs
def fk:IxR X (rIxT X.K):=by
 intro value G W s B H x y v u Q I U Y h hs;let{p,xs,i,z,rfl,rfl,hq,he,q}:=h;cases U;let{t,rfl}:=Y;let{its,r,pl,hz}:=I.tuple hq;let{j,h1,h2,h3,h4,h5}:=xn he;let{w,Z,O}:=r.get h2;have hl:=r.length;have hn:=m4;have fin:EP X W B Q w s:=⟨z,H,I,O,q⟩;exact subscriptTail_builtinR (x:=w) pl.typeIs slot_tuple_getitem.lookup
  (getItem_tuple (j:=j) (Q:=λr s'=>r=w/\EP X W B Q r s') pl () () (by rwa[Q9,<-hl]) (by simpa using Z) ⟨M,fin⟩) hs
def IP:IxR X rIxS:=by
 intro value G W s B H x y v u Q I O U h hs;let{z,i,c,rfl,rfl,hz,he,q}:=h;let{t,rfl}:=O;let{t',rfl}:=U;let{j,h1,h2,h3,Y,Z}:=xn he;have hl:z.cps.toList.length=z.length:=by simp[Str.length]
 rw[hl]at h1 Y Z;have hn:=m4;exact tail_any (typeIs_str s z t) slot_str_getitem.lookup (getItem_str (c:=c) (by
  have e1:decide (i< -(2^63:Int))=false:=VM ();have e2:decide (i>=2^63)=false:=VM ();rw[e1,e2,Bool.or_false]) (by rw[h1];simpa using h2) {.str {#[c]},H,I.tok _,{_,M},q}) hs
def zL(its:L')(n j:Nat)(u:J'):Obj.mapSeq (·.setIfInBounds j u) {cls:= .type eR,data:= .seq its.toArray n}={cls:= .type eR,data:= .seq (its.set j u).toArray n}:=by
 simp[Obj.mapSeq]
def Inv.lst{W:Mv}{B:St}{H:Hp}{s:He}{p:G'}{xs:K'}(I:Inv X W B H s)(h:H p=some (.lst xs)):
  ∃(its:L')(n:Nat),A7 xs its/\s.heap.get? p=some {cls:= .type eR,data:= .seq its.toArray n}/\xs.length<=sizeLine:=by
 let{z,its,n,r,e}:=I.hok p _ h;exact⟨its,n,r,e,z⟩
def Inv.lstUpd{p:G'}{ys:K'}{n':Nat}{f:Obj->Obj}(I:Inv X W B H s)(h:H p=some (.lst xs))
  (z:s.heap.get? p=some {cls:= .type eR,data:= .seq its.toArray n}) (hf:f {cls:= .type eR,data:= .seq its.toArray n}={cls:= .type eR,data:= .seq its'.toArray n'}) (r:A7 ys its') (hz:ys.length<=sizeLine) (t:Nat):
  Inv X W B (upd H p<|.lst ys) {s with heap:=s.heap.update p f,toks:=t}:=by
 have e:(s.heap.update p f).get? p=some {cls:= .type eR,data:= .seq its'.toArray n'}:=by
  rw[Heap.get?_update_self f z (by rw[hf]<;>rfl),hf]
 refine I.write (x:=p) (e:=p) (by rw[h];trivial) (.inl M) (λb u hb q=>(VO _ _<|Ne.symm hb).trans q) {_,e} ?_;exact⟨hz,its',n',r,e⟩
inductive JT(o i v:V)(H:Hp)(Q:Hp->Prop):Prop
 |mk(p xs k j:_)(_:o= .ref p)(_:i= .int k)(_:H p=some (.lst xs))(_:MJ xs.length k=some j)(_:Q (upd H p<|.lst<|xs.set j v))
def xM:PSet X JT:=by
 intro W s B H o i v ov iv u Q I Z ri rv h;let{p,xs,k,j,rfl,rfl,hp,hj,q}:=h;cases Z;let{t,rfl}:=ri;let{its,n,r,z,hz}:=I.lst hp;let{h1,h2,G,O}:=AN hj;have hl:=r.length;have hn:=m4;have U:Inv X W B (upd H p<|.lst<|xs.set j v) {s with heap:=s.heap.update p (Obj.mapSeq (·.setIfInBounds j u))}:=
  I.lstUpd hp z (zL its n j u) (r.set rv j) (by rwa[Z5]) s.toks
 by_cases Y:0<=k
 .have hk:k.toNat=j:=by
   rw[seqIndex_of Y O]at h1;exact VG h1
  exact PySem.W.ki_setAt z Y () (by rwa[Q9,<-hl])<|by rw[hk];exact{_,U,q}
 .have hk:(k+(its.toArray.size:Int)).toNat=j:=by
   rw[seqIndex_neg () G]at h1;rw[Q9,<-hl];exact VG h1
  exact PySem.W.ki_setBack z () (by rwa[Q9,<-hl]) ()<|by rw[hk];exact{_,U,q}
def wq(lo hi:No)(n:Nat):(sliceBounds lo hi none n).1=((HT.sIx n 0 lo:Nat):Int)/\(sliceBounds lo hi none n).2.1=((HT.sIx n n hi:Nat):Int)/\(sliceBounds lo hi none n).2.2=1:=by
 refine{?_,?_,M}
 .cases lo with
  |none=>simp[sliceBounds,HT.sIx]
  |some i=>
   simp only[sliceBounds,HT.sIx,Option.getD_none,show(1:Int)>0 by decide,if_true];by_cases h:i<0
   .simp only[h,if_true]<;>lia
   .simp only[h,if_false]<;>lia
 .cases hi with
  |none=>simp[sliceBounds,HT.sIx]
  |some i=>
   simp only[sliceBounds,HT.sIx,Option.getD_none,show(1:Int)>0 by decide,if_true];by_cases h:i<0
   .simp only[h,if_true]<;>lia
   .simp only[h,if_false]<;>lia
def ui(its:L')(lo hi:No):slicePick its.toArray lo hi none=((its.drop<|HT.sIx its.length 0 lo).take<|HT.sIx its.length its.length hi-HT.sIx its.length 0 lo).toArray:=by
 let{h1,h2,z}:=wq lo hi its.toArray.size;unfold slicePick;rw[h1,h2,z];simp only[sliceRange_one,pick_run,Q9]<;>rfl
inductive rSlL(K:Wi)(x:V)(lo hi:No)(H:Hp)(Q:VK):Prop
 |mk(a xs:_)(_:x= .ref a)(_:Do K H a xs)(_:∀p,H p=none->Q (.ref p) (upd H p<|.lst<|oA xs lo hi))
def lu:SlR X (rSlL X.K):=by
 intro W s B H x v Y Z lo hi sl Q I O hs pl U h;let{a,xs,rfl,hx,q}:=h;cases O;let{its,r,G,hz}:=I.list hx;have z:=r.length;refine{eR,_,slot_list_getitem.lookup,G.isList.typeIs,?_};refine wpAny_getItem_list_slice G.isList hs pl U .none (by simp) ?_ (by rw[Q9]<;>lia);rw[ui,<-z];refine{.ref s.heap.objs.size,_,I.laid (t':=s.toks) (o:= .lst<|oA xs lo hi) (λb ob q=>VB _ q) (Q5 _) ?_,M,q _<|I.hok.fresh (Q5 _)};exact{Qr (yI xs lo hi) hz,_,0,(r.drop<|HT.sIx xs.length 0 lo).take<|HT.sIx xs.length xs.length hi-HT.sIx xs.length 0 lo,VL _ M}
noncomputable def ox:V->Bool
 | .non=>true
 | .bl _=>true
 | .int _=>true
 | .str _=>true
 |_=>false
noncomputable def MZ:V->V->Bool
 | .non,.non=>true
 | .bl a,.bl b=>a==b
 | .bl a,.int b=>(if a then 1 else 0)==b
 | .int a,.bl b=>a==(if b then 1 else 0)
 | .int a,.int b=>a==b
 | .str a,.str b=>a==b
 |_,_=>false
def Je(G:RelV y u)(z:RelV x v)(O:ox y=true)(I:ox x=true):SeqAt.EqAt A s u v (MZ y x):=by
 cases y with
 |non=>
  cases G;cases x with
  |non=>cases z;exact SeqAt.EqAt.same _
  |bl b=>cases z;exact SeqAt.EqAt.none_bool b
  |int b=>let{t,rfl}:=z;exact SeqAt.EqAt.none_int b t
  |str b=>let{t,rfl}:=z;exact SeqAt.EqAt.none_str b t
  |_=>exact VE (show false=true from I) Qa
 |bl a=>
  cases G;cases x with
  |non=>cases z;exact SeqAt.EqAt.bool_none a
  |bl b=>cases z;exact SeqAt.EqAt.bool_bool a b
  |int b=>let{t,rfl}:=z;exact SeqAt.EqAt.bool_int a b t
  |str b=>let{t,rfl}:=z;exact SeqAt.EqAt.bool_str a b t
  |_=>exact VE (show false=true from I) Qa
 |int a=>
  let{t',rfl}:=G;cases x with
  |non=>cases z;exact SeqAt.EqAt.int_none a t'
  |bl b=>cases z;exact SeqAt.EqAt.int_bool a t' b
  |int b=>let{t,rfl}:=z;exact SeqAt.EqAt.int_int a t' b t
  |str b=>let{t,rfl}:=z;exact SeqAt.EqAt.int_str a t' b t
  |_=>exact VE (show false=true from I) Qa
 |str a=>
  let{t',rfl}:=G;cases x with
  |non=>cases z;exact SeqAt.EqAt.str_none a t'
  |bl b=>cases z;exact SeqAt.EqAt.str_bool a t' b
  |int b=>let{t,rfl}:=z;exact SeqAt.EqAt.str_int a t' b t
  |str b=>let{t,rfl}:=z;exact SeqAt.EqAt.str_str a t' b t
  |_=>exact VE (show false=true from I) Qa
 |_=>exact VE (show false=true from O) Qa
def MY(x:V)(u:J'):Bool:=match u with
 | .none=>MZ .non x
 | .bool b=>MZ (.bl b) x
 | .int i _=>MZ (.int i) x
 | .str z _=>MZ (.str z) x
 |_=>false
def Ej(r:RelV y u)(f:ox y=true):MY x u=MZ y x:=by
 cases y with
 |non=>cases r;rfl
 |bl b=>cases r;rfl
 |int i=>let{t,rfl}:=r;rfl
 |str z=>let{t,rfl}:=r;rfl
 |_=>exact VE (show false=true from f) Qa
def Bc{us:L'}(h:A7 xs us)(f:xs.all ox=true):us.any (MY x)=xs.any λy=>MZ y x:=by
 induction h with
 |nil=>rfl
 |cons r t z=>
  rw[List.all_cons,Qj]at f;rw[X9,X9,Ej r f.1,z f.2]
def yh(z:RelV x v)(G:ox x=true):∀{xs:K'}{us:L'},A7 xs us->xs.all ox=true->∀u∈us,SeqAt.EqAt A s u v (MY x u):=λ{xs us} h=>by
 induction h with
 |nil=>exact λ_ u hu=>by cases hu
 |cons r t I=>
  intro f O hu;rw[List.all_cons,Qj]at f;rcases Qc.mp hu with rfl|hu
  .rw[Ej r f.1];exact Je r z f.1 G
  .exact I f.2 O hu
def inV(x:V)(xs:K'):Bool:=xs.any λy=>MZ y x
inductive rIn(K:Wi)(neg:Bool)(x y:V)(H:Hp)(Q:VK):Prop
 |mk(p xs:_)(_:y= .ref p)(_:(Do K H p xs\/LB K H p xs))(_:ox x=true)(_:xs.all ox=true)(_:Q (.bl<|if neg then !inV x xs else inV x xs) H)
def BG:LK X (compareOp .In) (rIn X.K false):=by
 intro W s B H x y v u Q I z O h;let{p,xs,rfl,hq,G,fs,q}:=h;cases O;rcases hq with hq|hq
 .let{its,r,pl,hz}:=I.list hq;refine SeqAt.in_listAt (MY x) pl.isList (λw hw=>yh z G r fs w<|by simpa using hw) {.bl _,H,I,M,?_};rw[show its.toArray.any (MY x)=its.any (MY x) by simp,Bc r fs];exact q
 .let{its,r,pl,hz}:=I.tuple hq;refine SeqAt.in_tupleAt (MY x) pl (λw hw=>yh z G r fs w<|by simpa using hw) {.bl _,H,I,M,?_};rw[show its.toArray.any (MY x)=its.any (MY x) by simp,Bc r fs];exact q
def ax:e6 X (.builtin "len") (λxs H Q=>∃p ys,xs=[.ref p]/\(Do X.K H p ys\/LB X.K H p ys)/\Q (.int ys.length) H):=by
 intro W s B H xs us Q I r h;let{p,ys,rfl,hq,q}:=h;let{u,rfl,G}:=jQ r;cases G;have O:=m4;rcases hq with hq|hq
 .let{its,r',pl,hz}:=I.list hq;have z:=r'.length;exact Calls.call_len_list pl.isList (by simp only[Q9]<;>lia) {.int ys.length,H,I.tok _,{s.toks+1,by rw[Q9,z]},q}
 .let{its,r',pl,hz}:=I.tuple hq;have z:=r'.length;exact len_tuple pl (by simp only[Q9]<;>lia) {.int ys.length,H,I.tok _,{s.toks+1,by rw[Q9,z]},q}
def jK:e6 X (.builtin "len") (λxs H Q=>∃z,xs=[.str z]/\z.length<=sizeLine/\Q (.int z.length) H):=by
 intro W s B H xs us Q I r h;let{z,rfl,hz,q}:=h;let{u,rfl,t,rfl}:=jQ r;have G:=m4;exact len_str () {.int z.length,H,I.tok _,{_,M},q}
def tyV(K:Wi)(T:String)(x:V)(H:Hp):Prop:=match x with
 | .str _=>T="str"
 | .int _=>T=nX
 | .ref p=>(T=eR/\∃xs,Do K H p xs)\/(T=i3/\∃o,K.lookup p=some o/\o.cls= .type i3/\o.dict=none)\/
   (T="dict"/\((∃kvs,H p=some (.dK kvs))\/∃kvs,H p=some (.dT kvs)))\/(T="set"/\∃S n,H p=some (.set S n))
 |_=>False
def CJ(I:Inv X W B H s)(r:RelV x v)(ty:tyV X.K T x H):
  s.TypeIs v T/\∀a,v= .ref a->∃ob,s.heap.get? a=some ob/\ob.dict=none:=by
 cases x with
 |str z=>
  let{t,rfl}:=r;cases (show T="str" from ty);exact{typeIs_str s z t,λ_ e=>nomatch e}
 |int i=>
  let{t,rfl}:=r;cases (show T=nX from ty);exact{typeIs_int s i t,λ_ e=>nomatch e}
 |ref p=>
  cases r;rcases ty with⟨rfl,xs,hq⟩|⟨rfl,o,hk,hc,hd⟩|⟨rfl,hk⟩|⟨rfl,S,n,hk⟩
  .let{its,_,pl,_}:=I.list hq;refine{pl.isList.typeIs,λa e=>?_};cases e;let{o,n,e,c,hd,_}:=pl;exact⟨o,e,hd⟩
  .refine{{o,I.kIn p o hk,hc},λa e=>?_};cases e;exact{o,I.kIn _ o hk,hd}
  .have z:∃o,s.heap.get? p=some o/\o.ExactDict:=by
    rcases hk with⟨kvs,hk⟩|⟨kvs,hk⟩
    .let{_,_,_,_,o,_,_,e,ex,_}:=I.hok p _ hk;exact⟨o,e,ex⟩
    .let{_,_,_,_,o,_,_,e,ex,_}:=I.hok p _ hk;exact⟨o,e,ex⟩
   let{o,e,ex}:=z;refine{⟨o,e,ex.1⟩,λa e2=>?_};cases e2;exact⟨o,e,ex.2.1⟩
  .let{o,_,_,_,e,ex,_}:=I.hok p _ hk;refine{⟨o,e,ex.1⟩,λa e2=>?_};cases e2;exact⟨o,e,ex.2.1⟩
 |_=>exact False.elim ty
def tBM0(K:Wi)(T:String)(r:V->List V->Hp->VK->Prop)(to:TE):TE:=λB H Q=>to B H λx H1=>tyV K T x H1/\r x [] H1 Q
def tBM(K:Wi)(T:String)(r:V->List V->Hp->VK->Prop)(to:TE)(t:TA):TE:=λB H Q=>to B H λx H1=>tyV K T x H1/\t B H1 λxs H2=>r x xs H2 Q
variable{o:Expr}{es:Np}{to:TE}{t:TA}{name:Str}{apos cpos:Pos}{id:String}{r:V->List V->Hp->VK->Prop}
def Dn(pa:PlainAttrs T)(slot:Slot T name id)(O:typeOf (.builtin id)=pure (.type "method_descriptor"))(Z:Mf X id r)(ho:PE X o to)
  (z:attributeBase o name X.env (eval o X.env)=eval o X.env:=by rfl) (G:(apos.endLine==cpos.line)=true:=by rfl):PE X (.Call (.Attribute o name apos) [] [] cpos) (tBM0 X.K T r to):=by
 intro W s B H Q I h;refine wpAny_Call_method0_late z G<|ED (ho W s B H _ I h) λv s1 U=>?_;let{x,H1,Y,r1,ty,q1}:=U;let{h1,h2}:=CJ Y r1 ty;exact{T,id,pa,slot,O,h1,h2,Calls.callWith_builtin M<|PySem.evalArgs_none (Z W s1 B H1 x [] v [] Q Y r1 .nil q1)}
def eU(pa:PlainAttrs T)(slot:Slot T name id)(Y:typeOf (.builtin id)=pure (.type "method_descriptor"))(hm:Mf X id r)(ho:PE X o to)(ha:PA X (e::es) t)
  (G:attributeBase o name X.env (eval o X.env)=eval o X.env:=by rfl)
  (U:((backTo cpos<|starEach (e::es) X.env).all (λx=>!x.1)&&(backToKw cpos<|keywordEach [] X.env).all (λx=>x.1.isSome)
   &&decide ((e::es).length+([]:List Keyword).length+(if([]:List Keyword).isEmpty then 0 else 1)<30))=true:=by rfl)
  (O:(apos.endLine==cpos.line)=true:=by rfl) (hs:starEach (e::es) X.env=(false,eval e X.env)::starEach es X.env:=by rfl) (z:(backTo cpos<|starEach es X.env).any (·.1)=false:=by rfl):
  PE X (.Call (.Attribute o name apos) (e::es) [] cpos) (tBM X.K T r to t):=by
 intro W s B H Q I h;refine wpAny_Call_method_late G U O M<|ED (ho W s B H _ I h) λv s1 Z=>?_;let{x,H1,I1,r1,ty,q1}:=Z;let{h1,h2}:=CJ I1 r1 ty;refine{T,id,pa,slot,Y,h1,h2,?_};have hA:=ha cpos W s1 B H1 _ I1 q1;rw[hs]at hA⊢;refine Calls.callWith_builtin (by show(false||(backTo cpos<|starEach es X.env).any (·.1))=false;rw[z]<;>rfl)<|Calls.evalArgs_plain ?_;exact ED hA λus s2 zz=>by let{vs,H2,I2,r2,q2}:=zz;exact hm W s2 B H2 x vs v us Q I2 r1 r2 q2
end
def MtM(X:Cx)(id:String)(r:V->List V->Hp->VK->Prop):Prop:=
 ∀(W:Mv)(s:He)(B:St)(H:Hp)(x:V)(xs:K')(v:J')(us:L')(Q:VK),Inv X W B H s->RelV x v->A7 xs us->r x xs H Q->
  Wj X (call (.builtin id) (v::us)) (EP X W B Q) X.xe s
def A7.one:∀{x:V}{us:L'},A7 [x] us->∃u,us=[u]/\RelV x u
 :=λh=>by
  cases h with
  |cons r h=>cases h;exact{_,M,r}
def A7.two:∀{x y:V}{us:L'},A7 [x,y] us->∃u v,us=[u,v]/\RelV x u/\RelV y v
 :=λh=>by
  cases h with
  |cons r h=>cases h with
   |cons q h=>cases h;exact{_,_,M,r,q}
section
variable{l:G'}{ys zs:K'}
def Inv.lset{f:Array Value->Array Value}(I:Inv X W B H s)(z:H l=some (.lst xs))
  (e:s.heap.get? l=some {cls:= .type eR,data:= .seq its.toArray n}) (hf:f its.toArray=its'.toArray) (G:A7 ys its') (hz:ys.length<=sizeLine):
  Inv X W B (upd H l<|.lst ys) {s with heap:=s.heap.update l (Obj.mapSeq f),toks:=t'}:=by
 have q:=PySem.IsL.update e f;rw[hf]at q;refine I.write (x:=l) (e:=l) (by rw[z];exact trivial) (.inl M) (λb' u hb hu=>(VO s.heap (Obj.mapSeq f)<|Ne.symm hb).trans hu) {_,q} ?_;exact{hz,its',_,G,q}
def Inv.lnew(I:Inv X W B H s)(z:A7 ys its)(hz:ys.length<=sizeLine):
  Inv X W B (upd H s.heap.objs.size<|.lst ys) {s with heap:=s.heap.push {cls:= .type eR,data:= .seq its.toArray},toks:=t'}:=
 I.laid (λ_ _ q=>VB _ q) (Q5 _) {hz,its,0,z,VL _ M}
def Inv.fresh(I:Inv X W B H s):H s.heap.objs.size=none:=I.hok.fresh (Q5 _)
def Inv.lstM(I:Inv X W B H s)(G:H l=some (.lst xs)):xs.length<=sizeLine/\∃(its:L')(n:Nat),A7 xs its/\xs.length=its.length/\s.heap.get? l=some {cls:= .type eR,data:= .seq its.toArray n}:=by
 let{z,its,n,r,e}:=I.hok l _ G;exact⟨z,its,n,r,r.length,e⟩
def Dw(h:n<=sizeLine):Builtin.List.listTooLong n=false:=by
 unfold Builtin.List.listTooLong;exact VM ()
end
inductive FJ(x:V)(vs:K')(H:Hp)(Q:VK):Prop
 |mk(l xs y:_)(_:x= .ref l)(_:vs=[y])(_:H l=some (.lst xs))(_:xs.length<sizeLine)(_:Q .non (upd H l<|.lst<|xs++ [y]))
def eh:MtM X "list.append" FJ:=by
 intro W s B H x vs v us Q I O rv h;let{l,xs,y,rfl,rfl,G,hz,q}:=h;cases O;let{u,rfl,U}:=rv.one;let{z,its,n,r,hl,e}:=I.lstM G;refine call_meets F.slot_list_append {_,e,M} F.entry_list_append (F.args_list_append_2 _ _) (PySem.list_append l its.toArray n u<|by rw[Q9];lia) {e,?_};refine{.non,_,I.lset (its':=its++ [u]) G e (by simp) (r.append<|.cons U .nil) ?_,M,q};rw[Qd,Zr];lia
inductive FI(x:V)(vs:K')(H:Hp)(Q:VK):Prop
 |mk(l b xs zs:_)(_:x= .ref l)(_:vs=[.ref b])(_:H l=some (.lst xs))(_:H b=some (.lst zs))(_:xs.length+zs.length<=sizeLine)(_:Q .non (upd H l<|.lst<|xs++zs))
def lE:MtM X "list.extend" FI:=by
 intro W s B H x vs v us Q I Y rv h;let{l,b,xs,zs,rfl,rfl,U,Z,hz,q}:=h;cases Y;let{u,rfl,ru}:=rv.one;cases ru;let{z,its,n,r,hl,e}:=I.lstM U;let{z2,G,n2,r2,a0,e2}:=I.lstM Z;have hsz:its.toArray.size+G.toArray.size<=sizeLine:=by rw[Q9,Q9];lia
 have O:¬(!its.toArray.isEmpty&&Builtin.List.listTooLong (its.toArray.size+G.toArray.size))=true:=by
  rw[Dw hsz,XJ];exact Qa
 refine call_meets F.slot_list_extend {_,e,M} F.entry_list_extend (F.args_list_extend_2 _ _)
  (AutoSeq1.list_extend_list_list_0 l its.toArray n b G.toArray n2 O (by rw[Q9];lia) ()) {e,e2,?_}
 refine{.non,_,I.lset (its':=its++G) U e (by simp) (r.append r2) ?_,M,q};rw[Qd];lia
inductive rCat(x y:V)(H:Hp)(Q:VK):Prop
 |mk(l b xs zs:_)(_:x= .ref l)(_:y= .ref b)(_:H l=some (.lst xs))(_:H b=some (.lst zs))(_:xs.length+zs.length<=sizeLine)(_:∀p,H p=none->Q (.ref p) (upd H p<|.lst<|xs++zs))
def Ix:LK X (binaryOp .Add) rCat:=by
 intro W s B H x y v u Q I O U h;let{l,b,xs,zs,rfl,rfl,Y,Z,hz,q}:=h;cases O;cases U;let{z,its,n,r,hl,e}:=I.lstM Y;let{z2,G,n2,r2,a0,e2}:=I.lstM Z;refine PySem.P.add_list e e2 ?_ (by rw[Q9,Q9];lia);have ea:its.toArray++G.toArray=(its++G).toArray:=by simp
 rw[ea];exact{.ref _,_,I.lnew (t':=s.toks) (r.append r2) (by rw[Qd];lia),M,q _ I.fresh}
section
variable{κ:Type}[DecidableEq κ]
noncomputable def aP(kvs:List (κ×V))(k:κ):Option V:=(kvs.find? λkv=>decide (kv.1=k)).map (·.2)
noncomputable def bj(kvs:List (κ×V))(k:κ)(v:V):List (κ×V):=
 if(kvs.any λkv=>decide (kv.1=k))=true then kvs.map (λkv=>if kv.1=k then(kv.1,v)else kv)else kvs++ [(k,v)]
def nN{k:κ}:aP ([]:List (κ×V)) k=none:=rfl
def bg{p:κ×V}{r:List (κ×V)}{k:κ}(e:p.1=k):aP (p::r) k=some p.2:=by simp[aP,ZW,e]
def bh{p:κ×V}{r:List (κ×V)}{k:κ}(e:¬p.1=k):aP (p::r) k=aP r k:=by simp[aP,ZW,e]
theorem cz(k:κ):∀kvs:List (κ×V),(kvs.any λkv=>decide (kv.1=k))=(aP kvs k).isSome
 | []=>rfl
 |p::r=>by
  rw[X9];by_cases e:p.1=k
  .simp only[bg e,VI e,Bool.true_or,Option.isSome_some]
  .rw[bh e,VM e,Bool.false_or];exact cz k r
theorem xA(k j:κ)(y:V):∀kvs:List (κ×V),aP (kvs.map λkv=>if kv.1=k then(kv.1,y)else kv) j=(aP kvs j).map λx=>if j=k then y else x
 | []=>rfl
 |p::r=>by
  have G:=xA k j y r;rw[Qt];by_cases h:p.1=k
  .rw[VA h];by_cases e:p.1=j
   .rw[bg (p:=(p.1,y)) e,bg e,XB,VA (e.symm.trans h)]
   .rw[bh (p:=(p.1,y)) e,bh e,G]
  .rw[Vz h];by_cases e:p.1=j
   .rw[bg (p:=p) e,bg e,XB,Vz (λz=>h<|e.trans z)]
   .rw[bh (p:=p) e,bh e,G]
theorem u7(k j:κ)(y:V):∀kvs:List (κ×V),aP kvs k=none->aP (kvs++ [(k,y)]) j=if j=k then some y else aP kvs j
 | [],_=>by
  by_cases e:k=j
  .rw[VA e.symm];exact bg (p:=(k,y)) e
  .rw[Vz (λz=>e z.symm)];exact bh (p:=(k,y)) e
 |p::r,hn=>by
  rw[Va];have hk:¬p.1=k:=λz=>by rw[bg z]at hn;cases hn
  rw[bh hk]at hn;have G:=u7 k j y r hn;by_cases e:p.1=j
  .rw[bg e,bg e,Vz (λz=>hk<|e.trans z)]
  .rw[bh e,bh e,G]
def fL(kvs:List (κ×V))(k j:κ)(y:V):aP (bj kvs k y) j=if j=k then some y else aP kvs j:=by
 unfold bj;by_cases a:(kvs.any λkv=>decide (kv.1=k))=true
 .rw[VA a,xA];rw[cz]at a;by_cases e:j=k
  .let{x,hx}:=Xo.mp a;rw[VA e,e,hx,XB,VA M]
  .rw[Vz e];cases aP kvs j with
   |none=>rfl
   |some x=>rw[XB,Vz e]
 .rw[Vz a];refine u7 k j y kvs ?_;rw[cz]at a;cases q:aP kvs k with
  |none=>rfl
  |some x=>rw[q]at a;exact(a M).elim
def cG(kvs:List (κ×V))(k:κ)(v:V):(bj kvs k v).length<=kvs.length+1:=by
 unfold bj;split
 .rw[Q0];lia
 .rw[Qd,Ql,Vm];lia
def De{kvs:List (κ×V)}{k:κ}(v:V)(h:aP kvs k=none):bj kvs k v=kvs++ [(k,v)]:=by
 unfold bj;rw[cz,h];exact Vz (_)
def LD.isSome_eq{u:Option Value}(r:LD o u):o.isSome=u.isSome:=by
 cases o with
 |none=>cases u with
  |none=>rfl
  |some _=>exact(show False from r).elim
 |some _=>cases u with
  |none=>exact(show False from r).elim
  |some _=>rfl
def KV.val{kvs:List (κ×V)}{vs:List (κ×Value)}(r:KV kvs vs)(k:κ):LD (aP kvs k) (valueAt vs k):=by
 unfold KV at r
 induction r with
 |nil=>exact VU
 | @cons p q ps qs h t I=>
  let{h1,h2}:=h;by_cases e:p.1=k
  .have G:q.1=k:=h1.symm.trans e;have b:valueAt (q::qs) k=some q.2:=by simp[valueAt,ZW,G]
   rwa[bg e,b]
  .have G:¬q.1=k:=λz=>e (h1.trans z);have b:valueAt (q::qs) k=valueAt qs k:=by simp[valueAt,ZW,G]
   rw[bh e,b];exact I
def KV.any{kvs:List (κ×V)}{vs:List (κ×Value)}(r:KV kvs vs)(k:κ):(kvs.any λkv=>decide (kv.1=k))=vs.any λkv=>decide (kv.1=k):=by
 unfold KV at r
 induction r with
 |nil=>rfl
 |cons h t z=>rw[X9,X9,z,h.1]
def KV.repl{kvs:List (κ×V)}{vs:List (κ×Value)}(r:KV kvs vs)(k:κ)(G:RelV y u):
  KV (kvs.map λkv=>if kv.1=k then(kv.1,y)else kv) (vs.map λkv=>if kv.1=k then(kv.1,u)else kv):=by
 unfold KV at r⊢
 induction r with
 |nil=>exact .nil
 | @cons p q ps qs h t I=>
  rw[Qt,Qt];refine .cons ?_ I;let{h1,h2}:=h;by_cases e:p.1=k
  .rw[VA e,VA (h1.symm.trans e)];exact⟨h1,G⟩
  .rw[Vz e,Vz (λz=>e<|h1.trans z)];exact⟨h1,h2⟩
def KV.put{kvs:List (κ×V)}{vs:List (κ×Value)}(r:KV kvs vs)(k:κ)(z:RelV y u):KV (bj kvs k y) (stored vs k u):=by
 unfold bj stored;rw[r.any k];by_cases e:(vs.any λkv=>decide (kv.1=k))=true
 .rw[VA e,VA e];exact r.repl k z
 .rw[Vz e,Vz e];exact Paired.snoc r ⟨M,z⟩
def KV.length{kvs:List (κ×V)}{vs:List (κ×Value)}(r:KV kvs vs):kvs.length=vs.length:=Paired.length r
end
def vB{k:Key}(r:RelV (kV k) u):(bL P w).is k u=true:=by
 cases k with
 |inl i=>let{t,e}:=(show ∃t,u=Value.int i t from r);subst e;exact ye P w i t
 |inr x=>let{t,e}:=(show ∃t,u=Value.str x t from r);subst e;exact yd P w x t
theorem vC{P:Mz}{w:Nb}:∀{ks:List Key}{us:L'},A7 (ks.map kV) us->ItemsAre (bL P w) ks us
 | [],_,r=>by rw[Xv]at r;cases r;exact .nil
 |k::ks,_,r=>by
  rw[Qt]at r;cases r with
  |cons h t=>exact .cons (vB h)<|vC t
abbrev KT(H:Hp):List (List Key×V)->List (List Key×Addr×Value)->Prop:=Paired λp q=>p.1=q.1/\H q.2.1=some (.tup<|p.1.map kV)/\RelV p.2 q.2.2
abbrev _root_.NG:=List (List Key×Addr×Value)
def KT.val{kvs:Nw}{xs:NG}(r:KT H kvs xs)(k:List Key):LD (aP kvs k) ((atKey xs k).map (·.2)):=by
 induction r with
 |nil=>exact VU
 | @cons p q ps qs h t I=>
  let{h1,_,h2}:=h;by_cases e:p.1=k
  .have G:q.1=k:=h1.symm.trans e;have b:atKey (q::qs) k=some q.2:=by simp[atKey,ZW,G]
   rwa[bg e,b]
  .have G:¬q.1=k:=λz=>e (h1.trans z);have b:atKey (q::qs) k=atKey qs k:=by simp[atKey,ZW,G]
   rw[bh e,b];exact I
def KT.repl{kvs:Nw}{xs:NG}(r:KT H kvs xs)(k:List Key)(G:RelV y u):
  KT H (kvs.map λkv=>if kv.1=k then(kv.1,y)else kv) (xs.map<|putAt k u):=by
 induction r with
 |nil=>exact .nil
 | @cons p q ps qs h t I=>
  rw[Qt,Qt];refine .cons ?_ I;let{h1,h2,O}:=h;unfold putAt;by_cases e:p.1=k
  .rw[VA e,VA (h1.symm.trans e)];exact⟨h1,h2,G⟩
  .rw[Vz e,Vz (λz=>e<|h1.trans z)];exact⟨h1,h2,O⟩
def KT.put{kvs:Nw}{xs:NG}(r:KT H kvs xs)(k:List Key)(hb:H b=some (.tup<|k.map kV))(z:RelV y u):
  KT H (bj kvs k y) (storedH xs k b u):=by
 have e:(kvs.any λkv=>decide (kv.1=k))=(atKey xs k).isSome:=by
  rw[cz,(r.val k).isSome_eq,V3]
 unfold bj storedH;rw[e];by_cases q:(atKey xs k).isSome=true
 .rw[VA q,VA q];exact r.repl k z
 .rw[Vz q,Vz q];exact Paired.snoc r ⟨M,hb,z⟩
def KT.keeps{kvs:Nw}{xs:NG}(r:KT H kvs xs)(G:∀b ys,H b=some (.tup ys)->H' b=some (.tup ys)):KT H' kvs xs:=
 Paired.mapP r λ_ _ z=>{z.1,G _ _ z.2.1,z.2.2}
section
variable{h:Heap}
def G5{u:HO}(ok:KN P w H h)(e:Rd H a u):E3 P w H h a u:=e.ok ok
def yB(ok:KN P w H h)(e:Rd H a (.dK kvs)):kvs.length<=sizeLine/\(a==sysModules)=false/\∃vs,KV kvs vs/\h.DictOf (bL P w) a vs:=
 show E3 P w H h a (.dK kvs) from G5 ok e
def yC(ok:KN P w H h)(e:H a=some (.dK kvs)):kvs.length<=sizeLine/\(a==sysModules)=false/\∃vs,KV kvs vs/\h.DictOf (bL P w) a vs:=yB ok (.inl e)
def sW{ks:List Key}(ok:KN P w H h)(e:H a=some (.tup<|ks.map kV)):(tupleKind<|bL P w).is h ks a:=by
 let{_,its,r,o,h1,h2,n,z}:=(show E3 P w H h a (.tup<|ks.map kV) from ok a _ e);exact{o,its.toArray,n,h1,h2,z,by simpa using vC r}
def yz{kvs:Nw}(ok:KN P w H h)(e:Rd H a (.dT kvs)):kvs.length<=sizeLine/\(a==sysModules)=false/\
  ∃xs,KT H kvs xs/\h.DictOfH (tupleKind<|bL P w) a xs:=by
 let{z,y,xs,r,o,es,ep,h1,h2,G,I,O}:=(show E3 P w H h a (.dT kvs) from G5 ok e);refine{z,y,xs,r,o,es,ep,h1,h2,G,I,λx hx=>?_,O};have all:∀{l:Nw}{m:NG},KT H l m->∀x∈m,(tupleKind<|bL P w).is h x.1 x.2.1:=by
  intro l m q
  induction q with
  |nil=>intro x hx;exact nomatch hx
  | @cons p q ps qs hq t U=>
   intro x hx;rcases Qc.mp hx with e|hx
   .subst e;exact sW ok<|by rw[<-hq.1];exact hq.2.1
   .exact U x hx
 exact all r x hx
def Kk{kvs:Nw}(ok:KN P w H h)(e:H a=some (.dT kvs)):kvs.length<=sizeLine/\(a==sysModules)=false/\
  ∃xs,KT H kvs xs/\h.DictOfH (tupleKind<|bL P w) a xs:=yz ok (.inl e)
end
def LQ(H:Hp)(a:G')(y:V)(r:Nm):Prop:=
 (∃kvs k,Rd H a (.dK kvs)/\y=kV k/\r=aP kvs k)\/∃kvs k b,Rd H a (.dT kvs)/\y= .ref b/\H b=some (.tup<|k.map kV)/\r=aP kvs k
def M1(H:Hp)(a:G')(y v:V)(H':Hp):Prop:=
 (∃kvs k,H a=some (.dK kvs)/\y=kV k/\kvs.length<sizeLine/\H'=upd H a (.dK<|bj kvs k v))\/
 ∃kvs k b,H a=some (.dT kvs)/\y= .ref b/\H b=some (.tup<|k.map kV)/\kvs.length<sizeLine/\H'=upd H a (.dT<|bj kvs k v)
def LQ.k{k:Key}(e:H a=some (.dK kvs)):LQ H a (kV k) (aP kvs k):= .inl {kvs,k,.inl e,M,M}
def M1.k{k:Key}{v:V}(e:H a=some (.dK kvs))(hl:kvs.length<sizeLine):M1 H a (kV k) v (upd H a<|.dK<|bj kvs k v):= .inl ⟨kvs,k,e,M,hl,M⟩
section
variable{v:V}{r:J'}
def Inv.big(I:Inv X W B H s):sysModules<s.heap.objs.size:=by
 have h:mainGlobals<s.heap.objs.size:=(I.mod.glob.keeps I.bk).lt;exact Nat.lt_trans (_) h
def Cd(hu:A.units+1<cLine)(I:Inv X W B H s)(g:LQ H a y (some v))(Z:RelV y u)(h:∀w' s',Inv X W B H s'->RelV v w'->Q w' s'):
  wpAny (model X.prog X.w) A (getItem (.ref a) u) Q E s:=by
 rcases g with⟨kvs,k,e,U,l⟩|⟨kvs,k,b,e,U,eb,l⟩
 .subst U;let{z,hd,vs,G,dd}:=yB I.hok e;let{w',hw,O}:=LD.some_of (v:=v) (o:=valueAt vs k) (by rw[l];exact G.val k);exact wpAny_getItem_of (vB Z) dd.mapOf hw<|h w' _ (I.tok _) O
 .subst U;cases (show u=Value.ref b from Z);let{z,hd,xs,G,dd}:=yz I.hok e;let{w',hw,O}:=LD.some_of (v:=v) (o:=(atKey xs k).map (·.2)) (by rw[l];exact G.val k);let{p,hp,Y}:=QJ.mp hw;refine wpAny_getItem_heap (tupleKind_room_in1 hu) (sW I.hok eb) dd hp ?_;rw[Y];exact h w' _ (I.tok _) O
def d_in(hu:A.units+1<cLine)(I:Inv X W B H s)(g:LQ H a y o)(U:RelV y u)(h:∀s',Inv X W B H s'->Q (.bool o.isSome) s'):
  wpAny (model X.prog X.w) A (compareOp .In u<|.ref a) Q E s:=by
 rcases g with⟨kvs,k,e,O,l⟩|⟨kvs,k,b,e,O,Y,l⟩
 .subst O;let{z,hd,vs,G,dd}:=yB I.hok e;refine wpAny_in_of (vB U) hd dd.mapOf ?_;rw[<-(G.val k).isSome_eq,<-l];exact h _<|I.tok _
 .subst O;cases (show u=Value.ref b from U);let{z,hd,xs,G,dd}:=yz I.hok e;refine wpAny_in_heap (tupleKind_room_in1 hu) (sW I.hok Y) hd dd ?_;have q:=(G.val k).isSome_eq;rw[V3]at q;rw[<-q,<-l];exact h _<|I.tok _
def Gw(hu:A.units+1<cLine)(I:Inv X W B H s)(g:LQ H a y o)(U:RelV y u)(h:∀s',Inv X W B H s'->Q (.bool<|!o.isSome) s'):
  wpAny (model X.prog X.w) A (compareOp .NotIn u<|.ref a) Q E s:=by
 rcases g with⟨kvs,k,e,O,l⟩|⟨kvs,k,b,e,O,Y,l⟩
 .subst O;let{z,hd,vs,G,dd}:=yB I.hok e;refine wpAny_notIn_of (vB U) hd dd.mapOf ?_;rw[<-(G.val k).isSome_eq,<-l];exact h _<|I.tok _
 .subst O;cases (show u=Value.ref b from U);let{z,hd,xs,G,dd}:=yz I.hok e;refine wpAny_notIn_heap (tupleKind_room_in1 hu) (sW I.hok Y) hd dd ?_;have q:=(G.val k).isSome_eq;rw[V3]at q;rw[<-q,<-l];exact h _<|I.tok _
def xf{ob:HO}(I:Inv X W B H s)(G:Mut (H a))(hs:Heap.SameBut a s.heap h')(he:∃q,h'.get? a=some q)(new:E3 X.prog X.w (upd H a ob) h' a ob):
  Inv X W B (upd H a ob) {s with heap:=h',toks:=t'}:=
 I.write (x:=a) (e:=a) G (.inl M) (λb q hb z=>(hs.2 b hb).trans z) he new
def Em(z:kvs.length<=sizeLine)(hd:(a==sysModules)=false)(G:KV kvs vs)(dd:h'.DictOf (bL P w) a vs):
  E3 P w H' h' a (.dK kvs):=⟨z,hd,vs,G,dd⟩
def Cc{Q:Nz}(hu:A.units+1<cLine)(I:Inv X W B H s)(g:M1 H a y v H')(Y:RelV y u)(rv:RelV v r)(h:∀s',Inv X W B H' s'->Q Unit.unit s'):
  wpAny (model X.prog X.w) A (setItem (.ref a) u r) Q E s:=by
 rcases g with⟨kvs,k,e,O,l,U⟩|⟨kvs,k,b,e,O,Z,l,U⟩
 .subst O U;let{z,hd,vs,G,dd}:=yC I.hok e;have hz:vs.length<=sizeLine:=by rwa[<-G.length]
  have hl:(bj kvs k v).length<=sizeLine:=by have:=cG kvs k v;lia
  refine wpAny_setItem_pairs (hsz:=hz) (vB Y) dd λh' dd' hs=>h _ ?_;have he:∃q,h'.get? a=some q:=by let{q,_,_,hq,_}:=dd';exact⟨q,hq⟩
  exact xf I (by rw[e];exact VU) hs he<|Em hl hd (G.put k rv) dd'
 .subst O U;cases (show u=Value.ref b from Y);let{z,hd,xs,G,dd}:=Kk I.hok e;have hz:xs.length<=sizeLine:=by rwa[<-Paired.length G]
  have hl:(bj kvs k v).length<=sizeLine:=by have:=cG kvs k v;lia
  refine wpAny_setItem_heap (hsz:=hz) (tupleKind_room_in1 hu) (sW I.hok Z) dd λh' dd' hs=>h _ ?_;let{q,es,ep,hq,h2,h3,h4,_,h5}:=dd';refine xf I (by rw[e];exact VU) hs ⟨q,hq⟩ {hl,hd,_,(G.put k Z rv).keeps λc ys ec=>?_,q,es,ep,hq,h2,h3,h4,h5};rwa[ae (cy ec e<|λz=>nomatch z)]
end
def NoSl(i:Expr):Prop:=∀ov iv,subscripted i false ov iv=operate [ov,iv] (getItem ov iv)
def Ft{prog:Mz}{env:Env}{value z:Expr}{id:String} 
  (hl:typeLookup (.type T) "__getitem__"=pure (some<|.builtin id)) (hs:NoSl z)
  (h:wpAny (model prog w) A (eval value env) (λo s₁=>wpAny (model prog w) A (eval z env) (λi s₂=>s₂.TypeIs o T/\wpAny (model prog w) A (getItem o i) Q E s₂) E s₁) E s):
  wpAny (model prog w) A (eval (.Subscript value z pos) env) Q E s:=by
 refine Subscript_<|VV h (λo s₁ h₁=>VV h₁ (λi s₂ G=>?_) λ_ _ x=>x) λ_ _ x=>x;let{U,G}:=G;unfold subscriptTail;refine VC ?_;rw[getitemInPython_of_ne U.not_modules];refine VC<|wpAny_specialOf U hl ?_;have fin:wpAny (model prog w) A (subscripted z false o i) (λr I=>wpAny (model prog w) A (letTemporaryGo value o r>>=λ_=>pure r) Q E I) E s₂:=by
  rw[hs o i];exact wpAny_operating (VV G (λr I O=>VC<|wpAny_letTemporaryGo<|VN O) λ_ _ x=>x)
 first
  |exact VN<|VC fin
  |exact VC<|VN (VC fin)
  |exact VC fin
def yF(I:Inv X W B H s)(g:LQ H a y o):s.TypeIs (.ref a) "dict":=by
 rcases g with⟨kvs,k,e,_,_⟩|⟨kvs,k,b,e,_,_,_⟩
 .let{_,_,vs,_,dd}:=yB I.hok e;exact dd.typeIs
 .let{_,_,xs,_,dd}:=yz I.hok e;exact dd.typeIs
inductive HQ(Q:VK)(x y:V)(H2:Hp):Prop
 |mk(a v:_)(_:x= .ref a)(_:LQ H2 a y (some v))(_:Q v H2)
def JK(td ty:TE):TE:=λB H Q=>td B H λx H1=>ty B H1 λy H2=>HQ Q x y H2
inductive JJ(Q:VK)(y x:V)(H2:Hp):Prop
 |mk(a o:_)(_:x= .ref a)(_:LQ H2 a y o)(_:Q (.bl o.isSome) H2)
def tDIn(ty td:TE):TE:=λB H Q=>ty B H λy H1=>td B H1 λx H2=>JJ Q y x H2
def Fp(ty td:TE):TE:=λB H Q=>ty B H λy H1=>td B H1 λx H2=>∃a o,x= .ref a/\LQ H2 a y o/\Q (.bl<|!o.isSome) H2
inductive HY(D:iW)(B:St)(v x y:V)(H3:Hp):Prop
 |mk(a H4:_)(_:x= .ref a)(_:M1 H3 a y v H4)(_:D.nx B H4)
def JQ(td ty tv:TE):TS:=λD B H=>tv B H λv H1=>td B H1 λx H2=>ty B H2 λy H3=>HY D B v x y H3
section
variable{o i value:Expr}{pos' tpos:Pos}{td ty tv:TE}
def wN(hu:X.A.units+1<cLine)(U:PE X o td)(hi:PE X i ty)(hs:NoSl i):PE X (.Subscript o i pos) (JK td ty):=by
 intro W s B H Q I h;refine Ft PySem.F.slot_dict_getitem.lookup hs<|ED (U W s B H _ I h) λu s1 zz=>?_;let{x,H1,Y,Z,q1}:=zz;refine ED (hi W s1 B H1 _ Y q1) λiv s2 z=>?_;let{y,H2,O,ry,a,v,ex,g,q2}:=z;subst ex;obtain rfl:u=Value.ref a:=Z;exact{yF O g,Cd hu O g ry λw' s3 I3 G=>⟨v,H2,I3,G,q2⟩}
def Iq(hu:X.A.units+1<cLine)(hi:PE X i ty)(G:PE X o td):PC X .In i o (tDIn ty td):=by
 intro W s B H Q I h;refine ED (hi W s B H _ I h) λiv s1 zz=>?_;let{y,H1,O,U,Y}:=zz;refine ED (G W s1 B H1 _ O Y) λu s2 z=>?_;let{x,H2,Z,rx,a,ov,ex,g,q2}:=z;subst ex;obtain rfl:u=Value.ref a:=rx;exact d_in hu Z g U λs3 I3=>{.bl ov.isSome,H2,I3,M,q2}
def pH(hu:X.A.units+1<cLine)(hi:PE X i ty)(G:PE X o td):PC X .NotIn i o (Fp ty td):=by
 intro W s B H Q I h;refine ED (hi W s B H _ I h) λiv s1 zz=>?_;let{y,H1,O,U,Y}:=zz;refine ED (G W s1 B H1 _ O Y) λu s2 z=>?_;let{x,H2,Z,rx,a,ov,ex,g,q2}:=z;subst ex;obtain rfl:u=Value.ref a:=rx;exact Gw hu Z g U λs3 I3=>{.bl<|!ov.isSome,H2,I3,M,q2}
def wJ(hu:X.A.units+1<cLine)(G:PE X o td)(hi:PE X i ty)(O:PE X value tv)(hs:swapsWith value (some<|.Subscript o i pos') pos.line X.env=pure false):
  PS X (.Assign [.Subscript o i pos'] value pos) (JQ td ty tv):=by
 intro W s B H D I h;refine wpAny_Assign_Subscript (ED (O W s B H _ I h) λr s1 zz=>?_) hs;let{v,H1,U,rv,Y}:=zz;refine ED (G W s1 B H1 _ U Y) λu s2 zz=>?_;let{x,H2,Z,rx,q2}:=zz;refine ED (hi W s2 B H2 _ Z q2) λiv s3 z=>?_;let{y,H3,I3,ry,a,H4,ex,g,q3}:=z;subst ex;obtain rfl:u=Value.ref a:=rx;exact Cc hu I3 g ry rv λs4 I4=>⟨B,H4,I4,q3⟩
end
def En(h:Heap)(hb:sysModules<h.objs.size):E3 P w H (h.push {cls:= .type "dict",data:= .dict #[]}) h.objs.size (.dK []):=
 {Qh _,VQ.mpr<|Ne.symm<|Qz hb,[],.nil,Heap.DictOf.new h}
def HP:TE:=λ_ H Q=>∀p,H p=none->Q (.ref p) (upd H p<|.dK [])
def kf:PE X (.Dict [] [] pos) HP:=λW s B H Q I h=>
 wpAny_Dict_empty {.ref s.heap.objs.size,_,I.laid (a:=s.heap.objs.size) (o:= .dK []) (t':=s.toks) (λ_ _ q=>VB _ q) (Q5 _)<|En s.heap I.big,M,h _<|I.hok.fresh (Q5 _)}
end L2
namespace Att
open PySem PySem.W PySem.Calls PyProof.Rows
variable{h:Heap}{n:Nat}{l:OpenLaw}{P:Params}{YP:World->Heap->Prop}
def qI:∀(ns:Mu)(vs:L'),WellAll P h vs (ns.map WData.int)->IntsAre vs ns:=by
 intro ns
 induction ns with
 |nil=>
  intro vs w;rw[Xv]at w;cases w;exact .nil
 |cons n ns z=>
  intro vs w;rw[Qt]at w;cases w with
  |cons a b=>
   cases a;exact .cons _ _<|z _ b
def Bz(hn:l.most=some n){args:List WData}{z:L'}
  (G:l.row.toRowW.claim.pre args=true) (Z:WellAll P h z args):
  ∃a vs ns,z=[Value.ref a]/\args=[WData.list (ns.map WData.int)]/\h.get? a=some {cls:= .type eR,data:= .seq vs.toArray}/\IntsAre vs ns/\ns.length<=n:=by
 have a0:WShape.hasAll [] args [.list .int]=true:=(pre_splitW G).1;have hc:l.pre.holds [] {args:=args}=true:=(pre_splitW G).2;let{d,r,rfl,h1,h2}:=hasAllW_cons a0;obtain rfl:=hasAllW_nil h2;let{xs,rfl,h3}:=hasW_list h1;let{ns,rfl}:=items_int h3;have I:ns.length<=n:=by
  unfold OpenLaw.pre at hc;have U:(WTm.not<|.lt (.lit<|.int (n:Int))<|.len<|.arg 0).holds [] {args:=[.list (ns.map .int)]}=true:=by
   have U:=(holds_andW hc).1;rw[hn]at U;exact U
  have Y:=condW_of U (w_not<|w_lt w_lit<|w_len_list<|w_arg M);rw[Q0]at Y;refine Vb λq=>?_;have q':(n:Int)<((ns.length:Nat):Int):=()
  first
   |(rw[VI q']at Y;exact VE Y (_))
   |(simp at Y;lia)
 cases Z with
 |cons w1 w2=>
  cases w2;cases w1 with
  |list ho O=>exact{_,_,ns,M,M,ho,qI ns _ O,I}
def BD(l:OpenLaw)(args:List WData):l.row.toRowW.claim.post args (.bool true) args=true:=
 postW_of (r:=l.row.toRowW) (X:=(true==true))
  (show WShape.has [] (.bool true) .bool=true by first|rfl|decide|simp[WShape.has,WShape.arms,WShape.armsAll])
  (show(WTm.eq .res<|.lit<|.bool true).value [] {args:=args,res:=some (.bool true),after:=args}=some (.bool<|true==true) from w_eq_bool (w_res M) w_lit) M
def attach_call{q:Mz}{loose:Na}{XP:(Str->Option Value)->Heap->Prop}{d:DefRec}
  (hn:l.most=some n) (a1:d.params.defaults=[])
  (call:∀(w:Nb)(s₀ s₁:He)(mg mb:Nd)(O:G')(o:Obj)(pm cd z:J')(a:G')(vs:L')(ns:Mu),
   Ground q loose [] XP w s₀ mg mb s₁.heap->YP w s₁.heap->
   s₁.heap.get? O=some o->o.data= .func (docDef d.name d.params d.body d.scope pm cd z)->s₁.heap.CodeRec cd d.name->mg d.name=some (.ref O)->
   s₁.heap.get? a=some {cls:= .type eR,data:= .seq vs.toArray}->IntsAre vs ns->ns.length<=n->s₁.gens= #[]->
   codeAny (model l.prog w) callerA (.call (.ref O) {[.ref a],[]}) (λr s'=>r= .ok (.ret<|.bool true)/\OldK s₁.heap s'.heap/\s'.os=s₁.os/\AllBare s'.gens) s₁):
  WalkO q loose XP YP l.row.toRowW d [] (λf vs=>PySem.call f vs):=by
 intro w s₀ s₁ mg mb G Y O o pm cd z dV kV ho hd a2 hD a3 hg args a5 as U a7 a8 a4 ac;obtain rfl:dV= .none:=Dflts.none hD a1;obtain rfl:kV= .none:=Dflts.noKw hD;let{a,vs,ns,rfl,rfl,Z,I,a0}:=Bz hn U a4;refine enter_call<|codeAny_mono (call w s₀ s₁ mg mb O o pm cd z a vs ns G Y ho (fd_plain hd) a2 a3 Z I a0 hg) λr s' hq=>?_;let{rfl,h2,h3,h4}:=hq;exact{.inl {.bool true,.bool true,[],M,λ_=>M,.bool true,BD l _,λ_=>{VY,λ_ hm=>(nomatch hm)}},h2,h3,h4}
end Att
namespace L2
open PySem PySem.Spec PyProof.Rows
variable{f:G'}{X:Cx}{fd:Nj}{base:Heap}{H:Hp}{ns:Mu}{N:Na}{n:Nat}{P:Mz}{A Wh c:Prop}{K:Wi}{sp:Sp}{B:St}{st:Stmt}{qual x:Str}{nx:Nx}{g:TG}{tb:TS}{Φ:TS->Prop}{F:TS->TS->TS}{rt:VK}{w:Nb}
def Bk{vs:L'}(h:IntsAre vs ns):A7 (ns.map V.int) vs:=by
 induction h with
 |nil=>exact .nil
 |cons n t h z=>exact .cons ⟨t,M⟩ z
abbrev KI:CXT:=λ_ _ _ _ _ _=>False
abbrev E0:XK:=λ_ _ _=>False
def aA:gw KI X E0:=λ_ _ _ _ _ _ _ h=>h.elim
structure KH(K:Wi)(x qual:Str)(st:Stmt)(f:G')(fd:Nj):Prop where
 ex:∃(oc:J')(od:Nf)(kV doc pm:J')(an:Nf)(cdv ct:J')(osl:NE),
  fd=PySem.W.fnOf x qual (fE st) (cf st) (ai st) .none kV doc pm an cdv ct/\K.lookup f=some {oc,od,.func fd,osl}/\PySem.W.codeIn K cdv qual=true
 kp:PySem.W.keepIn K (.ref f)=true
section
variable{mg:Nd}
def KH.ok{ps:Na}{k:Nat}(F:KH K x qual st f fd)(S:ao N ps (ai st))(len:∀vs H Q E,sp vs H Q E->vs.length=ps.length)
  (G:∀(z:J')(A:Nh)(outer:Nk)(s:He)(H:Hp)(vs:K')(Q:VK)(E:XK),K7 k (A.deeper<|envOfC qual (ai st) s.heap.objs.size f z)->sp vs H Q E->
   ∃t,Kw (kQ KI P w K mg base N qual (ai st) f z A outer s H E).nox (cf st) t/\t {nx:=λ_ H'=>Q .non H',rt:=Q} (start N vs) H):AZ P w K mg base KI (k+1) f fd ps sp:=by
 let{oc,od,kV,U,pm,an,z,ct,Y,rfl,lk,I}:=F.ex;refine yx lk I S len λA outer s H vs Q E Z O=>?_;let{t,h,q}:=G z A outer s H vs Q E Z O;exact⟨t,h.nox,q⟩
def Jb{Y:J'}{od O:Nf}{I:NE}{kV G U z ct:J'}(l:K.lookup f=some {Y,od,.func<|PySem.W.fnOf x qual (fE st) (cf st) (ai st) .none kV G U O z ct,I})
  (c:PySem.W.codeIn K z qual=true) (k:PySem.W.keepIn K (.ref f)=true):KH K x qual st f (PySem.W.fnOf x qual (fE st) (cf st) (ai st) .none kV G U O z ct):={⟨Y,od,kV,G,U,O,z,ct,I,M,l,c⟩,k}
end
def l5{A:Nh}{k:Nat}(z:K7 k A):A.units+1<cLine:=Xg (ZR (by decide:1<=64) _) z.units
def cr(h:n<=1000):n<sizeLine:=Xg h (_)
def pv(i:Nat){x:Str}{pos:Pos}(hN:X.N[i]?=some x:=by rfl)(G:Ms X.env.scope x:=by and_intros)(hd:(x==(fx:Str))=false:=by decide)
  (z:(x==("__classdict__":Str))=false:=by decide):PE X (.Name x pos) (Fm i):=Il hN G hd z
def bT(h:Wh):if false=true then A else Wh:=by
 rwa[Vz Qa]
def b9(h:A):if true=true then A else Wh:=by
 rwa[VA M]
def dY[Decidable c](h1:c->A)(h2:¬c->Wh):if c then A else Wh:=by
 by_cases h:c
 .rw[VA h];exact h1 h
 .rw[Vz h];exact h2 h
def Kb[Decidable c](hc:c)(h:Wh):if(!decide c)=true then A else Wh:=by
 rw[VI hc];exact bT h
def Cp(H H':Hp):Prop:=∀b o,H b=some o->H' b=some o
def Cp.refl(H:Hp):Cp H H:=λ_ _ h=>h
def Cp.trans{H1 H2:Hp}(a:Cp H H1)(b:Cp H1 H2):Cp H H2:=λc o h=>b c o (a c o h)
section
variable{κ:Type}[DecidableEq κ]
def CI{kvs:List (κ×V)}{k:κ}(h:aP kvs k=none):¬k∈kvs.map (·.1):=by
 intro m;let{p,hp,e}:=Qk.mp m;have q:(kvs.any λkv=>decide (kv.1=k))=true:=Vc.mpr {p,hp,VI e};rw[cz,h]at q;exact VE q<|by simp
def vZ{kvs:List (κ×V)}{k:κ}{v:V}(h:aP kvs k=some v):k∈kvs.map (·.1):=by
 have q:(kvs.any λkv=>decide (kv.1=k))=true:=by
  rw[cz,h]
  all_goals rfl
 let{p,hp,e}:=Vc.mp q;exact Qk.mpr {p,hp,VF e}
theorem AB:∀{l:List κ}{k:κ},l.Nodup->¬k∈l->(l++ [k]).Nodup
 | [],k,_,_=>by simp
 |a::r,k,h,hk=>by
  let{h1,h2}:=Z9.mp h;show(a::(r++ [k])).Nodup;refine Z9.mpr {λm=>?_,AB h2 λm=>hk<|Qc.mpr (Or.inr m)};rcases Q6.mp m with q|q
  .exact h1 q
  .exact hk<|Qc.mpr (Or.inl (Qf.mp q).symm)
def FX{kvs:List (κ×V)}{k:κ}(v:V)(z:(kvs.map (·.1)).Nodup)(h:aP kvs k=none):((bj kvs k v).map (·.1)).Nodup:=by
 rw[De v h,Qb];exact AB z<|CI h
end
def a6:bootBuiltins "len"=some (.builtin "len"):=by decide+kernel
def bn:bootBuiltins "isinstance"=some (.builtin "isinstance"):=by decide+kernel
def pY:bootBuiltins "min"=some (.builtin "min"):=by decide+kernel
def lM:bootBuiltins kO=some (.builtin kO):=by decide+kernel
def Eu:bootBuiltins nX=some (.type nX):=by decide+kernel
def Gy:bootBuiltins "bool"=some (.type "bool"):=by decide+kernel
def zY:bootBuiltins "str"=some (.type "str"):=by decide+kernel
def Et:bootBuiltins "max"=some (.builtin "max"):=by decide+kernel
def IG:PySem.W.kitOne K (.type nX) (.type nX)=some true:=by kernel_rfl
def IH:PySem.W.kitOne K (.type nX) (.type "bool")=some false:=by kernel_rfl
def II:PySem.W.kitOne K (.type "bool") (.type nX)=some true:=by kernel_rfl
def IJ:PySem.W.kitOne K (.type "bool") (.type "bool")=some true:=by kernel_rfl
def IF:PySem.W.kitOne K (.type "NoneType") (.type nX)=some false:=by kernel_rfl
def IE:PySem.W.kitOne K (.type "str") (.type nX)=some false:=by kernel_rfl
def kE[Decidable c](hc:c)(h:A):if decide c=true then A else Wh:=by
 rw[VI hc];exact b9 h
def br[Decidable c](hc:¬c)(h:Wh):if decide c=true then A else Wh:=by
 rw[VM hc];exact bT h
def pR{a:G'}{xs:K'}(Pv:ND)(I:Pv 0 B H)(hl:∀i B H,i<=xs.length->Pv i B H->Do K H a xs)
  (hs:∀i x B H,xs[i]?=some x->Pv i B H->g x B H λz H2=>tb {Pv<|i+1,rt,nx,Pv<|i+1} z H2) (hd:∀B H,Pv xs.length B H->nx B H):
  ∃J2:Nat->Nat->St->Hp->Prop,(∃m,J2 0 m B H)/\∀i m B H,J2 i m B H->
   ((ME K a).stop i H/\nx B H)\/((ME K a).go i H/\∃N:St->Hp->Prop,(∀G H',N G H'->∃m',m'<m/\J2 (i+1) m' G H')/\∀x H',(ME K a).yld i H x H'->g x B H' λz H2=>tb ⟨N,rt,nx,N⟩ z H2):=
 Ed (D:={nx,rt,λ_ _=>False,λ_ _=>False}) Pv I hl hs hd
def tm{lo:Int}(Pv:ND)(I:Pv 0 B H)
  (hs:∀i B H,i<n->Pv i B H->g (.int<|lo+i) B H λz H2=>tb {Pv<|i+1,rt,nx,Pv<|i+1} z H2) (hd:∀B H,Pv n B H->nx B H):
  ∃J2:Nat->Nat->St->Hp->Prop,(∃m,J2 0 m B H)/\∀i m B H,J2 i m B H->
   ((MI lo n).stop i H/\nx B H)\/((MI lo n).go i H/\∃N:St->Hp->Prop,(∀G H',N G H'->∃m',m'<m/\J2 (i+1) m' G H')/\∀x H',(MI lo n).yld i H x H'->g x B H' λz H2=>tb ⟨N,rt,nx,N⟩ z H2):=
 vF (D:={nx,rt,λ_ _=>False,λ_ _=>False}) Pv I hs hd
def yL{k:Int}(G:0<=k)(h:k<(ns.length:Int)):Lv (ns.map V.int) k=some (.int<|ns.getD k.toNat 0):=by
 let{j,rfl}:=Zh G;refine qU ?_;have z:j<ns.length:=();rw[Qu,Q4 z,Zi,Qs,Q4 z];rfl
def Es{k:Int}(h:¬k<(ns.length:Int)):ns.getD k.toNat 0=0:=by
 rw[Qs,List.getElem?_eq_none ()];rfl
def gN:e6 X (.builtin "isinstance") (λxs H Q=>∃x n t b,xs=[x,.ty n]/\KD X.K H x t/\PySem.W.kitOne X.K t (.type n)=some b/\Q (.bl b) H):=by
 intro W s B H xs us Q I r h;let{x,n,t,b,rfl,ty,e,q}:=h;let{u,w',rfl,G,z}:=qY r;cases (show w'=Value.type n from z);exact vD I G ty e λtk=>{.bl b,H,I.tok _,M,q}
def KM{P:Na}{sc:Scope}(a:sc.kind= .function:=by rfl)(b:sc.isCoroutine=false:=by rfl)(c:sc.isGenerator=false:=by rfl)(d:N.Nodup:=by decide+kernel)(e:N.take P.length=P:=by rfl)(f:∀x∈P,sc.names.lookup x=some .local\/sc.names.lookup x=some .cell:=by decide+kernel)(g:∀y∈sc.names,y.2≠ .free:=by decide+kernel):ao N P sc:=⟨a,b,c,d,e,f,g⟩
def K7.mo{j k:Nat}{A:Nh}(r:K7 k A)(h:j<=k:=by decide):K7 j A:=r.mono h
def KH.okl{mg:Nd}{ps:Na}{k:Nat}(F:KH K x qual st f fd)(S:ao N ps (ai st))
  (G:∀{z:J'}{A:Nh}{outer:Nk}(s:He)(H:Hp)(vs:K')(Q:VK)(E:XK),K7 k (A.deeper<|envOfC qual (ai st) s.heap.objs.size f z)->sp vs H Q E->
   N.Nodup->let X:=(kQ KI P w K mg base N qual (ai st) f z A outer s H E).nox
   ∃t,Kw X (cf st) t/\t {nx:=λ_ H'=>Q .non H',rt:=Q} (start N vs) H)
  (len:∀vs H Q E,sp vs H Q E->vs.length=ps.length:=by intro _ _ _ _ h;repeat (first|(let{rfl,_}:=h;exact M)|let{_,h}:=h)):AZ P w K mg base KI (k+1) f fd ps sp:=F.ok S len λz A outer s H vs Q E I h=>G s H vs Q E I h S.nd
section
variable{pos:Pos}
abbrev Dm{X:Cx}:= @pv X 0
abbrev K3{X:Cx}:= @pv X 1
abbrev K9{X:Cx}:= @pv X 2
abbrev KY{X:Cx}:= @pv X 3
abbrev Kt{X:Cx}:= @pv X 4
abbrev Lx{X:Cx}:= @pv X 5
abbrev MF{X:Cx}:= @pv X 6
abbrev Mh{X:Cx}:= @pv X 7
abbrev pv8{X:Cx}:= @pv X 8
abbrev pv9{X:Cx}:= @pv X 9
abbrev Ic{X:Cx}:= @pv X 10
def MC(i:Nat)(hN:X.N.Nodup:=by assumption)(hi:X.N[i]?=some x:=by rfl)(hx:Loc X.env.scope x:=by exact Or.inl M)(hf:X.fn x=true\/X.env.scope.names.lookup x=some .local:=by ac_rfl):PG X (.Name x pos) (kF i):=Ay hN hi hx hf
def KB(i:Nat){e:Expr}{te:TE}{pos':Pos}(he:PE X e te)(hN:X.N.Nodup:=by assumption)(hi:X.N[i]?=some x:=by rfl)(hx:Loc X.env.scope x:=by exact Or.inl M)(hs:swapsWith e (some<|.Name x pos') pos.line X.env=pure false:=by rfl)(hf:X.fn x=true\/X.env.scope.names.lookup x=some .local:=by ac_rfl):PS X (.Assign [.Name x pos'] e pos) (CV te<|kF i):=wH hN hi hx he hs hf
end
section
variable{rest A Wh:List Stmt}{t:TS}
def aD(h:PS X st t)(k:Φ t):∃v,Kw X [st] v/\Φ v:={_,aq h,k}
def ah(h:PS X st t)(k:∃u,Kw X rest u/\(let Wh:=u;Φ (xF t Wh))):∃v,Kw X (st::rest) v/\Φ v:=by
 let{u,hu,k}:=k;exact{_,j7 h hu,k}
def Dy{F:TS->TS}(z:∀{x},Kw X A x->PS X st (F x))(k:∃a,Kw X A a/\(let b:=a;Φ (F b))):∃v,Kw X [st] v/\Φ v:=by
 let{a,ha,k}:=k;exact{_,aq<|z ha,k}
def eX{F:TS->TS}(z:∀{x},Kw X A x->PS X st (F x))(k:∃a,Kw X A a/\(let b:=a;∃u,Kw X rest u/\(let Wh:=u;Φ (xF (F b) Wh)))):∃v,Kw X (st::rest) v/\Φ v:=by
 let{a,ha,u,hu,k}:=k;exact{_,j7 (z ha) hu,k}
def J0(z:∀{x y},Kw X A x->Kw X Wh y->PS X st (F x y))(k:∃a,Kw X A a/\(let b:=a;∃c,Kw X Wh c/\(let d:=c;Φ (F b d)))):∃v,Kw X [st] v/\Φ v:=by
 let{a,ha,c,hc,k}:=k;exact{_,aq<|z ha hc,k}
def J1(z:∀{x y},Kw X A x->Kw X Wh y->PS X st (F x y))(k:∃a,Kw X A a/\(let b:=a;∃c,Kw X Wh c/\(let d:=c;∃u,Kw X rest u/\(let Wh:=u;Φ (xF (F b d) Wh))))):∃v,Kw X (st::rest) v/\Φ v:=by
 let{a,ha,c,hc,u,hu,k}:=k;exact{_,j7 (z ha hc) hu,k}
end
end L2
namespace SW
variable{m n:Int}{a b:Nat}
noncomputable def rv:Nat->Nat->Nat
 |0,_=>0
 |k+1,n=>(n%2)*2^k+rv k (n/2)
theorem Au:∀(k n:Nat),rv k n<2^k
 |0,_=>by simp[rv]
 |k+1,n=>by
  have h:=Au k (n/2);have m:n%2<2:=Nat.mod_lt _ (_);have e:rv (k+1) n=(n%2)*2^k+rv k (n/2):=M;have p:2^(k+1)=2*2^k:=by rw[ZN,X1]
  rw[e,p];rcases Nat.mod_two_eq_zero_or_one n with z|z<;>rw[z]<;>lia
theorem wE:∀(k n:Nat),rv (k+1) n=rv k n*2+(n/2^k)%2
 |0,n=>by simp[rv]
 |k+1,n=>by
  have h:=wE k (n/2);have z:rv (k+2) n=(n%2)*2^(k+1)+rv (k+1) (n/2):=M;have e2:rv (k+1) n=(n%2)*2^k+rv k (n/2):=M;have d:n/2/2^k=n/2^(k+1):=by
   rw[Xw,ZN,X1]
  rw[z,e2,h,d,ZN];rw[Nat.add_mul,Nat.mul_assoc];lia
theorem C9:∀(k n:Nat),rv k (n%2^k)=rv k n
 |0,_=>rfl
 |k+1,n=>by
  have p:2^(k+1)=2*2^k:=by rw[ZN,X1]
  have z:n%2^(k+1)%2=n%2:=by
   rw[p];exact Nat.mod_mul_right_mod n 2<|2^k
  have e2:n%2^(k+1)/2=n/2%2^k:=by
   rw[p];exact Nat.mod_mul_right_div_self n 2 (2^k)
  show(n%2^(k+1)%2)*2^k+rv k (n%2^(k+1)/2)=(n%2)*2^k+rv k (n/2);rw[z,e2,C9 k (n/2)]
theorem At:∀k,rv k 0=0
 |0=>rfl
 |k+1=>by show(0%2)*2^k+rv k (0/2)=0;rw[Nat.zero_div,At k];simp
theorem sf:∀(a b n:Nat),rv (a+b) n=rv a n*2^b+rv b (n/2^a)
 |0,b,n=>by simp[rv]
 |a+1,b,n=>by
  have h:=sf a b (n/2);have e:a+1+b=(a+b)+1:=();have d:n/2/2^a=n/2^(a+1):=by
   rw[Xw,ZN,X1]
  rw[e];show(n%2)*2^(a+b)+rv (a+b) (n/2)=((n%2)*2^a+rv a (n/2))*2^b+_;rw[h,d,Nat.add_mul,Nat.mul_assoc,<-Nat.pow_add];lia
theorem C8:∀(k n:Nat),rv k (rv k n)=n%2^k
 |0,n=>by simp[rv,Nat.mod_one]
 |k+1,n=>by
  have e:rv (k+1) n=rv k n*2+(n/2^k)%2:=wE k n;have z:(rv k n*2+(n/2^k)%2)%2=(n/2^k)%2:=();have e2:(rv k n*2+(n/2^k)%2)/2=rv k n:=();rw[e];show(rv k n*2+(n/2^k)%2)%2*2^k+rv k ((rv k n*2+(n/2^k)%2)/2)=n%2^(k+1);rw[z,e2,C8 k n,ZN,Nat.mod_mul,X1 (2^k)];lia
def HZ{n:Nat}:rv (a+b) n/2^b=rv a n:=by
 have l:=Au b (n/2^a);rw[sf a b n,X1,Nat.mul_add_div (Nat.two_pow_pos b),Nat.div_eq_of_lt l,X2]
def Fw{s:Nat}(h:s<2^a):rv (a+b) s=rv a s*2^b:=by
 rw[sf a b s,Nat.div_eq_of_lt h,At,X2]
@[irreducible] def tz(n:Int):Int:=((rv 16 n.toNat:Nat):Int)
@[irreducible] def rz(a:Nat)(n:Int):Int:=((rv a n.toNat:Nat):Int)
def oX(n:Int):0<=tz n:=by unfold tz;exact ZX _
def GW(n:Int):tz n<65536:=by
 have h:=Au 16 n.toNat;have e:(2:Nat)^16=65536:=by decide
 unfold tz;lia
def Am(z:0<=n)(h1:n<65536):tz (tz n)=n:=by
 have h:=C8 16 n.toNat;have e:(2:Nat)^16=65536:=by decide
 unfold tz;rw[Zi,h,e];lia
def HG(z:0<=n)(h1:n<65536)(k0:0<=m)(k1:m<65536)(e:tz n=tz m):n=m:=by
 rw[<-Am z h1,<-Am k0 k1,e]
def Bm(i:Nat)(m:Nat):((rv i m:Nat):Int)*2+((m/2^i:Nat):Int)%2=((rv (i+1) m:Nat):Int):=by
 rw[wE];lia
def Bn(i:Nat)(m:Nat):((m/2^i:Nat):Int)/2=((m/2^(i+1):Nat):Int):=by
 have d:m/2^i/2=m/2^(i+1):=by rw[Xw,ZN]
 rw[<-d];lia
def BB(a:Nat)(n:Int):0<=rz a n:=by unfold rz;exact ZX _
def JS(a:Nat)(n:Int):rz a n<2^a:=by
 have h:=Au a n.toNat;unfold rz;have c:((rv a n.toNat:Nat):Int)<((2^a:Nat):Int):=by exact_mod_cast h
 simpa using c
def JR(a:Nat)(G:0<=n)(h1:n<2^a):rz a (rz a n)=n:=by
 let{m,rfl}:=Zh G;have h:=C8 a m;have z:m<2^a:=by exact_mod_cast h1
 unfold rz;rw[Zi,Zi,h,Nat.mod_eq_of_lt z]
def Fj(z:a+b=16){s:Int}(I:0<=s)(h1:s<2^a):tz s=rz a s*2^b:=by
 let{m,rfl}:=Zh I;have G:m<2^a:=by exact_mod_cast h1
 have h:=Fw (b:=b) G;rw[z]at h;unfold tz rz;rw[Zi,h];simp
def HF(z:a+b=16)(G:0<=m):tz m/2^b=rz a (m%2^a):=by
 let{n,rfl}:=Zh G;have h:=HZ (a:=a) (b:=b) (n:=n);rw[z]at h;have e:((n:Int)%2^a).toNat=n%2^a:=by
  have c:((n:Int)%2^a)=((n%2^a:Nat):Int):=by simp
  rw[c,Zi]
 unfold tz rz;rw[Zi,e,C9,<-h];simp
structure Row(S:Int)(a b:Nat):Prop where
 ab:a+b=16
 lo:2<=a
 hi:a<=9
 eq:S=2^a
section
variable{S:Int}(R:Row S a b)
include R
theorem Row.mul:S*2^b=65536:=by
 rw[R.eq,<-Int.pow_add,R.ab];decide
theorem Row.wpos:(0:Int)<2^b:=Int.pow_pos (_)
theorem Row.pos:0<S:=by rw[R.eq];exact Int.pow_pos (_)
theorem Row.width:65536/S=2^b:=by
 rw[<-R.mul,Int.mul_ediv_cancel_left _ (Zc R.pos)]
theorem Row.wpos':0<65536/S:=by rw[R.width];exact R.wpos
theorem Row.slot{s:Int}(G:0<=s)(h1:s<S):tz s=2^b*rz a s/\0<=rz a s/\rz a s<S/\rz a (rz a s)=s:=by
 have z:s<2^a:=by rwa[<-R.eq]
 refine{by rw[Fj R.ab G z,V4],BB _ _,by rw[R.eq];exact JS _ _,JR _ G z}
theorem Row.top(z:0<=m):2^b*rz a (m%S)<=tz m/\tz m<2^b*rz a (m%S)+2^b:=by
 have d:=HF R.ab z;rw[<-R.eq]at d;have e:=XG (tz m) (2^b);have p:=Qx (tz m) (Zc R.wpos);have q:=QA (tz m) R.wpos;rw[d]at e;lia
theorem Row.mod0(m:Int):0<=m%S:=Qx _ (Zc R.pos)
theorem Row.mod1(m:Int):m%S<S:=QA _ R.pos
theorem Row.between{J2 x y p:Int}(z:0<J2)(G:J2*x<=p)(h1:p<J2*x+J2)(k0:J2*y<=p)(k1:p<J2*y+J2):x=y:=by
 rcases Int.lt_trichotomy x y with h|h|h
 .have:J2*(x+1)<=J2*y:=Vj () (Xx z);rw[Int.mul_add]at this;lia
 .exact h
 .have:J2*(y+1)<=J2*x:=Vj () (Xx z);rw[Int.mul_add]at this;lia
theorem Row.st_has(z:0<=m):tz (m%S)<=tz m/\tz m<tz (m%S)+65536/S:=by
 let{e,_}:=R.slot (R.mod0 m) (R.mod1 m);have t:=R.top z;rw[R.width,e];exact t
end
def mU{k:Nat}(h:k<=6):Row (4*2^k) (k+2) (14-k):=by
 refine{(),(),(),?_};rw[Int.pow_add];lia
end SW
namespace L2
open PySem PySem.Spec PyProof.Rows
abbrev _root_.Mw:=Addr->Prop
variable{C T f:G'}{old:Mw}{A:Nh}{g:Array GenState}{vs:Ni}{ab:Bool}{d:Drawn}{base h:Heap}{φ:Heap->Prop}{H:Hp}{l:Nc}{outer:Nk}{N sn:Na}{bm sub us:L'}{M':Model}{t:Nat}{dd od:Nf}{col:Option Bool}{os:OsState}{P prog:Mz}{K:Wi}{R:Result->Shared->Prop}{s s':He}{qual:Str}{Q:Nz}{e:J'}{E J2:Ng}{w:Nb}
abbrev aK(C:G')(od:Nf)(vs:Ni):Obj:={cls:= .ref C,dict:=od,data:= .fields vs}
def Ln(h:Heap)(e:G')(vs:Ni)(T:G')(fl:J'):Prop:=
 vs[1]?=some (.ref T)/\T≠e/\∃oT ts,h.get? T=some oT/\oT.data= .fields ts/\ts[3]?=some fl
structure KW(l:Nc)(e:G')(old:Mw)(h h':Heap):Prop where
 keep:∀b o,h.get? b=some o->b∉l->b≠e->¬old b->h'.get? b=some o
 slot:∀b o,h.get? b=some o->b∈l->b≠e->¬old b->∃sl,h'.get? b=some {o with slots:=sl}
 there:∀b o,h.get? b=some o->∃o',h'.get? b=some o'
section
variable{env:Env}{L e:G'}
def Jc(hl:s.heap.FunFrames base (env::outer))(he:s.heap.get? e=some (aK C od vs)):e∉LR (env::outer):=λz=>by
 let{_,o,G,I}:=hl.mem z;cases he.symm.trans G;exact I vs M
def sO{G:J'}{Z:Bool}(a0:A.frames=some (env::outer))(hl:s.heap.FunFrames base (env::outer))(hf:env.frame=some L)(he:s.heap.get? e=some (aK C od vs))(hsz:1<vs.size)
  (q:∀h' T I,KW (LR (env::outer)) e (λ_=>False) s.heap h'->h'.get? e=some (aK C od I)->(I.size=vs.size/\I[2]?=vs[2]?)->s.heap.objs.size<=T->Ln h' e I T (rawInt L)->Q Unit.unit {s with heap:=h'}):
  wpAny M' A (do let a<-frameOf env;let pl<-entryPlaceOf L Z;let b<-EntryCells.newEntry G a .none (rawInt L) .none pl;setField (.ref e) 1 b) Q E s:=by
 have nf:e∉(env::outer).filterMap (·.frame):=Jc hl he;refine VC<|wpAny_frameOf_fun a0 hl hf λh1 O=>?_;refine VC<|wpAny_entryPlaceOf λpl ip=>?_;unfold EntryCells.newEntry newFields;refine VC<|wpAny_newObj_type ?_ (ip.sizeOk5 _ _ _ _ _);have e1:h1.get? e=some (aK C od vs):=(O.2.1 e nf).trans he;have big:3<([G,Value.ref L,.none,rawInt L,.none]++(if pl.isEmpty then List.replicate 6 Value.none else pl)).toArray.size:=by
  simp only[Q9,Qd,Ql,Vm];lia
 have U:([G,Value.ref L,.none,rawInt L,.none]++(if pl.isEmpty then List.replicate 6 Value.none else pl)).toArray[3]?=some (rawInt L):=by simp
 generalize ([G,Value.ref L,.none,rawInt L,.none]++(if pl.isEmpty then List.replicate 6 Value.none else pl)).toArray=ts at big U;generalize eo:({cls:= .type "traceback",dict:=none,data:= .fields ts}:Obj)=oT;have e2:(h1.push oT).get? e=some (aK C od vs):=VB _ e1;have ne:h1.objs.size≠e:=ZC (VJ e1);refine wpAny_setField e2 M hsz<|q _ h1.objs.size (vs.setIfInBounds 1<|.ref h1.objs.size) {λb o Y g2 g3 _=>?_,λb o Y _ g3 _=>?_,λb o Y=>?_} ?_ {Array.size_setIfInBounds,by simp} (QO O.1.symm) {by simp[hsz],ne,oT,ts,?_,by rw[<-eo],U}
 .rw[VO _ _ (Ne.symm g3)];exact VB _<|(O.2.1 b g2).trans Y
 .let{sl,r}:=O.2.2 b o Y;exact{sl,(VO _ _<|Ne.symm g3).trans<|VB _ r}
 .by_cases z:b=e
  .subst z;exact{_,Heap.get?_update_self _ e2 M}
  .let{sl,r}:=O.2.2 b o Y;exact{_,(VO _ _<|Ne.symm z).trans<|VB _ r}
 .exact Heap.get?_update_self _ e2 M
 .rw[VO _ _ (Ne.symm ne),<-eo];exact VL h1 M
def sN(G:A.frames=some (env::outer))(hl:s.heap.FunFrames base (env::outer))(hf:env.frame=some L)(he:s.heap.get? e=some (aK C od vs))(h1:vs[1]?=some .none)
  (q:∀h' T z,KW (LR (env::outer)) e (λ_=>False) s.heap h'->h'.get? e=some (aK C od z)->(z.size=vs.size/\z[2]?=vs[2]?)->s.heap.objs.size<=T->Ln h' e z T (rawInt L)->Q Unit.unit {s with heap:=h'}):
  wpAny M' A (noteFrame (.ref e) env) Q E s:=by
 unfold noteFrame;simp only[hf];refine VC<|wpAny_field he M h1 ?_;rw[Vz (_)];exact sO G hl hf he (Zo.mp h1).1 q
def BJ(Z:A.frames=some (env::outer))(hl:s.heap.FunFrames base (env::outer))(hf:env.frame=some L)(he:s.heap.get? e=some (aK C od vs))(tr:Ln s.heap e vs T .none)
  (q:∀h' T' G,KW (LR (env::outer)) e (· =T) s.heap h'->h'.get? e=some (aK C od G)->(G.size=vs.size/\G[2]?=vs[2]?)->s.heap.objs.size<=T'->Ln h' e G T' (rawInt L)->Q Unit.unit {s with heap:=h'}):
  wpAny M' A (noteFrame (.ref e) env) Q E s:=by
 let{h1,ne,oT,ts,Y,hd,h3}:=tr;unfold noteFrame;simp only[hf];refine VC<|wpAny_field he M h1 ?_;rw[VA (show(Value.ref T !=Value.none)=true by simp)];refine VC<|wpAny_field Y hd h3 ?_;rw[Vz (show ¬(Value.none==rawInt L)=true by simp[rawInt])];have I:∀b,b≠T->(s.heap.update T (Obj.mapFields (·.setIfInBounds 3 Value.none))).get? b=s.heap.get? b:=λb z=>VO _ _ (Ne.symm z);have nofr:∀b o,s.heap.get? b=some o->(∀ws,o.data≠ .fields ws)->b≠T:=λb o O U z=>by
  subst z;cases Y.symm.trans O;exact U ts hd
 refine VC<|wpAny_setField Y hd (Zo.mp h3).1 ?_;refine sO Z (hl.of_keeps λb o O U=>{o,(I b<|nofr b o O U).trans O,M}) hf ((I e<|Ne.symm ne).trans he) (Zo.mp h1).1 λh' T' G n O U g3 g4=>?_;refine q h' T' G {λb o k1 k2 k3 k4=>n.keep b o ((I b k4).trans k1) k2 k3 id,λb o k1 k2 k3 k4=>n.slot b o ((I b k4).trans k1) k2 k3 id,λb o k1=>?_} O U (by rw[Heap.size_after_update]at g3;exact g3) g4;by_cases z:b=T
 .subst z;exact n.there b _<|Heap.get?_update_self _ Y (Obj.isFreed_of_fields<|Obj.data_mapFields hd _)
 .exact n.there b o<|(I b z).trans k1
def jw{l:Nc}{fl:J'}(he:s.heap.get? e=some (aK C od vs))(tr:Ln s.heap e vs T fl)
  (q:∀h',(∀b o,b≠T->s.heap.get? b=some o->h'.get? b=some o)->h'.get? e=some (aK C od vs)->(∃o,h'.get? T=some o)->h'.objs.size=s.heap.objs.size->Ln h' e vs T .none->Q Unit.unit {s with heap:=h'}):
  wpAny M' A (setFlight (.ref e) none) Q E s:=by
 let{h1,I,Y,ts,O,hd,U}:=tr;have big:3<ts.size:=(Zo.mp U).1;unfold setFlight;refine VC<|wpAny_field he M h1 ?_;rw[VA (show(Value.ref T !=Value.none)=true by simp)];have G:∀b,b≠T->(s.heap.update T (Obj.mapFields (·.setIfInBounds 3 ((none:Nf).elim Value.none λf=>rawInt f)))).get? b=s.heap.get? b:=λb z=>VO _ _ (Ne.symm z);have new:=Heap.get?_update_self (Obj.mapFields (·.setIfInBounds 3 ((none:Nf).elim Value.none λf=>rawInt f))) O (Obj.isFreed_of_fields<|Obj.data_mapFields hd _);exact wpAny_setField O hd big<|q _ (λb o z g=>(G b z).trans g) ((G e<|Ne.symm I).trans he) {_,new} (Heap.size_after_update ..) {h1,I,_,_,new,Obj.data_mapFields hd _,by simp[big]}
end
def XN(e C:G')(od:Nf):HO:= .ext λh=>∃t,h.get? e=some (aK C od #[.ref t,.none,.none,.none,.bool false,.none])
noncomputable def XO(e C:G')(od:Nf):HO:= .ext λh=>∃vs,h.get? e=some (aK C od vs)/\1<vs.size
section
variable{h':Heap}{e:G'}
def GV{t:G'}(k:h.get? e=some (aK C od #[.ref t,.none,.none,.none,.bool false,.none])):E3 P w H h e (XN e C od):=
 {⟨t,k⟩,{_,k},λ_ _ zz st=>by let{t,k}:=zz;exact{t,st _ k}}
def Ai(k:h.get? e=some (aK C od vs))(z:1<vs.size):E3 P w H h e (XO e C od):=
 {⟨vs,k,z⟩,{_,k},λ_ _ zz st=>by let{vs,k,z}:=zz;exact{vs,st _ k,z}}
def Cz(ok:KN P w H h)(q:H e=some (XN e C od)):∃t,h.get? e=some (aK C od #[.ref t,.none,.none,.none,.bool false,.none]):=(ok e _ q).1
def GU(ok:KN P w H h)(q:H e=some (XO e C od)):∃vs,h.get? e=some (aK C od vs)/\1<vs.size:=(ok e _ q).1
def KW.hok(n:KW l e old h h')(ok:KN P w H h)(hl:∀b∈l,H b=none)(I:∀b,old b->H b=none)(he:H e=some (.ext φ))
  (new:h'.get? e=some (aK C od vs)) (z:1<vs.size):KN P w (upd H e<|XO e C od) h':=λb u q=>by
 by_cases hb:b=e
 .subst hb;rw[ag]at q;cases q;exact Ai new z
 .rw[ae hb]at q;have G:∀c v,H c=some v->c≠e->∀o,h.get? c=some o->h'.get? c=some o:=λc v r O o g=>
   n.keep c o g (λm=>by rw[hl c m]at r;cases r) O λm=>by rw[I c m]at r;cases r
  refine(ok b u q).stay (λc v hc r=>?_) (λc r=>?_) λc xs r=>?_
  .rcases hc with rfl|hc
   .exact G _ _ q hb v r
   .exact G _ _ hc (λm=>by rw[m,he]at hc;cases hc) v r
  .rwa[ae (λm=>by rw[m,he]at r;cases r)]
  .rwa[ae (λm=>by rw[m,he]at r;cases r)]
def KW.un{ch:Nc}{o':HO}(n:KW l e old h h')(hc:∀b,old b->b∈ch)(he:H e=some (.ext φ)):Un l ch H (upd H e o') h h':=by
 have G:∀b,H b=none->b≠e:=λb r z=>by rw[z,he]at r;cases r
 refine{λb o g r m k=>n.keep b o g m (G b r) λz=>k<|hc b z,λb o g r m k=>n.slot b o g m (G b r) λz=>k<|hc b z,λb o _ r _=>by rwa[ae (G b r)],λb o g _=>n.there b o g,λb xs r=>?_,λb o u r=>?_,λb ps r=>{#[],?_}}
 .rwa[ae (λm=>by rw[m,he]at r;cases r)]
 .rwa[ae (λm=>by rw[m,he]at r;cases r)]
 .rw[ae (λm=>by rw[m,he]at r;cases r),r];simp
end
def LX(P:Mz)(w:Nb):CXT:=λouter H s E e s'=>∃(ea C:G')(od:Nf)(vs:Ni)(T:G')(H':Hp),
 e= .ref ea/\s'.os=s.os/\AllBare s'.gens/\Un (LR outer) [] H H' s.heap s'.heap/\KN P w H' s'.heap/\H' ea=some (XO ea C od)/\s'.heap.get? ea=some (aK C od vs)/\1<vs.size/\
 Ln s'.heap ea vs T .none/\H' T=none/\s.heap.objs.size<=T/\E (.ref ea) od H'
def xB{a:G'}{o:HO}(h:H a=some o):upd H a o=H:=by
 funext b;by_cases z:b=a
 .subst z;rw[ag,h]
 .rw[ae z]
def Be(X:Cx)(E:St->XK)(e:J')(s:He):Prop:=∃(W:Mv)(B:St)(H:Hp)(ea C:G')(od:Nf)(vs:Ni)(φ:Heap->Prop),
 e= .ref ea/\Inv X W B H s/\H ea=some (.ext φ)/\s.heap.get? ea=some (aK C od vs)/\1<vs.size/\(vs[1]?=some .none\/∃T,Ln s.heap ea vs T .none/\gx X W H T)/\E B (.ref ea) od (upd H ea<|XO ea C od)
section
variable{X:Cx}{W:Mv}{B:St}
def jq{ea:G'}(I:Inv X W B H s)(O:X.stack=X.env::X.outer)(hf:X.env.frame=some X.env.locals)(hA:A.frames=some X.stack)
  (hx:H ea=some (.ext φ)) (hr:s.heap.get? ea=some (aK C od vs)) (hz:1<vs.size) (ht:vs[1]?=some .none\/(∃T,Ln s.heap ea vs T .none/\gx X W H T)\/∃T,Ln s.heap ea vs T (rawInt X.env.locals)/\gx X W H T)
  (q:∀s' G T,Inv X W B (upd H ea<|XO ea C od) s'->s'.heap.get? ea=some (aK C od G)->1<G.size->Ln s'.heap ea G T .none->gx X W (upd H ea<|XO ea C od) T->G[2]?=vs[2]?->Q Unit.unit s'):
  wpAny M' A (noteFrame (.ref ea) X.env) (λ_ s1=>wpAny M' A (setFlight (.ref ea) none) Q J2 s1) J2 s:=by
 rw[O]at hA;have hl:s.heap.FunFrames X.base (X.env::X.outer):=O▸I.stack;have U:∀b∈LR (X.env::X.outer),H b=none:=O▸I.stkFree;have fin:∀(old:Mw)(ch:Nc)(h1:Heap)(T':G')(G:Ni),(∀b,old b↔b∈ch)->(∀b∈ch,gx X W H b)->KW (LR (X.env::X.outer)) ea old s.heap h1->h1.get? ea=some (aK C od G)->(G.size=vs.size/\G[2]?=vs[2]?)->
   s.heap.objs.size<=T'->Ln h1 ea G T' (rawInt X.env.locals)->wpAny M' A (setFlight (.ref ea) none) Q J2 {s with heap:=h1}:=by
  intro old ch h1 T' G a0 a1 n g1 Y Z g4;refine jw (l:=[]) (s:={s with heap:=h1}) g1 g4 λh2 k1 k2 k3 k4 k5=>?_;have nT:∀b o,s.heap.get? b=some o->b≠T':=λb o g z=>VE (VJ g) (V1.mpr<|z▸Z);have n2:KW (LR (X.env::X.outer)) ea old s.heap h2:={λb o r1 r2 r3 r4=>k1 b o (nT b o r1)<|n.keep b o r1 r2 r3 r4,λb o r1 r2 r3 r4=>by
    let{sl,r}:=n.slot b o r1 r2 r3 r4;exact{sl,k1 b _ (nT b o r1) r},λb o r1=>by
    let{o',r}:=n.there b o r1;exact{o',k1 b _ (nT b o r1) r}}
  have a2:KN X.prog X.w (upd H ea<|XO ea C od) h2:=n2.hok I.hok U (λb z=>(a1 b<|(a0 b).mp z).1) hx k2 (Y.1▸hz);have a3:Un (LR X.stack) ch H (upd H ea<|XO ea C od) s.heap h2:=by
   rw[O];exact n2.un (λb z=>(a0 b).mp z) hx
  have I2:Inv X W B (upd H ea<|XO ea C od) {s with heap:=h2}:=I.call' (s':={s with heap:=h2}) M a3 a2 I.bare λb hb=>by
   let{z1,z2,z3,z4,z5,z6}:=a1 b hb;exact⟨z4,z2,z5,z6⟩
  refine q _ G T' I2 k2 (Y.1▸hz) k5 (I.fpOk Z ?_) Y.2;have neT:T'≠ea:=Ne.symm (nT ea _ hr);rw[ae neT];exact I.hok.fresh Z
 rcases ht with h1|⟨T,tr,fp⟩|⟨T,tr,fp⟩
 .exact sN hA hl hf hr h1 λh1 T' G n g1 Y Z g4=>fin (λ_=>False) [] h1 T' G (λb=>by simp) (λb z=>nomatch z) n g1 Y Z g4
 .exact BJ hA hl hf hr tr λh1 T' G n g1 Y Z g4=>fin (· =T) [T] h1 T' G (λb=>by simp) (λb z=>by rwa[Qf.mp z]) n g1 Y Z g4
 .let{h1,ne,oT,ts,hT,hd,h3}:=id tr;refine wpAny_noteFrame_inFlight hf hr M h1 hT hd h3 ?_;refine jw (l:=[]) hr tr λh' k1 k2 k3 k4 k5=>?_;have I1:Inv X W B H {s with heap:=h'}:=I.turned (t':=s.toks) (it:=T) k1 fp.1 fp.2.1 fp.2.2.2.1 fp.2.2.2.2.1 fp.2.2.2.2.2;have I2:Inv X W B (upd H ea<|XO ea C od) {s with heap:=h'}:=I1.write (x:=ea) (e:=ea) (t':=s.toks) (by rw[hx];exact VU) (.inl M) (λ_ _ _ e=>e) {_,k2} (Ai k2 hz);exact q _ vs T I2 k2 hz k5 {by rw[ae ne];exact fp.1,fp.2.1,fp.2.2.1,fp.2.2.2.1,fp.2.2.2.2.1,fp.2.2.2.2.2} M
def vp{ea:G'}(I:Inv X W B H s)(O:X.stack=X.env::X.outer)(hf:X.env.frame=some X.env.locals)(U:A.frames=some X.stack)
  (hx:H ea=some (.ext φ)) (Y:s.heap.get? ea=some (aK C od vs)) (hz:1<vs.size) (Z:vs[1]?=some .none\/∃T,Ln s.heap ea vs T .none/\gx X W H T)
  (q:∀s' G T,Inv X W B (upd H ea<|XO ea C od) s'->s'.heap.get? ea=some (aK C od G)->1<G.size->Ln s'.heap ea G T .none->gx X W (upd H ea<|XO ea C od) T->Q Unit.unit s'):
  wpAny M' A (noteFrame (.ref ea) X.env) (λ_ s1=>wpAny M' A (setFlight (.ref ea) none) Q J2 s1) J2 s:=
 jq I O hf U hx Y hz (Z.imp id .inl) λs' G T I' r z t f _=>q s' G T I' r z t f
def Inv.thrown{E:XK}(I:Inv X W B H s)(h:LX X.prog X.w X.stack H s E e s'):∃(ea C:G')(od:Nf)(vs:Ni)(H':Hp),e= .ref ea/\Inv X W B H' s'/\H' ea=some (XO ea C od)/\
  s'.heap.get? ea=some (aK C od vs)/\1<vs.size/\(∃T,Ln s'.heap ea vs T .none/\gx X W H' T)/\E (.ref ea) od H':=by
 let{ea,C,od,vs,T,H',rfl,os,bare,un,hok,hx,G,hz,tr,O,U,q}:=h;exact{ea,C,od,vs,H',M,I.call' os un hok bare λb z=>VE z (by simp),hx,G,hz,{T,tr,I.fpOk U O},q}
def Inv.flies{E:XK}{F:St->XK}(I:Inv X W B H s)(h:LX X.prog X.w X.stack H s E e s')(k:∀v od H',E v od H'->F B v od H'):Be X F e s':=by
 let{ea,C,od,vs,H',rfl,z,hx,G,hz,O,q}:=I.thrown h;exact{W,B,H',ea,C,od,vs,_,M,z,hx,G,hz,.inr O,by rw[xB hx];exact k _ _ _ q}
end
section
variable{mg:Nd}{scope:Scope}{cd:J'}{E:XK}
def yp(h:Be (kQ (LX P w) P w K mg base N qual scope f cd A outer s H E) (λ_=>E) e s'):(kQ (LX P w) P w K mg base N qual scope f cd A outer s H E).xe e s':=by
 let{W,B,H1,ea,C,od,vs,φ,rfl,I,hx,Y,hz,Z,q}:=h;show wpAny _ _ (leaving _<|.ref ea) _ _ s';unfold leaving;refine VC<|vp I M M I.ok.frames hx Y hz Z λs2 O T G r2 z2 t2 U=>?_;refine{ea,C,od,O,T,_,M,G.os,G.bare,G.base,G.hok,ag,r2,z2,t2,U.1,?_,q};rcases U.2.2.2.1 with z|z
 .exact VE (show T∈([]:Nc) from z)<|by simp
 .exact z
def jM:gw (LX P w) (kQ (LX P w) P w K mg base N qual scope f cd A outer s H E) E:=
 λ_ _ _ _ _ _ I h=>yp (I.flies h λ_ _ _ q=>q)
def KH.okX{x:Str}{st:Stmt}{fd:Nj}{ps:Na}{k:Nat}{sp:Sp}(F:KH K x qual st f fd)(S:ao N ps (ai st))(len:∀vs H Q E,sp vs H Q E->vs.length=ps.length)
  (G:∀(z:J')(A:Nh)(outer:Nk)(s:He)(H:Hp)(vs:K')(Q:VK)(E:XK),K7 k (A.deeper<|envOfC qual (ai st) s.heap.objs.size f z)->sp vs H Q E->
   ∃t,Kw (kQ (LX P w) P w K mg base N qual (ai st) f z A outer s H E) (cf st) t/\t {nx:=λ_ H'=>Q .non H',rt:=Q} (start N vs) H):AZ P w K mg base (LX P w) (k+1) f fd ps sp:=by
 let{oc,od,kV,U,pm,an,z,ct,Y,rfl,lk,I}:=F.ex;exact yx lk I S len λA outer s H vs Q E Z O=>G z A outer s H vs Q E Z O
end
abbrev MD:List Value:=[.type "ValueError",.type "Exception",.type "BaseException",.type "object"]
def KJ(bm:L'):Prop:=∃ups:List Addr,bm=ups.map Value.ref++MD
def KJ.typ(Wh:KJ bm)(T:String):bm.contains (.type T)=MD.contains (.type T):=by
 let{z,rfl}:=Wh
 induction z with
 |nil=>rfl
 |cons a r G=>rw[Qt,Va,Zb,G];rfl
def KJ.val(Wh:KJ bm):bm.contains (.type "ValueError")=true:=(Wh.typ _).trans ∅
def KJ.bas(Wh:KJ bm):bm.contains (.type "BaseException")=true:=(Wh.typ _).trans ∅
def KJ.att(Wh:KJ bm):bm.contains (.type "AttributeError")=false:=(Wh.typ _).trans ∅
def KJ.nam(Wh:KJ bm):bm.contains (.type "NameError")=false:=(Wh.typ _).trans ∅
structure L9(K:Wi)(C:G')(bm:L'):Prop where
 ob:∃nm q N bs sn sub ab col dd k0 k1 k2 k3 k5,K.lookup C=some (excClassObj nm q C N bs bm true sn sub ab col dd k0 k1 k2 k3 k5 f')
 mro:KJ bm
 kp:PySem.W.keepIn K (.ref C)=true
 ga:PySem.W.findIn K (.ref C) "__getattribute__"=some (some<|.builtin "BaseException.__getattribute__")
 gn:PySem.W.findIn K (.ref C) "__getattr__"=some none
 sa:PySem.W.findIn K (.ref C) "__setattr__"=some (some<|.builtin "object.__setattr__")
section
variable{nm q:Str}{N:G'}{bs:L'}{k0 k1 k2 k3 k5:Option Value}
abbrev cM(C t:G'):Obj:=aK C none #[.ref t,.none,.none,.none,.bool false,.none]
abbrev iZ(us:L'):Obj:={cls:= .type i3,data:= .seq us.toArray}
def Gu{rest:L'}(Wh:KJ bm)(z:h.get? C=some (excClassObj nm q C N bs bm true sn sub ab col dd k0 k1 k2 k3 k5 f'))(hz:rest.length<=sizeLine)
  (hq:R (.ok<|.ret<|.ref<|h.objs.size+1) {(h.push<|iZ rest).push<|cM C h.objs.size,g,d,t,os}):
  codeAny (model prog w) A (.call (.builtin f') {.ref C::rest,[]}) R ⟨h,g,d,t,os⟩:=by
 have F:=Xh;have I:(Value.ref C::bm).contains (.type "ValueError")=true:=by rw[Zb,Wh.val,Xy]
 have c2:(Value.ref C::bm).contains (.type "AttributeError")=false:=by rw[Zb,Wh.att];rfl
 have O:(Value.ref C::bm).contains (.type "NameError")=false:=by rw[Zb,Wh.nam];rfl
 have st:=F.noStar;have U:=F.ends;refine codeAny_call_builtin_code (Code.quiet_builtin _ F.quiet) ?_;simp only[checkBuiltinCall,F.newKind,F.newSplit,F.newRow]
 repeat (first|refine wpAny_loadPart_at z ?_|(refine wpAny_isSubtype_exc z ?_;rw[I])|refine wpAny_staticBase_exc z ?_|refine wpAny_madeBy_exc z ?_|simp only[bne_self_eq_false,QP,if_false]|wp_step)
 refine codeAny_builtinAt F.entry ?_;unfold Builtin.«BaseException.__new__»;refine PySem.wpAt_bind ?_;show PySem.wpAt _ _ _ (stack>>=_) _ _ _;refine PySem.wpAt_bind (PySem.wpAt_stack λp G=>PySem.wpAt_of_wpAny ?_)
 wp_walk
 refine PySem.wpAt_of_wpAny ?_;rw[F.owner]
 repeat (first|with_reducible refine wpAny_madeHere_exc F.canon z ?_|with_reducible refine wpAny_loadPart_at z ?_|(with_reducible refine wpAny_isSubtype_exc z ?_;first|rw[I]|rw[c2]|rw[O])|wp_step)
 show R _ _;rwa[Heap.size_push]
open PySem.W in
def Eg{I:J'}(X:K.In h)(Y:L9 K C bm)(hz:us.length<=sizeLine)(hi:findIn K (.ref C) gt=some (some I))(hf:∀self,Looks (model prog w) h (bindSpecial I self) (I,[self]))
  (hq:codeAny (model prog w) (A.under<|.builtin ir {.ref C::us,[]}) (.call I {.ref (h.objs.size+1)::us,[]}) (InitBack (h.objs.size+1) R) {(h.push<|iZ us).push<|cM C h.objs.size,g,d,t,os}):
  codeAny (model prog w) A (.call (.ref C) {us,[]}) R ⟨h,g,d,t,os⟩:=by
 let{nm,q,N,bs,sn,sub,ab,col,dd,k0,k1,k2,k3,k5,hK}:=Y.ob;have G:=X _ _ hK;have Wh:=Y.mro;have U:(Value.ref C::bm).contains (.ref C)=true:=by simp
 have hl:=looks_findIn (M:=model prog w) X hi;have f1:=tc_lookup;have f2:=tc_bind (.ref C);have hT:(⟨h,g,d,t,os⟩:He).TypeIs (.ref C) "type":={_,G,M};refine codeAny_of_tree ?_;show wpAny _ _ (callAny (.ref C) _) _ _ _
 repeat (any_goals (first|assumption|with_reducible refine wpAny_loadPart_at G ?_|wp_step))
 refine{M,?_};refine codeAny_call_builtin_at (Code.quiet_builtin _ ∅) entry_typeCall (wpAny_check_type_call_sub G ?_)
 repeat (first|with_reducible refine wpAny_loadPart_at G ?_|with_reducible refine wpAny_madeBy_exc G ?_|wp_step)
 refine Gu Wh G hz ?_;show wpAny _ (A.under<|.builtin ir {.ref C::us,[]}) _ _ _ {(h.push<|iZ us).push<|cM C h.objs.size,g,d,t,os};have k:∀b o,h.get? b=some o->((h.push<|iZ us).push<|cM C h.objs.size).get? b=some o:=λb o e=>VB _ (VB _ e);have he:((h.push<|iZ us).push<|cM C h.objs.size).get? (h.objs.size+1)=some (cM C h.objs.size):=by heap_get
 have O:=k _ _ G;have Z:=hl.keeps k;have fb:=(hf<|.ref<|h.objs.size+1).keeps k;have t1:Looks (model prog w) ((h.push<|iZ us).push<|cM C h.objs.size) (typeOf<|.ref<|h.objs.size+1) (.ref C):=(Looks.ld he).andThen .now;have s1:Looks (model prog w) ((h.push<|iZ us).push<|cM C h.objs.size) (isSubtype (.ref C)<|.ref C) true:=λA' Q' E' s' kk z=>by
  let{hp,g',d',t',a0}:=s';exact wpAny_isSubtype_exc (kk _ _ O)<|by rwa[U]
 unfold isInstance callSpecial? specialOf
 repeat (first|simp only[U,Bool.not_true,QP,if_false]|with_reducible refine wpAny_call ?_|lk)
 refine codeAny_mono hq λr s' z=>?_;rcases r with e|(v|_|_|_)<;>first|exact z|exact z.elim|skip
 let{rfl,z}:=z;exact VN<|VN z
end
section
variable{nm q:Str}{N:G'}{bs:L'}{k0 k1 k2 k3 k5:Option Value}
def Eh{e:G'}{t0:G'}(Wh:KJ bm)(I:h.get? C=some (excClassObj nm q C N bs bm true sn sub ab col dd k0 k1 k2 k3 k5 f'))
  (he:h.get? e=some (aK C od #[.ref t0,.none,.none,.none,.bool false,.none])) (hz:us.length<=sizeLine)
  (hq:∀h',(∀b o,b≠e->h.get? b=some o->h'.get? b=some o)->h'.get? e=some (aK C od #[.ref h.objs.size,.none,.none,.none,.bool false,.none])->R (.ok<|.ret .none) ⟨h',g,d,t,os⟩):
  codeAny (model prog w) A (.call (.builtin "ValueError.__init__") {.ref e::us,[]}) R ⟨h,g,d,t,os⟩:=by
 have F:=Xh;have O:(Value.ref C::bm).contains (.type "ValueError")=true:=by rw[Zb,Wh.val,Xy]
 have st:=F.noStar;refine codeAny_call_builtin F.init.plain F.initEntry ?_;simp only[checkBuiltinCall,F.initKind,F.initSplit,F.initRow]
 repeat (first|with_reducible refine wpAny_loadPart_at he ?_|with_reducible refine wpAny_loadPart_at I ?_|(with_reducible refine wpAny_isSubtype_exc I ?_;rw[O])|wp_step)
 refine wpAny_onRaise ?_;rw[show ∀(a b:String)(n:Nat),Bind.check {.positional,"*","ValueError",.self,[{"args",.varPos,false}]} a b n (List.map (λx=>x.fst) ({pos:=Value.ref e::us}:Args).kw)=pure Unit.unit from λa b n=>check_star_args _ _ _ _ _ _];refine VN ?_
 wp_walk
 have G:(h.push<|iZ us).get? e=some (aK C od #[.ref t0,.none,.none,.none,.bool false,.none]):=VB _ he;refine hq _ (λb o z k=>?_) ?_
 .rw[VO _ _ (Ne.symm z)];exact VB _ k
 .exact Heap.get?_update_self _ G M
end
open PySem.W
variable{E:Ng}
section
variable{prog:Mz}{w:Nb}{A:Nh}{s:He}{K:Wi}{e C:G'}{bm:L'}
def L9.cd(Y:L9 K C bm):∃cd,clsIn K C=some cd/\cd.mro= .ref C::bm/\cd.hasDict=true:=by
 let{nm,q,N,bs,sn,sub,ab,col,dd,k0,k1,k2,k3,k5,hK}:=Y.ob;exact{_,by unfold clsIn;rw[hK],M,M}
end
variable{E:Ng}
section
variable{prog:Mz}{w:Nb}{A:Nh}{s:He}{K:Wi}{e C:G'}{bm:L'}
structure XIs(K:Wi)(C:G'):Prop where
 ha:findIn K (.ref C) "__class__"=some (some<|.builtin hL)
 hn:specialIn K (.builtin hL) "__get__"=some (some<|.builtin "getset_descriptor.__get__")
 tk:takesIn K (.builtin hL)=some true
 hm:mroIn K C (.type "object")=some true
end
def HC(H:Hp)(e:G')(od:Nf)(C:G')(fs:Nl):Prop:=H e=some (XO e C od)/\((fs=[]/\od=none)\/∃dx,od=some dx/\H dx=some (.xd fs))
section
variable{X:Cx}{W:Mv}{B:St}{H:Hp}{s:He}
def dU(K:Wi)(hK:X.K=K):e6 X (.builtin "isinstance") (λxs H Q=>∃x D t b,xs=[x,.ref D]/\KD K H x t/\kitOne K t (.ref D)=some b/\Q (.bl b) H):=by
 subst hK;intro W s B H xs us Q I r h;let{x,D,t,b,rfl,ty,e,q}:=h;let{u,w',rfl,G,z}:=qY r;cases (show w'=Value.ref D from z);exact vD I G ty e λtk=>{.bl b,H,I.tok _,M,q}
end
variable{C:G'}{φ:Heap->Prop}
section
variable{X:Cx}{W:Mv}{B:St}{H:Hp}{s:He}
def Inv.madeX{us:L'}(I:Inv X W B H s):Inv X W B (upd H (s.heap.objs.size+1)<|XN (s.heap.objs.size+1) C none) {s with heap:=(s.heap.push<|iZ us).push (cM C s.heap.objs.size)}:=
 I.laid (t':=s.toks) (λb o e=>VB _<|VB _ e) (QX _) (GV (t:=s.heap.objs.size)<|by heap_get)
def v9(C:G')(t:TA):TE:=λB H Q=>t B H λvs H1=>vs.length<=1000/\∀e,H1 e=none->Q (.ref e) (upd H1 e<|XN e C none)
variable{CX:CXT}{k:Nat}{f:G'}{fd:Nj}{ps:Na}{sp:Sp}{dvs:K'}{ds:L'}{E:XK}{x m:Str}{p pos apos:Pos}{e o:Expr}{es:Np}{ta:TE}{t:TA}{bm:L'}
def Inv.rewrite{ea:G'}{od:Nf}{z:G'}{h':Heap}{tk:Nat}(I:Inv X W B H s)(hx:H ea=some (.ext φ))(k:∀b o,b≠ea->s.heap.get? b=some o->h'.get? b=some o)
  (new:h'.get? ea=some (aK C od #[.ref z,.none,.none,.none,.bool false,.none])):Inv X W B (upd H ea<|XN ea C od) {s with heap:=h',toks:=tk}:=
 I.write (x:=ea) (e:=ea) (by rw[hx];exact VU) (.inl M) k {_,new} (GV new)
def cK(Y:L9 X.K C bm)(hi:findIn X.K (.ref C) gt=some (some<|.builtin "ValueError.__init__"))(hg:Gl X x)(hm:X.mg x=some (.ref C))
  (ha:PA X (e::es) t) (O:(x==(fx:Str))=false:=by decide) (he:starEach (e::es) X.env=(false,eval e X.env)::starEach es X.env:=by rfl) (U:(backTo pos<|starEach es X.env).any (·.1)=false:=by rfl):
  PE X (.Call (.Name x p) (e::es) [] pos) (v9 C t):=by
 intro W s B H Q I h;refine W3<|gK I hg hm ?_ O;refine Zn (h₀:=X.base) I.ok.mod.kin Y.kp (ED (ha pos W s B H _ I h) λus s1 zz=>?_) he U;let{vs,H1,G,r,hz,q}:=zz;refine{G.kIn,?_};have z:us.length<=sizeLine:=by rw[<-r.length];exact Z1<|cr hz
 have Z:=Inv.madeX (C:=C) (us:=us) G;have q2:=q (s1.heap.objs.size+1) (G.hok.fresh<|QX _);let{nm,q',N,bs,sn,sub,ab,col,dd,k0,k1,k2,k3,k5,hK}:=Y.ob;have hC:=Z.kIn _ _ hK;let{h0,g0,d0,t0,o0}:=s1;refine wpAny_call<|Eg G.kIn Y z hi (λself=>Looks.of_pure<|Xh.init.bind self) ?_;refine Eh Y.mro hC (t0:=h0.objs.size) (by heap_get) z λh' k' n'=>{M,?_};have I3:=Z.rewrite (C:=C) (od:=none) (tk:=t0) ag k' n';rw[bU]at I3;exact{V.ref<|h0.objs.size+1,_,I3,M,q2}
end
variable{f:G'}{A:Nh}{Q:Flow->Shared->Prop}{H:Hp}{s:He}{J2:Ng}{E:XK}
structure EG(K:Wi)(C:G')(m:Str)(v:J'):Prop where
 sp:specialIn K (.ref C) "__getattribute__"=some (some<|.builtin "type.__getattribute__")
 rd:readsIn K C (.type "type")=true
 at_:findCls K (.ref C) (.type "type") m=some (.val v)
section
variable{X:Cx}{W:Mv}{B:St}
variable{CX:CXT}{k:Nat}{C:G'}{fd:Nj}{ps:Na}{sp:Sp}{dvs:K'}{ds:L'}{x m:Str}{p pos apos:Pos}{e o:Expr}{es:Np}{ta:TE}{t:TA}{bm:L'}
def wO{pl:Sem Bool}(Y:Gl X x)(Z:X.mg x=some (.ref C))(hc:EG X.K C m (.ref f))(hk:PySem.W.keepIn X.K (.ref f)=true)(F:AZ X.prog X.w X.K X.mg X.base CX k f fd ps sp)(hr:K7 k X.A)(hb:Binds X.K fd ps ds)(hd:A7 dvs ds)(hx:gw CX X E)(ha:PA X (e::es) t)
  (z:(x==(fx:Str))=false:=by decide)
  (G:starEach (e::es) X.env=(false,eval e X.env)::starEach es X.env:=by rfl) (O:(backTo pos<|starEach es X.env).any (·.1)=false:=by rfl)
  (ht:eval (.Call (.Attribute (.Name x p) m apos) (e::es) [] pos) X.env=(do
   let ov<-eval (.Name x p) X.env
   standAt apos.atName
   let(f,first)<-holding [ov] (getMethod ov m pl)
   callWith pos f first (backTo pos<|starEach (e::es) X.env) (backToKw pos<|keywordEach [] X.env)):=by rfl):
  PE X (.Call (.Attribute (.Name x p) m apos) (e::es) [] pos) (G3 sp dvs E t):=by
 intro W s B H Q I h;refine ZG (pl:=pl) (gK I Y Z ?_ z) ht;refine method_cls I.kIn hc.sp<|cls_value I.kIn hc.rd hc.at_ M ?_;refine Zn (first:=[]) (h₀:=X.base) I.ok.mod.kin hk (ED (ha pos W _ B H _ (I.tok _) h) λus s2 zz=>?_) G O;let{vs,H2,U,r,q2}:=zz;refine{U.kIn,?_};exact pB F hr hb hd hx U r q2
def vg{env:Env}{y:Sem Value}{M':Model}(I:A.handled=none)
  (h:wpAny M' A y (λv s1=>∃ea C od t nm q N bs bm sn sub ab col dd k0 k1 k2 k3 k5,v= .ref ea/\s1.heap.get? C=some (excClassObj nm q C N bs bm true sn sub ab col dd k0 k1 k2 k3 k5 f')/\KJ bm/\
   s1.heap.get? ea=some (aK C od #[.ref t,.none,.none,.none,.bool false,.none])/\J2 (.ref ea) s1) J2 s):wpAny M' A (raiseStmt env (some y) none) Q J2 s:=by
 unfold raiseStmt;refine VC<|VV h (λv s1 z=>?_) λ_ _ z=>z;let{ea,C,od,t,nm,q,N,bs,bm,sn,sub,ab,col,dd,k0,k1,k2,k3,k5,rfl,G,Wh,he,O}:=z;have U:(Value.ref C::bm).contains (.type "BaseException")=true:=by rw[Zb,Wh.bas,Xy]
 let{hp,g,d,tk,os}:=s1
 repeat (first|with_reducible refine wpAny_loadPart_at he ?_|with_reducible refine wpAny_loadPart_at G ?_|(with_reducible refine wpAny_isSubtype_exc G ?_;rw[U])|wp_step)
 exact wpAny_raiseNew_none I O
def EE(X:Cx)(E:XK):Prop:=∀e s,Be X (λ_=>E) e s->X.xe e s
def wD(K:Wi)(te:TE)(E:XK):TS:=λ_ B H=>te B H λv H1=>∃ea C od bm,v= .ref ea/\H1 ea=some (XN ea C od)/\L9 K C bm/\E (.ref ea) od (upd H1 ea<|XO ea C od)
def iH{ex:Expr}{te:TE}{pos:Pos}(hc:X.calm=true)(hx:EE X E)(he:PE X ex te):PS X (.Raise (some ex) none pos) (wD X.K te E):=by
 intro W s B H D I h;rw[arm_exec_Raise];refine VC<|wpAny_standAt (vg (I.ok.hd hc)<|VC<|ED (he W s B H _ I h) λv s1 zz=>?_);let{y,H1,G,U,ea,C,od,bm,Z,O,Y,q}:=zz;refine VC<|wpAny_standAt<|VN ?_;subst Z;cases (show v=Value.ref ea from U);let{nm,q',N,bs,sn,sub,ab,col,dd,k0,k1,k2,k3,k5,hK}:=Y.ob;let{t,z}:=Cz G.hok O;exact{ea,C,od,t,nm,q',N,bs,bm,sn,sub,ab,col,dd,k0,k1,k2,k3,k5,M,G.kIn _ _ hK,Y.mro,z,hx _ _ {W,B,H1,ea,C,od,_,_,M,G,O,z,(by show 1<6;decide),.inl M,q}}
end
def lh{P:Mz}{w:Nb}{K:Wi}{mg:Nd}{base:Heap}{N:Na}{qual:Str}{scope:Scope}{cd:J'}{outer:Nk}:
  EE (kQ (LX P w) P w K mg base N qual scope f cd A outer s H E) E:=λ_ _ h=>yp h
variable{Q:Bool->Shared->Prop}{pn:Mv}{s:He}{J2:Ng}
section
variable{M':Model}{A:Nh}
variable{nm q nm' q':Str}{C N C' N':G'}{bs bm bs' bm':L'}{sn sn':Na}{sub sub':L'}{ab ab':Bool}{col col':Option Bool}{dd dd':Nf}{k0 k1 k2 k3 k5 k0' k1' k2' k3' k5':Option Value}
def B9{e:G'}{od:Nf}{vs:Ni}{b:Bool}(z:s.heap.get? C=some (excClassObj nm q C N bs bm true sn sub ab col dd k0 k1 k2 k3 k5 f'))
  (hD:s.heap.get? C'=some (excClassObj nm' q' C' N' bs' bm' true sn' sub' ab' col' dd' k0' k1' k2' k3' k5' f')) (Wh:KJ bm') (he:s.heap.get? e=some (aK C od vs)) (hb:(Value.ref C::bm).contains (.ref C')=b)
  (hq:Q b s):wpAny M' A (excMatches (.ref e)<|.ref C') Q J2 s:=by
 have G:(Value.ref C'::bm').contains (.type "BaseException")=true:=by rw[Zb,Wh.bas,Xy]
 have f:=tc_notTuple;let{hp,g,d,t,os}:=s;unfold excMatches
 repeat (first|with_reducible refine wpAny_loadPart_at he ?_|with_reducible refine wpAny_loadPart_at hD ?_|(with_reducible refine wpAny_isSubtype_exc hD ?_;rw[G])|(with_reducible refine wpAny_isSubtype_exc z ?_;rw[hb])|wp_step)
 cases b<;>(wp_walk;exact hq)
end
abbrev Cx.sui(X:Cx)(ea:G'):Cx:={X with A:=X.A.mark (some<|.ref ea),calm:=false,xe:=λ_ _=>False}
abbrev Cx.tr(X:Cx)(pn:Mv)(E:St->XK):Cx:={X with pn:=X.pn++pn,xe:=Be {X with pn:=X.pn++pn} E}
section
variable{X:Cx}{W:Mv}{B:St}{H:Hp}
def Cx.Ok.sui(ok:X.Ok)(ea:G'):(X.sui ea).Ok:=
 {ok.mod,ok.kind,ok.glob,ok.blt,ok.above,ok.inj,ok.has,ok.cab,λz=>VE z Qa,ok.frames,ok.stk,ok.exf,ok.bs,ok.bsz,ok.noex,ok.exfs,ok.funs,ok.frf}
def Inv.sui(I:Inv X W B H s)(ea:G'):Inv (X.sui ea) W B H s:={I.ok.sui ea,I.os,I.bare,I.base,I.loc,I.cell,I.free,I.freeC,I.pin,I.hok,I.len}
def Inv.back{ea:G'}(ok:X.Ok)(I:Inv (X.sui ea) W B H s):Inv X W B H s:=⟨ok,I.os,I.bare,I.base,I.loc,I.cell,I.free,I.freeC,I.pin,I.hok,I.len⟩
def Cx.Ok.tr(ok:X.Ok)(pn:Mv)(E:St->XK):(X.tr pn E).Ok:=
 ⟨ok.mod,ok.kind,ok.glob,ok.blt,ok.above,ok.inj,ok.has,ok.cab,ok.hd,ok.frames,ok.stk,ok.exf,ok.bs,ok.bsz,ok.noex,ok.exfs,ok.funs,ok.frf⟩
def Inv.tr(I:Inv X W B H s)(E:St->XK):Inv (X.tr W E) [] B H s:={I.ok.tr W E,I.os,I.bare,I.base,I.loc,I.cell,I.free,I.freeC,λp hp=>I.pin p (by simpa using hp),I.hok,I.len}
def Inv.untr(ok:X.Ok)(I:Inv {X with pn:=X.pn++pn} W B H s):Inv X pn B H s:=
 {ok,I.os,I.bare,I.base,I.loc,I.cell,I.free,I.freeC,λp hp=>I.pin p<|QW _ hp,I.hok,I.len}
def Inv.untr'{E:St->XK}(ok:X.Ok)(I:Inv (X.tr pn E) W B H s):Inv X pn B H s:=
 {ok,I.os,I.bare,I.base,I.loc,I.cell,I.free,I.freeC,λp hp=>I.pin p<|QW _ hp,I.hok,I.len}
end
variable{b:Bool}{Q:Flow->Shared->Prop}{hs:List ExceptHandler}{bm:L'}
abbrev TH:=iW->St->Hp->Addr->Addr->Option Addr->Prop
def PH(X:Cx)(hs:List ExceptHandler)(t:TH):Prop:=∀(W:Mv)(s:He)(B:St)(H:Hp)(D:iW)(ea C:G')(od:Nf)(vs:Ni)(T:G'),Inv X W B H s->H ea=some (XO ea C od)->
 s.heap.get? ea=some (aK C od vs)->Ln s.heap ea vs T .none->gx X W H T->t D B H ea C od->Wj X (handleBy (.ref ea) X.env hs) (SP X W D) X.xe s
def Kg:TH:=λ_ _ _ _ _ _=>False
inductive Kh(K:Wi)(Dc:G')(ts:TS)(tr:TH)(D:iW)(B:St)(H:Hp)(ea C:G')(od:Nf):Prop
 |mk(bm b:_)(_:L9 K C bm)(_:subIn K (.ref C) (.ref Dc)=some b)(_:if b=true then ts D B H else tr D B H ea C od)
section
variable{X:Cx}{x n:Str}{np pos:Pos}{b0:Stmt}{suite:List Stmt}{rest:List ExceptHandler}{i:Nat}{ts:TS}{tr:TH}{Dc:G'}{bm':L'}
def FO:PH X hs Kg:=λ_ _ _ _ _ _ _ _ _ _ _ _ _ _ _ h=>h.elim
def Fq{K:Wi}{C D:G'}(Y:L9 K C bm)(h:subIn K (.ref C) (.ref D)=some b):(Value.ref C::bm).contains (.ref D)=b:=by
 let{cd,hc,z,_}:=Y.cd;have h:mroIn K C (.ref D)=some b:=h;unfold mroIn at h;rw[hc,Option.bind_some,Vz (by rw[z];exact Qa),z]at h;exact VG h
def Ax{name:Option Str}{W:Mv}{s:He}{B:St}{H:Hp}{ea C:G'}{od:Nf}{vs:Ni}(I:Inv X W B H s)(O:s.heap.get? ea=some (aK C od vs))(U:Gl X x)(hm:X.mg x=some (.ref Dc))(Z:L9 X.K Dc bm')
  (Y:L9 X.K C bm) (hb:subIn X.K (.ref C) (.ref Dc)=some b) (z:(x==(fx:Str))=false)
  (h1:b=true->codeAny (model X.prog X.w) (X.A.mark<|some<|.ref ea) (.handlers (.ref ea) [.ExceptHandler none name (b0::suite) pos] X.env) (λr s2=>match r with
     | .ok f=>(match name with
      |none=>Q f s2
      |some n=>Wj X (do bindName X.env n .none;unbindBehindTheSuite X.env n pos) (λ_ s3=>Q f s3) X.xe s2)
     | .error x=>cameBackBy (model X.prog X.w) X.A X.env X.xe x s2) s)
  (h2:b=false->Wj X (handleBy (.ref ea) X.env rest) Q X.xe s):
  Wj X (handleBy (.ref ea) X.env (.ExceptHandler (some<|.Name x np) name (b0::suite) pos::rest)) Q X.xe s:=by
 let{nm,q1,N,bs,sn,sub,ab,col,dd,k0,k1,k2,k3,k5,hK}:=Y.ob;let{nm',a0,N',bs',sn',sub',ab',col',dd',k0',k1',k2',k3',k5',G}:=Z.ob;refine wpAny_handleBy_cons (codeAny_handlers_test<|gK (X:=X.sui ea) (I.sui ea) U hm ?_ z) (by intro q;cases q);refine B9 (I.kIn _ _ hK) (I.kIn _ _ G) Z.mro O (Fq Y hb) ?_;cases b with
 |true=>exact h1 M
 |false=>exact h2 M
def FP(hg:Gl X x)(hm:X.mg x=some (.ref Dc))(Z:L9 X.K Dc bm')(hs:∀ea,Kw (X.sui ea) (b0::suite) ts)(hr:PH X rest tr)(a1:(x==(fx:Str))=false:=by decide):
  PH X (.ExceptHandler (some<|.Name x np) none (b0::suite) pos::rest) (Kh X.K Dc ts tr):=by
 intro W s B H D ea C od vs T I hx O a0 G h;let{bm,b,Y,hb,h}:=h;refine Ax I O hg hm Z Y hb a1 (λz=>?_)<|λz=>?_
 .subst z;rw[VA M]at h;refine codeAny_handlers_suite<|jw (l:=[]) O a0 λh' g1 g2 g3 g4 g5=>?_;have I1:Inv X W B H {s with heap:=h'}:=I.turned (t':=s.toks) (it:=T) g1 G.1 G.2.1 G.2.2.2.1 G.2.2.2.2.1 G.2.2.2.2.2;refine VV (hs ea W _ _ H D (I1.sui ea) h) (λf s4 z=>?_) λ_ _ z=>z.elim;cases f with
  |next=>
   let{U,H',I',q}:=z;exact{_,H',I'.back I.ok,q}
  |brk=>
   let{U,H',I',q}:=z;exact{_,H',I'.back I.ok,q}
  |cont=>
   let{U,H',I',q}:=z;exact{_,H',I'.back I.ok,q}
  |ret u=>
   let{v,U,H',I',rv,q}:=z;exact{v,_,H',I'.back I.ok,rv,q}
 .subst z;rw[Vz Qa]at h;exact hr W s B H D ea C od vs T I hx O a0 G h
def sTry(tb:(St->XK)->TS)(th:TH):TS:=λD B H=>tb (λσ1 v od H1=>∃ea C,v= .ref ea/\H1 ea=some (XO ea C od)/\th D σ1 H1 ea C od) D B H
def Ig{body:List Stmt}{h0:ExceptHandler}{tb:(St->XK)->TS}{th:TH}(Y:X.stack=X.env::X.outer)(hf:X.env.frame=some X.env.locals)(hb:∀pn E,Kw (X.tr pn E) body (tb E))(hh:PH X (h0::hs) th):
  PS X (.Try body (h0::hs) [] [] pos) (sTry tb th):=by
 intro W s B H D I h;refine wpAny_Try_except<|VV (hb W _ [] s B H D (I.tr _) h) (λf s1 z=>?_) λe s1 z=>?_
 .cases f with
  |next=>
   let{G,H',O,q}:=z;exact wpAny_execs_nil {G,H',O.untr' I.ok,q}
  |brk=>
   let{G,H',O,q}:=z;exact{G,H',O.untr' I.ok,q}
  |cont=>
   let{G,H',O,q}:=z;exact{G,H',O.untr' I.ok,q}
  |ret u=>
   let{v,G,H',O,rv,q}:=z;exact{v,G,H',O.untr' I.ok,rv,q}
 .let{Z,a0,H1,ea,C,od,vs,φ,rfl,I1,hx,hr,hz,ht,ea',C',e1,e2,q}:=z;obtain rfl:ea=ea':=Value.ref.inj e1;refine vp (X:={X with pn:=X.pn++W}) I1 Y hf I1.ok.frames hx hr hz ht λs2 a1 T I2 r2 z2 t2 U=>?_;let{a2,r3,_}:=GU I2.hok e2;obtain rfl:C=C':=by
   have z:=VT Obj.cls (VG<|r2.symm.trans r3);exact Value.ref.inj z
  exact hh W s2 a0 _ D ea C od a1 T (I2.untr I.ok) e2 r2 t2 {U.1,U.2.1,U.2.2.1,U.2.2.2.1,U.2.2.2.2.1,λp hp=>U.2.2.2.2.2 p<|QW _ hp} q
end
variable{X:Cx}{E:St->XK}
def qW(CX:CXT)(X:Cx)(E:St->XK):Prop:=∀(W:Mv)(B:St)(H:Hp)(s:He)(e:J')(s':He),Inv X W B H s->CX X.stack H s (E B) e s'->X.xe e s'
def JZ{pn:Mv}:qW (LX X.prog X.w) (X.tr pn E) E:=λW B H s e s' I h=>by
 have ok:Cx.Ok {X with pn:=X.pn++pn}:=⟨I.ok.mod,I.ok.kind,I.ok.glob,I.ok.blt,I.ok.above,I.ok.inj,I.ok.has,I.ok.cab,I.ok.hd,I.ok.frames,I.ok.stk,I.ok.exf,I.ok.bs,I.ok.bsz,I.ok.noex,I.ok.exfs,I.ok.funs,I.ok.frf⟩;have z:Inv {X with pn:=X.pn++pn} W B H s:=⟨ok,I.os,I.bare,I.base,I.loc,I.cell,I.free,I.freeC,I.pin,I.hok,I.len⟩;exact z.flies h λ_ _ _ q=>q
def HR(sp:Sp)(dvs:K')(E:St->XK)(t:TA):TE:=λB H Q=>t B H λvs H1=>sp (vs++dvs) H1 Q (E B)
section
variable{CX:CXT}{k:Nat}{f C:G'}{fd:Nj}{ps:Na}{sp:Sp}{dvs:K'}{ds:L'}{x m:Str}{p pos apos:Pos}{e o:Expr}{es:Np}{ta:TE}{t:TA}
def Fx{W:Mv}{B:St}{H:Hp}{s:He}{Q:VK}{us:L'}{vs:K'}(F:AZ X.prog X.w X.K X.mg X.base CX k f fd ps sp)(G:K7 k X.A)(hb:Binds X.K fd ps ds)(hd:A7 dvs ds)(hx:qW CX X E)
  (I:Inv X W B H s) (r:A7 vs us) (h:sp (vs++dvs) H Q (E B)):Wj X (call (.ref f) us) (EP X W B Q) X.xe s:=by
 have z:A7 (vs++dvs) (us++ds):=r.append hd;have hl:(us++ds).length=ps.length:=by rw[<-z.length];exact F.len _ _ _ _ h
 refine wpAny_call<|codeAny_mono (F.run X.A X.stack s H {us,[]} (us++ds) (vs++dvs) Q (E B) G I.env0 (hb s us I.kIn hl) z h) λr s' hq=>?_;cases r with
 |error e=>exact hx W B H s e s' I hq
 |ok fl=>cases fl<;>first|exact I.after hq|exact False.elim hq
def xY(F:AZ X.prog X.w X.K X.mg X.base CX k f fd ps sp)(U:K7 k X.A)(Y:Gl X x)(Z:X.mg x=some (.ref f))(hk:PySem.W.keepIn X.K (.ref f)=true)(hb:Binds X.K fd ps ds)(hd:A7 dvs ds)(hx:qW CX X E)
  (ha:PA X (e::es) t) (z:(x==(fx:Str))=false:=by decide) (he:starEach (e::es) X.env=(false,eval e X.env)::starEach es X.env:=by rfl) (G:(backTo pos<|starEach es X.env).any (·.1)=false:=by rfl):
  PE X (.Call (.Name x p) (e::es) [] pos) (HR sp dvs E t):=by
 intro W s B H Q I h;refine W3<|gK I Y Z ?_ z;refine Zn (h₀:=X.base) I.ok.mod.kin hk (ED (ha pos W s B H _ I h) λus s1 zz=>?_) he G;let{vs,H1,O,r,q}:=zz;refine{O.kIn,?_};exact Fx F U hb hd hx O r q
end
variable{T:G'}{P:Mz}{w:Nb}
def kh{X:Cx}:gw (LX P w) X E0:=λ_ _ _ _ _ _ _ zz=>by let{_,_,_,_,_,_,_,_,_,_,_,_,_,_,_,_,_,z}:=zz;exact z.elim
def lg(K:Wi)(fd:Nj)(ps:Na)(dvs:K'):Prop:=∃ds,Binds K fd ps ds/\A7 dvs ds
structure M2(K:Wi)(x qual:Str)(st:Stmt)(f:G')(fd:Nj):Prop where
 ex:∃(oc:J')(od:Nf)(dV kV doc pm:J')(an:Nf)(cdv ct:J')(osl:NE),
  fd=fnOf x qual (fE st) (cf st) (ai st) dV kV doc pm an cdv ct/\K.lookup f=some {oc,od,.func fd,osl}/\codeIn K cdv qual=true
 kp:keepIn K (.ref f)=true
section
variable{K:Wi}{mg:Nd}{base:Heap}{x qual:Str}{st:Stmt}{f:G'}{fd:Nj}{N ps:Na}{k:Nat}{sp:Sp}
def M2.okX(F:M2 K x qual st f fd)(S:ao N ps (ai st))(len:∀vs H Q E,sp vs H Q E->vs.length=ps.length)
  (G:∀(z:J')(A:Nh)(outer:Nk)(s:He)(H:Hp)(vs:K')(Q:VK)(E:XK),K7 k (A.deeper<|envOfC qual (ai st) s.heap.objs.size f z)->sp vs H Q E->
   ∃t,Kw (kQ (LX P w) P w K mg base N qual (ai st) f z A outer s H E) (cf st) t/\t {nx:=λ_ H'=>Q .non H',rt:=Q} (start N vs) H):AZ P w K mg base (LX P w) (k+1) f fd ps sp:=by
 let{oc,od,dV,kV,U,pm,an,z,ct,Y,rfl,lk,I}:=F.ex;exact yx lk I S len λA outer s H vs Q E Z O=>G z A outer s H vs Q E Z O
structure Jt(K:Wi)(x qual:Str)(st:Stmt)(T f:G')(fd:Nj):Prop where
 toD:M2 K x qual st f fd
 ex:∃(kV doc pm:J')(an:Nf)(cdv ct:J'),fd=fnOf x qual (fE st) (cf st) (ai st) (.ref T) kV doc pm an cdv ct
def AQ{Y:J'}{od O:Nf}{I:NE}{kV G U z ct:J'}(l:K.lookup f=some {Y,od,.func<|fnOf x qual (fE st) (cf st) (ai st) (.ref T) kV G U O z ct,I})
  (c:codeIn K z qual=true) (k:keepIn K (.ref f)=true):Jt K x qual st T f (fnOf x qual (fE st) (cf st) (ai st) (.ref T) kV G U O z ct):={{{Y,od,_,kV,G,U,O,z,ct,I,M,l,c},k},⟨kV,G,U,O,z,ct,M⟩}
def ft{dd:Nf}{z:Ni}{n:Nat}{Y:NE}{ds:L'}(g:Nat)(hg:g+ds.length=ps.length)(F:Jt K x qual st T f fd)(Z:K.lookup T=some {.type i3,dd,.seq z n,Y})
  (h:∀(kV G O:J')(U:Nf)(I ct:J')(us:L'),us.length=g->∃k,bindArgs (fnOf x qual (fE st) (cf st) (ai st) (.ref T) kV G O U I ct) {us,[]}=seqItems? (.ref T)>>=k/\k (some z)=pure (ps.zip<|us++ds)):
  Binds K fd ps ds:=by
 let{kV,G,O,U,I,ct,rfl}:=F.ex;intro s us X hl;let{k,h1,h2}:=h kV G O U I ct us (by rw[Qd]at hl;lia);exact BindsTo.of_defaults M (X _ _ Z) M h1 h2
end
variable{C e ea:G'}{A:Nh}{vs:Ni}{X:Cx}{ex:Expr}{Q:Flow->Shared->Prop}{h:Heap}{φ:Heap->Prop}{H:Hp}{W pn:Mv}{od:Nf}{P:Mz}{s:He}{B:St}{x:Str}{te:TE}{J2:Ng}{w:Nb}{E:XK}
def CXc(P:Mz)(w:Nb):CXT:=λouter H s E e s'=>∃(ea C:G')(od:Nf)(vs:Ni)(T:G')(H':Hp),
 vs[2]?=some .none/\e= .ref ea/\s'.os=s.os/\AllBare s'.gens/\Un (LR outer) [] H H' s.heap s'.heap/\KN P w H' s'.heap/\H' ea=some (XO ea C od)/\s'.heap.get? ea=some (aK C od vs)/\1<vs.size/\
 Ln s'.heap ea vs T .none/\H' T=none/\s.heap.objs.size<=T/\E (.ref ea) od H'
def EI(X:Cx)(E:St->XK)(e:J')(s:He):Prop:=∃(W:Mv)(B:St)(H:Hp)(ea C:G')(od:Nf)(vs:Ni)(φ:Heap->Prop),
 vs[2]?=some .none/\e= .ref ea/\Inv X W B H s/\H ea=some (.ext φ)/\s.heap.get? ea=some (aK C od vs)/\1<vs.size/\(vs[1]?=some .none\/∃T,Ln s.heap ea vs T .none/\gx X W H T)/\E B (.ref ea) od (upd H ea<|XO ea C od)
def Ju(X:Cx)(E:XK)(e:J')(s:He):Prop:=∃(W:Mv)(B:St)(H:Hp)(ea C:G')(od:Nf)(vs:Ni)(φ:Heap->Prop)(T:G'),
 e= .ref ea/\Inv X W B H s/\H ea=some (.ext φ)/\s.heap.get? ea=some (aK C od vs)/\1<vs.size/\Ln s.heap ea vs T (rawInt X.env.locals)/\gx X W H T/\E (.ref ea) od (upd H ea<|XO ea C od)
def Bd(X:Cx)(E:XK):Prop:=∀e s,EI X (λ_=>E) e s->X.xe e s
def qV(X:Cx)(E:XK):Prop:=∀e s,Ju X E e s->X.xe e s
section
variable{K:Wi}{mg:Nd}{base:Heap}{N:Na}{qual:Str}{scope:Scope}{f:G'}{cd:J'}{outer:Nk}
def An:Bd (kQ (CXc P w) P w K mg base N qual scope f cd A outer s H E) E:=λe s' h=>by
 let{W,B,H1,ea,C,od,vs,φ,hc,rfl,I,hx,Y,hz,Z,q}:=h;show wpAny _ _ (leaving _<|.ref ea) _ _ s';unfold leaving;refine VC<|jq I M M I.ok.frames hx Y hz (Z.imp id .inl) λs2 O T G r2 z2 t2 U c2=>?_;refine{ea,C,od,O,T,_,c2.trans hc,M,G.os,G.bare,G.base,G.hok,ag,r2,z2,t2,U.1,?_,q};rcases U.2.2.2.1 with z|z
 .exact VE (show T∈([]:Nc) from z)<|by simp
 .exact z
def Fk:qV (kQ (LX P w) P w K mg base N qual scope f cd A outer s H E) E:=λe s' h=>by
 let{W,B,H1,ea,C,od,vs,φ,T,rfl,I,hx,Y,hz,tr,fp,q}:=h;show wpAny _ _ (leaving _<|.ref ea) _ _ s';unfold leaving;refine VC<|jq I M M I.ok.frames hx Y hz (.inr<|.inr ⟨T,tr,fp⟩) λs2 O T G Z z2 t2 U _=>?_;refine{ea,C,od,O,T,_,M,G.os,G.bare,G.base,G.hok,ag,Z,z2,t2,U.1,?_,q};rcases U.2.2.2.1 with z|z
 .exact VE (show T∈([]:Nc) from z)<|by simp
 .exact z
variable{st:Stmt}{fd:Nj}{ps:Na}{k:Nat}{sp:Sp}
def KH.okC(F:KH K x qual st f fd)(S:ao N ps (ai st))(len:∀vs H Q E,sp vs H Q E->vs.length=ps.length)
  (G:∀(z:J')(A:Nh)(outer:Nk)(s:He)(H:Hp)(vs:K')(Q:VK)(E:XK),K7 k (A.deeper<|envOfC qual (ai st) s.heap.objs.size f z)->sp vs H Q E->
   ∃t,Kw (kQ (CXc P w) P w K mg base N qual (ai st) f z A outer s H E) (cf st) t/\t {nx:=λ_ H'=>Q .non H',rt:=Q} (start N vs) H):AZ P w K mg base (CXc P w) (k+1) f fd ps sp:=by
 let{oc,od,kV,U,pm,an,z,ct,Y,rfl,lk,I}:=F.ex;exact yx lk I S len λA outer s H vs Q E Z O=>G z A outer s H vs Q E Z O
end
def vj{pos:Pos}(hc:X.calm=true)(hx:Bd X E)(he:PE X ex te):PS X (.Raise (some ex) none pos) (wD X.K te E):=by
 intro W s B H D I h;rw[arm_exec_Raise];refine VC<|wpAny_standAt (vg (I.ok.hd hc)<|VC<|ED (he W s B H _ I h) λv s1 zz=>?_);let{y,H1,G,U,ea,C,od,bm,Z,O,Y,q}:=zz;refine VC<|wpAny_standAt<|VN ?_;subst Z;cases (show v=Value.ref ea from U);let{nm,q',N,bs,sn,sub,ab,col,dd,k0,k1,k2,k3,k5,hK}:=Y.ob;let{t,z}:=Cz G.hok O;exact{ea,C,od,t,nm,q',N,bs,bm,sn,sub,ab,col,dd,k0,k1,k2,k3,k5,M,G.kIn _ _ hK,Y.mro,z,hx _ _ {W,B,H1,ea,C,od,_,_,M,M,G,O,z,(by show 1<6;decide),.inl M,q}}
noncomputable def XC(e C:G')(od:Nf):HO:= .ext λh=>∃vs,h.get? e=some (aK C od vs)/\1<vs.size/\vs[2]?=some .none
def JB(k:h.get? e=some (aK C od vs))(z:1<vs.size)(c:vs[2]?=some .none):E3 P w H h e (XC e C od):=
 {⟨vs,k,z,c⟩,{_,k},λ_ _ zz st=>by let{vs,k,z,c}:=zz;exact{vs,st _ k,z,c}}
def JC(ok:KN P w H h)(q:H e=some (XC e C od)):∃vs,h.get? e=some (aK C od vs)/\1<vs.size/\vs[2]?=some .none:=(ok e _ q).1
def uN:entryFor table "proto.unchain"=some Builtin.«proto.unchain»:=entryFor_of_tree (by kernel_rfl)
section
variable{prog:Mz}
def v8{h:G'}{z:Obj}{G:Ni}{Q:Ng}(I:s.heap.get? h=some z)(hd:z.data= .fields G)(hc:G[2]?=some .none)(q:Q .none s):
  wpAny (model prog w) A (runValue<|.builtin "proto.unchain" {[.ref e,.ref h,.ref h,.bool false],[]}) Q J2 s:=by
 refine wpAny_runValue<|codeAny_builtin uN ?_;unfold Builtin.«proto.unchain»;refine VC<|wpAny_field I hd hc ?_;rw[VA {_}];exact VN q
def zy{env:Env}{y c:Sem Value}{h:G'}(hh:A.handled=some (.ref h))(a0:∀(s:Shared)(Q:Value->Shared->Prop),Q .none s->wpAny (model prog w) A c Q J2 s)
  (hw:wpAny (model prog w) A y (λv s1=>∃ea C od t nm q N bs bm sn sub ab col dd k0 k1 k2 k3 k5,v= .ref ea/\ea≠h/\s1.heap.get? C=some (excClassObj nm q C N bs bm true sn sub ab col dd k0 k1 k2 k3 k5 f')/\KJ bm/\
   s1.heap.get? ea=some (aK C od #[.ref t,.none,.none,.none,.bool false,.none])/\(∃Ch I vh,s1.heap.get? h=some (aK Ch I vh)/\vh[2]?=some .none)/\
   ∀h',(∀b o,b≠ea->s1.heap.get? b=some o->h'.get? b=some o)->h'.get? ea=some (aK C od #[.ref t,.none,.ref h,.none,.bool true,.none])->J2 (.ref ea) {s1 with heap:=h'}) J2 s):wpAny (model prog w) A (raiseStmt env (some y)<|some c) Q J2 s:=by
 unfold raiseStmt;refine VC<|VV hw (λv s1 z=>?_) λ_ _ z=>z;let{ea,C,od,t,nm,q,N,bs,bm,sn,sub,ab,col,dd,k0,k1,k2,k3,k5,rfl,O,U,Wh,he,{Ch,I,vh,hr,hv},hE}:=z;have cB:(Value.ref C::bm).contains (.type "BaseException")=true:=by rw[Zb,Wh.bas,Xy]
 have a1:C≠ea:=λz=>by
  rw[z,he]at U;have:=VT Obj.data (VG U);cases this
 refine VC<|W4 (a0 _ _<|VC<|VN ?_);let{hp,g,d,tk,os}:=s1;have ex:∀(str:String)(Q:Ng),Q (.ref ea) ⟨hp,g,d,tk,os⟩->wpAny (model prog w) A (excFromValue (.ref ea) str) Q J2 ⟨hp,g,d,tk,os⟩:=λstr Q q=>by
  unfold excFromValue
  repeat (first|with_reducible refine wpAny_loadPart_at he ?_|with_reducible refine wpAny_loadPart_at U ?_|(with_reducible refine wpAny_isSubtype_exc U ?_;rw[cB])|wp_step)
  exact q
 refine VC (W4<|ex _ _ ?_)
 (try dsimp only)
 rw[VA {_}];refine VC (VN ?_)
 (try dsimp only)
 have Z:=Heap.get?_update_self (Obj.mapFields (·.setIfInBounds 3 Value.none)) he (Obj.isFreed_of_fields<|Obj.data_mapFields (vs:= #[.ref t,.none,.none,.none,.bool false,.none]) M _);have o1:∀b,b≠ea->(hp.update ea (Obj.mapFields (·.setIfInBounds 3 Value.none))).get? b=hp.get? b:=λb z=>VO _ _ (Ne.symm z);refine VC (wpAny_setField he M (by show 3<6;decide) ?_)
 (try dsimp only)
 generalize hp.update ea (Obj.mapFields (·.setIfInBounds 3 Value.none))=h1 at Z o1⊢;have G:=Heap.get?_update_self (Obj.mapFields (·.setIfInBounds 4 (Value.bool true))) Z (Obj.isFreed_of_fields<|Obj.data_mapFields (vs:= #[.ref t,.none,.none,.none,.bool false,.none]) M _);have o2:∀b,b≠ea->(h1.update ea (Obj.mapFields (·.setIfInBounds 4 (Value.bool true)))).get? b=hp.get? b:=λb z=>(VO _ _<|Ne.symm z).trans (o1 b z);refine VC (wpAny_setField Z M (by show 4<6;decide) ?_)
 (try dsimp only)
 generalize h1.update ea (Obj.mapFields (·.setIfInBounds 4 (Value.bool true)))=h2 at G o2⊢;have G:h2.get? ea=some (aK C od #[.ref t,.none,.none,.none,.bool true,.none]):=G;have Y:=(o2 C a1).trans U;have a2:=(o2 h<|Ne.symm O).trans hr;clear Z o1
 repeat (first|with_reducible refine wpAny_loadPart_at G ?_|with_reducible refine wpAny_loadPart_at Y ?_|(with_reducible refine wpAny_isSubtype_exc Y ?_;rw[cB])|wp_step)
 show wpAny (model prog w) A (raiseNew<|.ref ea) _ _ _;unfold raiseNew;refine VC<|wpAny_handled ?_;rw[hh]
 (try dsimp only)
 rw[VA (by simp;exact Ne.symm O)];refine VC<|W4 (v8 a2 M hv ?_);refine VC ?_;unfold updateField;refine VC (wpAny_load G ?_)
 (try dsimp only)
 rw[VA (by show 2<6;decide)];refine wpAny_update G<|wpAny_throw (hE _ (λb o z e=>?_) ?_)
 .exact(VO _ _<|Ne.symm z).trans<|(o2 b z).trans e
 .exact Heap.get?_update_self _ G M
end
section
variable{M':Model}
def Dv{Q:Nz}(I:Inv X W B H s)(O:X.stack=X.env::X.outer)(hf:X.env.frame=some X.env.locals)(hA:A.frames=some X.stack)
  (hx:H ea=some (.ext φ)) (hr:s.heap.get? ea=some (aK C od vs)) (hz:1<vs.size) (h1:vs[1]?=some .none)
  (q:∀h' G T,Inv X W B (upd H ea<|XO ea C od) {s with heap:=h'}->h'.get? ea=some (aK C od G)->1<G.size->Ln h' ea G T (rawInt X.env.locals)->gx X W (upd H ea<|XO ea C od) T->Q Unit.unit {s with heap:=h'}):
  wpAny M' A (noteFrame (.ref ea) X.env) Q J2 s:=by
 rw[O]at hA;have hl:s.heap.FunFrames X.base (X.env::X.outer):=O▸I.stack;have U:∀b∈LR (X.env::X.outer),H b=none:=O▸I.stkFree;refine sN hA hl hf hr h1 λh1 T' G n g1 g2 Z g4=>?_;have Y:KN X.prog X.w (upd H ea<|XO ea C od) h1:=n.hok I.hok U (λb z=>z.elim) hx g1 (g2.1▸hz);have a0:Un (LR X.stack) [] H (upd H ea<|XO ea C od) s.heap h1:=by
  rw[O];exact n.un (λb z=>z.elim) hx
 have I2:Inv X W B (upd H ea<|XO ea C od) {s with heap:=h1}:=I.call' (s':={s with heap:=h1}) M a0 Y I.bare λb hb=>nomatch hb
 refine q h1 G T' I2 g1 (g2.1▸hz) g4<|I.fpOk Z ?_;have neT:T'≠ea:=λz=>VE (VJ hr) (V1.mpr<|z▸Z);rw[ae neT];exact I.hok.fresh Z
def Cf{T:G'}(I:Inv X W B H s)(hf:X.env.frame=some X.env.locals)(hx:H ea=some (.ext φ))(O:s.heap.get? ea=some (aK C od vs))(hz:1<vs.size)
  (tr:Ln s.heap ea vs T (rawInt X.env.locals)) (fp:gx X W H T) (q:E (.ref ea) od (upd H ea<|XO ea C od)) (Z:qV X E):cameBackBy M' A X.env X.xe (.ref ea) s:=by
 let{h1,U,oT,ts,Y,hd,h3}:=tr;have big:3<ts.size:=(Zo.mp h3).1;unfold cameBackBy;refine VC<|wpAny_field O M h1 ?_;rw[Vz (show ¬(Value.ref T==Value.none)=true by simp)];unfold setFlight;refine VC<|wpAny_field O M h1 ?_;rw[VA (show(Value.ref T !=Value.none)=true by simp),hf];have G:∀b,b≠T->(s.heap.update T (Obj.mapFields (·.setIfInBounds 3 ((some X.env.locals).elim Value.none λf=>rawInt f)))).get? b=s.heap.get? b:=λb z=>VO _ _ (Ne.symm z);have new:=Heap.get?_update_self (Obj.mapFields (·.setIfInBounds 3 ((some X.env.locals).elim Value.none λf=>rawInt f))) Y (Obj.isFreed_of_fields<|Obj.data_mapFields hd _);refine wpAny_setField Y hd big<|Z _ _ {W,B,H,ea,C,od,vs,φ,T,M,?_,hx,(G ea<|Ne.symm U).trans O,hz,{h1,U,_,_,new,Obj.data_mapFields hd _,by simp[big]},fp,q};exact I.turned (t':=s.toks) (it:=T) (λb o z g=>(G b z).trans g) fp.1 fp.2.1 fp.2.2.2.1 fp.2.2.2.2.1 fp.2.2.2.2.2
end
abbrev Cx.trC(X:Cx)(pn:Mv)(E:St->XK):Cx:={X with pn:=X.pn++pn,xe:=EI {X with pn:=X.pn++pn} E}
abbrev Cx.suF(X:Cx)(ea:G'):Cx:={X with A:=X.A.mark (some<|.ref ea),calm:=false,xe:=notedBy (model X.prog X.w) (X.A.mark<|some<|.ref ea) X.env (cameBackBy (model X.prog X.w) X.A X.env X.xe)}
section
variable{np cp rp hp pos:Pos}{Dc:G'}{bm':L'}{j:Nat}{body:List Stmt}{tb:(St->XK)->TS}
def Ir{E:St->XK}:qW (CXc X.prog X.w) (X.trC pn E) E:=λW B H s e s' I h=>by
 have ok:Cx.Ok {X with pn:=X.pn++pn}:=⟨I.ok.mod,I.ok.kind,I.ok.glob,I.ok.blt,I.ok.above,I.ok.inj,I.ok.has,I.ok.cab,I.ok.hd,I.ok.frames,I.ok.stk,I.ok.exf,I.ok.bs,I.ok.bsz,I.ok.noex,I.ok.exfs,I.ok.funs,I.ok.frf⟩;have G:Inv {X with pn:=X.pn++pn} W B H s:=⟨ok,I.os,I.bare,I.base,I.loc,I.cell,I.free,I.freeC,I.pin,I.hok,I.len⟩;let{ea,C,od,vs,T,H',hc,rfl,os,bare,un,hok,hx,O,hz,tr,U,Y,q}:=h;exact{W,B,H',ea,C,od,vs,_,hc,M,G.call' os un hok bare λb z=>VE z (by simp),hx,O,hz,.inr {T,tr,G.fpOk Y U},by rw[xB hx];exact q}
def Inv.trC(I:Inv X W B H s)(E:St->XK):Inv (X.trC W E) [] B H s:=
 {⟨I.ok.mod,I.ok.kind,I.ok.glob,I.ok.blt,I.ok.above,I.ok.inj,I.ok.has,I.ok.cab,I.ok.hd,I.ok.frames,I.ok.stk,I.ok.exf,I.ok.bs,I.ok.bsz,I.ok.noex,I.ok.exfs,I.ok.funs,I.ok.frf⟩,I.os,I.bare,I.base,I.loc,I.cell,I.free,I.freeC,λp hp=>I.pin p (by simpa using hp),I.hok,I.len}
def Inv.untrC{E:St->XK}(ok:X.Ok)(I:Inv (X.trC pn E) W B H s):Inv X pn B H s:=
 {ok,I.os,I.bare,I.base,I.loc,I.cell,I.free,I.freeC,λp hp=>I.pin p<|QW _ hp,I.hok,I.len}
def Inv.suF(I:Inv X W B H s)(ea:G'):Inv (X.suF ea) W B H s:=
 {{I.ok.mod,I.ok.kind,I.ok.glob,I.ok.blt,I.ok.above,I.ok.inj,I.ok.has,I.ok.cab,λz=>VE z Qa,I.ok.frames,I.ok.stk,I.ok.exf,I.ok.bs,I.ok.bsz,I.ok.noex,I.ok.exfs,I.ok.funs,I.ok.frf},I.os,I.bare,I.base,I.loc,I.cell,I.free,I.freeC,I.pin,I.hok,I.len}
def Inv.unsuF(ok:X.Ok)(I:Inv (X.suF ea) W B H s):Inv X W B H s:=⟨ok,I.os,I.bare,I.base,I.loc,I.cell,I.free,I.freeC,I.pin,I.hok,I.len⟩
inductive G6(K:Wi)(ea C:G')(od:Nf)(E:XK)(v:V)(H2:Hp):Prop
 |mk(e2 C2 od2 bm2:_)(_:v= .ref e2)(_:e2≠ea)(_:H2 e2=some (XN e2 C2 od2))(_:H2 ea=some (XC ea C od))(_:L9 K C2 bm2)(_:E (.ref e2) od2 (upd (upd H2 ea<|XO ea C od) e2<|XO e2 C2 od2))
def JO(K:Wi)(Dc:G')(tb:(St->XK)->TS)(te:TE)(E:XK):TS:=λD B H=>tb (λσ1 v od H1=>∃ea C bm,v= .ref ea/\H1 ea=some (XO ea C od)/\L9 K C bm/\subIn K (.ref C) (.ref Dc)=some true/\
 te σ1 (upd H1 ea<|XC ea C od) (G6 K ea C od E)) D B H
def FE(ok:X.Ok)(U:X.stack=X.env::X.outer)(hf:X.env.frame=some X.env.locals)(hX:qV X E)(he:PE (X.sui ea) ex te)(I:Inv X W B H s)(h:te B H (G6 X.K ea C od E)):
  wpAny (model X.prog X.w) (X.A.mark<|some<|.ref ea) (exec (.Raise (some ex) (some<|.Constant .none j cp) rp) X.env) Q (X.suF ea).xe s:=by
 have z:PE (X.suF ea) ex te:=PE.nox (X:=X.suF ea) he;rw[arm_exec_Raise];refine VC<|wpAny_standAt (zy (h:=ea) M (λs1 Q1 q1=>VC<|Constant_none<|VC<|wpAny_standAt<|VN q1)<|VC<|ED (z W s B H _ (I.suF ea) h) λv s1 zz=>?_);let{y,H1,G,ry,e2,C2,O,bm,ev,ne,hn,hc,Y,q}:=zz;refine VC<|wpAny_standAt<|VN ?_;subst ev;cases (show v=Value.ref e2 from ry);have G:Inv X W B H1 s1:=G.unsuF ok;let{nm,q',N,bs,sn,sub,ab,col,dd,k0,k1,k2,k3,k5,hK}:=Y.ob;let{t,z}:=Cz G.hok hn;let{vh,Z,hz,hv}:=JC G.hok hc;refine{e2,C2,O,t,nm,q',N,bs,bm,sn,sub,ab,col,dd,k0,k1,k2,k3,k5,M,ne,G.kIn _ _ hK,Y.mro,z,⟨C,od,vh,Z,hv⟩,λh' keep new=>?_};have I2:Inv X W B (upd H1 ea<|XO ea C od) {s1 with heap:=s1.heap}:=G.write (x:=ea) (e:=ea) (t':=s1.toks) (by rw[hc];exact VU) (.inl M) (λ_ _ _ e=>e) {_,Z} (Ai Z hz);have I3:Inv X W B (upd (upd H1 ea<|XO ea C od) e2<|XO e2 C2 O) {s1 with heap:=h'}:=I2.write (x:=e2) (e:=e2) (t':=s1.toks) (by rw[ae ne,hn];exact VU) (.inl M) keep {_,new} (Ai new<|by show 1<6;decide);show wpAny _ _ (noteFrame (.ref e2) X.env) _ _ _;refine Dv I3 U hf (show(X.A.mark<|some<|.ref ea).frames=some X.stack from I.ok.frames) ag new (by show 1<6;decide) M λh2 a0 T I4 r4 z4 t4 f4=>?_;rw[bU]at I4 f4;exact Cf I4 hf ag r4 z4 t4 f4 (by rw[bU];exact q) hX
def FM(a0:X.stack=X.env::X.outer)(hf:X.env.frame=some X.env.locals)(hb:∀pn E,Kw (X.trC pn E) body (tb E))(hg:Gl X x)(hm:X.mg x=some (.ref Dc))(Z:L9 X.K Dc bm')(hX:qV X E)(he:∀ea,PE (X.sui ea) ex te)(a2:(x==(fx:Str))=false:=by decide):
  PS X (.Try body [.ExceptHandler (some<|.Name x np) none [.Raise (some ex) (some<|.Constant .none j cp) rp] hp] [] [] pos) (JO X.K Dc tb te E):=by
 intro W s B H D I h;refine wpAny_Try_except<|VV (hb W _ [] s B H D (I.trC _) h) (λf s1 z=>?_) λe s1 z=>?_
 .cases f with
  |next=>
   let{G,H',O,q}:=z;exact wpAny_execs_nil {G,H',O.untrC I.ok,q}
  |brk=>
   let{G,H',O,q}:=z;exact{G,H',O.untrC I.ok,q}
  |cont=>
   let{G,H',O,q}:=z;exact{G,H',O.untrC I.ok,q}
  |ret u=>
   let{v,G,H',O,rv,q}:=z;exact{v,G,H',O.untrC I.ok,rv,q}
 .let{a3,U,H1,ea,C,od,vs,φ,a4,rfl,I1,hx,hr,hz,ht,ea',C',bm,e1,e2,Y,a1,q}:=z;obtain rfl:ea=ea':=Value.ref.inj e1;refine jq (X:={X with pn:=X.pn++W}) I1 a0 hf I1.ok.frames hx hr hz (ht.imp id .inl) λs2 a5 T I2 r2 z2 t2 f2 c2=>?_;let{a7,r3,_}:=GU I2.hok e2;obtain rfl:C=C':=by
   have z:=VT Obj.cls (VG<|r2.symm.trans r3);exact Value.ref.inj z
  have I3:Inv X W U (upd H1 ea<|XO ea C od) s2:=I2.untr I.ok;have f3:gx X W (upd H1 ea<|XO ea C od) T:={f2.1,f2.2.1,f2.2.2.1,f2.2.2.2.1,f2.2.2.2.2.1,λp hp=>f2.2.2.2.2.2 p<|QW _ hp};refine Ax I3 r2 hg hm Z Y a1 a2 (λ_=>?_) (λz=>nomatch z);refine codeAny_handlers_suite<|jw (l:=[]) r2 t2 λh' g1 g2 g3 g4 g5=>?_;have I4:Inv X W U (upd H1 ea<|XO ea C od) {s2 with heap:=h'}:=I3.turned (t':=s2.toks) (it:=T) g1 f3.1 f3.2.1 f3.2.2.2.1 f3.2.2.2.2.1 f3.2.2.2.2.2;have I5:Inv X W U (upd (upd H1 ea<|XO ea C od) ea<|XC ea C od) {s2 with heap:=h'}:=I4.write (x:=ea) (e:=ea) (t':=s2.toks) (by rw[ag];exact VU) (.inl M) (λ_ _ _ e=>e) {_,g2} (JB g2 z2<|c2.trans a4);exact wpAny_execs_cons<|FE I.ok a0 hf hX (he ea) I5 q
end
end L2
namespace L2
open PySem PySem.Spec PyProof.Rows
open SeqAt
section
variable{X:Cx}
def wK{st:Stmt}:PS X st (λ_ _ _=>False):=λ_ _ _ _ _ _ h=>h.elim
def PlainL.isL{h:Heap}{a:G'}{xs:Ni}(p:PlainL h a xs):h.IsList a xs:=by
 let{o,n,e,c,_,d}:=p;exact⟨o,e,c,n,d⟩
end
def Fl:V->Prop
 | .int _=>True| .str _=>True| .non=>True| .bl _=>True|_=>False
section
variable{X:Cx}{W:Mv}{B:St}{H:Hp}{s:He}
def AR{A:Nh}{x:V}{u v:J'}(h:Fl x)(r1:RelV x u)(z:RelV x v):EqAt A s u v true:=by
 cases x with
 |int n=>
  let{G,rfl}:=r1;let{I,rfl}:=z;have:=EqAt.int_int (A:=A) (s:=s) n G n I;rwa [Wa]at this
 |str n=>
  let{G,rfl}:=r1;let{I,rfl}:=z;have:=EqAt.str_str (A:=A) (s:=s) n G n I;rwa [Wa]at this
 |bl b=>
  cases (show u=Value.bool b from r1);cases (show v=Value.bool b from z);have:=EqAt.bool_bool (A:=A) (s:=s) b b;rwa [Wa]at this
 |non=>
  cases (show u=Value.none from r1);cases (show v=Value.none from z);exact EqAt.same _
 |_=>exact h.elim
end
def Alk(K:Wi)(H:Hp):Nat->V->V->Prop
 |0,x,y=>Fl x/\x=y
 |n+1,x,y=>(Fl x/\x=y)\/∃a b xs ys,x= .ref a/\y= .ref b/\(Do K H a xs/\Do K H b ys\/LB K H a xs/\LB K H b ys)/\xs.length=ys.length/\∀(j:Nat)(u v:V),xs[j]?=some u->ys[j]?=some v->Alk K H n u v
def qa{xs:K'}{us:L'}(r:A7 xs us)(j:Nat)(h:j<us.length):∃x,xs[j]?=some x/\RelV x us[j]:=by
 induction r generalizing j with
 |nil=>cases h
 |cons r _ z=>cases j with
  |zero=>exact{_,M,r}
  |succ j=>exact z j<|Nat.lt_of_succ_lt_succ h
section
variable{X:Cx}{W:Mv}{B:St}{H:Hp}{s:He}
theorem Ae(I:Inv X W B H s):∀(n:Nat){A:Nh}{x y:V}{u v:J'},A.units+n<cLine->Alk X.K H n x y->RelV x u->RelV y v->EqAt A s u v true
 |0,_,_,_,_,_,_,⟨f,e⟩,r1,r2=>AR f r1 (e▸r2)
 |n+1,A,x,y,u,v,hu,h,r1,r2=>by
  rcases h with⟨f,e⟩|⟨a,b,xs,ys,rfl,rfl,o,l,g⟩
  .exact AR f r1<|e▸r2
  cases r1;cases r2;by_cases e:a=b
  .subst e;exact EqAt.same _
  have it:∀{us vs:L'},A7 xs us->A7 ys vs->∀(j:Nat)(h1:j<us.length)(h2:j<vs.length),EqAt A.in1 s us[j] vs[j] true:=λz G j h1 h2=>by
   let{x,U,Y}:=qa z j h1;let{y,e2,Z}:=qa G j h2;exact Ae I n (by show A.units+1+n<cLine;lia) (g j x y U e2) Y Z
  refine EqAt.of_refs e ?_;rcases o with⟨h1,h2⟩|⟨h1,h2⟩
  .let{i1,z,O,_}:=I.list h1;let{i2,G,p2,_}:=I.list h2;have:=RcAt.lists (A:=A) (e:=λ_=>true) (PlainL.isL O) (PlainL.isL p2) (by simpa[<-z.length,<-G.length]using l) () (λj a b=>by simpa using it z G j (by simpa using a) (by simpa using b));rw[QE.mpr λ_ _=>rfl]at this;exact this
  .let{i1,z,O,_}:=I.tuple h1;let{i2,G,p2,_}:=I.tuple h2;have:=RcAt.tuples (A:=A) (e:=λ_=>true) O p2 () (λj a b=>by simpa using it z G j (by simpa using a) (by simpa using b));rw[QE.mpr λ_ _=>rfl]at this;simpa[<-z.length,<-G.length,l]using this
inductive rAlk(K:Wi)(f:Bool)(x y:V)(H:Hp)(Q:VK):Prop
 |mk(a b:G')(xs ys:K')(_:x= .ref a)(_:y= .ref b)(_:(Do K H a xs/\Do K H b ys\/LB K H a xs/\LB K H b ys))(_:xs.length=ys.length)(_:(∀(j:Nat)(u v:V),xs[j]?=some u->ys[j]?=some v->Alk K H 4 u v))(_:Q (.bl<|!f) H)
def Iw(K:Wi)(hK:X.K=K)(hu:X.A.units+20<cLine):LK X (compareOp .Eq) (rAlk K false):=by
 subst hK;intro W s B H x y v u Q I Z ry h;let{a,b,xs,ys,rfl,rfl,o,l,g,q}:=h;cases Z;cases ry;have it:∀{us vs:L'},A7 xs us->A7 ys vs->∀(j:Nat)(h1:j<us.length)(h2:j<vs.length),EqAt X.A.in1 s us[j] vs[j] true:=λz G j h1 h2=>by
  let{x,e1,q1}:=qa z j h1;let{y,e2,q2}:=qa G j h2;exact Ae I 4 (by show X.A.units+1+4<cLine;lia) (g j x y e1 e2) q1 q2
 rcases o with⟨h1,h2⟩|⟨h1,h2⟩
 .let{U,z,O,_}:=I.list h1;let{Y,G,p2,_}:=I.list h2;have:=RcAt.lists (A:=X.A) (e:=λ_=>true) (PlainL.isL O) (PlainL.isL p2) (by simpa[<-z.length,<-G.length]using l) () (λj a b=>by simpa using it z G j (by simpa using a) (by simpa using b));rw[QE.mpr λ_ _=>rfl]at this;exact this _ _ _ _ {.bl _,H,I,M,q}
 .let{U,z,O,_}:=I.tuple h1;let{Y,G,p2,_}:=I.tuple h2;have:=RcAt.tuples (A:=X.A) (e:=λ_=>true) O p2 () (λj a b=>by simpa using it z G j (by simpa using a) (by simpa using b));rw[QE.mpr λ_ _=>M,show(true&&U.toArray.size==Y.toArray.size)=true by simp[<-z.length,<-G.length,l]]at this;exact this _ _ _ _ {.bl _,H,I,M,q}
def Dp(K:Wi)(hK:X.K=K)(hu:X.A.units+20<cLine):LK X (compareOp .NotEq) (rAlk K true):=by
 subst hK;intro W s B H x y v u Q I Z ry h;let{a,b,xs,ys,rfl,rfl,o,l,g,q}:=h;cases Z;cases ry;have it:∀{us vs:L'},A7 xs us->A7 ys vs->∀(j:Nat)(h1:j<us.length)(h2:j<vs.length),EqAt X.A.in1 s us[j] vs[j] true:=λz G j h1 h2=>by
  let{x,e1,q1}:=qa z j h1;let{y,e2,q2}:=qa G j h2;exact Ae I 4 (by show X.A.units+1+4<cLine;lia) (g j x y e1 e2) q1 q2
 rcases o with⟨h1,h2⟩|⟨h1,h2⟩
 .let{U,z,O,_}:=I.list h1;let{Y,G,p2,_}:=I.list h2;have:=RcNeAt.lists (A:=X.A) (e:=λ_=>true) (PlainL.isL O) (PlainL.isL p2) (by simpa[<-z.length,<-G.length]using l) () (λj a b=>by simpa using it z G j (by simpa using a) (by simpa using b));rw[QE.mpr λ_ _=>rfl]at this;exact this _ _ _ _ {.bl _,H,I,M,q}
 .let{U,z,O,_}:=I.tuple h1;let{Y,G,p2,_}:=I.tuple h2;have:=RcNeAt.tuples (A:=X.A) (e:=λ_=>true) O p2 () (λj a b=>by simpa using it z G j (by simpa using a) (by simpa using b));rw[QE.mpr λ_ _=>M,show(true&&U.toArray.size==Y.toArray.size)=true by simp[<-z.length,<-G.length,l]]at this;exact this _ _ _ _ {.bl _,H,I,M,q}
end
end L2
namespace L2
open PySem PySem.Spec PyProof.Rows PySem.W
abbrev _root_.NB:=List (Str×Addr)
variable{Pt c f:G'}{params:Arguments}{ps:Ni}{X:Cx}{body:Expr}{fd:Nj}{u:HO}{base h:Heap}{H:Hp}{cl:NB}{fr:Na}{pos:Pos}{P:Mz}{K:Wi}{scope:Scope}{sp:Sp}{qual x:Str}{w:Nb}{YP:World->Heap->Prop}
def xo(a:G')(o:Obj):HO:= .ext λh=>h.get? a=some o
def nI(c:G')(qual:Str):HO:= .ext λh=>h.CodeRec (.ref c) qual
def shw(cs:Mv)(H:Hp):Hp:=λb=>match cs.lookup b with
 |some o=>some (xo b o)
 |none=>H b
def hid(cs:Mv)(H:Hp):Hp:=λb=>match cs.lookup b with
 |some _=>none
 |none=>H b
section
variable{H':Hp}{h':Heap}{a b:G'}{o:Obj}{cs:Mv}
def Cy(e:h.get? a=some o):E3 P w H h a (xo a o):={e,⟨o,e⟩,λ_ _ p k=>k o p}
def CA(e:h.CodeRec (.ref c) qual):E3 P w H h c (nI c qual):=by
 refine{e,?_,λh1 h2 p k=>?_}
 .let{O,G,vs,I,hc,z,_}:=e;cases hc;exact⟨G,z⟩
 .let{O,G,vs,I,hc,z,hd,hq}:=p;cases hc;exact{c,G,vs,I,M,k G z,hd,hq}
def HX(e:cs.lookup b=some o):shw cs H b=some (xo b o):=by unfold shw;rw[e]
def mO(e:cs.lookup b=none):shw cs H b=H b:=by unfold shw;rw[e]
def zR(e:cs.lookup b=some o):hid cs H b=none:=by unfold hid;rw[e]
def sY(e:cs.lookup b=none):hid cs H b=H b:=by unfold hid;rw[e]
def iP(e:H b=none):hid cs H b=none:=by
 unfold hid;split
 .rfl
 .exact e
def IZ(e:hid cs H b=some u):cs.lookup b=none/\H b=some u:=by
 unfold hid at e;split at e
 .cases e
 .exact{by assumption,e}
def Dx(hc:∀b o,cs.lookup b=some o->H b=some (xo b o))(e:H b=some u)(n:∀φ,u≠ .ext φ):cs.lookup b=none:=by
 cases q:cs.lookup b with
 |none=>rfl
 |some o=>
  rw[hc b o q]at e;cases e;exact VE M<|n _
def KN.hid(x:KN P w H h)(hc:∀b o,cs.lookup b=some o->H b=some (xo b o)):KN P w (hid cs H) h:=λa u e=>by
 let{_,e2}:=IZ e;exact(x a u e2).stay (λ_ _ _ q=>q) (λb q=>by rw[sY (Dx hc q λ_ z=>nomatch z)];exact q) λb xs q=>by rw[sY (Dx hc q λ_ z=>nomatch z)];exact q
def KN.shw(x:KN P w H h)(hc:∀b o,cs.lookup b=some o->H b=none/\h.get? b=some o):KN P w (shw cs H) h:=λa u e=>by
 have G:∀b v,H b=some v->cs.lookup b=none:=λb v q=>by
  cases z:cs.lookup b with
  |none=>rfl
  |some o=>rw[(hc b o z).1]at q;cases q
 cases z:cs.lookup a with
 |some o=>
  rw[HX z]at e;cases e;exact Cy (hc a o z).2
 |none=>
  rw[mO z]at e;exact(x a u e).stay (λ_ _ _ q=>q) (λb q=>by rw[mO (G b _ q)];exact q) λb xs q=>by rw[mO (G b _ q)];exact q
end
section
variable{P:G'}
def yV(K:Wi)(c P:G'):Prop:=∀h:Heap,K.In h->CodeHd h c P
def GS(X:Cx)(fr:Na)(cl:NB):Prop:=cl.map (·.1)=fr/\(∀p∈cl,X.env.cells.lookup p.1=some p.2)/\(cl.map (·.2)).Nodup
def tLam(X:Cx)(params:Arguments)(body:Expr)(scope:Scope)(pos:Pos)(P:G')(fr:Na):TE:=λ_ H Q=>∃ps,H P=some (.tbl ps)/\TriplesOk ps.toList/\codeAmong pos ps.toList=none/\
 ∀cl c' ctv pm f,GS X fr cl->H f=none->H c'=none->f≠c'->
  Q (.ref f) (upd (upd (upd H P<|.tbl<|ps++ #[rawInt pos.line,rawInt pos.col,.ref c']) c'<|nI c'<|X.env.qual++gb) f<|xo f<|kla_obj gb (X.env.qual++gb) params body scope cl pm c' ctv)
def xw(X:Cx)(scope:Scope)(fr:Na):Prop:=X.Ok->∃cl,closureFor scope X.env=pure cl/\GS X fr cl
def Kl(h:closureFor scope X.env=pure []:=by rfl):xw X scope []:=λ_=>{[],h,M,(λ_ z=>nomatch z),.nil}
def Hq(h:GS X [] cl):cl=[]:=XW.mp h.1
def Jw(K:Wi)(mg:Nd)(P:G'):Prop:=∀h:Heap,K.In h->h.BuiltinsAt mg P
def Io(a2:defaultsOf params X.env=([],[]))(ay:xw X scope fr)(Z:X.env.code= .ref c)(hC:yV X.K c P)(hB:Jw X.K X.mg P):
  PE X (.Lambda params body scope pos) (tLam X params body scope pos P fr):=by
 intro W s B H Q I hq;let{ps,Y,ht,b1,q}:=hq;let{cl,b2,a3}:=ay I.ok;have a4:s.heap.get? P=some (tabObj ps):=I.hok P _ Y;let{og,es,ep,eg,rg}:=I.ok.mod.glob;have hg:s.heap.Ns mainGlobals X.mg:={og,es,ep,I.bk _ _ eg,rg};have b3:mainGlobals≠P:=λz=>by
  have n:=(I.bs _ _ eg).2;rw[z,Y]at n;cases n
 refine kla_eval a2<|kla_makeFunction b2 I.ok.glob hg Z (hC _ I.kIn) a4 ht b1 b3 (hB _ I.kIn) λc' O h' tk ext lo hi a5 a7=>?_;have a8:P<s.heap.objs.size:=VJ a4;have nc:c'≠P:=ZC (Qm a8 lo);have ac:H c'=none:=I.hok.fresh lo;have a0:s.heap.objs.size<=h'.objs.size:=Qr lo (Z1 hi);have al:H h'.objs.size=none:=I.hok.fresh a0;have b4:h'.objs.size≠c':=ZC hi;have b5:h'.objs.size≠P:=ZC (Qm a8 a0);refine{.ref h'.objs.size,_,?_,M,q cl c' O ((X.mg hH).getD .none) _ a3 al ac b4};have G:∀b o,h'.get? b=some o->(h'.push<|kla_obj gb (X.env.qual++gb) params body scope cl ((X.mg hH).getD .none) c' O).get? b=some o:=λb o e=>VB _ e;have an:(h'.push<|kla_obj gb (X.env.qual++gb) params body scope cl ((X.mg hH).getD .none) c' O).get? h'.objs.size=some (kla_obj gb (X.env.qual++gb) params body scope cl ((X.mg hH).getD .none) c' O):=VL _ M;generalize (kla_obj gb (X.env.qual++gb) params body scope cl ((X.mg hH).getD .none) c' O)=ob at G an⊢;have k2:∀b o,b≠P->s.heap.get? b=some o->(h'.push ob).get? b=some o:=λb o nb e=>G b o (ext b o nb e);have b6:∀b o,s.heap.get? b=some o->b≠c':=λb o e=>Qz (Qm (VJ e) lo);have ba:∀b o,s.heap.get? b=some o->b≠h'.objs.size:=λb o e=>Qz (Qm (VJ e) a0);have a1:∀b,H b=none->b≠P:=λb n z=>by rw[z,Y]at n;cases n
 have ap:∀b,b≠P->b≠c'->b≠h'.objs.size->upd (upd (upd H P<|.tbl<|ps++ #[rawInt pos.line,rawInt pos.col,.ref c']) c'<|nI c'<|X.env.qual++gb) h'.objs.size (xo h'.objs.size ob) b=H b:=λb n1 n2 n3=>by rw[ae n3,ae n2,ae n1]
 have U:∀b u,H b=some u->b≠P->upd (upd (upd H P<|.tbl<|ps++ #[rawInt pos.line,rawInt pos.col,.ref c']) c'<|nI c'<|X.env.qual++gb) h'.objs.size (xo h'.objs.size ob) b=some u:=λb u e n=>by
  rwa[ap b n (aj e ac) (aj e al)]
 refine I.un (t':=tk) {λb o e n _ _=>k2 b o (a1 b n) e,λb o e n _ _=>{o.slots,k2 b o (a1 b n) e},λb o e n _=>by rwa[ap b (a1 b n) (b6 b o e) (ba b o e)],λb o e _=>?_,λb xs e=>U b _ e (λz=>by rw[z,Y]at e;cases e),λb o u e=>U b _ e (λz=>by rw[z,Y]at e;cases e),λb qs e=>?_} λb u e=>?_
 .by_cases hb:b=P
  .exact{_,by rw[hb];exact G _ _ a7}
  .exact{o,k2 b o hb e}
 .by_cases hb:b=P
  .rw[hb,Y]at e;cases e;exact{_,by rw[hb,ae (Ne.symm b5),ae (Ne.symm nc),ag]}
  .exact{#[],by rw[U b _ e hb];simp}
 .by_cases h1:b=h'.objs.size
  .rw[h1,ag]at e;cases e;rw[h1];exact Cy an
  rw[ae h1]at e;by_cases h2:b=c'
  .rw[h2,ag]at e;cases e;rw[h2];refine CA ?_;let{c1,oc,vs,tq,z1,z2,z3,z4}:=a5;exact{c1,oc,vs,tq,z1,G _ _ z2,z3,z4}
  rw[ae h2]at e;by_cases h3:b=P
  .rw[h3,ag]at e;cases e;rw[h3];exact G _ _ a7
  rw[ae h3]at e;refine(I.hok b u e).stay (λd v hd g=>k2 d v ?_ g) (λd g=>U d _ g λz=>by rw[z,Y]at g;cases g) λd xs g=>U d _ g λz=>by rw[z,Y]at g;cases g
  rcases hd with hd|hd
  .rwa[hd]
  .exact λz=>by rw[z,Y]at hd;cases hd
end
section
variable{P:G'}
def G2(X:Cx)(params:Arguments)(body:Expr)(scope:Scope)(pos:Pos)(P:G')(fr:Na):TE:=λB H Q=>tLam X params body scope pos P fr B H Q\/∃ps c',H P=some (.tbl ps)/\TriplesOk ps.toList/\codeAmong pos ps.toList=some (.ref c')/\
 ∀cl ctv pm f,GS X fr cl->H f=none->Q (.ref f) (upd H f<|xo f<|kla_obj gb (X.env.qual++gb) params body scope cl pm c' ctv)
def FS(G:defaultsOf params X.env=([],[]))(O:xw X scope fr)(z:X.env.code= .ref c)(hC:yV X.K c P)(hB:Jw X.K X.mg P):
  PE X (.Lambda params body scope pos) (G2 X params body scope pos P fr):=by
 intro W s B H Q I hq;rcases hq with hq|⟨ps,c',hP,ht,hf,q⟩
 .exact Io G O z hC hB W s B H Q I hq
 let{cl,Y,U}:=O I.ok;have Z:s.heap.get? P=some (tabObj ps):=I.hok P _ hP;let{og,es,ep,eg,rg}:=I.ok.mod.glob;have hg:s.heap.Ns mainGlobals X.mg:={og,es,ep,I.bk _ _ eg,rg};refine kla_eval G<|kla_makeFunctionHit Y I.ok.glob hg z (hC _ I.kIn) Z ht hf (hB _ I.kIn) λa0 h' tk k sz=>?_;have a1:H h'.objs.size=none:=I.hok.fresh sz;refine{.ref h'.objs.size,_,?_,M,q cl a0 ((X.mg hH).getD .none) _ U a1};exact I.laid (t':=tk) (λb o e=>VB _<|k b o e) sz<|Cy (VL _ M)
end
structure EH(N ps:Na)(sc:Scope):Prop where
 kind:sc.kind= .function
 co:sc.isCoroutine=false
 gen:sc.isGenerator=false
 nd:N.Nodup
 pre:N.take ps.length=ps
 par:∀x∈ps,sc.names.lookup x=some .local
 noc:∀y∈sc.names,y.2≠ .cell
def cxL(P:Mz)(w:Nb)(K:Wi)(mg:Nd)(base:Heap)(N:Na)(qual:Str)(scope:Scope)(f:G')(cd:J')(cl:NB)(A:Nh)(outer:Nk)(s:He)(H:Hp):Cx where
 prog:=P
 w:=w
 K:=K
 mg:=mg
 base:=base
 A:=A.deeper (envX qual scope s.heap.objs.size f cd cl)
 N:=N
 s₀:=s
 H₀:=H
 env:=envX qual scope s.heap.objs.size f cd cl
 outer:=outer
 stack:=envX qual scope s.heap.objs.size f cd cl::outer
 ex:=[]
 calm:=true
 fn:=λ_=>false
 pn:=[]
 xe:=λ_ _=>False
structure Ls(cl:NB)(scope:Scope)(fr:Na)(fv:K')(cs:Mv)(H:Hp):Prop where
 at_:∀b o,cs.lookup b=some o->H b=some (xo b o)
 all:∀x c,cl.lookup x=some c->∃o v,cs.lookup c=some o/\o.data= .cell v
 has:∀x,scope.names.lookup x=some .free->∃c,cl.lookup x=some c
 inj:∀x y c,cl.lookup x=some c->cl.lookup y=some c->x=y
 len:fv.length=fr.length
 val:∀(i:Nat) x v,fr[i]?=some x->fv[i]?=some v->scope.names.lookup x=some .free/\∃c o u,cl.lookup x=some c/\cs.lookup c=some o/\o.data= .cell (some u)/\RelV v u
def Ls.none(h:∀y∈scope.names,y.2≠ .free):Ls [] scope [] [] [] H:=
 {λ_ _ z=>(nomatch z),λ_ _ z=>(nomatch z),λx z=>VE M<|h _<|PySem.mem_of_lookup z,λ_ _ _ z=>(nomatch z),M,λi x v z=>(by simp at z)}
def Ev:∀{ps:Na}{us:L'}{i:Nat}{x:Str}{u:J'},ps.Nodup->ps[i]?=some x->us[i]?=some u->(ps.zip us).reverse.lookup x=some u:=λ{ps us i x u} nd h1 h2=>by
 have G:(x,u)∈(ps.zip us).reverse:=by
  rw[Zm];exact Q2 (i:=i)<|by rw[ZQ];exact⟨h1,h2⟩
 cases e:(ps.zip us).reverse.lookup x with
 |none=>
  rw[List.lookup_eq_none_iff]at e;exact VE (e _ G)<|by simp
 |some v=>
  have z:=PySem.mem_of_lookup e;rw[Zm]at G z;let{j,I}:=XM z;rw[ZQ]at I;let{U,O}:=I;have:=sP nd h1 U;subst this;rw[h2]at O;exact O.symm
def ID{mg:Nd}{k:Nat}{c':G'}{name:Str}{pm ct:J'}{ps:Na} 
  (S:EH (ps++fr) ps scope) (len:∀vs H Q E,sp vs H Q E->vs.length=ps.length)
  (U:∀(A:Nh)(outer:Nk)(s:He)(H:Hp)(vs:K')(Q:VK)(E:XK),K7 k (A.deeper<|envX qual scope s.heap.objs.size f (.ref c') cl)->sp vs H Q E->
   H f=some (xo f<|kla_obj name qual params body scope cl pm c' ct)/\H c'=some (nI c' qual)/\∃cs fv,Ls cl scope fr fv cs H/\
    ∃t,PE (cxL P w K mg base (ps++fr) qual scope f (.ref c') cl A outer s<|hid cs H) body t/\t (vs.map some++fv.map some) (hid cs H) λv H'=>(∀b o,cs.lookup b=some o->H' b=none)->Q v (shw cs H')):
  AZ P w K mg base KI (k+1) f (kla_fn name qual params body scope cl pm (.ref c') ct) ps sp:=by
 refine{len,λA outer s H args us vs Q E hr e0 hb r a0=>?_};have hl:=len _ _ _ _ a0;let{hf,hc,cs,fv,C,t,ht,hq}:=U A outer s H vs Q E (hr.deeper _) a0;have of:s.heap.get? f=some _:=(e0.hok f _ hf).1;have oc:s.heap.CodeRec (.ref c') qual:=(e0.hok c' _ hc).1;have KX:K.In s.heap:=e0.mod.kin.keeps λb o e=>(e0.bs b o e).1;have a1:s.heap.NoLimit:=e0.mod.nolimit.keeps λb o e=>(e0.bs b o e).1;have a2:ps.Nodup:=by rw[<-S.pre];exact S.nd.sublist<|X0 _ _
 have ul:us.length=ps.length:=by rwa[<-r.length]
 have a3:∀b,H b=none->cs.lookup b=none:=λb n=>by
  cases q:cs.lookup b with
  |none=>rfl
  |some o=>rw[C.at_ b o q]at n;cases n
 refine kla_callFunE hr.depth of M S.co S.gen M oc ?_;refine hb _ _ _ _ ?_;refine wpAny_newFunctionEnv S.noc (λy hy=>S.par y.1 (XA hy).1) (λh1 a4 a5=>?_) S.kind;have hk:∀b o,s.heap.get? b=some o->h1.get? b=some o:=λb o e=>a5.extBut b o (Qz<|VJ e) (VB _ e);refine{a1.keeps hk,?_};show codeAny _ _ (.expr body<|envX qual scope s.heap.objs.size f (.ref c') cl) _ _;have Y:∀b:Addr,b∉(cxL P w K mg base (ps++fr) qual scope f (.ref c') cl A outer s<|hid cs H).ex:=λb z=>VE (show b∈([]:Nc) from z) (by simp);have cellOf:∀x c,cl.lookup x=some c->∃o v,cs.lookup c=some o/\o.data= .cell v/\h1.get? c=some o:=λx c e=>by
  let{o,v,Z,e2}:=C.all x c e;exact{o,v,Z,e2,hk _ _ (e0.hok c _<|C.at_ c o Z).1}
 have I:Inv (cxL P w K mg base (ps++fr) qual scope f (.ref c') cl A outer s<|hid cs H) [] (vs.map some++fv.map some) (hid cs H) {s with heap:=h1,toks:=s.toks+(ps.zip us).length}:=by
  refine{{e0.mod,S.kind,M,M,Q5 _,C.inj,λy hy=>?_,λy c hy _=>(nomatch (show false=true from hy)),λ_=>hr.hd,Around.frames_deeper e0.frames,.inr ⟨M,M⟩,λb z=>VE z<|Y b,λb o e=>{(e0.bs b o e).1,iP (e0.bs b o e).2},e0.bsz,λb _ _=>Y b,λb z=>VE z<|Y b,e0.funs,λb hb=>iP<|e0.frf b hb},
   rfl,e0.bare,Un.kept hk,{_,a4,λi y v h1 h2 h3=>?_},λy c e=>?_,iP<|e0.hok.fresh<|Q5 _,λy c e=>?_,λp hp=>VE (show p∈([]:Mv) from hp) (by simp),(e0.hok.hid C.at_).kept hk,?_}
  .have hy:scope.names.lookup y=some .cell\/scope.names.lookup y=some .free:=hy;rcases hy with hy|hy
   .exact VE M<|S.noc _ (PySem.mem_of_lookup hy)
   .exact C.has y hy
  .have h1:(ps++fr)[i]?=some y:=h1;by_cases hi:i<ps.length
   .rw[QV hi]at h1;rw[QV (by rwa[Q0,hl]),Qu]at h2;let{v',Z,e2}:=QJ.mp h2;cases e2;let{u,hu,rv}:=r.get Z;exact{u,rv,.inl {S.par y<|Q2 h1,Ev a2 h1 hu}}
   .have hi:=Vb hi;rw[QS hi]at h1;rw[QS (by rwa[Q0,hl]),Qu,Q0,hl]at h2;let{v',Z,e2}:=QJ.mp h2;cases e2;let{k1,c,o,u,z1,z2,z3,z4}:=C.val _ y v h1 Z;refine{u,z4,.inr {.inr k1,c,z1,o,?_,z3}};exact hk _ _ (e0.hok c _<|C.at_ c o z2).1
  .let{o,v,z1,z2,z3}:=cellOf y c e;exact⟨v,o,z3,z2⟩
  .let{o,v,z1,z2,z3}:=cellOf y c e;exact zR z1
  .show(vs.map some++fv.map some).length=(ps++fr).length;rw[Qd,Q0,Q0,Qd,hl,C.len]
 refine kla_codeExpr<|VV (ht [] _ _ (hid cs H) _ I hq) (λu s' hs=>?_) λe s' hs=>hs.elim;let{v,H',J,rv,q}:=hs;have un:=J.base;have hok:=J.hok;have un:Un (LR outer) [] (hid cs H) H' s.heap s'.heap:=un;have O:∀c o,cs.lookup c=some o->H' c=none/\s'.heap.get? c=some o:=λc o e=>by
  have g:=(e0.hok c _<|C.at_ c o e).1;have nf:c∉LR outer:=λz=>by have:=e0.frf c z;rw[C.at_ c o e]at this;cases this
  exact{un.free c o g (zR e) (by simp),un.keep c o g (zR e) nf<|by simp}
 have up:∀b u,H' b=some u->cs.lookup b=none:=λb u e=>by
  cases z:cs.lookup b with
  |none=>rfl
  |some o=>rw[(O b o z).1]at e;cases e
 have G:∀b u,H b=some u->(∀φ,u≠ .ext φ)->cs.lookup b=none:=λb u e n=>Dx C.at_ e n;refine{v,shw cs H',J.os,J.bare,{λb o e n hb hx=>un.keep b o e (iP n) hb hx,λb o e n hb hx=>un.slot b o e (iP n) hb hx,λb o e n hx=>by rw[mO (a3 b n)];exact un.free b o e (iP n) hx,un.there,
  λb xs e=>?_,λb o u e=>?_,λb qs e=>?_},hok.shw O,rv,q λb o e=>(O b o e).1}
 .have n:=G b _ e λ_ z=>nomatch z
  rw[mO n];exact un.tups b xs<|by rwa[sY n]
 .have n:=G b _ e λ_ z=>nomatch z
  rw[mO n];exact un.frzs b o u<|by rwa[sY n]
 .have n:=G b _ e λ_ z=>nomatch z
  rw[mO n];exact un.tbls b qs<|by rwa[sY n]
def EF(Pt:G')(ps:Ni)(H:Hp):Prop:=H Pt=some (.tbl ps)/\∀b,b≠Pt->H b=none\/∃o xs,H b=some (.frz o<|.lst xs)
def BU{mg mb:Nd}{k:Nat}{fa a:G'}{s₁:He}{vs:L'}{ns:Mu}
  (KX:K.In s₁.heap) (a0:s₁.heap.Ns mainGlobals mg) (hb:s₁.heap.Ns builtinsNs mb) (a5:∀x:Str,x≠hH->mb x=bootBuiltins x) (a1:s₁.heap.NoLimit) (hg:s₁.gens= #[])
  (a7:K.lookup Pt=none) (I:s₁.heap.get? Pt=some (tabObj ps)) (a8:isCodeTable s₁.heap Pt)
  (ha:s₁.heap.get? a=some {cls:= .type eR,data:= .seq vs.toArray}) (hi:IntsAre vs ns) (hl:ns.length<=sizeLine) (hr:K7 k callerA)
  (F:∀base:Heap,K.In base->base.Ns mainGlobals mg->AZ P w K mg base KI k fa fd [x] sp) (Z:∀(s:He)(u:J'),BindsTo s fd {[u],[]} [(x,u)])
  (ac:∀H:Hp,EF Pt ps H->Do K H a (ns.map V.int)->sp [.ref a] H (λv _=>v= .bl true) E0):
  codeAny (model P w) callerA (.call (.ref fa) {[.ref a],[]}) (λr s'=>r= .ok (.ret<|.bool true)/\OldK s₁.heap s'.heap/\s'.os=s₁.os/\AllBare s'.gens) s₁:=by
 have rv:=Bk hi;have a2:=hi.length;have a3:a≠Pt:=λz=>by rw[z,I]at ha;cases ha
 have U:∀H:Hp,EF Pt ps H->Do K H a (ns.map V.int)->KN P w H s₁.heap->(∀b,b≠Pt->H b≠none->b=a)->(H a≠none->K.lookup a=none)->
   codeAny (model P w) callerA (.call (.ref fa) {[.ref a],[]}) (λr s'=>r= .ok (.ret<|.bool true)/\OldK s₁.heap s'.heap/\s'.os=s₁.os/\AllBare s'.gens) s₁:=by
  intro H hO hS hok hA hK;have G:∀{b:G'}{o:Obj},s₁.heap.get? b=some o->H b=none->(xa s₁.heap H).get? b=some o:=λe n=>D7 e n;have al:∀{b:G'}{o:Obj}{es:Array DictEntry}{ep:Nat},s₁.heap.get? b=some o->o.data= .dict es ep->H b=none:=λ{b o es ep} e d=>by
   by_cases hb:b=Pt
   .rw[hb,I]at e;cases e;exact(nomatch (show Data.fields ps=Data.dict es ep from d))
   cases q:H b with
   |none=>rfl
   |some u=>
    have e':b=a:=hA b hb (by rw[q];simp);subst e';rw[ha]at e;cases e;have d':Data.seq vs.toArray _=Data.dict es ep:=d;cases d'
  have O:∀{b:G'}{m:Nd},s₁.heap.Ns b m->(xa s₁.heap H).Ns b m:=λ{b m} ⟨o,es,ep,e,d,r⟩=>{o,es,ep,G e<|al e d,d,r};have a4:K.In (xa s₁.heap H):=λb o e=>G (KX b o e) (by
   by_cases hb:b=Pt
   .rw[hb,a7]at e;cases e
   cases q:H b with
   |none=>rfl
   |some u=>
    have e':b=a:=hA b hb (by rw[q];simp);subst e';rw[hK (by rw[q];simp)]at e;cases e)
  have hM:Mod K mg (xa s₁.heap H):={a4,O a0,{mb,O hb,a5},let⟨mc,h1,h2⟩:=a1;{mc,O h1,h2}};have e0:Lf P w K mg (xa s₁.heap H) callerA [] s₁ H:={M,hM,λb o e=>FV e,QO<|BZ _ _,trivial,λb hb=>VE (show b∈([]:Nc) from hb) (by simp),hok,.of_eq hg};refine codeAny_mono ((F _ a4<|O a0).run callerA [] s₁ H {[.ref a],[]} [.ref a] [.ref a] _ _ hr e0 (Z s₁<|.ref a) (.cons M .nil)<|ac H hO hS) λr s' h=>?_;cases r with
  |error e=>exact False.elim h
  |ok fl=>
   cases fl with
   |next=>exact False.elim h
   |brk=>exact False.elim h
   |cont=>exact False.elim h
   |ret u=>
    let{v,H',os,bare,un,Y,r',q}:=h;have q':v= .bl true:=q;subst q';obtain rfl:u=Value.bool true:=r';refine{M,{λb o e=>?_,λb o e=>un.there b o e<|by simp},os,bare};by_cases hb:b=Pt
    .subst hb;rw[I]at e;cases e;let{more,e2}:=un.tbls b ps hO.1;exact .inr<|.inl {a8,M,ps,more,M,Y b _ e2}
    refine .inl ?_;cases q:H b with
    |none=>exact un.keep b o e q (by intro z;exact VE (show b∈([]:Nc) from z)<|by simp)<|by simp
    |some u=>
     rcases hO.2 b hb with z|⟨ob,xs,z⟩
     .rw[q]at z;cases z
     .have z2:=un.frzs b ob _ z;let{e1,_}:=hok b _ z;let{e2,_}:=Y b _ z2;rw[e]at e1;cases e1;exact e2
 cases hk:K.lookup a with
 |some o=>
  have e:=KX a o hk;rw[ha]at e;cases e;have nn:∀{b u},(if b=Pt then some (HO.tbl ps)else none)=some u->b=Pt/\u= .tbl ps:=λ{b u} z=>by
   by_cases hb:b=Pt
   .rw[VA hb]at z;cases z;exact⟨hb,M⟩
   .rw[Vz hb]at z;cases z
  refine U (λb=>if b=Pt then some (.tbl ps)else none) {VA M,λb hb=> .inl<|Vz hb} (.inr {_,vs.toArray,_,hk,M,M,M,by rwa[Q9,a2],by simpa using rv}) (λb u z=>?_) (λb hb z=>VE (Vz hb) z) λz=>VE (Vz a3) z;let{rfl,rfl}:=nn z;exact I
 |none=>
  refine U (λb=>if b=Pt then some (.tbl ps)else if b=a then some (.frz {cls:= .type eR,data:= .seq vs.toArray} (.lst<|ns.map V.int))else none) {VA M,λb hb=>?_} (.inl<|.inr {{cls:= .type eR,data:= .seq vs.toArray},(Vz a3).trans<|VA M}) (λb u z=>?_) (λb hb z=>?_) λ_=>hk
  .by_cases hc:b=a
   .exact .inr {_,_,(Vz hb).trans<|VA hc}
   .exact .inl<|(Vz hb).trans (Vz hc)
  .by_cases hb:b=Pt
   .have z':=(VA hb).symm.trans z;cases z';subst hb;exact I
   by_cases hc:b=a
   .have z':=((Vz hb).trans<|VA hc).symm.trans z;cases z';subst hc;exact{ha,by rwa[Q0],vs,_,rv,ha}
   .have z':=((Vz hb).trans<|Vz hc).symm.trans z;cases z'
  .by_cases hc:b=a
   .exact hc
   .exact VE ((Vz hb).trans<|Vz hc) z
def walk_ofT{l:PySem.W.OpenLaw}{n k:Nat}{q:Mz}{loose:Na}{XP:(Str->Option Value)->Heap->Prop}{d:DefRec}{K:Params->Wi}{sp:World->Sp} 
  (hn:l.most=some n) (Z:n<=sizeLine) (a0:d.params.defaults=[]) (hr:K7 k callerA)
  (hY:∀(w:World)(h:Heap),YP w h->(K w.params).In h/\h.get? Pt=some (tabObj ps)/\isCodeTable h Pt) (a1:∀w:World,(K w.params).lookup Pt=none)
  (F:∀(w:Nb)(mg:Nd)(U:G')(h:Heap),(K w.params).In h->h.Ns mainGlobals mg->mg d.name=some (.ref U)->
   ∃fd:FuncData,(∀(s:He)(u:J'),BindsTo s fd {[u],[]} [(x,u)])/\
    ∀base:Heap,(K w.params).In base->base.Ns mainGlobals mg->AZ l.prog w (K w.params) mg base KI k U fd [x] (sp w))
  (a2:∀(w:Nb)(H:Hp)(a:G')(ns:Mu),ns.length<=n->EF Pt ps H->Do (K w.params) H a (ns.map V.int)->sp w [.ref a] H (λv _=>v= .bl true) E0):
  PySem.W.WalkO q loose XP YP l.row.toRowW d [] (λf vs=>PySem.call f vs):=by
 refine Att.attach_call hn a0 λw s₀ s₁ mg mb U o pm cd a7 a vs ns G Y ho hd a8 a3 O I z hg=>?_;let{KX,a4,a5}:=hY w _ Y;let{fd,hb,hF}:=F w mg U _ KX G.T.g a3;exact BU KX G.T.g G.T.b G.T.builtins G.T.nolimit hg (a1 w) a4 a5 O I (Qr z Z) hr hF hb λH hO hS=>a2 w H a ns z hO hS
structure LamK(K:Wi)(mg:Nd)(fd:Nj)(P:G'):Prop where
 ex:∃c,fd.code= .ref c/\yV K c P
 blt:Jw K mg P
def KH.okm{mg:Nd}{st:Stmt}{N ps:Na}{k:Nat}(F:KH K x qual st f fd)(S:ao N ps (ai st))
  (G:∀(z:J')(A:Nh)(outer:Nk)(s:He)(H:Hp)(vs:K')(Q:VK)(E:XK),K7 k (A.deeper<|envOfC qual (ai st) s.heap.objs.size f z)->sp vs H Q E->
   N.Nodup->fd.code=z->let X:=(kQ KI P w K mg base N qual (ai st) f z A outer s H E).nox
   ∃t,Kw X (cf st) t/\t {nx:=λ_ H'=>Q .non H',rt:=Q} (start N vs) H)
  (len:∀vs H Q E,sp vs H Q E->vs.length=ps.length:=by intro _ _ _ _ h;repeat (first|(let{rfl,_}:=h;exact M)|let{_,h}:=h)):AZ P w K mg base KI (k+1) f fd ps sp:=by
 let{oc,od,kV,U,pm,an,z,ct,Y,rfl,lk,I}:=F.ex;refine yx lk I S len λA outer s H vs Q E Z O=>?_;let{t,h,q}:=G z A outer s H vs Q E Z O S.nd M;exact⟨t,h.nox,q⟩
def kT_of{K:Params->Wi}(Y:PySem.W.Frag.In ((Pt,tabObj #[])::K w.params) h)(n:(K w.params).lookup Pt=none)(hc:yV (K w.params) c Pt):(K w.params).In h/\h.get? Pt=some (tabObj #[])/\isCodeTable h Pt:=by
 have G:(K w.params).In h:=λa o e=>Y a o (by
  show List.lookup a ((Pt,tabObj #[])::K w.params)=some o;rw[Zy];by_cases z:a=Pt
  .rw[z,n]at e;cases e
  .rwa[VQ.mpr z])
 refine{G,Y Pt _ (by show List.lookup Pt ((Pt,tabObj #[])::K w.params)=_;rw[List.lookup_cons_self]),?_};let{o,vs,_,_,_,_,_,_,_,I,e2,O,U,_}:=hc h G;exact⟨c,o,vs,I,e2,O,U⟩
end L2
namespace L2
open PySem PySem.Spec PyProof.Rows
variable{D:Addr->Sp->Prop}{o:HO}{H:Hp}{kk:Nat}{A Wh:Prop}{x y:V}
def D3(e:x=y)(h:Wh):if(!decide (x=y))=true then A else Wh:=by
 rw[VI e];exact bT h
def Hn(e:¬x=y)(h:A):if(!decide (x=y))=true then A else Wh:=by
 rw[VM e];exact b9 h
def iO(e:x=y)(h:A):if decide (x=y)=true then A else Wh:=by
 rw[VI e];exact b9 h
def am{p:G'}(h:H p=none):Cp H (upd H p o):=λb u e=>by
 rwa[ae (aj e h)]
def MP(P:Int->Prop):List V->Prop
 | []=>True
 | .int m::r=>P m/\MP P r
 |_::_=>False
theorem MP.ints{P:Int->Prop}:∀{L:K'},MP P L->∃ns:List Int,L=ns.map V.int/\∀m∈ns,P m
 | [],_=>{[],M,λ_ z=>nomatch z}
 | .int m::r,h=>by
  let{ns,e,q}:=MP.ints h.2;refine{m::ns,by rw[e];rfl,λx hx=>?_};rcases Qc.mp hx with rfl|hx
  .exact h.1
  .exact q x hx
def JY{P:Int->Prop}{L:K'}{c n:Int}(h:MP P L)(G:(L.length:Int)=n)(hp:0<n):∃m,Lv L (c%n)=some (.int m)/\P m:=by
 let{ns,e,q}:=h.ints;subst e;have a:=Qx c (Zc hp);have b:=QA c hp;rw[Q0]at G;have z:(c%n).toNat<ns.length:=();refine{_,yL a (),q _ ?_};rw[Qs,Q4 z];exact X8 z
def cE{H':Hp}{l:G'}(s:Cp H H')(n:H l=none):Cp H (upd H' l o):=λb u e=>by
 rw[ae (aj e n)];exact s b u e
def DZ{K:Wi}{C D:G'}{b:Bool}(h1:PySem.W.typeIn K (.ref D)=some (.type "type"))(h2:PySem.W.isClsIn K D=true)(I:PySem.W.subIn K (.ref C) (.ref D)=some b)(G:C=D->b=true):
  PySem.W.kitOne K (.ref C) (.ref D)=some b:=by
 unfold PySem.W.kitOne;by_cases z:((Value.ref C:J')== .ref D)=true
 .rw[VA z,G (Value.ref.inj<|VP.mp z)]
 .rw[Vz z];show(if((PySem.W.clsIn K D).isSome&&PySem.W.typeIn K (.ref D)==some (.type "type"))=true then PySem.W.subIn K (.ref C) (.ref D)else none)=some b;have:(PySem.W.clsIn K D).isSome=true:=h2;rw[VA (by rw[this,h1];simp),I]
def K7.u20{k:Nat}{A:Nh}(r:K7 k A):A.units+20<cLine:=by have:=r.un;lia
section
variable{X:Cx}{k:Nat}{f C:G'}{fd:Nj}{ps:Na}{sp:Sp}{dvs:K'}{ds:L'}{E:XK}{x m:Str}{p pos apos:Pos}{e o:Expr}{es:Np}{ta:TE}{t:TA}
def Ct(X:Cx)(kk:Nat)(m:Str)(C:G')(sp:Sp):Prop:=Le X.K C/\∃f fd ps,cv X.K C m f/\AZ X.prog X.w X.K X.mg X.base KI kk f fd ps sp/\Binds X.K fd ps []
def D1(C:G')(sp:Sp):Addr->Sp->Prop:=λC' sp'=>C'=C/\sp'=sp
def Mm(D D':Addr->Sp->Prop):Addr->Sp->Prop:=λC sp=>D C sp\/D' C sp
def bp(c:Le X.K C)(z:cv X.K C m f)(F:AZ X.prog X.w X.K X.mg X.base KI k f fd ps sp)(hb:Binds X.K fd ps [])(hk:k<=kk):∀C' sp',D1 C sp C' sp'->Ct X kk m C' sp':=λC' sp' h=>by
 let{rfl,rfl}:=h;exact{c,f,fd,ps,z,F.mono hk,hb}
def dN{G:Addr->Sp->Prop}(h:∀C sp,D C sp->Ct X kk m C sp)(h':∀C sp,G C sp->Ct X kk m C sp):∀C sp,Mm D G C sp->Ct X kk m C sp:=λC sp z=>z.elim (h C sp) (h' C sp)
inductive Fo(D:Addr->Sp->Prop)(m:Str)(t:TA)(B:St)(Q:VK)(x:V)(H1:Hp):Prop
 |mk(a C dx fs sp:_)(_:x= .ref a)(_:H1 a=some (.ins C dx fs))(_:fs.lookup m=none)(_:D C sp)(_:t B H1 λvs H2=>sp (x::vs) H2 Q E0)
def CS(D:Addr->Sp->Prop)(m:Str)(ta:TE)(t:TA):TE:=λB H Q=>ta B H λx H1=>Fo D m t B Q x H1
def nW{pl:Sem Bool}(hD:∀C sp,D C sp->Ct X kk m C sp)(hr:K7 kk X.A)(he:PE X o ta)(ha:PA X (e::es) t)
  (z:starEach (e::es) X.env=(false,eval e X.env)::starEach es X.env:=by rfl) (G:(backTo pos<|starEach es X.env).any (·.1)=false:=by rfl)
  (ht:eval (.Call (.Attribute o m apos) (e::es) [] pos) X.env=(do
   let ov<-eval o X.env
   standAt apos.atName
   let(f,first)<-holding [ov] (getMethod ov m pl)
   callWith pos f first (backTo pos<|starEach (e::es) X.env) (backToKw pos<|keywordEach [] X.env)):=by rfl):
  PE X (.Call (.Attribute o m apos) (e::es) [] pos) (CS D m ta t):=by
 intro W s B H Q I h;refine ZG (pl:=pl) (ED (he W s B H _ I h) λu s1 O=>?_) ht;let{x,H1,U,rx,a,C,dx,fs,sp,ex,ea,l,d,q}:=O;subst ex;obtain rfl:u=Value.ref a:=rx;let{c,f,fd,ps,Y,F,hb}:=hD C sp d;refine jv U ea c Y l ?_;refine Zn (first:=[.ref a]) (h₀:=X.base) I.ok.mod.kin Y.kp (ED (ha pos W s1 B H1 _ U q) λus s2 zz=>?_) z G;let{vs,H2,Z,r,q2}:=zz;refine{Z.kIn,?_};exact pB (us:= .ref a::us) (vs:= .ref a::vs) (dvs:=[]) F hr hb .nil aA Z (.cons M r)<|by rwa[ZE]
def vm{pl:Sem Bool}(hD:∀C sp,D C sp->Ct X kk m C sp)(U:K7 kk X.A)(he:PE X o ta)
  (Y:eval (.Call (.Attribute o m apos) [] [] pos) X.env=(do
   let ov<-eval o X.env
   standAt apos.atName
   let(f,first)<-holding [ov] (getMethod ov m pl)
   callWith pos f first (backTo pos<|starEach [] X.env) (backToKw pos<|keywordEach [] X.env)):=by rfl):
  PE X (.Call (.Attribute o m apos) [] [] pos) (CS D m ta Bs):=by
 intro W s B H Q I h;refine ZG (pl:=pl) (ED (he W s B H _ I h) λu s1 z=>?_) Y;let{x,H1,G,Z,a,C,dx,fs,sp,ex,ea,l,d,q}:=z;subst ex;obtain rfl:u=Value.ref a:=Z;let{c,f,fd,ps,O,F,hb}:=hD C sp d;refine jv G ea c O l ?_;refine XV (first:=[.ref a]) G.kIn O.kp ?_;exact pB (us:=[.ref a]) (vs:=[.ref a]) (dvs:=[]) F U hb .nil aA G (.cons M .nil) q
end
end L2
namespace Srt
open PySem PyProof.Rows
abbrev _root_.Mx:=Array Keyed
abbrev _root_.Nn:=Keyed->Keyed->Bool
variable{xs ys:Mx}{blt:Nn}{e hi i j lo n nrem:Nat}{st:SortSt}{γ:Type}{Q:Unit->SortSt->Prop}{E:Ng}
abbrev dk:Keyed:=(Value.none,Value.none)
noncomputable def g(xs:Mx)(i:Nat):Keyed:=xs[i]?.getD dk
theorem dj(h:i<xs.size):xs[i]?=some (g xs i):=by
 unfold g;rw[getElem?_pos xs i h];rfl
theorem oo(h:xs[i]?=ys[j]?):g xs i=g ys j:=by unfold g;rw[h]
theorem vE(h:i<xs.size):g xs i∈xs:=by
 have e:=dj h;exact Array.mem_of_getElem? e
structure Lp(blt:Nn):Prop where
 asym:∀x y,blt x y=true->blt y x=false
 tr:∀x y z,blt y x=false->blt z y=false->blt z x=false
section
variable(C:Lp blt)
abbrev le(blt:Nn)(x y:Keyed):Prop:=blt y x=false
include C
theorem Lp.trans{x y z:Keyed}(h1:le blt x y)(h2:le blt y z):le blt x z:=C.tr x y z h1 h2
theorem Lp.of_lt{x y:Keyed}(h:blt x y=true):le blt x y:=C.asym _ _ h
end
def On(blt:Nn)(xs:Mx)(lo hi:Nat):Prop:=∀i j,lo<=i->i<j->j<hi->le blt (g xs i) (g xs j)
def Off(blt:Nn)(xs:Mx)(lo hi:Nat):Prop:=∀i j,lo<=i->i<j->j<hi->le blt (g xs j) (g xs i)
theorem On.one:On blt xs lo (lo+1):=λi j h1 h2 z=>by lia
theorem Off.one:Off blt xs lo (lo+1):=λi j h1 h2 z=>by lia
theorem On.congr(h:On blt xs lo hi)(e:∀k,lo<=k->k<hi->g ys k=g xs k):On blt ys lo hi:=λi j h1 h2 z=>by
 rw[e i h1 (),e j () z];exact h i j h1 h2 z
theorem On.sub{z hi':Nat}(h:On blt xs lo hi)(h1:lo<=z)(h2:hi'<=hi):On blt xs z hi':=λi j a b c=>h i j () b ()
section
variable(C:Lp blt)
include C
theorem On.snoc(h:On blt xs lo (lo+n))(G:1<=n)(e:le blt (g xs<|lo+n-1) (g xs<|lo+n)):On blt xs lo (lo+(n+1)):=λi j h1 h2 I=>by
 by_cases z:j<lo+n
 .exact h i j h1 h2 z
 .have ej:j=lo+n:=();subst ej;by_cases y:i=lo+n-1
  .subst y;exact e
  .exact C.trans (h i (lo+n-1) h1 () ()) e
theorem Off.snoc(h:Off blt xs lo (lo+n))(G:1<=n)(e:le blt (g xs<|lo+n) (g xs<|lo+n-1)):Off blt xs lo (lo+(n+1)):=λi j h1 h2 I=>by
 by_cases z:j<lo+n
 .exact h i j h1 h2 z
 .have ej:j=lo+n:=();subst ej;by_cases y:i=lo+n-1
  .subst y;exact e
  .exact C.trans e<|h i (lo+n-1) h1 () ()
end
theorem Eb(z:j<=xs.size)(k:Nat):g (mirror xs i j<|(j-i)/2) k=if i<=k/\k<j then g xs (i+j-1-k)else g xs k:=by
 have e:=getElem?_mirror_all (i:=i) z k;by_cases h1:i<=k/\k<j
 .rw[VA h1]at e⊢;exact oo e
 .rw[Vz h1]at e⊢;exact oo e
theorem Ec{src d:Nat}(hs:src<xs.size)(hd:d<=src)(k:Nat):g (bubble xs src d) k=if k=src-d then g xs src else if src-d<k/\k<=src then g xs (k-1)else g xs k:=by
 have e:=getElem?_bubble hs d hd k;by_cases h1:k=src-d
 .rw[VA h1]at e⊢;exact oo e
 .rw[Vz h1]at e⊢;by_cases h2:src-d<k/\k<=src
  .rw[VA h2]at e⊢;exact oo e
  .rw[Vz h2]at e⊢;exact oo e
section
variable{prog:Mz}{w:Nb}{A:Nh}{s:He}{a₀:Mx}{κ:SortKind}
def uX(prog:Mz)(w:Nb)(A:Nh)(E:Ng)(s:He)(a₀:Mx)(κ:SortKind)(blt:Nn):Prop:=
 ∀(x y:Keyed)(st:SortSt)(Q:Option Bool->SortSt->Prop),x∈a₀->y∈a₀->kindOf st=κ->Q (some<|blt x y) st->wpS (model prog w) A E s (lt' x y) Q st
structure KC(a₀:Mx)(κ:SortKind)(st:SortSt):Prop where
 kind:kindOf st=κ
 fine:failedOf st=none
 perm:(arrOf st).Perm a₀
theorem KC.size(Wh:KC a₀ κ st):(arrOf st).size=a₀.size:=Wh.perm.size_eq
theorem KC.mem(Wh:KC a₀ κ st)(h:i<a₀.size):g (arrOf st) i∈a₀:=(Wh.perm.mem_iff).mp (vE<|by rwa[Wh.size])
variable(L:uX prog w A E s a₀ κ blt)
include L
theorem nK{Q:Option Bool->SortSt->Prop}(Wh:KC a₀ κ st)(hi:i<a₀.size)(z:j<a₀.size)(h:Q (some<|blt (g (arrOf st) i)<|g (arrOf st) j) st):
  wpS (model prog w) A E s (ltAt' i j) Q st:=by
 rw[ltAt'_eq];refine VD<|We ?_;show wpS _ _ _ _ (do let x<-elem' (arrOf st) i;let y<-elem' (arrOf st) j;lt' x y) Q st;rw[elem'_eq,elem'_eq,dj (by rwa[Wh.size]),dj (by rwa[Wh.size])];refine VD<|VH (VD<|VH ?_);exact L _ _ st Q (Wh.mem hi) (Wh.mem z) Wh.kind h
omit L in
theorem CG{α:Type}{m m':StateT SortSt Sem α}{Q:α->SortSt->Prop}(e:m=m')(h:wpS (model prog w) A E s m' Q st):wpS (model prog w) A E s m Q st:=by rwa[e]
abbrev LW(lo:Nat)(xs ys:Mx):Prop:=∀k,k<lo->g ys k=g xs k
theorem fK(Wh:KC a₀ κ st)(z:j<=a₀.size)
  (h:∀st',KC a₀ κ st'->pendingOf st'=pendingOf st->(∀k,g (arrOf st') k=if i<=k/\k<j then g (arrOf st) (i+j-1-k)else g (arrOf st) k)->Q Unit.unit st'):
  wpS (model prog w) A E s (reverseSlice' i j) Q st:=by
 rw[reverseSlice'_eq];refine W7<|h _ {Wh.kind,Wh.fine,(mirror_perm _ _ _ _).trans Wh.perm} M λk=>?_;exact Eb (by rwa[Wh.size]) k
theorem CF{a:Nat}{f:Nat->Option γ×Nat->StateT SortSt Sem (ForInStep<|Option γ×Nat)}{Q:Option γ×Nat->SortSt->Prop}(C:Lp blt)(Wh:KC a₀ κ st)(ha:1<=a)(G:a<=nrem)(hz:lo+nrem<=a₀.size)(hs:On blt (arrOf st) lo (lo+a))
  (hf:∀(i n:Nat)(R:ForInStep (Option γ×Nat)->SortSt->Prop),n<nrem->1<=n->(blt (g (arrOf st)<|lo+n) (g (arrOf st)<|lo+n-1)=true->R (.done (none,n)) st)->(blt (g (arrOf st)<|lo+n) (g (arrOf st)<|lo+n-1)=false->R (.yield (none,n+1)) st)->wpS (model prog w) A E s (f i (none,n)) R st)
  (h:∀n,a<=n->n<=nrem->On blt (arrOf st) lo (lo+n)->(n<nrem->blt (g (arrOf st)<|lo+n) (g (arrOf st)<|lo+n-1)=true)->Q (none,n) st):
  wpS (model prog w) A E s (forIn [a:nrem] (none,a) f) Q st:=by
 refine VX (I:=λi c st'=>st'=st/\c=(none,i)/\a<=i/\i<=nrem/\On blt (arrOf st) lo (lo+i)) ?_ ?_ {M,M,Q5 _,G,hs}
 .rintro i c st' h1 h2 ⟨rfl,rfl,U,Y,O⟩;refine hf i i _ h2 () (λe=>?_)<|λe=>?_
  .exact h i U Y O λ_=>e
  .exact{M,M,(),(),O.snoc C () e}
 .rintro c st' ⟨rfl,rfl,U,Y,O⟩;have e:max a nrem=nrem:=QT G;rw[e]at O⊢;exact h nrem G (Q5 _) O λz=>VE z (Zv _)
omit L in
theorem pK{b:Nat}(hb:lo<=b)(h:Off blt xs lo e)(o:On blt xs b e)(hy:∀k,g ys k=if b<=k/\k<e then g xs (b+e-1-k)else g xs k):Off blt ys lo e:=λi j h1 h2 z=>by
 rw[hy i,hy j];by_cases jb:b<=j
 .rw[VA ⟨jb,z⟩];by_cases G:b<=i
  .rw[VA {G,()}];exact o _ _ () () ()
  .rw[Vz ()];exact h _ _ h1 () ()
 .rw[Vz (),Vz ()];exact h i j h1 h2 z
omit L in
theorem Iy(h:Off blt xs lo e)(hy:∀k,g ys k=if lo<=k/\k<e then g xs (lo+e-1-k)else g xs k):On blt ys lo e:=λi j h1 h2 z=>by
 rw[hy i,hy j,VA {h1,()},VA {(),z}];exact h _ _ () () ()
omit L in
theorem FU(h:On blt xs lo e)(hy:∀k,g ys k=if lo<=k/\k<e then g xs (lo+e-1-k)else g xs k):Off blt ys lo e:=λi j h1 h2 z=>by
 rw[hy i,hy j,VA (show lo<=j/\j<e by lia),VA (show lo<=i/\i<e by lia)];exact h _ _ () () ()
noncomputable def EC(lo:Nat):Nat->Option (Option Nat)×Nat->StateT SortSt Sem (ForInStep<|Option (Option Nat)×Nat):=λ_ __s=>do
 let __x<-ltAt' (lo+__s.snd) (lo+__s.snd-1)
 match __x with
 |some smaller=>if smaller=true then pure (ForInStep.done (none,__s.snd))else pure (ForInStep.yield (none,__s.snd+1))
 |_=>pure (ForInStep.done (some none,__s.snd))
def u8(lo n nrem:Nat):StateT SortSt Sem (Option Nat):=do
 reverseSlice' lo (lo+n)
 let __s<-forIn [n:nrem] (none,n) (EC lo)
 match __s.fst with
 |some r=>pure r
 |none=>pure (some __s.snd)
noncomputable def AU(lo:Nat):Nat->Option (Option Nat)×Nat×Nat->StateT SortSt Sem (ForInStep<|Option (Option Nat)×Nat×Nat):=λ_ __s=>do
 let __x<-ltAt' (lo+__s.snd.fst) (lo+__s.snd.fst-1)
 match __x with
 |some smaller=>
  if smaller=true then
   if __s.snd.snd>0 then do
    reverseSlice' (lo+__s.snd.fst-(__s.snd.snd+1)) (lo+__s.snd.fst)
    pure (ForInStep.yield (none,__s.snd.fst+1,0))
   else pure (ForInStep.yield (none,__s.snd.fst+1,0))
  else do
   let __x<-ltAt' (lo+__s.snd.fst-1) (lo+__s.snd.fst)
   match __x with
   |some larger=>
    if larger=true then pure (ForInStep.done (none,__s.snd.fst,__s.snd.snd))
    else pure (ForInStep.yield (none,__s.snd.fst+1,__s.snd.snd+1))
   |_=>pure (ForInStep.done (some none,__s.snd.fst,__s.snd.snd))
 |_=>pure (ForInStep.done (some none,__s.snd.fst,__s.snd.snd))
def vH(lo n nrem:Nat):StateT SortSt Sem (Option Nat):=do
 liftM (rule "list.sort.descending-run")
 let __s<-forIn [n+1:nrem] (none,n+1,0) (AU lo)
 match __s.fst with
 |some r=>pure r
 |none=>
  if __s.snd.snd>0 then do
   reverseSlice' (lo+__s.snd.fst-(__s.snd.snd+1)) (lo+__s.snd.fst)
   u8 lo __s.snd.fst nrem
  else u8 lo __s.snd.fst nrem
theorem Ak{R:ForInStep (Option (Option Nat)×Nat)->SortSt->Prop}(Wh:KC a₀ κ st)(hz:lo+nrem<=a₀.size)(G:n<nrem)(h1:1<=n)
  (z:blt (g (arrOf st)<|lo+n) (g (arrOf st)<|lo+n-1)=true->R (.done (none,n)) st) (hf:blt (g (arrOf st)<|lo+n) (g (arrOf st)<|lo+n-1)=false->R (.yield (none,n+1)) st):wpS (model prog w) A E s (EC lo i (none,n)) R st:=by
 unfold EC;refine VD<|nK L Wh (by dsimp only;lia) (by dsimp only;lia) ?_;dsimp only;cases e:blt (g (arrOf st)<|lo+n) (g (arrOf st)<|lo+n-1)with
 |true=>exact VH<|z e
 |false=>exact VH<|hf e
theorem nJ{Q:Option Nat->SortSt->Prop}(C:Lp blt)(Wh:KC a₀ κ st)(h1:1<=n)(z:n<=nrem)(hz:lo+nrem<=a₀.size)(I:Off blt (arrOf st) lo (lo+n))
  (h:∀m st',KC a₀ κ st'->pendingOf st'=pendingOf st->1<=m->m<=nrem->On blt (arrOf st') lo (lo+m)->LW lo (arrOf st) (arrOf st')->Q (some m) st'):wpS (model prog w) A E s (u8 lo n nrem) Q st:=by
 unfold u8;refine VD<|fK L Wh () λst' G hp hy=>?_;refine VD<|CF L C G h1 z hz (Iy I hy) (λi n R z h1 O hf=>Ak L G (i:=i) hz z h1 O hf) (λm ha U hs _=>?_);exact VH<|h m st' G hp () U hs λk hk=>by rw[hy k,Vz ()]
theorem xz{Q:Option Nat->SortSt->Prop}(C:Lp blt)(Wh:KC a₀ κ st)(h1:1<=n)(hn:n+1<=nrem)(hz:lo+nrem<=a₀.size)(ho:Off blt (arrOf st) lo (lo+(n+1)))
  (h:∀m st',KC a₀ κ st'->pendingOf st'=pendingOf st->1<=m->m<=nrem->On blt (arrOf st') lo (lo+m)->LW lo (arrOf st) (arrOf st')->Q (some m) st'):wpS (model prog w) A E s (vH lo n nrem) Q st:=by
 unfold vH;refine VD<|wpS_lift (Wf {M,?_});refine VD (VX (I:=λi c st'=>∃q,c=(none,i,q)/\KC a₀ κ st'/\pendingOf st'=pendingOf st/\LW lo (arrOf st) (arrOf st')/\n+1<=i/\i<=nrem/\q+1<=i/\Off blt (arrOf st') lo (lo+i)/\On blt (arrOf st') (lo+i-(q+1)) (lo+i)) ?_ ?_
  {0,M,Wh,M,λ_ _=>M,Q5 _,hn,(),ho,λi j a b c=>()})
 .rintro i c st' a2 a3 ⟨q,rfl,B',hp,hk,h2,h3,h4,O,on⟩;unfold AU;refine VD<|nK L B' (by dsimp only;lia) (by dsimp only;lia) ?_;dsimp only;cases e:blt (g (arrOf st')<|lo+i) (g (arrOf st')<|lo+i-1)with
  |true=>
   by_cases q0:q>0
   .rw[VA M,VA q0];refine VD<|fK L B' () λst2 B2 Z hy=>?_;refine VH {0,M,B2,Z.trans hp,λk G=>by rw[hy k,Vz ()];exact hk k G,(),(),(),?_,λi j a b c=>()};refine(pK () O on hy).snoc C () ?_;rw[hy,hy,Vz (),VA ()];have z:lo+i-(q+1)+(lo+i)-1-(lo+i-1)=lo+i-(q+1):=();rw[z];exact C.trans (C.of_lt e)<|O _ _ () () ()
   .rw[VA M,Vz q0];exact VH {0,M,B',hp,hk,(),(),(),O.snoc C ()<|C.of_lt e,λi j a b c=>()}
  |false=>
   simp only[QP,if_false];refine VD<|nK L B' () () ?_;dsimp only;cases e2:blt (g (arrOf st')<|lo+i-1) (g (arrOf st')<|lo+i)with
   |true=>
    simp only[if_true];refine VH ?_;dsimp only;by_cases q0:q>0
    .rw[VA q0];refine VD<|fK L B' () λst2 B2 Z hy=>?_;refine nJ L C B2 () h3 hz (pK () O on hy) λm U B3 Y a b c d=>h m U B3 (Y.trans<|Z.trans hp) a b c λk G=>?_;rw[d k G,hy k,Vz ()];exact hk k G
    .rw[Vz q0];exact nJ L C B' () h3 hz O λm U B3 Y a b c d=>h m U B3 (Y.trans hp) a b c λk G=>(d k G).trans (hk k G)
   |false=>
    simp only[QP,if_false];refine VH {q+1,M,B',hp,hk,(),(),(),O.snoc C () e2,?_};have z:lo+(i+1)-(q+1+1)=lo+i-(q+1):=();rw[z];intro x y hx hy a4;by_cases a0:y<lo+i
    .exact on x y hx hy a0
    .have ey:y=lo+i:=();subst ey;by_cases a1:x=lo+i-1
     .subst a1;exact e
     .exact C.trans (on x (lo+i-1) hx () ()) e
 .rintro c st' ⟨q,rfl,B',hp,hk,h2,h3,h4,O,on⟩;have em:max (n+1) nrem=nrem:=QT hn;rw[em]at h3 h4 O on⊢;dsimp only;by_cases q0:q>0
  .rw[VA q0];refine VD<|fK L B' () λst2 B2 Z hy=>?_;refine nJ L C B2 () h3 hz (pK () O on hy) λm U B3 Y a b c d=>h m U B3 (Y.trans<|Z.trans hp) a b c λk G=>?_;rw[d k G,hy k,Vz ()];exact hk k G
  .rw[Vz q0];exact nJ L C B' () h3 hz O λm U B3 Y a b c d=>h m U B3 (Y.trans hp) a b c λk G=>(d k G).trans (hk k G)
theorem CD{Q:Option Nat->SortSt->Prop}(C:Lp blt)(Wh:KC a₀ κ st)(h1:1<=nrem)(hz:lo+nrem<=a₀.size)
  (h:∀n st',KC a₀ κ st'->pendingOf st'=pendingOf st->1<=n->n<=nrem->On blt (arrOf st') lo (lo+n)->LW lo (arrOf st) (arrOf st')->Q (some n) st'):wpS (model prog w) A E s (countRun' lo nrem) Q st:=by
 rw[countRun'_eq];dsimp only;refine VD<|CF L C Wh (Q5 1) h1 hz On.one (λi n R U h1 ht hf=>Ak L Wh (i:=i) hz U h1 ht hf) (λn ha U hs Y=>?_);dsimp only;by_cases en:n=nrem
 .subst en;simp only[Wa,if_true];exact VH<|h n st Wh M ha U hs λ_ _=>M
 .have eb:(n==nrem)=false:=VQ.mpr en;simp only[eb,QP,if_false];have G:=Y ();by_cases n1:n>1
  .rw[VA n1];refine VD<|nK L Wh () () ?_;dsimp only;cases e:blt (g (arrOf st) lo) (g (arrOf st)<|lo+n-1)with
   |true=>
    simp only[if_true];exact VH<|h n st Wh M ha U hs λ_ _=>M
   |false=>
    simp only[QP,if_false];refine VD<|fK L Wh () λst2 B2 Z hy=>?_;have a0:Off blt (arrOf st2) lo (lo+(n+1)):=by
     refine(FU hs hy).snoc C ha ?_;rw[hy,hy,Vz (),VA ()];have z:lo+(lo+n)-1-(lo+n-1)=lo:=();rw[z];exact C.trans (C.of_lt G) e
    refine CG (m':=vH lo n nrem) (by
      unfold vH u8 EC AU;congr 1;funext _u;congr 1;funext s2;let{O,n2,q2}:=s2;cases O with
      |some O=>rfl
      |none=>
       dsimp only;split
       .congr 1;funext _v;congr 1;funext _w;congr 1;funext s3;let{I,n3}:=s3;cases I<;>rfl
       .congr 1;funext _w;congr 1;funext s3;let{I,n3}:=s3;cases I<;>rfl)<|xz L C B2 ha () hz a0 λm a1 B3 a2 a b c d=>h m a1 B3 (a2.trans Z) a b c λk hk=>by rw[d k hk,hy k,Vz ()]
  .rw[Vz n1];have e1:n=1:=();subst e1;refine CG (m':=vH lo 1 nrem) (by
      unfold vH u8 EC AU;congr 1;funext _u;congr 1;funext s2;let{O,n2,q2}:=s2;cases O with
      |some O=>rfl
      |none=>
       dsimp only;split
       .congr 1;funext _v;congr 1;funext _w;congr 1;funext s3;let{I,n3}:=s3;cases I<;>rfl
       .congr 1;funext _w;congr 1;funext s3;let{I,n3}:=s3;cases I<;>rfl) (xz L C Wh ha () hz (Off.one.snoc C (Q5 1)<|C.of_lt G) h)
omit L in
theorem Aj{k l:Nat}(Wh:KC a₀ κ st)(hk:k<a₀.size)(hl:l<=k)
  (h:∀st',KC a₀ κ st'->pendingOf st'=pendingOf st->(∀j,g (arrOf st') j=if j=l then g (arrOf st) k else if l<j/\j<=k then g (arrOf st) (j-1)else g (arrOf st) j)->Q Unit.unit st'):
  wpS (model prog w) A E s (moveDown' k l) Q st:=by
 rw[moveDown'_eq];refine W7<|h _ {Wh.kind,Wh.fine,(bubble_perm _ _ _).trans Wh.perm} M λj=>?_;have e:=Ec (xs:=arrOf st) (src:=k) (d:=k-l) (by rwa[Wh.size]) () j;have z:k-(k-l)=l:=();rw[z]at e;exact e
theorem Bj{ok:Nat}{Q:Bool->SortSt->Prop}(C:Lp blt)(Wh:KC a₀ κ st)(h1:1<=ok)(hok:ok<=n)(hz:lo+n<=a₀.size)(hs:On blt (arrOf st) lo (lo+ok))
  (h:∀st',KC a₀ κ st'->pendingOf st'=pendingOf st->On blt (arrOf st') lo (lo+n)->LW lo (arrOf st) (arrOf st')->Q true st'):wpS (model prog w) A E s (binarySort' lo n ok) Q st:=by
 rw[binarySort'_eq];dsimp only;have em:max ok 1=ok:=Nat.max_eq_left h1;rw[em];refine VD (VX (I:=λi c st'=>c=(none,Unit.unit)/\KC a₀ κ st'/\pendingOf st'=pendingOf st/\LW lo (arrOf st) (arrOf st')/\ok<=i/\i<=n/\On blt (arrOf st') lo (lo+i)) ?_ ?_
  {M,Wh,M,λ_ _=>M,Q5 _,hok,hs})
 .rintro k c st' a7 a8 ⟨rfl,U,hp,hk,h2,h3,on⟩;refine VD (VX (I:=λi c st2=>st2=st'/\∃l r,c=(none,l,r)/\l<=r/\r<=k/\r-l<=k-i/\(∀j,j<l->le blt (g (arrOf st')<|lo+j) (g (arrOf st')<|lo+k))/\(∀j,r<=j->j<k->le blt (g (arrOf st')<|lo+k) (g (arrOf st')<|lo+j))) ?_ ?_
   {M,0,k,M,Qh _,Q5 _,Q5 _,λj hj=>VE hj<|Nat.not_lt_zero _,λj a b=>()})
  .rintro i c st2 ac al ⟨rfl,l,r,rfl,a0,a3,hm,z,above⟩;dsimp only;by_cases Y:l>=r
   .rw[VA Y];refine VH ?_;dsimp only;have a4:l=r:=();refine VD<|Aj U () () λa5 B3 G hy=>VH {M,B3,G.trans hp,λq hq=>?_,(),(),?_}
    .rw[hy q,Vz (),Vz ()];exact hk q hq
    .intro a b ha O hb;rw[hy a,hy b];by_cases Z:b=lo+l
     .rw[VA Z,Vz (),Vz ()];have:=z (a-lo) ();rwa [show lo+(a-lo)=a by lia]at this
     .rw[Vz Z];by_cases b2:lo+l<b/\b<=lo+k
      .rw[VA b2];by_cases a1:a=lo+l
       .rw[VA a1];have:=above (b-1-lo) () ();rwa [show lo+(b-1-lo)=b-1 by lia]at this
       .rw[Vz a1];by_cases a2:lo+l<a/\a<=lo+k
        .rw[VA a2];exact on _ _ () () ()
        .rw[Vz a2];exact on _ _ () () ()
      .rw[Vz b2,Vz (),Vz ()];exact on _ _ ha O ()
   .rw[Vz Y];refine VD<|nK L U () () ?_;dsimp only;cases e:blt (g (arrOf st2)<|lo+k) (g (arrOf st2)<|lo+(l+r)/2)with
    |true=>
     rw[VA M];refine VH {M,l,(l+r)/2,M,(),(),(),z,λj a b=>?_};by_cases ej:j=(l+r)/2
     .subst ej;exact C.of_lt e
     .exact C.trans (C.of_lt e)<|on _ _ () () ()
    |false=>
     rw[Vz (_)];refine VH {M,(l+r)/2+1,r,M,(),(),(),λj a=>?_,above};by_cases ej:j=(l+r)/2
     .subst ej;exact e
     .exact C.trans (on _ _ () () ()) e
  .rintro c st2 ⟨rfl,l,r,rfl,a0,a3,hm,z,above⟩;have ek:max 0 k=k:=QT (Qh _);rw[ek]at hm;have a4:l=r:=();dsimp only;refine VD<|Aj U () () λa5 B3 G hy=>VH {M,B3,G.trans hp,λq hq=>?_,(),(),?_}
   .rw[hy q,Vz (),Vz ()];exact hk q hq
   .intro a b ha O hb;rw[hy a,hy b];by_cases Z:b=lo+l
    .rw[VA Z,Vz (),Vz ()];have:=z (a-lo) ();rwa [show lo+(a-lo)=a by lia]at this
    .rw[Vz Z];by_cases b2:lo+l<b/\b<=lo+k
     .rw[VA b2];by_cases a1:a=lo+l
      .rw[VA a1];have:=above (b-1-lo) () ();rwa [show lo+(b-1-lo)=b-1 by lia]at this
      .rw[Vz a1];by_cases a2:lo+l<a/\a<=lo+k
       .rw[VA a2];exact on _ _ () () ()
       .rw[Vz a2];exact on _ _ () () ()
     .rw[Vz b2,Vz (),Vz ()];exact on _ _ ha O ()
 .rintro c st' ⟨rfl,U,hp,hk,h2,h3,on⟩;have e:max ok n=n:=QT hok;rw[e]at on;exact VH (h st' U hp on hk)
noncomputable def Gr:Bool->Keyed->Array Keyed->Nat->Nat->Nat->StateT SortSt Sem (Option Nat):=sortPriv%PySem.Builtin.gallop
omit L in
theorem uZ{f:Nat->Option γ×Nat×Nat->StateT SortSt Sem (ForInStep<|Option γ×Nat×Nat)}{Q:Option γ×Nat×Nat->SortSt->Prop}(G:Nat->Bool)(mono:∀i j,i<=j->j<n->G j=true->G i=true)
  (hf:∀(i lo hi:Nat)(R:ForInStep (Option γ×Nat×Nat)->SortSt->Prop),hi<=n->(lo>=hi->R (.done (none,lo,hi)) st)->(lo<hi->G (lo+(hi-lo)/2)=true->R (.yield (none,lo+(hi-lo)/2+1,hi)) st)->(lo<hi->G (lo+(hi-lo)/2)=false->R (.yield (none,lo,lo+(hi-lo)/2)) st)->wpS (model prog w) A E s (f i (none,lo,hi)) R st)
  (h1:lo<=hi) (h2:hi<=n) (ht:∀i,i<lo->G i=true) (hF:∀i,hi<=i->i<n->G i=false)
  (h:∀k,k<=n->(∀i,i<k->G i=true)->(∀i,k<=i->i<n->G i=false)->Q (none,k,k) st):wpS (model prog w) A E s (forIn [0:n] (none,lo,hi) f) Q st:=by
 refine VX (I:=λi c st'=>st'=st/\∃lo hi,c=(none,lo,hi)/\lo<=hi/\hi<=n/\hi-lo<=n-i/\(∀i,i<lo->G i=true)/\(∀i,hi<=i->i<n->G i=false)) ?_ ?_
  {M,lo,hi,M,h1,h2,(),ht,hF}
 .rintro i c st' a0 a1 ⟨rfl,lo,hi,rfl,g1,O,Z,U,Y⟩;refine hf i lo hi _ O (λz=>?_) (λz e=>?_)<|λz e=>?_
  .have e:lo=hi:=();subst e;exact h lo O U Y
  .exact{M,_,_,M,(),O,(),λj hj=>mono j _ () () e,Y}
  .refine{M,_,_,M,(),(),(),U,λj a b=>?_};cases q:G j with
   |false=>rfl
   |true=>rw[mono _ j a b q]at e;cases e
 .rintro c st' ⟨rfl,lo,hi,rfl,g1,O,Z,U,Y⟩;have em:max 0 n=n:=QT (Qh _);rw[em]at Z;have e:lo=hi:=();subst e;exact h lo O U Y
theorem fG{left:Bool}{key:Keyed}{arr:Mx}{base hint:Nat}{Q:Option Nat->SortSt->Prop}(hK:kindOf st=κ)(hk:key∈a₀)(ha:∀i,i<n->base+i<arr.size/\g arr (base+i)∈a₀)(hh:hint<n)
  (U:Nat->Bool) (a7:∀i,i<n->U i=if left=true then blt (g arr<|base+i) key else !blt key (g arr<|base+i)) (mono:∀i j,i<=j->j<n->U j=true->U i=true)
  (h:∀k,k<=n->(∀i,i<k->U i=true)->(∀i,k<=i->i<n->U i=false)->Q (some k) st):wpS (model prog w) A E s (Gr left key arr base n hint) Q st:=by
 have a0:∀(i:Nat)(R:Option Bool->SortSt->Prop),i<n->R (some<|U i) st->wpS (model prog w) A E s (elem' arr (base+i)>>=λx=>if left=true then lt' x key else lt' key x>>=λr=>pure<|r.map λx=>!x) R st:=by
  intro i R hi q;let{h1,h2}:=ha i hi;rw[elem'_eq,dj h1];refine VD<|VH ?_;have e:=a7 i hi;cases left with
  |true=>
   rw[VA M]at e⊢;exact L _ _ st R h2 hk hK<|by rw[<-e];exact q
  |false=>
   rw[Vz (_)]at e⊢;refine VD<|L _ _ st _ hk h2 hK (VH ?_);show R (some<|!blt key (g arr<|base+i)) st;rw[<-e];exact q
 refine VD ?_;dsimp only;refine a0 hint _ hh ?_;dsimp only;cases e0:U hint with
 |true=>
  rw[VA M];refine VD (Wc (VX (I:=λi c st'=>st'=st/\∃O G,c=(none,O,G)/\O<G/\i+1<=G/\hint+O<n/\U (hint+O)=true)
   (Q:=λc st'=>st'=st/\∃O G,c=(none,O,G)/\O<G/\hint+O<n/\U (hint+O)=true/\(n-hint<=G\/(hint+G<n/\U (hint+G)=false))) ?_ ?_ {M,0,1,M,(),(),(),e0}) ?_)
  .rintro i c st' a8 ac ⟨rfl,O,G,rfl,a1,a2,Z,Y⟩;dsimp only;by_cases z:G>=n-hint
   .rw[VA z];exact VH {M,O,G,M,a1,Z,Y,.inl z}
   .rw[Vz z];refine VD<|a0 (hint+G) _ () ?_;dsimp only;cases e:U (hint+G)with
    |false=>
     rw[VA (_)];exact VH {M,O,G,M,a1,Z,Y,.inr {(),e}}
    |true=>
     rw[Vz (_)];exact VH {M,G,2*G+1,M,(),(),(),e}
  .rintro c st' ⟨rfl,O,G,rfl,a1,a2,Z,Y⟩;have em:max 0 n=n:=QT (Qh _);rw[em]at a2;exact{M,O,G,M,a1,Z,Y,.inl ()}
  .rintro c st' ⟨rfl,O,G,rfl,a1,Z,Y,a5⟩;dsimp only;refine VD<|uZ U mono (λi lo hi R hn c1 c2 c3=>?_) () () (λi hi=>mono i (hint+O) () Z Y) (λi h1 h2=>?_) λk h1 h2 h3=>?_
   .dsimp only;by_cases z:lo>=hi
    .rw[VA z];exact VH<|c1 z
    .rw[Vz z];refine VD<|a0 _ _ () ?_;dsimp only;cases e:U (lo+(hi-lo)/2)with
     |true=>rw[VA M];exact VH<|c2 () e
     |false=>rw[Vz (_)];exact VH<|c3 () e
   .rcases a5 with z|⟨z1,z2⟩
    .lia
    .cases q:U i with
     |false=>rfl
     |true=>rw[mono (hint+G) i () h2 q]at z2;cases z2
   .exact VH<|h k h1 h2 h3
 |false=>
  rw[Vz (_)];refine VD (Wc (VX (I:=λi c st'=>st'=st/\∃O G,c=(none,O,G)/\O<G/\i+1<=G/\O<=hint/\U (hint-O)=false)
   (Q:=λc st'=>st'=st/\∃O G,c=(none,O,G)/\O<G/\O<=hint/\U (hint-O)=false/\(hint+1<=G\/(G<=hint/\U (hint-G)=true))) ?_ ?_ {M,0,1,M,(),(),(),e0}) ?_)
  .rintro i c st' a8 ac ⟨rfl,O,G,rfl,a1,a2,Z,Y⟩;dsimp only;by_cases z:G>=hint+1
   .rw[VA z];exact VH {M,O,G,M,a1,Z,Y,.inl z}
   .rw[Vz z];refine VD<|a0 (hint-G) _ () ?_;dsimp only;cases e:U (hint-G)with
    |true=>
     rw[VA M];exact VH {M,O,G,M,a1,Z,Y,.inr {(),e}}
    |false=>
     rw[Vz (_)];exact VH {M,G,2*G+1,M,(),(),(),e}
  .rintro c st' ⟨rfl,O,G,rfl,a1,a2,Z,Y⟩;have em:max 0 n=n:=QT (Qh _);rw[em]at a2;exact{M,O,G,M,a1,Z,Y,.inl ()}
  .rintro c st' ⟨rfl,O,G,rfl,a1,Z,Y,a5⟩;dsimp only;refine VD<|uZ U mono (λi lo hi R hn c1 c2 c3=>?_) () () (λi hi=>?_) (λi h1 h2=>?_) λk h1 h2 h3=>?_
   .dsimp only;by_cases z:lo>=hi
    .rw[VA z];exact VH<|c1 z
    .rw[Vz z];refine VD<|a0 _ _ () ?_;dsimp only;cases e:U (lo+(hi-lo)/2)with
     |true=>rw[VA M];exact VH<|c2 () e
     |false=>rw[Vz (_)];exact VH<|c3 () e
   .rcases a5 with z|⟨z1,z2⟩
    .lia
    .exact mono i (hint-G) () () z2
   .cases q:U i with
    |false=>rfl
    |true=>rw[mono (hint-O) i () h2 q]at Y;cases Y
   .exact VH<|h k h1 h2 h3
end
abbrev _root_.Nq:=List Keyed
variable{A:Nh}{a₀:Mx}{x:Keyed}{blt:Nn}{R:Keyed->SortSt->Prop}{all o ra rb:Nq}{i n:Nat}{prog:Mz}{Wh:Prop}{s:He}{κ:SortKind}{st:SortSt}{r:Std.Legacy.Range}{α β:Type}{Q:Unit->SortSt->Prop}{E:Ng}{w:Nb}
noncomputable def DJ:Array Keyed->Array Keyed->StateT SortSt Sem (Array Keyed):=sortPriv%PySem.Builtin.mergeLo
noncomputable def DK:Array Keyed->Array Keyed->StateT SortSt Sem (Array Keyed):=sortPriv%PySem.Builtin.mergeHi
abbrev PW(blt:Nn)(l:Nq):Prop:=l.Pairwise (le blt)
structure Lo(blt:Nn)(all o ra rb:Nq):Prop where
 perm:(o++(ra++rb)).Perm all
 srt:PW blt o
 low:∀x∈o,∀y∈ra++rb,le blt x y
theorem Lo.a{G:Nq}(h:Lo blt all o (G++ra) rb)(hs:PW blt (G++ra))(hc:∀x∈G,∀y∈rb,le blt x y):Lo blt all (o++G) ra rb where
 perm:=by
  refine W6 ?_ h.perm;rw[Qn,Qn]
 srt:=Qi.mpr {h.srt,(Qi.mp hs).1,λx hx y hy=>h.low x hx y<|by simp[hy]}
 low:=λx hx y hy=>by
  rcases Q6.mp hx with q|q
  .exact h.low x q y<|by rcases Q6.mp hy with z|z<;>simp[z]
  .rcases Q6.mp hy with z|z
   .exact(Qi.mp hs).2.2 x q y z
   .exact hc x q y z
theorem Lo.b{G:Nq}(h:Lo blt all o ra (G++rb))(hs:PW blt (G++rb))(hc:∀x∈G,∀y∈ra,le blt x y):Lo blt all (o++G) ra rb where
 perm:=by
  refine W6 ?_ h.perm;rw[Qn];refine W9 o ?_;rw[<-Qn,<-Qn];exact W5 rb X6
 srt:=Qi.mpr {h.srt,(Qi.mp hs).1,λx hx y hy=>h.low x hx y<|by simp[hy]}
 low:=λx hx y hy=>by
  rcases Q6.mp hx with q|q
  .exact h.low x q y<|by rcases Q6.mp hy with z|z<;>simp[z]
  .rcases Q6.mp hy with z|z
   .exact hc x q y z
   .exact(Qi.mp hs).2.2 x q y z
theorem Lo.endA(h:Lo blt all o ra [])(hs:PW blt ra):(o++ra).Perm all/\PW blt (o++ra):=
 {by simpa using h.perm,Qi.mpr {h.srt,hs,λx hx y hy=>h.low x hx y<|by simp[hy]}}
theorem Lo.endB{z:Keyed}(h:Lo blt all o [z] rb)(hs:PW blt rb)(hz:∀x∈rb,le blt x z):(o++(rb++ [z])).Perm all/\PW blt (o++(rb++ [z])):=by
 refine{W6 (W9 o X6) h.perm,Qi.mpr {h.srt,Qi.mpr {hs,Z6 _ _,λx hx y hy=>?_},λx hx y hy=>h.low x hx y ?_}}
 .rw[Qf.mp hy];exact hz x hx
 .rcases Q6.mp hy with q|q<;>simp_all
theorem tF{a:Mx}(h:i<a.size):a.toList.drop i=g a i::a.toList.drop (i+1):=by
 have e:=dj h;rw[<-QQ]at e;let{h1,h2}:=Q3.mp e;rw[Zt h1,h2]
theorem ju{a:Mx}(h:x∈a.toList.drop i):∃j,i<=j/\j<a.size/\x=g a j:=by
 let{k,hk,e}:=Xa.mp h;rw[QN]at hk;have hs:i+k<a.size:=by rw[<-Qg];lia
 refine{i+k,(),hs,?_};have e2:=dj hs;rw[<-QQ]at e2;rw[X3]at e;rw[Q4 (by rwa[Qg])]at e2;rw[<-e];exact VG e2
theorem eS{a:Mx}(h:On blt a 0 a.size)(i:Nat):PW blt (a.toList.drop i):=by
 refine Z2.mpr λj k G hk I=>?_;rw[QN,Qg]at G hk;have z:=dj (xs:=a) (i:=i+j) ();have e2:=dj (xs:=a) (i:=i+k) ();rw[<-QQ,Q4 (by rw[Qg];lia)]at z e2;rw[X3,X3,VG z,VG e2];exact h _ _ (Qh _) () ()
theorem Dr{a:Mx}(h:PW blt a.toList):On blt a 0 a.size:=λi j _ z I=>by
 have G:=dj (xs:=a) (i:=i) ();have e2:=dj (xs:=a) (i:=j) I;rw[<-QQ,Q4 (by rw[Qg];lia)]at G e2;rw[<-VG G,<-VG e2];exact Z2.mp h i j _ _ z
theorem oz(a:Mx)(i k:Nat):(a.extract i<|i+k).toList=(a.toList.drop i).take k:=by
 rw[Zf,Z3];congr 1;lia
theorem fH(a:Mx)(i:Nat):(a.extract i).toList=a.toList.drop i:=by
 rw[Zf,Z3,QB];rw[QN,Qg];exact Q5 _
theorem DL{a:Mx}{k:Nat}(h:x∈(a.toList.drop i).take k):∃j,j<k/\x=g a (i+j):=by
 let{j,z,e}:=Xa.mp h;rw[Qe,QN,Qg]at z;refine{j,(),?_};have e2:=dj (xs:=a) (i:=i+j) ();rw[<-QQ,Q4 (by rw[Qg];lia)]at e2;rw[ZH,X3]at e;rw[<-e];exact VG e2
theorem yA(l:Nq)(i k:Nat):l.drop i=(l.drop i).take k++l.drop (i+k):=by
 rw[<-Vu,QR]
theorem AL{P H:α->Prop}(body:(∀x,H x->P x)->Wh)(last:∀x,H x->P x):Wh:=body last
theorem oi{P H:α->β->Prop}(body:(∀x y,H x y->P x y)->Wh)(last:∀x y,H x y->P x y):Wh:=body last
structure KO(st st':SortSt):Prop where
 kind:kindOf st'=kindOf st
 arr:arrOf st'=arrOf st
 pend:pendingOf st'=pendingOf st
 fail:failedOf st'=failedOf st
theorem KO.refl(st:SortSt):KO st st:=⟨M,M,M,M⟩
section
theorem bq{arr:Mx}(h:i<arr.size)(q:R (g arr i) st):wpS (model prog w) A E s (elem' arr i) R st:=by
 rw[elem'_eq,dj h];exact VH q
noncomputable def zp:Nat->StateT SortSt Sem Unit:=sortPriv%PySem.Builtin.setMinGallop
theorem CC{m:Nat}(h:∀st',KO st st'->Q Unit.unit st'):wpS (model prog w) A E s (zp m) Q st:=W7 (h _ ⟨M,M,M,M⟩)
theorem nmK{m:StateT SortSt Sem α}{k:α->StateT SortSt Sem β}{Q:β->SortSt->Prop}(h:let k':=k;wpS (model prog w) A E s (m>>=k') Q st):wpS (model prog w) A E s (m>>=k) Q st:=h
theorem nmF{γ:Type}{c:β}{f:Nat->β->StateT SortSt Sem (ForInStep β)}{k:β->StateT SortSt Sem γ}{Q:γ->SortSt->Prop}(h:let z:=f;let k':=k;wpS (model prog w) A E s (forIn r c z>>=k') Q st):wpS (model prog w) A E s (forIn r c f>>=k) Q st:=h
inductive MQ{δ:Type}(Q:Array Keyed->Prop)(I:Option (Array Keyed)×δ->Prop):Option (Array Keyed)×δ->Prop
 |ret{res x}(q:Q res):MQ Q I (some res,x)
 |go{c}(h:I c):MQ Q I c
inductive Mr(blt:Nn)(a b:Mx){τ:Type}(n:Nat):Option (Array Keyed)×Array Keyed×Nat×Nat×τ->Prop
 |mk{out ia ib x}(ha:ia+1<a.size)(hb:ib<b.size)(hn:n<=ia+ib)(lo:Lo blt (a.toList++b.toList) out.toList (a.toList.drop ia) (b.toList.drop ib)):Mr blt a b n (none,out,ia,ib,x)
theorem KO.trans{st' st2:SortSt}(h:KO st st')(k:KO st' st2):KO st st2:={k.kind.trans h.kind,k.arr.trans h.arr,k.pend.trans h.pend,k.fail.trans h.fail}
theorem DI{a:Mx}(C:Lp blt)(G:On blt a 0 a.size)(ka:Nat)(x:Keyed)(i j:Nat)(h1:i<=j)(h2:ka+j<a.size)(z:(!blt x (g a<|ka+j))=true):(!blt x (g a<|ka+i))=true:=by
 have z:blt x (g a<|ka+j)=false:=by simpa using z
 by_cases e:i=j
 .subst e;simpa using z
 .have:=C.trans (G (ka+i) (ka+j) (Qh _) () h2) z;simpa using this
theorem DH{b:Mx}(C:Lp blt)(ob:On blt b 0 b.size)(G:Nat)(x:Keyed)(i j:Nat)(h1:i<=j)(h2:G+j<b.size)(I:blt (g b<|G+j) x=true):blt (g b<|G+i) x=true:=by
 by_cases e:i=j
 .subst e;exact I
 .have q:=ob (G+i) (G+j) (Qh _) () h2;cases z:blt (g b<|G+i) x with
  |true=>rfl
  |false=>
   have f:blt (g b<|G+j) x=false:=C.trans z q;rw[I]at f;cases f
variable(L:uX prog w A E s a₀ κ blt)
include L
theorem y6{a b:Mx}{Q:Array Keyed->SortSt->Prop}(C:Lp blt)(hK:kindOf st=κ)(hm:∀x,x∈a.toList++b.toList->x∈a₀)(oa:On blt a 0 a.size)(ob:On blt b 0 b.size)(ha:0<a.size)(hb:0<b.size)
  (a5:blt (g b 0) (g a 0)=true) (an:∀j,j<b.size->blt (g b j) (g a<|a.size-1)=true)
  (h:∀res st',KO st st'->res.toList.Perm (a.toList++b.toList)->PW blt res.toList->Q res st'):wpS (model prog w) A E s (DJ a b) Q st:=by
 have ma:∀i,i<a.size->g a i∈a₀:=λi hi=>hm _ (by have:=vE hi;simp[this]);have mb:∀i,i<b.size->g b i∈a₀:=λi hi=>hm _ (by have:=vE hi;simp[this]);have ap:∀(o:Nq)(G:Nat)(st':SortSt)(res:Mx),KO st st'->Lo blt (a.toList++b.toList) o (a.toList.drop G) []->res.toList=o++a.toList.drop G->Q res st':=λo G st' res lk lo e=>by
  let{p1,p2}:=lo.endA (eS oa G);exact h res st' lk (by rwa[e])<|by rwa[e]
 have ay:∀(o:Nq)(O:Nat)(st':SortSt)(res:Mx),KO st st'->Lo blt (a.toList++b.toList) o (a.toList.drop<|a.size-1) (b.toList.drop O)->res.toList=o++(b.toList.drop O++a.toList.drop (a.size-1))->Q res st':=λo O st' res lk lo e=>by
  have ez:a.toList.drop (a.size-1)=[g a (a.size-1)]:=by
   rw[tF (),Zl (by rw[Qg];lia)]
  rw[ez]at lo e;let{p1,p2}:=lo.endB (eS ob O) (λx hx=>by
   let{j,_,hj,rfl}:=ju hx;exact C.of_lt<|an j hj)
  exact h res st' lk (by rwa[e])<|by rwa[e]
 have a7:∀(out:Mx)(G O k:Nat),Lo blt (a.toList++b.toList) out.toList (a.toList.drop G) (b.toList.drop O)->(∀i,i<k->blt (g b O) (g a<|G+i)=false)->
   Lo blt (a.toList++b.toList) (out++a.extract G (G+k)).toList (a.toList.drop<|G+k) (b.toList.drop O):=λout G O k lo hk=>by
  rw[QM,oz];have pa:=eS oa G;rw[yA a.toList G k]at lo pa;refine lo.a pa λx hx y hy=>?_;let{i,hi,rfl}:=DL hx;let{j,ba,bb,rfl}:=ju hy;rcases Nat.eq_or_lt_of_le ba with ej|ej
  .rw[<-ej];exact hk i hi
  .exact C.trans (hk i hi)<|ob O j (Qh _) ej bb
 have a8:∀(out:Mx)(G O k:Nat),Lo blt (a.toList++b.toList) out.toList (a.toList.drop G) (b.toList.drop O)->(∀i,i<k->blt (g b<|O+i) (g a G)=true)->
   Lo blt (a.toList++b.toList) (out++b.extract O (O+k)).toList (a.toList.drop G) (b.toList.drop<|O+k):=λout G O k lo hk=>by
  rw[QM,oz];have pb:=eS ob O;rw[yA b.toList O k]at lo pb;refine lo.b pb λx hx y hy=>?_;let{i,hi,rfl}:=DL hx;let{j,ba,bb,rfl}:=ju hy;have l1:=C.of_lt (hk i hi);rcases Nat.eq_or_lt_of_le ba with ej|ej
  .rwa[<-ej]
  .exact C.trans l1<|oa G j (Qh _) ej bb
 have one:∀(x:Mx)(i:Nat),i<x.size->(x.extract i<|i+1)= #[g x i]:=λx i hi=>by
  apply Array.ext';rw[oz,tF hi];rfl
 have b2:∀(out:Mx)(G O:Nat),G<a.size->O<b.size->Lo blt (a.toList++b.toList) out.toList (a.toList.drop G) (b.toList.drop O)->blt (g b O) (g a G)=true->
   Lo blt (a.toList++b.toList) (out.push<|g b O).toList (a.toList.drop G) (b.toList.drop<|O+1):=λout G O h1 h2 lo hk=>by
  have:=a8 out G O 1 lo λi hi=>by rwa[Nat.lt_one_iff.mp hi]
  rwa [one b O h2,<-Xb]at this
 have b3:∀(out:Mx)(G O:Nat),G<a.size->O<b.size->Lo blt (a.toList++b.toList) out.toList (a.toList.drop G) (b.toList.drop O)->blt (g b O) (g a G)=false->
   Lo blt (a.toList++b.toList) (out.push<|g a G).toList (a.toList.drop<|G+1) (b.toList.drop O):=λout G O h1 h2 lo hk=>by
  have:=a7 out G O 1 lo λi hi=>by rwa[Nat.lt_one_iff.mp hi]
  rwa [one a G h1,<-Xb]at this
 have endA:∀(out:Mx)(G O:Nat)(st':SortSt),KO st st'->b.size<=O->Lo blt (a.toList++b.toList) out.toList (a.toList.drop G) (b.toList.drop O)->Q (out++a.extract G++b.extract O) st':=λout G O st' lk hb lo=>by
  have en:b.toList.drop O=[]:=Zl (by rwa[Qg]);rw[en]at lo;refine ap _ G st' _ lk lo ?_;rw[QM,QM,fH,fH,en,ZE]
 have endB:∀(out:Mx)(G O:Nat)(st':SortSt),KO st st'->G+1=a.size->Lo blt (a.toList++b.toList) out.toList (a.toList.drop G) (b.toList.drop O)->Q (out++b.extract O++a.extract G) st':=λout G O st' lk ha lo=>by
  have en:G=a.size-1:=by rw[<-ha,Nat.add_sub_cancel]
  refine ay out.toList O st' _ lk (by rwa[<-en]) ?_;rw[QM,QM,fH,fH,<-en,Qn]
 refine VD ?_;dsimp only;refine wpS_lift<|Wf {M,?_};refine nmK ?_;intro k0;refine VD<|bq hb ?_;have start:Lo blt (a.toList++b.toList) [g b 0] (a.toList.drop 0) (b.toList.drop 1):=by
  have l0:Lo blt (a.toList++b.toList) [] (a.toList.drop 0) ([g b 0]++b.toList.drop 1):=by
   refine{?_,VY,λx hx=>VE hx QU};have e:=tF hb;rw[Zp]at e;rw[Zp,List.nil_append,List.singleton_append,<-e]
  have:=l0.b (by have:=eS ob 0;rw[tF hb]at this;exact this) (λx hx y hy=>by
   rw[Qf.mp hx];let{j,_,hj,rfl}:=ju hy;by_cases j0:j=0
   .rw[j0];exact C.of_lt a5
   .exact C.trans (C.of_lt a5)<|oa 0 j (Q5 _) (Xi j0) hj)
  simpa using this
 dsimp only[k0];by_cases b1:1=b.size
 .have eb:(1==b.size)=true:=VP.mpr b1;rw[VA eb];refine VH ?_;have en:b.toList.drop 1=[]:=Zl (by rw[Qg];exact QO b1.symm);rw[en]at start;refine ap _ 0 st _ (KO.refl _) start ?_;simp[b1]
 .have eb:¬(1==b.size)=true:=by simpa using b1
  rw[Vz eb];by_cases a1:0+1=a.size
  .have ea:(0+1==a.size)=true:=VP.mpr a1;rw[VA ea];refine VH ?_;have e0:a.size-1=0:=by rw[<-a1]
   refine ay [g b 0] 1 st _ (KO.refl _) (by rw[e0];exact start) ?_;rw[e0,QM,QM,fH,fH,Qn]
  .have ea:¬(0+1==a.size)=true:=by simpa using a1
   rw[Vz ea];refine nmK ?_;intro k1;refine VD<|We ?_;dsimp only[k1];refine nmF ?_;intro f1 k2;refine VD (Wc (VX (I:=λi c st'=>KO st st'/\Mr blt a b i c) (Q:=λc st'=>MQ (Q · st') (λ_=>False) c) ?_ ?_ {KO.refl _,QY ha a1,QY hb b1,Qh _,start}) ?_)
   .rintro i c st'- -⟨lk,@⟨out,G,O,mg,c3,hb1,hi,lo⟩⟩;have c4:kindOf st'=κ:=lk.kind.trans hK;dsimp only[f1];refine nmF ?_;intro f2 k3;refine VD (Wc (VX (I:=λ_ c st2=>st2=st'/\Mr blt a b i c) (Q:=λc st2=>st2=st'/\MQ (Q · st') (Mr blt a b i) c) ?_ (λc st2 h=>{h.1,.go h.2}) ⟨M,c3,hb1,hi,lo⟩) ?_)
    .rintro j c st2- -⟨rfl,@⟨out,ja,jb,x,ac,Z,U,lo⟩⟩;dsimp only[f2];have b4:=V5 ac;refine VD<|bq Z (VD<|bq b4<|VD<|L _ _ _ _ (mb jb Z) (ma ja b4) c4 ?_);dsimp only;cases e:blt (g b jb) (g a ja)with
     |true=>
      rw[VA M];have a2:=b2 out ja jb b4 Z lo e;refine VD<|bq Z ?_;by_cases z:jb+1=b.size
      .rw[VA (VP.mpr z)];exact VH {M,.ret<|endA _ ja (jb+1) _ lk (QO z.symm) a2}
      .rw[Vz (by simpa using z)];have hz:jb+1<b.size:=QY Z z;have U:=Nat.le_succ_of_le U;split
       .exact VH {M,.go ⟨ac,hz,U,a2⟩}
       .exact VH ⟨M,ac,hz,U,a2⟩
     |false=>
      rw[Vz (_)];have a2:=b3 out ja jb b4 Z lo e;refine VD<|bq b4 ?_;by_cases z:ja+1+1=a.size
      .rw[VA (VP.mpr z)];exact VH {M,.ret<|endB _ (ja+1) jb _ lk z a2}
      .rw[Vz (by simpa using z)];have hz:ja+1+1<a.size:=QY ac z;have U:i<=ja+1+jb:=by rw[Nat.add_right_comm];exact Nat.le_succ_of_le U
       split
       .exact VH {M,.go ⟨hz,Z,U,a2⟩}
       .exact VH ⟨M,hz,Z,U,a2⟩
    .rintro c st2 ⟨rfl,⟨q⟩| @⟨_,@⟨out,ja,jb,x,ac,Z,U,lo⟩⟩⟩
     .exact VH<|.ret q
     .dsimp only[k3];refine nmK ?_;intro k5;refine VD<|wpS_lift (Wf {M,?_});dsimp only[k5];refine nmF ?_;intro f3 k6;refine VD (Wc (VX (I:=λj c a3=>KO st a3/\Mr blt a b (i+j) c) (Q:=λc a3=>KO st a3/\MQ (Q · a3) (Mr blt a b<|i+1) c) ?_ ?_ ⟨lk,ac,Z,U,lo⟩) ?_)
      .rintro j c a3- -⟨a4,@⟨out,ka,Y,⟨m',x⟩,b6,a0,U,lo⟩⟩;dsimp only[f3];apply AL (α:=Nat) (H:=λ_=>True)
       .intro key;by_cases m1:m'>1
        .rw[VA m1];generalize m'-1=mm;exact key mm trivial
        .rw[Vz m1];exact key m' trivial
       intro mm _;refine nmK ?_;intro k7;refine VD<|CC λc7 lk4=>?_;replace lk4:=a4.trans lk4;have bt:kindOf c7=κ:=lk4.kind.trans hK;dsimp only[k7];refine nmK ?_;intro k8;refine VD<|bq a0 ?_;refine nmK ?_;intro k9;have c9:=V5 b6;refine VD<|fG L bt (mb Y a0) (λi hi=>{Za hi,ma _<|Za hi}) (V6 c9) (λi=>!blt (g b Y) (g a<|ka+i)) (λi hi=>M) (λi j h1 h2 h3=>DI C oa ka _ i j h1 (Za h2) h3) λk ca bc bx=>?_;have bz:k<a.size-ka:=by
        rcases Xz k (a.size-ka)with z|z
        .exact z
        .have f:=bc (a.size-1-ka) ();rw[show ka+(a.size-1-ka)=a.size-1 by lia,an Y a0]at f;cases f
       have c0:∀i,i<k->blt (g b Y) (g a<|ka+i)=false:=λi hi=>by have:=bc i hi;simpa using this
       have bw:blt (g b Y) (g a<|ka+k)=true:=by have:=bx k (Q5 _) bz;simpa using this
       clear ca bc bx;dsimp only[k9];apply oi (H:=λ(kc:Nat)(o':Array Keyed)=>ka<=kc/\kc+1<a.size/\Lo blt (a.toList++b.toList) o'.toList (a.toList.drop kc) (b.toList.drop Y)/\blt (g b Y) (g a kc)=true)
       .intro key;by_cases k0:k>0
        .rw[VA k0];have lo1:=a7 out ka Y k lo c0;by_cases z:ka+k+1=a.size
         .rw[VA (VP.mpr z)];exact VH {lk4,.ret<|endB _ (ka+k) Y _ lk4 z lo1}
         have kk:=Za bz;have zz:¬ka+k=a.size:=Qz kk;rw[Vz (by simpa using z),Vz (by simpa using zz)];have k5:ka<=ka+k/\ka+k+1<a.size:={Nat.le_add_right _ _,QY kk z};have bv:=bw;generalize out++a.extract ka (ka+k)=o' at lo1⊢;generalize ka+k=kc at lo1 bv k5⊢;exact key kc o' ⟨k5.1,k5.2,lo1,bv⟩
        .rw[Vz k0];have bv:=bw;rw[Nat.eq_zero_of_not_pos k0,X2]at bv;exact key ka out {Q5 _,b6,lo,bv}
       intro kc o' hc;let{c1,c2,lo1,bw}:=hc;refine nmK ?_;intro cb;refine VD<|bq a0 ?_;have b5:=V5 c2;have be:=b2 _ kc Y b5 a0 lo1 bw;dsimp only[cb];by_cases z2:Y+1=b.size
       .rw[VA (VP.mpr z2)];exact VH {lk4,.ret<|endA _ kc (Y+1) _ lk4 (QO z2.symm) be}
       rw[Vz (by simpa using z2)];refine nmK ?_;intro cg;refine VD<|bq b5 ?_;refine nmK ?_;intro ce;have bl:Y+1<b.size:=QY a0 z2;refine VD<|fG L bt (ma _ b5) (λi hi=>{Za hi,mb _<|Za hi}) (V6 bl) (λi=>blt (g b<|Y+1+i)<|g a kc) (λi hi=>M) (λi j h1 h2 h3=>DH C ob (Y+1) _ i j h1 (Za h2) h3) λk2 h1 h2 h3=>?_;dsimp only[ce];apply oi (H:=λ(kd:Nat)(o2:Array Keyed)=>Y+1<=kd/\kd<b.size/\Lo blt (a.toList++b.toList) o2.toList (a.toList.drop kc) (b.toList.drop kd)/\blt (g b kd) (g a kc)=false)
       .intro key;by_cases q0:k2>0
        .rw[VA q0];have al:=a8 _ kc (Y+1) k2 be h2;by_cases z3:Y+1+k2=b.size
         .rw[VA (VP.mpr z3)];exact VH {lk4,.ret<|endA _ kc (Y+1+k2) _ lk4 (QO z3.symm) al}
         rw[Vz (by simpa using z3)];have w3:=h3 k2 (Q5 _) ();have k5:Y+1<=Y+1+k2/\Y+1+k2<b.size:=();generalize o'.push (g b Y)++b.extract (Y+1) (Y+1+k2)=o2 at al⊢;generalize Y+1+k2=kd at al w3 k5⊢;exact key kd o2 ⟨k5.1,k5.2,al,w3⟩
        .rw[Vz q0];have w3:blt (g b<|Y+1) (g a kc)=false:=h3 0 (Vb q0) (V6 bl);exact key (Y+1) _ {Q5 _,bl,be,w3}
       intro kd o2 hd;let{d1,d2,al,w3}:=hd;refine VD<|bq b5 ?_;have bo:=b3 _ kc kd b5 d2 al w3;have U:i+(j+1)<=kc+1+kd:=();by_cases z4:kc+1+1=a.size
       .rw[VA (VP.mpr z4)];exact VH {lk4,.ret<|endB _ (kc+1) kd _ lk4 z4 bo}
       rw[Vz (by simpa using z4)];have hz:kc+1+1<a.size:=QY c2 z4;split
       .exact VH {lk4,.go {hz,d2,Qr (ZR (Nat.le_add_left 1 j) i) U,bo}}
       .exact VH ⟨lk4,hz,d2,U,bo⟩
      .rintro c a3 ⟨a4,@⟨_,ka,Y,_,_,_,U,_⟩⟩;have em:max 0 (a.size+b.size)=a.size+b.size:=QT (Qh _);rw[em]at U;lia
      .rintro c a3 ⟨a4,⟨q⟩| @⟨_,⟨b6,a0,U,lo⟩⟩⟩
       .exact VH<|.ret q
       .dsimp only[k6];exact VD<|W7 (VH {⟨a4.kind,a4.arr,a4.pend,a4.fail⟩,b6,a0,U,lo})
   .rintro c st' ⟨lk,@⟨_,G,O,_,_,_,hi,_⟩⟩;have em:max 0 (a.size+b.size)=a.size+b.size:=QT (Qh _);rw[em]at hi;lia
   .rintro c st' (⟨q⟩|⟨⟨⟩⟩);exact VH q
end
structure Hi(blt:Nn)(all o ra rb:Nq):Prop where
 perm:((ra++rb)++o).Perm all
 srt:PW blt o
 high:∀x∈ra++rb,∀y∈o,le blt x y
theorem Hi.a{G:Nq}(h:Hi blt all o (ra++G) rb)(hs:PW blt (ra++G))(hc:∀x∈rb,∀y∈G,le blt x y):Hi blt all (G++o) ra rb where
 perm:=by
  refine W6 ?_ h.perm;rw[<-Qn];refine W5 o ?_;rw[Qn,Qn];exact W9 ra X6
 srt:=Qi.mpr {(Qi.mp hs).2.1,h.srt,λx hx y hy=>h.high x (by simp[hx]) y hy}
 high:=λx hx y hy=>by
  rcases Q6.mp hy with q|q
  .rcases Q6.mp hx with z|z
   .exact(Qi.mp hs).2.2 x z y q
   .exact hc x z y q
  .exact h.high x (by rcases Q6.mp hx with z|z<;>simp[z]) y q
theorem Hi.b{G:Nq}(h:Hi blt all o ra (rb++G))(hs:PW blt (rb++G))(hc:∀x∈ra,∀y∈G,le blt x y):Hi blt all (G++o) ra rb where
 perm:=by
  refine W6 ?_ h.perm;rw[<-Qn];refine W5 o ?_;rw[Qn]
 srt:=Qi.mpr {(Qi.mp hs).2.1,h.srt,λx hx y hy=>h.high x (by simp[hx]) y hy}
 high:=λx hx y hy=>by
  rcases Q6.mp hy with q|q
  .rcases Q6.mp hx with z|z
   .exact hc x z y q
   .exact(Qi.mp hs).2.2 x z y q
  .exact h.high x (by rcases Q6.mp hx with z|z<;>simp[z]) y q
theorem CN{a:Mx}(h:i<a.size):a.toList.take (i+1)=a.toList.take i++ [g a i]:=by
 have e:=dj h;rw[<-QQ]at e;rw[Qo,e];rfl
theorem gf{a:Mx}(h:x∈a.toList.take n):∃j,j<n/\j<a.size/\x=g a j:=by
 let{k,hk,e}:=Xa.mp h;rw[Qe,Qg]at hk;refine{k,(),(),?_};have e2:=dj (xs:=a) (i:=k) ();rw[<-QQ,Q4 (by rw[Qg];lia)]at e2;rw[ZH]at e;rw[<-e];exact VG e2
theorem dz{a:Mx}(h:x∈(a.extract i n).toList):∃j,i<=j/\j<n/\j<a.size/\x=g a j:=by
 rw[Zf,Z3]at h;let{k,hk,e}:=Xa.mp h;rw[Qe,QN,Qg]at hk;refine{i+k,(),(),(),?_};have e2:=dj (xs:=a) (i:=i+k) ();rw[<-QQ,Q4 (by rw[Qg];lia)]at e2;rw[ZH,X3]at e;rw[<-e];exact VG e2
theorem ly{a:Mx}(h:On blt a 0 a.size)(n:Nat):PW blt (a.toList.take n):=by
 have:=eS h 0;rw[Zp]at this;exact List.Pairwise.sublist (X0 _ _) this
theorem xE{a:Mx}(h:i<=n):a.toList.take n=a.toList.take i++(a.extract i n).toList:=by
 rw[Zf,Z3];obtain⟨k,rfl⟩:∃k,n=i+k:={n-i,()};rw[List.take_add,show i+k-i=k by lia]
theorem Gx(a:Mx)(n:Nat):(a.extract 0 n).toList=a.toList.take n:=by
 rw[Zf,Z3,Zp,Nat.sub_zero]
section
inductive Mo(blt:Nn)(a b:Mx){τ:Type}(n:Nat):Option (Array Keyed)×Nat×Nat×Array Keyed×τ->Prop
 |mk{na nb out x}(h1:1<=na)(h2:na<=a.size)(h3:2<=nb)(h4:nb<=b.size)(hn:na+nb+n<=a.size+b.size)(lo:Hi blt (a.toList++b.toList) out.reverse.toList (a.toList.take na) (b.toList.take nb)):Mo blt a b n (none,na,nb,out,x)
variable(L:uX prog w A E s a₀ κ blt)
include L
theorem y7{a b:Mx}{Q:Array Keyed->SortSt->Prop}(C:Lp blt)(hK:kindOf st=κ)(hm:∀x,x∈a.toList++b.toList->x∈a₀)(oa:On blt a 0 a.size)(ob:On blt b 0 b.size)(ha:0<a.size)(hb:0<b.size)
  (a8:blt (g b 0) (g a 0)=true) (bw:∀j,j<b.size->blt (g b j) (g a<|a.size-1)=true)
  (h:∀res st',KO st st'->res.toList.Perm (a.toList++b.toList)->PW blt res.toList->Q res st'):wpS (model prog w) A E s (DK a b) Q st:=by
 have ma:∀i,i<a.size->g a i∈a₀:=λi hi=>hm _ (by have:=vE hi;simp[this]);have mb:∀i,i<b.size->g b i∈a₀:=λi hi=>hm _ (by have:=vE hi;simp[this]);have ac:∀i,i<a.size->blt (g b 0) (g a i)=true:=λi hi=>by
  by_cases i0:i=0
  .rwa[i0]
  .cases z:blt (g b 0) (g a i)with
   |true=>rfl
   |false=>
    have f:blt (g b 0) (g a 0)=false:=C.trans (oa 0 i (Q5 _) () hi) z;rw[a8]at f;cases f
 have al:∀(out:Mx)(G O k:Nat),k<=G->G<=a.size->1<=O->O<=b.size->Hi blt (a.toList++b.toList) out.reverse.toList (a.toList.take G) (b.toList.take O)->(∀i,k<=i->i<G->blt (g b<|O-1) (g a i)=true)->
   Hi blt (a.toList++b.toList) (out++(a.extract k G).reverse).reverse.toList (a.toList.take k) (b.toList.take O):=λout G O k h1 h2 h3 h4 lo hk=>by
  have er:(out++(a.extract k G).reverse).reverse.toList=(a.extract k G).toList++out.reverse.toList:=by simp
  have pa:=ly oa G;rw[xE h1]at lo pa;rw[er];refine lo.a pa λx hx y hy=>?_;let{i,ba,bb,cq,rfl}:=dz hy;let{j,bc,bx,rfl}:=gf hx;have l1:=C.of_lt (hk i ba bb);by_cases ej:j=O-1
  .rwa[ej]
  .exact C.trans (ob j (O-1) (Qh _) (QY (Xm bc) ej)<|QK h3 h4) l1
 have an:∀(out:Mx)(G O k:Nat),k<=O->O<=b.size->1<=G->G<=a.size->Hi blt (a.toList++b.toList) out.reverse.toList (a.toList.take G) (b.toList.take O)->(∀i,k<=i->i<O->blt (g b i) (g a<|G-1)=false)->
   Hi blt (a.toList++b.toList) (out++(b.extract k O).reverse).reverse.toList (a.toList.take G) (b.toList.take k):=λout G O k h1 h2 h3 h4 lo hk=>by
  have er:(out++(b.extract k O).reverse).reverse.toList=(b.extract k O).toList++out.reverse.toList:=by simp
  have pb:=ly ob O;rw[xE h1]at lo pb;rw[er];refine lo.b pb λx hx y hy=>?_;let{i,ba,bb,cq,rfl}:=dz hy;let{j,bc,bx,rfl}:=gf hx;have l1:le blt (g a<|G-1) (g b i):=hk i ba bb;by_cases ej:j=G-1
  .rwa[ej]
  .exact C.trans (oa j (G-1) (Qh _) (QY (Xm bc) ej)<|QK h3 h4) l1
 have one:∀(x:Mx)(i:Nat),i<x.size->(x.extract i<|i+1).reverse= #[g x i]:=λx i hi=>by
  have:x.extract i (i+1)= #[g x i]:=by
   apply Array.ext';rw[oz,tF hi];rfl
  rw[this];rfl
 have b3:∀(out:Mx)(G O:Nat),1<=G->G<=a.size->1<=O->O<=b.size->Hi blt (a.toList++b.toList) out.reverse.toList (a.toList.take G) (b.toList.take O)->blt (g b<|O-1) (g a<|G-1)=true->
   Hi blt (a.toList++b.toList) (out.push<|g a<|G-1).reverse.toList (a.toList.take<|G-1) (b.toList.take O):=λout G O h1 h2 h3 h4 lo hk=>by
  have:=al out G O (G-1) (Vv _ _) h2 h3 h4 lo λi hi hj=>by rwa[Nat.le_antisymm (Xm hj) hi]
  rwa [show a.extract (G-1) G=a.extract (G-1) (G-1+1) by rw[Nat.sub_add_cancel h1],one a (G-1) (QK h1 h2),<-Xb]at this
 have b4:∀(out:Mx)(G O:Nat),1<=G->G<=a.size->1<=O->O<=b.size->Hi blt (a.toList++b.toList) out.reverse.toList (a.toList.take G) (b.toList.take O)->blt (g b<|O-1) (g a<|G-1)=false->
   Hi blt (a.toList++b.toList) (out.push<|g b<|O-1).reverse.toList (a.toList.take G) (b.toList.take<|O-1):=λout G O h1 h2 h3 h4 lo hk=>by
  have:=an out G O (O-1) (Vv _ _) h4 h1 h2 lo λi hi hj=>by rwa[Nat.le_antisymm (Xm hj) hi]
  rwa [show b.extract (O-1) O=b.extract (O-1) (O-1+1) by rw[Nat.sub_add_cancel h3],one b (O-1) (QK h3 h4),<-Xb]at this
 have endA:∀(out:Mx)(G O:Nat)(st':SortSt),KO st st'->G=0->O<=b.size->Hi blt (a.toList++b.toList) out.reverse.toList (a.toList.take G) (b.toList.take O)->Q (a.extract 0 G++b.extract 0 O++out.reverse) st':=λout G O st' lk hn cb lo=>by
  subst hn;have e:(a.extract 0 0++b.extract 0 O++out.reverse).toList=b.toList.take O++out.reverse.toList:=by
   rw[QM,QM,Gx,Gx];rfl
  refine h _ st' lk ?_ ?_
  .rw[e];exact lo.perm
  .rw[e];exact Qi.mpr {ly ob O,lo.srt,λx hx y hy=>lo.high x (by simp[hx]) y hy}
 have endB:∀(out:Mx)(G O:Nat)(st':SortSt),KO st st'->O=1->G<=a.size->Hi blt (a.toList++b.toList) out.reverse.toList (a.toList.take G) (b.toList.take O)->Q (b.extract 0 O++a.extract 0 G++out.reverse) st':=λout G O st' lk hn ce lo=>by
  subst hn;have e:(b.extract 0 1++a.extract 0 G++out.reverse).toList=(b.toList.take 1++a.toList.take G)++out.reverse.toList:=by
   rw[QM,QM,Gx,Gx]
  refine h _ st' lk ?_ ?_
  .rw[e];exact W6 (W5 _ X6) lo.perm
  .rw[e];refine Qi.mpr {Qi.mpr {ly ob 1,ly oa G,λx hx y hy=>?_},lo.srt,λx hx y hy=>lo.high x ?_ y hy}
   .let{i,ba,bb,rfl}:=gf hx;let{j,bc,bx,rfl}:=gf hy;rw[show i=0 by lia];exact C.of_lt<|ac j bx
   .rcases Q6.mp hx with z|z
    .exact Q6.mpr<|.inr z
    .exact Q6.mpr<|.inl z
 refine VD ?_;dsimp only;refine wpS_lift<|Wf {M,?_};refine nmK ?_;intro k0;refine VD<|bq () ?_;have start:Hi blt (a.toList++b.toList) (#[g a (a.size-1)]:Mx).reverse.toList (a.toList.take<|a.size-1) (b.toList.take b.size):=by
  have l0:Hi blt (a.toList++b.toList) [] (a.toList.take (a.size-1)++ [g a (a.size-1)]) (b.toList.take b.size):=by
   refine{?_,VY,λx _ y hy=>VE hy QU};rw[<-CN (),show a.size-1+1=a.size by lia,ZE];have e1:a.toList.take a.size=a.toList:=QB (by rw[Qg];exact Q5 _);have e2:b.toList.take b.size=b.toList:=QB (by rw[Qg];exact Q5 _);rw[e1,e2]
  have:=l0.a (by rw[<-CN ()];exact ly oa _) (λx hx y hy=>by
   rw[Qf.mp hy];let{j,_,hj,rfl}:=gf hx;exact C.of_lt<|bw j hj)
  exact this
 dsimp only[k0];by_cases a1:a.size-1=0
 .rw[VA (VP.mpr a1)];exact VH<|endA _ (a.size-1) b.size st (KO.refl _) a1 (Q5 _) start
 .rw[Vz (by simpa using a1)];by_cases b1:b.size=1
  .rw[VA (VP.mpr b1)];exact VH<|endB _ (a.size-1) b.size st (KO.refl _) b1 () start
  .rw[Vz (by simpa using b1)];refine nmK ?_;intro k1;refine VD<|We ?_;dsimp only[k1];refine nmF ?_;intro f1 k2;refine VD (Wc (VX (I:=λi c st'=>KO st st'/\Mo blt a b i c) (Q:=λc st'=>MQ (Q · st') (λ_=>False) c) ?_ ?_ {KO.refl _,(),(),(),Q5 _,(),start}) ?_)
   .rintro i c st'- -⟨lk,@⟨G,O,out,mg,ct,ce,hb1,cb,hi,lo⟩⟩;have d4:kindOf st'=κ:=lk.kind.trans hK;dsimp only[f1];refine nmF ?_;intro f2 k3;refine VD (Wc (VX (I:=λ_ c st2=>st2=st'/\Mo blt a b i c) (Q:=λc st2=>st2=st'/\MQ (Q · st') (Mo blt a b i) c) ?_ (λc st2 h=>{h.1,.go h.2}) ⟨M,ct,ce,hb1,cb,hi,lo⟩) ?_)
    .rintro j c st2- -⟨rfl,@⟨ja,jb,out,x,a3,U,b5,Y,Z,lo⟩⟩;dsimp only[f2];have bz:=X4 b5;have be:=QK bz Y;have bl:=QK a3 U;refine VD<|bq be (VD<|bq bl<|VD<|L _ _ _ _ (mb (jb-1) be) (ma (ja-1) bl) d4 ?_);dsimp only;cases e:blt (g b<|jb-1) (g a<|ja-1)with
     |true=>
      rw[VA M];have a4:=b3 out ja jb a3 U bz Y lo e;refine VD<|bq bl ?_;by_cases z:ja-1=0
      .rw[VA (VP.mpr z)];exact VH {M,.ret<|endA _ (ja-1) jb _ lk z Y a4}
      .rw[Vz (by simpa using z)];have h1:=Xi z;have h2:=Z1 bl;have h3:ja-1+jb+i<=a.size+b.size:=Qr (XQ (XQ (Vv _ _) _) _) Z;split
       .exact VH {M,.go ⟨h1,h2,b5,Y,h3,a4⟩}
       .exact VH ⟨M,h1,h2,b5,Y,h3,a4⟩
     |false=>
      rw[Vz (_)];have a4:=b4 out ja jb a3 U bz Y lo e;refine VD<|bq be ?_;by_cases z:jb-1=1
      .rw[VA (VP.mpr z)];exact VH {M,.ret<|endB _ ja (jb-1) _ lk z U a4}
      .rw[Vz (by simpa using z)];have h1:2<=jb-1:=();have h2:=Z1 be;have h3:ja+(jb-1)+i<=a.size+b.size:=Qr (XQ (ZR (Vv _ _) _) _) Z;split
       .exact VH {M,.go ⟨a3,U,h1,h2,h3,a4⟩}
       .exact VH ⟨M,a3,U,h1,h2,h3,a4⟩
    .rintro c st2 ⟨rfl,⟨q⟩| @⟨_,@⟨ja,jb,out,x,a3,U,b5,Y,Z,lo⟩⟩⟩
     .exact VH<|.ret q
     .dsimp only[k3];refine nmK ?_;intro k5;refine VD<|wpS_lift (Wf {M,?_});dsimp only[k5];refine nmF ?_;intro f3 k6;refine VD (Wc (VX (I:=λj c a5=>KO st a5/\Mo blt a b (i+j) c) (Q:=λc a5=>KO st a5/\MQ (Q · a5) (Mo blt a b<|i+1) c) ?_ ?_ ⟨lk,a3,U,b5,Y,Z,lo⟩) ?_)
      .rintro j c a5- -⟨a7,@⟨ka,kb,out,⟨m',x⟩,bo,a0,c0,a2,Z,lo⟩⟩;dsimp only[f3];apply AL (α:=Nat) (H:=λ_=>True)
       .intro key;by_cases m1:m'>1
        .rw[VA m1];generalize m'-1=mm;exact key mm trivial
        .rw[Vz m1];exact key m' trivial
       intro mm _;refine nmK ?_;intro k7;refine VD<|CC λd5 lk4=>?_;replace lk4:=a7.trans lk4;have cg:kindOf d5=κ:=lk4.kind.trans hK;dsimp only[k7];refine nmK ?_;intro k8;have c4:=X4 c0;have bt:=QK c4 a2;have up:∀{i m n},i<m->m<=n->0+i<n:=λh1 h2=>by rw[ZO];exact Qm h1 h2
       refine VD<|bq bt ?_;refine nmK ?_;intro k9;refine VD<|fG L cg (mb (kb-1) bt) (λi hi=>{up hi a0,ma _<|up hi a0}) (QK bo<|Q5 _) (λi=>!blt (g b<|kb-1) (g a<|0+i)) (λi hi=>M) (λi j h1 h2 h3=>DI C oa 0 _ i j h1 (up h2 a0) h3) λk ci cj ck=>?_;have ap:∀i,i<k->blt (g b<|kb-1) (g a i)=false:=λi hi=>by have f:=cj i hi;rw[ZO]at f;simpa using f
       have cm:∀i,k<=i->i<ka->blt (g b<|kb-1) (g a i)=true:=λi hi hj=>by have f:=ck i hi hj;rw[ZO]at f;simpa using f
       clear cj ck;dsimp only[k9];apply oi (H:=λ(kc:Nat)(o':Mx)=>0<kc/\kc<=ka/\(∀i,i<kc->blt (g b<|kb-1) (g a i)=false)/\Hi blt (a.toList++b.toList) o'.reverse.toList (a.toList.take kc) (b.toList.take kb))
       .intro key;by_cases k0:ka-k>0
        .rw[VA k0];have lo1:=al out ka kb k ci a0 c4 a2 lo cm;by_cases z:k=0
         .rw[VA (VP.mpr z)];exact VH {lk4,.ret<|endA _ k kb _ lk4 z a2 lo1}
         rw[Vz (by simpa using z)];generalize out++(a.extract k ka).reverse=o' at lo1⊢;obtain⟨kc,ek⟩:∃kc,kc=k:={_,M};rw[<-ek]at lo1⊢;exact key kc o' {by rw[ek];exact Xi z,by rwa[ek],by rwa[ek],lo1}
        .rw[Vz k0];have e0:k=ka:=();rw[e0];exact key ka out {bo,Q5 _,by rwa[<-e0],lo}
       intro kc o' hc;let{c1,c2,ap,lo1}:=hc;refine nmK ?_;intro dc;refine VD<|bq bt ?_;have c3:=Qr c2 a0;have ay:=QK c1 c3;have c7:=b4 _ kc kb c1 c3 c4 a2 lo1 (ap (kc-1)<|QK c1<|Q5 _);dsimp only[dc];by_cases z2:kb-1=1
       .rw[VA (VP.mpr z2)];exact VH {lk4,.ret<|endB _ kc (kb-1) _ lk4 z2 c3 c7}
       rw[Vz (by simpa using z2)];refine nmK ?_;intro di;have c9:1<kb-1:=();have b6:=Z1 bt;refine VD<|bq ay ?_;refine nmK ?_;intro df;refine VD<|fG L cg (ma _ ay) (λi hi=>{up hi b6,mb _<|up hi b6}) (QK (X4 c9)<|Q5 _) (λi=>blt (g b<|0+i)<|g a<|kc-1) (λi hi=>M) (λi j h1 h2 h3=>DH C ob 0 _ i j h1 (up h2 b6) h3) λk2 h1 h2 h3=>?_;have co:0<k2:=by
        rcases QZ k2 with z|z
        .have f:blt (g b<|0+0) (g a<|kc-1)=false:=h3 0 (QO z) (X4 c9);rw[X2,ac (kc-1) ay]at f;cases f
        .exact z
       have bv:∀i,i<k2->blt (g b i) (g a<|kc-1)=true:=λi hi=>by have f:=h2 i hi;rwa [ZO]at f
       have dh:∀i,k2<=i->i<kb-1->blt (g b i) (g a<|kc-1)=false:=λi hi hj=>by have f:=h3 i hi hj;rwa [ZO]at f
       clear h2 h3;dsimp only[df];apply oi (H:=λ(kd:Nat)(o2:Mx)=>1<kd/\kd<=kb-1/\(∀i,i<kd->blt (g b i) (g a<|kc-1)=true)/\Hi blt (a.toList++b.toList) o2.reverse.toList (a.toList.take kc) (b.toList.take kd))
       .intro key;by_cases q0:kb-1-k2>0
        .rw[VA q0];have b2:=an _ kc (kb-1) k2 h1 b6 c1 c3 c7 dh;by_cases z3:k2=1
         .rw[VA (VP.mpr z3)];exact VH {lk4,.ret<|endB _ kc k2 _ lk4 z3 c3 b2}
         have zz:¬k2=0:=ZC co;rw[Vz (by simpa using z3),Vz (by simpa using zz)];generalize o'.push (g b<|kb-1)++(b.extract k2<|kb-1).reverse=o2 at b2⊢;obtain⟨kd,ed⟩:∃kd,kd=k2:={_,M};rw[<-ed]at b2⊢;exact key kd o2 {by rw[ed];exact QY co<|Ne.symm z3,by rwa[ed],by rwa[ed],b2}
        .rw[Vz q0];have e2:k2=kb-1:=();rw[e2];exact key (kb-1) _ {c9,Q5 _,by rwa[<-e2],c7}
       intro kd o2 hd;let{d1,d2,bv,b2}:=hd;refine VD<|bq ay ?_;have d0:=X4 d1;have d3:=Qr d2 b6;have ca:=b3 _ kc kd c1 c3 d0 d3 b2 (bv (kd-1)<|QK d0<|Q5 _);by_cases z4:kc-1=0
       .rw[VA (VP.mpr z4)];exact VH {lk4,.ret<|endA _ (kc-1) kd _ lk4 z4 d3 ca}
       rw[Vz (by simpa using z4)];have hz:=Xi z4;have Z:kc-1+kd+(i+(j+1))<=a.size+b.size:=();split
       .exact VH {lk4,.go {hz,Z1 ay,d1,d3,Qr (ZR (ZR (Nat.le_add_left 1 j) i) _) Z,ca}}
       .exact VH {lk4,hz,Z1 ay,d1,d3,Z,ca}
      .rintro c a5 ⟨a7,@⟨ka,kb,_,_,_,_,_,_,Z,_⟩⟩;have em:max 0 (a.size+b.size)=a.size+b.size:=QT (Qh _);rw[em]at Z;lia
      .rintro c a5 ⟨a7,⟨q⟩| @⟨_,⟨bo,a0,c0,a2,Z,lo⟩⟩⟩
       .exact VH<|.ret q
       .dsimp only[k6];exact VD<|W7 (VH {⟨a7.kind,a7.arr,a7.pend,a7.fail⟩,bo,a0,c0,a2,Z,lo})
   .rintro c st' ⟨lk,@⟨_,_,_,_,_,_,_,_,hi,_⟩⟩;have em:max 0 (a.size+b.size)=a.size+b.size:=QT (Qh _);rw[em]at hi;lia
   .rintro c st' (⟨q⟩|⟨⟨⟩⟩);exact VH q
end
variable{A:Nh}{p:Array (Nat×Nat×Nat)}{arr a₀ m xs:Mx}{Q:Bool->SortSt->Prop}{blt:Nn}{l:List (Nat×Nat×Nat)}{at_ i lo n:Nat}{prog:Mz}{s:He}{κ:SortKind}{st:SortSt}{α:Type}{E:Ng}{w:Nb}
def MX(arr:Mx)(at_:Nat)(m:Mx):Array Keyed:=m.toList.zipIdx.foldl (λa p=>a.setIfInBounds (at_+p.2) p.1) arr
theorem DV:∀(l:Nq)(j:Nat)(arr:Mx)(at_:Nat),at_+j+l.length<=arr.size->
  ((l.zipIdx j).foldl (λa p=>a.setIfInBounds (at_+p.2) p.1) arr).toList=arr.toList.take (at_+j)++l++arr.toList.drop (at_+j+l.length)
 | [],j,arr,at_,h=>by simp
 |x::l,j,arr,at_,h=>by
  rw[List.zipIdx_cons,List.foldl_cons];have hl:at_+j<arr.size:=by simp at h;lia
  have z:=DV l (j+1) (arr.setIfInBounds (at_+j) x) at_ (by simp at h⊢;lia)
  rw[z,Vw];have G:(arr.toList.set (at_+j) x).take (at_+(j+1))=arr.toList.take (at_+j)++ [x]:=by
   rw[show at_+(j+1)=at_+j+1 by lia,Qo,List.take_set_of_le (Q5 _),Xu (by rwa[Qg])];rfl
  have e2:(arr.toList.set (at_+j) x).drop (at_+(j+1)+l.length)=arr.toList.drop (at_+j+(x::l).length):=by
   rw[List.drop_set_of_lt ()];congr 1;simp;lia
  rw[G,e2,Qn,Qn,Qn];rfl
theorem yq(h:at_+m.size<=arr.size):(MX arr at_ m).toList=arr.toList.take at_++m.toList++arr.toList.drop (at_+m.size):=by
 have:=DV m.toList 0 arr at_ (by simpa using h)
 simpa[MX]using this
theorem xc(xs:Mx)(k:Nat):g xs k=(xs.toList[k]?).getD dk:=by unfold g;rw[QQ]
theorem Ki(h:at_+m.size<=arr.size)(k:Nat):g (MX arr at_ m) k=if at_<=k/\k<at_+m.size then g m (k-at_)else g arr k:=by
 rw[xc,yq h];have l1:(arr.toList.take at_).length=at_:=by rw[Qe,Qg];lia
 by_cases a:k<at_
 .rw[Vz (),Qn,QV (),Xp a,<-xc]
 .by_cases b:k<at_+m.size
  .rw[VA {(),b},Qn,QS (),l1,QV (by rw[Qg];lia),<-xc]
  .rw[Vz (),QS (by rw[Qd,l1,Qg];lia),Qd,l1,Qg,Xj,show at_+m.size+(k-(at_+m.size))=k by lia,<-xc]
theorem DU(h:at_+m.size<=arr.size)(p:m.toList.Perm ((arr.toList.drop at_).take m.size)):(MX arr at_ m).Perm arr:=by
 rw[Xk,yq h];have e:arr.toList=arr.toList.take at_++((arr.toList.drop at_).take m.size++arr.toList.drop (at_+m.size)):=by
  rw[<-Vu,QR,QR]
 refine W6 ?_<|Wd e.symm;rw[Qn];exact W9 _<|W5 _ p
theorem l6(h:n<=arr.size){k:Nat}(hk:k<n-i):g (arr.extract i n) k=g arr (i+k):=by
 unfold g;rw[Array.getElem?_extract,VA ()]
theorem rK(h:n<=arr.size):(arr.extract i n).size=n-i:=by rw[Array.size_extract];lia
theorem wR(h:n<=arr.size)(o:On blt arr i n):On blt (arr.extract i n) 0 (arr.extract i n).size:=λa b _ z hb=>by
 rw[rK h]at hb;rw[l6 h (),l6 h hb];exact o _ _ () () ()
section
theorem Fi{x:SortSt}{Q:PUnit->SortSt->Prop}(h:Q ⟨⟩ x):wpS (model prog w) A E s (set x:StateT SortSt Sem PUnit) Q st:=by
 unfold wpS;rw[StateT.run_set];exact VN ⟨M,h⟩
variable(L:uX prog w A E s a₀ κ blt)
include L
theorem y8{G I pa sb U pb:Nat}(C:Lp blt)(Wh:KC a₀ κ st)(hi:(pendingOf st)[i]?=some (G,I,pa))(O:(pendingOf st)[i+1]?=some (sb,U,pb))(hb:sb=G+I)(h1:1<=I)(h2:1<=U)(hz:sb+U<=a₀.size)
  (oa:On blt (arrOf st) G (G+I)) (ob:On blt (arrOf st) sb (sb+U))
  (h:∀st',KC a₀ κ st'->pendingOf st'=((pendingOf st).setIfInBounds i (G,I+U,pa)).eraseIdxIfInBounds (i+1)->On blt (arrOf st') G (G+(I+U))->(∀k,k<G\/G+(I+U)<=k->g (arrOf st') k=g (arrOf st) k)->Q true st'):
  wpS (model prog w) A E s (mergeAt' i) Q st:=by
 subst hb;have hsz:=Wh.size;have b1:((sortPriv%PySem.Builtin.SortState.a) st).size=a₀.size:=Wh.size;refine VD<|We ?_;dsimp only;rw[hi,O];dsimp only;refine VD<|Fi ?_;have B1:KC a₀ κ (SortSt.mk' (kindOf st) (arrOf st) (((pendingOf st).setIfInBounds i (G,I+U,pa)).eraseIdxIfInBounds<|i+1) (gallopOf st)<|failedOf st):=⟨Wh.kind,Wh.fine,Wh.perm⟩;refine VD<|bq () ?_;refine VD<|fG L B1.kind (Wh.mem ()) (λj O=>{(),Wh.mem ()}) () (λj=>!blt (g (arrOf st)<|G+I) (g (arrOf st)<|G+j)) (λj O=>M) (λx y h3 h4 h5=>?_) λk b2 al an=>?_
 .have h5:blt (g (arrOf st)<|G+I) (g (arrOf st)<|G+y)=false:=by simpa using h5
  by_cases e:x=y
  .subst e;simpa using h5
  .have:=C.trans (oa (G+x) (G+y) () () ()) h5;simpa using this
 .dsimp only;have low:∀j,j<k->le blt (g (arrOf st)<|G+j) (g (arrOf st)<|G+I):=λj O=>by have:=al j O;simpa using this
  have up:∀j,k<=j->j<I->blt (g (arrOf st)<|G+I) (g (arrOf st)<|G+j)=true:=λj O ap=>by have:=an j O ap;simpa using this
  have a1:∀j x,j<k->G+I<=x->x<G+I+U->le blt (g (arrOf st)<|G+j) (g (arrOf st) x):=λj x O hx Y=>by
   by_cases e:x=G+I
   .rw[e];exact low j O
   .exact C.trans (low j O)<|ob (G+I) x (Q5 _) () Y
  by_cases n0:I-k=0
  .rw[VA (VP.mpr n0)];refine VH<|h _ B1 M (λx y hx Z hy=>?_) λ_ _=>M;by_cases c:y<G+I
   .exact oa x y hx Z c
   .by_cases d:x<G+I
    .have:=a1 (x-G) y () () ();rwa [show G+(x-G)=x by lia]at this
    .exact ob x y () Z ()
  .rw[Vz (by simpa using n0)];refine VD<|bq () ?_;rw[show G+k+(I-k)-1=G+I-1 by lia];refine VD<|fG L B1.kind (Wh.mem ()) (λj O=>{(),Wh.mem ()}) () (λj=>blt (g (arrOf st)<|G+I+j)<|g (arrOf st)<|G+I-1) (λj O=>M) (λx y h3 h4 h5=>?_) λm b3 ay a5=>?_
   .by_cases e:x=y
    .subst e;exact h5
    .cases z:blt (g (arrOf st)<|G+I+x) (g (arrOf st)<|G+I-1)with
     |true=>rfl
     |false=>
      have f:blt (g (arrOf st)<|G+I+y) (g (arrOf st)<|G+I-1)=false:=C.trans z (ob (G+I+x) (G+I+y) () () ());rw[h5]at f;cases f
   .dsimp only;have a2:∀j,j<m->blt (g (arrOf st)<|G+I+j) (g (arrOf st)<|G+I-1)=true:=ay;have first:blt (g (arrOf st)<|G+I+0) (g (arrOf st)<|G+k+0)=true:=by
     rw[X2,X2];exact up k (Q5 _) ()
    have mp:0<m:=by
     rcases QZ m with z|z
     .have f:blt (g (arrOf st)<|G+I+0) (g (arrOf st)<|G+I-1)=false:=a5 0 () ();have q:=up (I-1) () ();rw[show G+(I-1)=G+I-1 by lia]at q;rw[X2,q]at f;cases f
     .exact z
    have high:∀x,G+I+m<=x->x<G+I+U->le blt (g (arrOf st)<|G+I-1) (g (arrOf st) x):=λx hx Y=>by
     have f:blt (g (arrOf st)<|G+I+(x-(G+I))) (g (arrOf st)<|G+I-1)=false:=a5 (x-(G+I)) () ();rwa [show G+I+(x-(G+I))=x by lia]at f
    have a0:∀y x,G<=y->y<G+I->G+I+m<=x->x<G+I+U->le blt (g (arrOf st) y) (g (arrOf st) x):=λy x hy b4 hx Y=>by
     by_cases e:y=G+I-1
     .rw[e];exact high x hx Y
     .exact C.trans (oa y (G+I-1) hy () ())<|high x hx Y
    have m0:¬m=0:=();rw[Vz (by simpa using m0)];have sx:((arrOf st).extract (G+k)<|G+I).size=G+I-(G+k):=rK ();have sy:((arrOf st).extract (G+I)<|G+I+m).size=G+I+m-(G+I):=rK ();have a7:On blt (arrOf st) (G+k) (G+I):=oa.sub () ();have a8:On blt (arrOf st) (G+I) (G+I+m):=ob.sub () ();have a3:∀(res:Mx)(st2:SortSt),KO (SortSt.mk' (kindOf st) (arrOf st) (((pendingOf st).setIfInBounds i (G,I+U,pa)).eraseIdxIfInBounds<|i+1) (gallopOf st)<|failedOf st) st2->res.toList.Perm (((arrOf st).extract (G+k)<|G+I).toList++((arrOf st).extract (G+I)<|G+I+m).toList)->PW blt res.toList->
      wpS (model prog w) A E s (modify (λs=>SortSt.mk' (kindOf s) (MX (arrOf s) (G+k) res) (pendingOf s) (gallopOf s)<|failedOf s)>>=λ_=>get>>=λx=>pure (failedOf x).isNone) Q st2:=λres st2 lk pm pw=>by
     have rs:res.size=I-k+m:=by
      have:=pm.length_eq;rw[Qd,Qg,Qg,Qg,sx,sy]at this;lia
     have rm:∀j,j<res.size->∃x,G+k<=x/\x<G+I+m/\g res j=g (arrOf st) x:=λj O=>by
      have mem:g res j∈res.toList:=by have:=vE O;simpa using this
      rcases Q6.mp (pm.mem_iff.mp mem)with q|q
      .let{x,x1,x2,_,x4}:=dz q;exact{x,(),(),x4}
      .let{x,x1,x2,_,x4}:=dz q;exact{x,(),(),x4}
     have ac:G+k+res.size<=(arrOf st2).size:=by rw[lk.arr];show G+k+res.size<=(arrOf st).size;lia
     refine VD<|W7 ?_;refine VD<|We (VH ?_);have hg:∀x,g (MX (arrOf st2) (G+k) res) x=if G+k<=x/\x<G+k+res.size then g res (x-(G+k))else g (arrOf st) x:=λx=>by
      rw[Ki ac,lk.arr]
     have ef:(failedOf st2).isNone=true:=by
      rw[lk.fail];show(failedOf st).isNone=true;rw[Wh.fine];rfl
     show Q (failedOf st2).isNone _;rw[ef];have on:=Dr pw;refine h _ {lk.kind.trans Wh.kind,lk.fail.trans Wh.fine,?_} lk.pend ?_ ?_
     .refine(DU ac ?_).trans (by rw[lk.arr];exact Wh.perm);rw[lk.arr];show res.toList.Perm (((arrOf st).toList.drop<|G+k).take res.size);refine pm.trans<|Wd ?_;rw[Zf,Zf,Z3,Z3,rs,show G+I-(G+k)=I-k by lia,show G+I+m-(G+I)=m by lia,List.take_add,Vu,show G+k+(I-k)=G+I by lia]
     .intro x y hx Z hy;show le blt (g (MX (arrOf st2) (G+k) res) x) (g (MX (arrOf st2) (G+k) res) y);rw[hg x,hg y];by_cases y1:G+k<=y/\y<G+k+res.size
      .rw[VA y1];by_cases x1:G+k<=x/\x<G+k+res.size
       .rw[VA x1];exact on _ _ (Qh _) () ()
       .rw[Vz x1];let{z,z1,z2,z3}:=rm (y-(G+k)) ();rw[z3];by_cases zz:z<G+I
        .exact oa x z hx () zz
        .have:=a1 (x-G) z () () ();rwa [show G+(x-G)=x by lia]at this
      .rw[Vz y1];by_cases x1:G+k<=x/\x<G+k+res.size
       .rw[VA x1];let{z,z1,z2,z3}:=rm (x-(G+k)) ();rw[z3];by_cases zz:z<G+I
        .exact a0 z y () zz () ()
        .exact ob z y () () ()
       .rw[Vz x1];by_cases yy:y<G+I
        .exact oa x y hx Z yy
        .by_cases xx:x<G+I
         .exact a0 x y hx xx () ()
         .exact ob x y () Z ()
     .intro x hx;show g (MX (arrOf st2) (G+k) res) x=g (arrOf st) x;rw[hg x,Vz ()]
    by_cases c:I-k<=m
    .rw[VA c];refine VD<|y6 L C B1.kind (λx hx=>?_) (wR () a7) (wR () a8) (by rw[sx];lia) (by rw[sy];lia) ?_ ?_ λres st2 lk pm pw=>?_
     .rcases Q6.mp hx with q|q
      .let{j,_,_,a4,rfl}:=dz q;exact Wh.mem ()
      .let{j,_,_,a4,rfl}:=dz q;exact Wh.mem ()
     .rwa[l6 () (),l6 () ()]
     .intro j O;rw[sy]at O;rw[sx,l6 () (),l6 () (),show G+k+(G+I-(G+k)-1)=G+I-1 by lia];exact a2 j ()
     .exact a3 res st2 lk pm pw
    .rw[Vz c];refine VD<|y7 L C B1.kind (λx hx=>?_) (wR () a7) (wR () a8) (by rw[sx];lia) (by rw[sy];lia) ?_ ?_ λres st2 lk pm pw=>?_
     .rcases Q6.mp hx with q|q
      .let{j,_,_,a4,rfl}:=dz q;exact Wh.mem ()
      .let{j,_,_,a4,rfl}:=dz q;exact Wh.mem ()
     .rwa[l6 () (),l6 () ()]
     .intro j O;rw[sy]at O;rw[sx,l6 () (),l6 () (),show G+k+(G+I-(G+k)-1)=G+I-1 by lia];exact a2 j ()
     .exact a3 res st2 lk pm pw
end
def K0(blt:Nn)(xs:Mx):List (Nat×Nat×Nat)->Nat->Nat->Prop
 | [],f,t=>f=t
 |(st,len,_)::r,f,t=>st=f/\1<=len/\On blt xs st (st+len)/\K0 blt xs r (st+len) t
theorem K0.le{xs:Mx}:∀{l:List (Nat×Nat×Nat)}{f t:Nat},K0 blt xs l f t->f+l.length<=t
 | [],f,t,h=>by cases h;simp
 |(st,len,p)::r,f,t,h=>by
  let{rfl,h1,_,z}:=h;have:=K0.le z;simp;lia
theorem K0.app{xs:Mx}:∀{l r:List (Nat×Nat×Nat)}{f t:Nat},K0 blt xs (l++r) f t↔∃m,K0 blt xs l f m/\K0 blt xs r m t
 | [],r,f,t=>{λh=>⟨f,M,h⟩,λzz=>by let{m,e,h}:=zz;cases e;exact h}
 |(st,len,p)::l,r,f,t=>by
  constructor
  .rintro ⟨h1,h2,z,G⟩;let{m,a,b}:=K0.app.mp G;exact{m,⟨h1,h2,z,a⟩,b}
  .rintro ⟨m,⟨h1,h2,z,a⟩,b⟩;exact{h1,h2,z,K0.app.mpr ⟨m,a,b⟩}
theorem K0.congr{ys:Mx}:∀{l:List (Nat×Nat×Nat)}{f t:Nat},K0 blt xs l f t->(∀k,f<=k->k<t->g ys k=g xs k)->K0 blt ys l f t
 | [],f,t,h,_=>h
 |(st,len,p)::r,f,t,h,e=>by
  let{rfl,h1,h2,z}:=h;have:=z.le;exact{M,h1,h2.congr λk a b=>e k a (),z.congr λk a b=>e k () b}
theorem K0.pw{a b p q:Nat}{f t:Nat}(h:K0 blt xs (l++ [(a,b,p)]) f t):K0 blt xs (l++ [(a,b,q)]) f t:=by
 let{m,h1,h2}:=K0.app.mp h;exact K0.app.mpr ⟨m,h1,h2⟩
theorem ji{q:Nat}(S:K0 blt xs p.toList 0 lo)(h:1<=n)(o:On blt xs lo (lo+n)):K0 blt xs (p.push (lo,n,q)).toList 0 (lo+n):=by
 rw[V7];exact K0.app.mpr ⟨lo,S,M,h,o,M⟩
theorem yc(q:Array α)(x:α)(f:α->α):(q.push x).modify ((q.push x).size-1) f=q.push (f x):=by
 have e:(q.push x).size-1=q.size:=by simp
 rw[e];apply Array.ext
 .simp
 .intro i h1 h2;rw[Array.getElem_modify];by_cases hi:q.size=i
  .subst hi;simp
  .rw[Vz hi];have:i<q.size:=by simp at h2;lia
   rw[XH this,XH this]
theorem n9{pw:Nat}(z:1<=p.size)(S:K0 blt xs p.toList 0 lo):K0 blt xs (p.modify (p.size-1) λx=>(x.1,x.2.1,pw)).toList 0 lo:=by
 obtain⟨q,x,rfl⟩:∃q x,p=q.push x:={p.pop,p[p.size-1],by
  apply Array.ext
  .simp;lia
  .intro i h1 h2;by_cases hi:i<p.pop.size
   .rw[XH hi];simp
   .have:i=p.size-1:=by simp at h2 hi;lia
    subst this;rw[Array.getElem_push];rw[dif_neg (by simp)]}
 rw[yc,V7];rw[V7]at S;let{a,b,c}:=x;exact S.pw
theorem Lb{l:List α}{x y:α}(h1:l[i]?=some x)(h2:l[i+1]?=some y):∃p r,l=p++x::y::r/\p.length=i:=by
 let{a1,I}:=Q3.mp h1;let{a2,e2}:=Q3.mp h2;refine{l.take i,l.drop<|i+2,?_,by rw[Qe];lia};have z:=Zt a1;have G:=Zt a2;rw[I]at z;rw[e2]at G
 calc l=l.take i++l.drop i:=(QR _ _).symm
  _=_:=by rw[z,G]
theorem Ei{p r:List α}{x y v:α}:((p++x::y::r).set p.length v).eraseIdx (p.length+1)=p++v::r:=by
 rw[List.set_append_right _ _ (Q5 _),Nat.sub_self];rw[List.eraseIdx_append_of_length_le (),show p.length+1-p.length=1 by lia];rfl
section
variable(L:uX prog w A E s a₀ κ blt)
include L
theorem oV(C:Lp blt)(Wh:KC a₀ κ st)(S:K0 blt (arrOf st) (pendingOf st).toList 0 lo)(a0:lo<=a₀.size)(hi:i+1<(pendingOf st).size)
  (h:∀st',KC a₀ κ st'->K0 blt (arrOf st') (pendingOf st').toList 0 lo->(pendingOf st').size+1=(pendingOf st).size->(∀k,lo<=k->g (arrOf st') k=g (arrOf st) k)->Q true st'):
  wpS (model prog w) A E s (mergeAt' i) Q st:=by
 have O:(pendingOf st)[i]?=some ((pendingOf st)[i]'()):=getElem?_pos _ _ _;have U:(pendingOf st)[i+1]?=some ((pendingOf st)[i+1]'hi):=getElem?_pos _ _ _;obtain⟨⟨z,G,pa⟩,e1⟩:∃x,x=(pendingOf st)[i]'():={_,M};obtain⟨⟨sb,I,pb⟩,e2⟩:∃x,x=(pendingOf st)[i+1]'hi:={_,M};rw[<-e1]at O;rw[<-e2]at U;have t1:=O;have t2:=U;rw[<-QQ]at t1 t2;let{p,r,Y,pl}:=Lb t1 t2;rw[Y]at S;let{m,S1,S2}:=K0.app.mp S;let{rfl,n1,o1,rfl,n2,o2,S3}:=S2;have l3:=S3.le;have l1:=S1.le;refine y8 L C Wh O U M n1 n2 () o1 o2 λst' B' hp on keep=>?_;have ep:(pendingOf st').toList=p++(z,G+I,pa)::r:=by
  rw[hp,Array.toList_eraseIdxIfInBounds,Vw,Y,<-pl,Ei]
 have Z:∀k,k<z\/z+G+I<=k->g (arrOf st') k=g (arrOf st) k:=λk hk=>keep k ();refine h st' B' ?_ ?_ λk hk=>Z k ()
 .rw[ep];refine K0.app.mpr {z,S1.congr λk a b=>Z k<|.inl b,M,(),on,?_};rw[show z+(G+I)=z+G+I by lia];exact S3.congr λk a b=>Z k (.inr a)
 .have a:=VT List.length ep;have b:=VT List.length Y;simp at a b;lia
theorem qc{Q:Unit->SortSt->Prop}(C:Lp blt)(Wh:KC a₀ κ st)(hp:pendingOf st= #[])(h2:1<=a₀.size)
  (h:∀st',KC a₀ κ st'->On blt (arrOf st') 0 a₀.size->Q Unit.unit st'):wpS (model prog w) A E s sortRuns' Q st:=by
 rw[sortRuns'_eq];refine VD<|We ?_;dsimp only;have hsz:=Wh.size;rw[hsz];refine VD (Wc (VX
  (I:=λi c st'=>∃lo,c=(none,lo)/\i<=lo/\lo<=a₀.size/\KC a₀ κ st'/\K0 blt (arrOf st') (pendingOf st').toList 0 lo)
  (Q:=λc st'=>c=(none,a₀.size)/\KC a₀ κ st'/\K0 blt (arrOf st') (pendingOf st').toList 0 a₀.size) ?step ?fin {0,M,Q5 _,Qh _,Wh,by rw[hp];exact M}) ?post)
 case fin=>
  rintro c st' ⟨lo,rfl,h1,h3,B',S⟩;have em:max 0 a₀.size=a₀.size:=QT (Qh _);rw[em]at h1;have e:lo=a₀.size:=();subst e;exact⟨M,B',S⟩
 case step=>
  rintro i c st' _ hi ⟨lo,rfl,h1,h3,B',S⟩;dsimp only;by_cases z:lo>=a₀.size
  .rw[VA z];have e:lo=a₀.size:=();subst e;exact VH ⟨M,B',S⟩
  .rw[Vz z];refine VD<|CD L C B' () () λn st2 B2 p2 m1 m2 O2 k2=>?_;dsimp only;have S2:K0 blt (arrOf st2) (pendingOf st2).toList 0 lo:=by
    rw[p2];exact S.congr λk _ b=>k2 k b
   by_cases U:n<minRun' a₀.size a₀.size 0
   .rw[VA U];refine VD<|wpS_lift (Wf {M,?_});refine VD<|Bj L C B2 m1 () () O2 λO B3 p3 O3 k3=>?_;rw[Vz (_)];have S3:K0 blt (arrOf O) (pendingOf O).toList 0 lo:=by
     rw[p3];exact S2.congr λk _ b=>k3 k b
    generalize hn:min (a₀.size-lo) (minRun' a₀.size a₀.size 0)=n' at O3;have a2:1<=n':=();have a3:lo+n'<=a₀.size:=();refine VD<|We ?_;cases eb:(pendingOf O).back? with
    |none=>
     dsimp only;exact VD<|W7 (VH {lo+n',M,(),(),⟨B3.kind,B3.fine,B3.perm⟩,ji S3 () O3})
    |some tt=>
     let{s1,n1,p1}:=tt;dsimp only;have Z:1<=(pendingOf O).size:=by
      rcases QZ (pendingOf O).size with q|q
      .rw[Array.size_eq_zero_iff.mp q]at eb;cases eb
      .exact q
     refine VD (Wc (VX (I:=λ_ c G=>c=(none,Unit.unit)/\KC a₀ κ G/\K0 blt (arrOf G) (pendingOf G).toList 0 lo/\On blt (arrOf G) lo (lo+n')/\1<=(pendingOf G).size)
      (Q:=λc G=>c=(none,Unit.unit)/\KC a₀ κ G/\K0 blt (arrOf G) (pendingOf G).toList 0 lo/\On blt (arrOf G) lo (lo+n')/\1<=(pendingOf G).size) ?_ (λ_ _ q=>q) ⟨M,B3,S3,O3,Z⟩) ?_)
     .rintro j c G _ _ ⟨rfl,Y,S4,O4,z4⟩;refine VD<|We ?_;by_cases big:(pendingOf G).size>1
      .rw[VA big,getElem?_pos (pendingOf G) ((pendingOf G).size-2) ()];obtain⟨⟨u1,u2,a0⟩,eu⟩:∃x,x=(pendingOf G)[(pendingOf G).size-2]'(by(clear big Z eb a3 a2 hn p3 U m2 m1 p2 z h3 h1 hi hsz h2 hp;omega (config:={}))):={_,M};rw[<-eu];dsimp only;split
       .exact VH ⟨M,Y,S4,O4,z4⟩
       .refine VD<|oV L C Y S4 () () λa4 B5 S5 z5 k5=>?_;rw[Vz (_)];exact VH {M,B5,S5,O4.congr λk a b=>k5 k a,()}
      .rw[Vz big];exact VH ⟨M,Y,S4,O4,z4⟩
     .rintro c G ⟨rfl,Y,S4,O4,z4⟩;dsimp only;refine VD<|W7 (VD<|W7<|VH {lo+n',M,(),(),⟨Y.kind,Y.fine,Y.perm⟩,?_});exact ji (n9 z4 S4) () O4
   .rw[Vz U];have B3:=B2;have S3:=S2;have O3:=O2;obtain⟨O,e3⟩:∃x,x=st2:={_,M};rw[<-e3]at B3 S3 O3⊢;refine VD<|We ?_;cases eb:(pendingOf O).back? with
    |none=>
     dsimp only;exact VD<|W7 (VH {lo+n,M,(),(),⟨B3.kind,B3.fine,B3.perm⟩,ji S3 () O3})
    |some tt=>
     let{s1,n1,p1}:=tt;dsimp only;have Z:1<=(pendingOf O).size:=by
      rcases QZ (pendingOf O).size with q|q
      .rw[Array.size_eq_zero_iff.mp q]at eb;cases eb
      .exact q
     refine VD (Wc (VX (I:=λ_ c G=>c=(none,Unit.unit)/\KC a₀ κ G/\K0 blt (arrOf G) (pendingOf G).toList 0 lo/\On blt (arrOf G) lo (lo+n)/\1<=(pendingOf G).size)
      (Q:=λc G=>c=(none,Unit.unit)/\KC a₀ κ G/\K0 blt (arrOf G) (pendingOf G).toList 0 lo/\On blt (arrOf G) lo (lo+n)/\1<=(pendingOf G).size) ?_ (λ_ _ q=>q) ⟨M,B3,S3,O3,Z⟩) ?_)
     .rintro j c G _ _ ⟨rfl,Y,S4,O4,z4⟩;refine VD<|We ?_;by_cases big:(pendingOf G).size>1
      .rw[VA big,getElem?_pos (pendingOf G) ((pendingOf G).size-2) ()];obtain⟨⟨u1,u2,a0⟩,eu⟩:∃x,x=(pendingOf G)[(pendingOf G).size-2]'(by omega (config:={})):={_,M};rw[<-eu];dsimp only;split
       .exact VH ⟨M,Y,S4,O4,z4⟩
       .refine VD<|oV L C Y S4 () () λa4 B5 S5 z5 k5=>?_;rw[Vz (_)];exact VH {M,B5,S5,O4.congr λk a b=>k5 k a,()}
      .rw[Vz big];exact VH ⟨M,Y,S4,O4,z4⟩
     .rintro c G ⟨rfl,Y,S4,O4,z4⟩;dsimp only;refine VD<|W7 (VD<|W7<|VH {lo+n,M,(),(),⟨Y.kind,Y.fine,Y.perm⟩,?_});exact ji (n9 z4 S4) () O4
 case post=>
  rintro c st' ⟨rfl,B',S⟩;dsimp only;have a1:=S.le;refine VD (Wc (VX (I:=λi c st2=>c=(none,Unit.unit)/\KC a₀ κ st2/\K0 blt (arrOf st2) (pendingOf st2).toList 0 a₀.size/\(pendingOf st2).size+i<=a₀.size+1)
   (Q:=λc st2=>c=(none,Unit.unit)/\KC a₀ κ st2/\K0 blt (arrOf st2) (pendingOf st2).toList 0 a₀.size/\(pendingOf st2).size<=1) ?_ ?_ {M,B',S,by rw[Qg]at a1;lia}) ?_)
  .rintro i c st2 _ hi ⟨rfl,B2,S2,z2⟩;refine VD<|We ?_;by_cases one:(pendingOf st2).size<=1
   .rw[VA one];exact VH ⟨M,B2,S2,one⟩
   .rw[Vz one];generalize a5:(if Option.any _ _=true then(pendingOf st2).size-2-1 else(pendingOf st2).size-2)=ix;have a7:∀bb:Bool,(if bb=true then(pendingOf st2).size-2-1 else(pendingOf st2).size-2)+1<(pendingOf st2).size:=λbb=>by
     cases bb with
     |true=>rw[VA M];lia
     |false=>rw[Vz (_)];lia
    have hx:ix+1<(pendingOf st2).size:=by
     rw[<-a5];exact a7 _
    refine VD<|oV L C B2 S2 (Q5 _) hx λO B3 S3 z3 k3=>?_;rw[Vz (_)];exact VH {M,B3,S3,()}
  .rintro c st2 ⟨rfl,B2,S2,z2⟩;have em:max 0 a₀.size=a₀.size:=QT (Qh _);rw[em]at z2;exact{M,B2,S2,()}
  .rintro c st2 ⟨rfl,B2,S2,z2⟩;dsimp only;refine VH (h st2 B2 ?_)
   match hl:(pendingOf st2).toList,S2 with
   | [],S2=>
    have e:0=a₀.size:=S2;lia
   | [(a,b,p)],S2=>
    let{rfl,_,o,e}:=S2;have e:0+b=a₀.size:=e;rw[e]at o;exact o
   |_::_::_,_=>
    have:=VT List.length hl;simp at this;lia
end
variable{blt:Nn}{vs:L'}{E Q:Ng}
section
variable{prog:Mz}{w:Nb}{A:Nh}{s:He}{κ:SortKind}
abbrev MG(a:G')(s s':He):Prop:=∀b o,b≠a->s.heap.get? b=some o->s'.heap.get? b=some o
theorem Bx{a:G'}{n:Nat}{P:PySem.Fin->Shared->Prop}(I:s.heap.get? a=some (seqObj eR vs.toArray n))(hz:vs.length<=sizeLine)(C:Lp blt)
  (U:∀h':Heap,MG a s {s with heap:=h'}->2<=vs.length->∀Q':SortKind->Shared->Prop,Q' κ {s with heap:=h'}->wpAny (model prog w) A (keyKind' vs.toArray) Q' E {s with heap:=h'})
  (L:∀h':Heap,MG a s {s with heap:=h'}->uX prog w A E {s with heap:=h'} (pairsOf vs) κ blt)
  (h:∀out:Array Keyed,out.Perm (pairsOf vs)->PW blt out.toList->P (.done<|.ret .none) {s with heap:=sortedHeap s.heap a vs (out.map (·.2))}):wpAny (model prog w) A (Builtin.«list.sort» {[.ref a],[]}) P E s:=by
 have hv:vs.toArray.size=vs.length:=Q9;have ha:=VJ I;rw[list_sort_plain];refine VC<|listItems_at I M (VC<|listUpdate_at I M ?_ (hsz:=by rwa[hv]));obtain⟨e1,G⟩:∃k,(s.heap.update a<|Obj.mapSeq λ_=> #[]).get? a=some (seqObj eR #[] k):={_,get?_update_seq I<|λ_=> #[]};refine VC<|seqEpoch_at G M (VC<|wpAny_newTuple ?_ (hsz:=hz));refine VC<|wpAny_newList (W4 ?_);generalize Y:((s.heap.update a<|Obj.mapSeq λ_=> #[]).push<|seqObj i3 vs.toArray 0).push (seqObj eR #[] 0)=h6;have up:∀b o,(s.heap.update a<|Obj.mapSeq λ_=> #[]).get? b=some o->h6.get? b=some o:=λb o e=>by
  rw[<-Y];exact VB _<|VB _ e
 have z:=up a _ G;have but:MG a s {s with heap:=h6}:=λb o hb e=>up b o (by exact(VO _ _<|Ne.symm hb).trans e);have fin:∀out:Array Keyed,out.Perm (pairsOf vs)->PW blt out.toList->P (.done<|.ret .none) {s with heap:=h6.update a (Obj.mapSeq λ_=>out.map (·.2))}:=λout p q=>by
  have:=h out p q;unfold sortedHeap at this;rw[Y]at this;exact this
 have hsz2:∀out:Array Keyed,out.Perm (pairsOf vs)->(out.map (·.2)).size<=sizeLine+1:=λout p=>by
  have:=p.size_eq;rw[pairsOf_size]at this;rw[Array.size_map];lia
 dsimp only;by_cases h2:vs.toArray.size<2
 .rw[VA h2,VA h2];refine VC<|VN ?_;rw[StateT.run_pure];refine VC<|VN ?_;dsimp only;have Z:(SortSt.mk' general' (vs.toArray.zip vs.toArray) #[] 7 none|>arrOf).Perm (pairsOf vs):=Array.Perm.refl _;refine VC<|seqEpoch_at z M (VC<|listUpdate_at z M ?_ (hsz:=Qh _) (hsz2:=hsz2 _ Z));simp only[bne_self_eq_false,QP,if_false];refine VN<|fin _ Z ?_;have l1:(vs.toArray.zip vs.toArray).toList.length<=1:=by simp at h2⊢;lia
  show PW blt (vs.toArray.zip vs.toArray).toList;revert l1;generalize (vs.toArray.zip vs.toArray).toList=l;rcases l with _|⟨x,_|⟨y,t⟩⟩<;>intro l1<;>first|exact VY|exact Z6 _ _|exact VE l1<|Nat.not_le_of_lt (Nat.succ_lt_succ<|Nat.succ_pos _)
 .rw[Vz h2,Vz h2];refine VC<|U h6 but () _ ?_;refine VC (VV (qc (L h6 but) (st:=SortSt.mk' κ (vs.toArray.zip vs.toArray) #[] 7 none) (Q:=λ_ st'=>KC (pairsOf vs) κ st'/\On blt (arrOf st') 0 (pairsOf vs).size) C
   {M,M,Array.Perm.refl _} M (by rw[pairsOf_size];lia) λst' Wh O=>⟨Wh,O⟩) ?_ λ_ _ e=>e)
  rintro ⟨⟨⟩,st'⟩ s' ⟨rfl,Wh,O⟩;dsimp only;refine VC<|seqEpoch_at z M (VC<|listUpdate_at z M ?_ (hsz:=Qh _) (hsz2:=hsz2 _ Wh.perm));rw[Wh.fine];simp only[bne_self_eq_false,QP,if_false];refine VN<|fin _ Wh.perm ?_;have:=eS (a:=arrOf st') (blt:=blt) (by rwa[Wh.size]) 0;rwa [Zp]at this
theorem sorted_any{l:G'}(hl:s.heap.IsList l vs.toArray)(hz:vs.length<=sizeLine)(C:Lp blt)
  (G:∀h':Heap,(∀b o,s.heap.get? b=some o->h'.get? b=some o)->2<=vs.length->∀Q':SortKind->Shared->Prop,Q' κ {s with heap:=h'}->wpAny (model prog w) A.in1.in1 (keyKind' vs.toArray) Q' (λ_ _=>False) {s with heap:=h'})
  (L:∀h':Heap,(∀b o,s.heap.get? b=some o->h'.get? b=some o)->uX prog w A.in1.in1 (λ_ _=>False) {s with heap:=h'} (pairsOf vs) κ blt)
  (h:∀out:Array Keyed,out.Perm (pairsOf vs)->PW blt out.toList->Q (.ref<|s.heap.objs.size+1) {s with heap:=sortedAll s.heap vs (out.map (·.2))}):wpAny (model prog w) A (call (.builtin kO) [.ref l]) Q E s:=by
 refine Calls.call_function_entry kind_sorted plain_sorted entry_sorted (args_sorted1 _) ?_;unfold Builtin.«sorted»;refine VC (m:=checkCount kO 1 1 _)<|VN (VC<|collect_list hl ?_ (hsz:=hz));refine VC<|wpAny_newList ?_ (hsz:=hz);generalize I:(s.heap.push<|seqObj eR #[] 0).update s.heap.objs.size (Obj.mapSeq (· ++vs.toArray))=h1;have z:h1.objs.size=s.heap.objs.size+1:=by rw[<-I,Heap.size_update,size_push']
 have old:∀b o,s.heap.get? b=some o->(h1.push<|seqObj eR vs.toArray 0).get? b=some o:=λb o e=>by
  refine VB _ ?_;rw[<-I];exact(VO _ _<|Ne.symm<|Qz<|VJ e).trans<|VB _ e
 have new:(h1.push<|seqObj eR vs.toArray 0).get? (s.heap.objs.size+1)=some (seqObj eR vs.toArray 0):=by
  rw[<-z];exact VL _ M
 have keep:∀h':Heap,MG (s.heap.objs.size+1) {s with heap:=h1.push (seqObj eR vs.toArray 0)} {s with heap:=h'}->∀b o,s.heap.get? b=some o->h'.get? b=some o:=λh' k b o e=>
  k b o (Qz<|Xn<|VJ e) (old b o e)
 show wpAny _ _ _ _ _ {s with heap:=h1.push (seqObj eR vs.toArray 0)};rw[z];refine VC<|W4 (VV (wpAny_call_entry (E:=λ_ _=>False) slot_list_sort {_,new,M} entry_list_sort (Bx (κ:=κ) (blt:=blt) new hz C (λh' k=>G h'<|keep h' k) (λh' k=>L h'<|keep h' k) λout p q=>{_,M,?_})<|args_list_sort _) (λ_ _ q=>q) λ_ _ f=>f.elim);refine VN {_,M,?_};have:=h out p q;unfold sortedAll at this;rw[I]at this;exact this
end
variable{blt:Nn}{E:Ng}
theorem yo:∀(a b:Mu),HT.lexLt a b=true->HT.lexLt b a=false
 | [],[],h=>rfl
 | [],_::_,_=>rfl
 |_::_,[],h=>by rw[HT.lexLt_cons_nil]at h;cases h
 |x::xs,y::ys,h=>by
  rw[HT.lexLt_cons]at h⊢;by_cases e:x=y
  .rw[VA e]at h;rw[VA e.symm];exact yo xs ys h
  .rw[Vz e]at h;rw[Vz (Ne.symm e)];have:=VF h;exact VM ()
theorem DT:∀(a b c:Mu),HT.lexLt b a=false->HT.lexLt c b=false->HT.lexLt c a=false
 | [],b,[],_,_=>rfl
 |x::xs,[],c,h,_=>by rw[HT.lexLt_nil_cons]at h;cases h
 |a,y::ys,[],_,h=>by rw[HT.lexLt_nil_cons]at h;cases h
 | [],_,_::_,_,_=>HT.lexLt_cons_nil _ _
 |x::xs,y::ys,z::zs,h1,h2=>by
  rw[HT.lexLt_cons]at h1 h2⊢;by_cases G:y=x
  .rw[VA G]at h1;by_cases e2:z=y
   .rw[VA e2]at h2;rw[VA (e2.trans G)];exact DT xs ys zs h1 h2
   .rw[Vz e2]at h2;rw[Vz (by rwa[<-G])];have:=VS h2;exact VM ()
  .rw[Vz G]at h1;have O:=VS h1;by_cases e2:z=y
   .rw[VA e2]at h2;rw[Vz ()];exact VM ()
   .rw[Vz e2]at h2;have U:=VS h2;by_cases I:z=x
    .lia
    .rw[Vz I];exact VM ()
theorem cmp_of(k:Keyed->List Int):Lp λp q=>HT.lexLt (k p) (k q):={λx y h=>yo _ _ h,λx y z h1 h2=>DT _ _ _ h1 h2}
theorem runs_of{prog:Mz}{w:Nb}{A:Nh}{s:He}{a₀:Mx}{κ:SortKind} 
  (h:∀(x y:Keyed)(E':Value->Shared->Prop)(Q:Bool->Shared->Prop),x∈a₀->y∈a₀->Q (blt x y) s->wpAny (model prog w) A (keyLt' κ x.1 y.1) Q E' s):uX prog w A E s a₀ κ blt:=by
 intro x y st Q hx hy hk q;rw[lt'_eq];refine VD<|We ?_;rw[hk];refine VD<|wpS_lift (wpAny_attempt<|h x y _ _ hx hy {M,?_});exact VH q
end Srt
namespace L2
open PySem PySem.Spec PyProof.Rows
variable{H:Hp}{W:Mv}{xs:K'}{its us:L'}{s:He}{B:St}{u:J'}
def Ll(u:J'):V:=(absV u).getD .non
def mJ{x:V}(r:RelV x u):Ll u=x:=by unfold Ll;rw[r.abs];rfl
def Al(h:A7 xs us):us.map Ll=xs:=by
 induction h with
 |nil=>rfl
 |cons r t z=>rw[Qt,mJ r,z]
def nM(h:A7 xs us)(hu:u∈us):∃x∈xs,RelV x u:=by
 induction h with
 |nil=>exact VE hu QU
 |cons r t z=>
  rcases Qc.mp hu with e|e
  .subst e;exact{_,Q7,r}
  .let{x,h1,h2}:=z e;exact{x,Q8 _ h1,h2}
theorem vY:∀{us:L'},(∀u∈us,RelV (Ll u) u)->A7 (us.map Ll) us
 | [],_=> .nil
 |u::r,h=> .cons (h u Q7) (vY λv z=>h v<|Q8 _ z)
section
variable{X:Cx}
def vc{Q:VK}{p:G'}{κ:SortKind}{ky:V->List Int}(I:Inv X W B H s)(hz:xs.length<=sizeLine)(rv:A7 xs its)(hl:s.heap.IsList p its.toArray)
  (Z:∀h':Heap,(∀b o,s.heap.get? b=some o->h'.get? b=some o)->2<=its.length->∀Q':SortKind->Shared->Prop,Q' κ {s with heap:=h'}->wpAny (model X.prog X.w) X.A.in1.in1 (keyKind' its.toArray) Q' (λ_ _=>False) {s with heap:=h'})
  (a0:∀h':Heap,(∀b o,s.heap.get? b=some o->h'.get? b=some o)->∀(x y:V)(u v:J')(E':Ng)(Q':Bool->Shared->Prop),x∈xs->y∈xs->RelV x u->RelV y v->Q' (HT.lexLt (ky x)<|ky y) {s with heap:=h'}->wpAny (model X.prog X.w) X.A.in1.in1 (keyLt' κ u v) Q' E' {s with heap:=h'})
  (q:∀l ys,H l=none->ys.Perm xs->ys.Pairwise (λa b=>HT.lexLt (ky b) (ky a)=false)->Q (.ref l) (upd H l<|.lst ys)):
  Wj X (call (.builtin kO) [.ref p]) (EP X W B Q) X.xe s:=by
 have hi:its.length<=sizeLine:=by rwa[<-rv.length]
 have mem:∀z:Keyed,z∈pairsOf its->z.1=z.2/\z.1∈its:=λz hz=>by
  have:z∈(pairsOf its).toList:=by simpa using hz
  rw[pairsOf_toList]at this;exact mem_zip_self this
 refine Srt.sorted_any (κ:=κ) (blt:=λa b=>HT.lexLt (ky<|Ll a.1)<|ky<|Ll b.1) hl hi (Srt.cmp_of λa=>ky<|Ll a.1) Z (λh' k=>Srt.runs_of λx y E' Q' hx hy q'=>?_) λout pm pw=>?_
 .let{x',a1,G}:=nM rv (mem x hx).2;let{y',a2,O}:=nM rv (mem y hy).2;rw[mJ G,mJ O]at q';exact a0 h' k x' y' x.1 y.1 E' Q' a1 a2 G O q'
 .have U:out.toList.Perm (its.zip its):=by
   have:=Xk.mp pm;rwa [pairsOf_toList]at this
  have Y:∀z∈out.toList,z.1=z.2/\z.1∈its:=λz hz=>mem_zip_self (U.mem_iff.mp hz);have e2:(out.map (·.2)).toList=out.toList.map (·.2):=Array.toList_map;have pv:((out.map (·.2)).toList).Perm its:=by
   rw[e2];refine(U.map _).trans<|Wd ?_;exact List.map_snd_zip<|Q5 _
  have hu:∀u∈(out.map (·.2)).toList,RelV (Ll u) u:=λu hu=>by
   let{x,_,r}:=nM rv (pv.mem_iff.mp hu);rwa[mJ r]
  have vy:=vY hu;have fresh:H (s.heap.objs.size+1)=none:=I.hok.fresh (QX _);have py:((out.map (·.2)).toList.map Ll).Perm xs:=by
   rw[<-Al rv];exact pv.map _
  let{e,at_}:=sortedAll_at s.heap its (out.map (·.2));refine{.ref<|s.heap.objs.size+1,upd H (s.heap.objs.size+1) (.lst ((out.map (·.2)).toList.map Ll)),I.laid (t':=s.toks) (λb o q=>sortedAll_old q) (QX _) {?_,_,e,vy,?_},M,q _ _ fresh py ?_}
  .rwa[py.length_eq]
  .rw[at_,XI]
  .rw[e2,QL];refine Qw.mpr<|pw.imp_of_mem λ{a b} ha hb h=>?_;show HT.lexLt (ky<|Ll b.2) (ky<|Ll a.2)=false;rwa[<-(Y a ha).1,<-(Y b hb).1]
def K2(H:Hp)(a:G')(k:Mu):Prop:=∃i j:Int,H a=some (.tup [.int i,.int j])/\k=[i,j]
noncomputable def kRef(ky:Addr->List Int):V->List Int
 | .ref a=>ky a
 |_=> []
def vk{as:Nc}{ys:K'}(h:ys.Perm (as.map V.ref)):∃bs:List Addr,ys=bs.map V.ref/\bs.Perm as:=by
 have e:ys=(ys.map λy=>match y with| .ref i=>i|_=>0).map V.ref:=by
  rw[QL];refine(List.map_id' ys).symm.trans<|Zj λy hy=>?_;let{i,_,rfl}:=Qk.mp (h.mem_iff.mp hy);rfl
 refine{_,e,?_};refine(h.map λy=>match y with| .ref i=>i|_=>0).trans<|Wd ?_;rw[QL];exact List.map_id' as
def iY{a:G'}(I:Inv X W B H s)(h:H a=some (.tup xs)){h':Heap}(k:∀b o,s.heap.get? b=some o->h'.get? b=some o):
  ∃(o:Obj)(its:L')(n:Nat),A7 xs its/\h'.get? a=some o/\o.cls= .type i3/\o.data= .seq its.toArray n:=by
 let{_,its,rv,o,e,c,n,d}:=(show E3 X.prog X.w H s.heap a (.tup xs) from I.hok a _ h);exact{o,its,n,rv,k _ _ e,c,d}
def oY{x y:V}(r:A7 [x,y] its):∃u v,its=[u,v]/\RelV x u/\RelV y v:=qY r
def oB:e6 X (.builtin kO) (λvs H Q=>∃(p:G')(as:Nc)(ky:Addr->List Int),vs=[.ref p]/\Do X.K H p (as.map V.ref)/\(∀a∈as,K2 H a (ky a))/\
  ∀(l:G')(bs:Nc),H l=none->bs.Perm as->bs.Pairwise (λa b=>HT.lexLt (ky b) (ky a)=false)->Q (.ref l) (upd H l<|.lst<|bs.map V.ref)):=by
 intro W s B H xs us Q I r h;let{p,as,ky,rfl,hq,hk,q}:=h;let{u,rfl,ru}:=jQ r;cases ru;let{its,rv,pl,hz}:=I.list hq;refine vc (κ:=tuples'<|Value.type nX !=Value.type i3) (ky:=kRef ky) I hz rv pl.isList (λh' k h2 Q' G=>?_) (λh' k x y u v E' Q' hx hy rx ry G=>?_) λl ys hl pm pw=>?_
 .have tups:∀(bs:Nc)(U:L'),(∀a∈bs,K2 H a (ky a))->A7 (bs.map V.ref) U->∃fs:List Value,PySem.W.KatTups h' U fs/\(∀f∈fs,∃i t,f=Value.int i t)/\fs.length=U.length:=by
   intro bs
   induction bs with
   |nil=>intro U _ r;cases r;exact{[],.nil,λ_ h=>VE h QU,M}
   |cons a bs ih=>
    intro U hk r;cases r with
    |cons r1 r2=>
     cases r1;let{fs,t,hi,hl}:=ih _ (λb hb=>hk b<|Q8 _ hb) r2;let{i,j,ha,_}:=hk a Q7;let{o,Y,n,O,e,c,d}:=iY I ha k;let{u1,u2,rfl,q1,q2}:=oY O;let{Z,rfl}:=q1;refine{Value.int i Z::fs,.cons e c d M t,λf hf=>?_,by rw[Ql,Ql,hl]};rcases Qc.mp hf with z|z
     .exact⟨i,Z,z⟩
     .exact hi f z
  let{fs,t,hi,hl}:=tups as its hk rv;refine Vd (T:= .type nX) t () (λv hv=>?_) ∅ G;let{i,t,rfl}:=hi v hv;exact PySem.W.Looks.of_pure M
 .let{a,ha,rfl}:=Qk.mp hx;let{b,hb,rfl}:=Qk.mp hy;cases rx;cases ry;let{i,j,ea,ka}:=hk a ha;let{i',j',eb,kb}:=hk b hb;have G:Q' (HT.lexLt (ky a)<|ky b) {s with heap:=h'}:=G;rw[ka,kb,HT.lexLt_cons,HT.lexLt_cons,HT.lexLt_nil_nil]at G;let{o,a2,n,a0,e1,c1,d1}:=iY I ea k;let{u1,u2,rfl,{Z,rfl},{t2,rfl}}:=oY a0;let{o',Y,n',O,e2,c2,d2}:=iY I eb k;let{w1,w2,rfl,{t3,rfl},{t4,rfl}}:=oY O;refine Vx e1 d1 e2 d2<|Zz (SeqAt.EqAt.int_int _ _ _ _ _ _ _ _<|ZJ (λe=>ZF ?_)<|λe=>ZL ?_)
  .rw[VA (VP.mp e)]at G;refine Zz<|SeqAt.EqAt.int_int _ _ _ _ _ _ _ _ (ZJ (λe=>ZF ?_)<|λe=>ZL ?_)
   .rw[VA (VP.mp e)]at G;exact Vn<|by simpa using G
   .rw[Vz (VQ.mp e)]at G;exact XD _ _<|lt_int G
  .rw[Vz (VQ.mp e)]at G;exact oneLt_int G
 .let{bs,rfl,a1}:=vk pm;exact q l bs hl a1<|Qw.mp pw
end
end L2
namespace Srt
open PySem PyProof.Rows
variable{vs:L'}{E Q:Ng}
section
variable{prog:Mz}{w:Nb}{A:Nh}{s:He}{κ:SortKind}
set_option maxHeartbeats 2000000 in
theorem zn{a:G'}{f:J'}{n:Nat}{P:PySem.Fin->Shared->Prop}{J2:Addr->List Value->Shared->Prop}{blt:List Value->Keyed->Keyed->Bool}
  (ho:s.heap.get? a=some (seqObj eR vs.toArray n)) (hz:vs.length<=sizeLine)
  (w0:∀h' k,s.heap.objs.size<=k->MG a s {s with heap:=h'}->J2 k [] {s with heap:=h'})
  (wk:∀k ks s' h' b,(b=a\/b=k)->J2 k ks s'->(∀c o,c≠b->s'.heap.get? c=some o->h'.get? c=some o)->J2 k ks {s' with heap:=h'})
  (turn:∀k ks x s'(o1 o2:Obj),vs[ks.length]?=some x->J2 k ks s'->s'.heap.get? k=some o1->s'.heap.get? a=some o2->(∀v,o1.data≠ .cell v)->(∀v,o2.data≠ .cell v)->
   wpAny (model prog w) A (call f [x]) (λy G=>J2 k (ks++ [y]) G/\G.heap.get? k=some o1/\G.heap.get? a=some o2) (λ_ _=>False) s')
  (U:∀k ks s',ks.length=vs.length->J2 k ks s'->Lp (blt ks)/\(2<=vs.length->∀Q':SortKind->Shared->Prop,Q' κ s'->wpAny (model prog w) A (keyKind' ks.toArray) Q' E s')/\uX prog w A E s' (ks.toArray.zip vs.toArray) κ (blt ks))
  (h:∀k ks s'(out:Mx) c,ks.length=vs.length->J2 k ks s'->out.Perm (ks.toArray.zip vs.toArray)->PW (blt ks) out.toList->s'.heap.get? a=some (seqObj eR (out.map (·.2)) c)->P (.done<|.ret .none) s'):
  wpAny (model prog w) A (ksk_tree a f false) P E s:=by
 have ha:=VJ ho;obtain⟨e1,a1⟩:∃e1,(s.heap.update a<|Obj.mapSeq λ_=>(#[]:Ni)).get? a=some (seqObj eR #[] e1):={_,get?_update_seq ho λ_=> #[]};unfold ksk_tree;refine VC<|listItems_at ho M ?_;refine VC<|listUpdate_at ho M ?_ (by rwa[Q9]) (Qh _);refine VC<|seqEpoch_at a1 M ?_;refine VC<|wpAny_newTuple ?_ hz;refine VC<|wpAny_newList ?_ (Qh _);refine W4 ?_;generalize hh:((s.heap.update a<|Obj.mapSeq λ_=> #[]).push<|seqObj i3 vs.toArray 0)=h5;have Y:h5.objs.size=s.heap.objs.size+1:=by rw[<-hh,size_push',Heap.size_update]
 have kS:h5.objs.size≠a:=by rw[Y];exact ZC<|Xn ha
 have up:∀b o,(s.heap.update a<|Obj.mapSeq λ_=> #[]).get? b=some o->(h5.push<|seqObj eR #[] 0).get? b=some o:=λb o e=>by
  refine VB _ ?_;rw[<-hh];exact VB _ e
 have a2:=up a _ a1;have hok:(h5.push<|seqObj eR #[] 0).get? h5.objs.size=some (seqObj eR #[] 0):=VL _ M;have but:MG a s {s with heap:=h5.push (seqObj eR #[] 0)}:=λb o hb e=>up b o (by exact(VO _ _<|Ne.symm hb).trans e);have W0:=w0 _ h5.objs.size (by rw[Y];exact QX _) but;have a3:s.heap.objs.size<=h5.objs.size:=by rw[Y];exact QX _
 generalize h5.objs.size=k0 at kS hok W0 a3⊢;generalize h5.push (seqObj eR #[] 0)=h6 at a2 hok W0⊢;unfold ksk_rest;refine VC (Wf ?_)
 first
  |rw[List.forIn_toArray]
  |(rw[<-Array.forIn_toList];simp only[List.toList_toArray])
  |rw[<-Array.forIn_toList]
 refine VC (ksk_fold (λi s'=>∃(ks:L')(e:Nat),ks.length=i/\J2 k0 ks s'/\s'.heap.get? k0=some (seqObj eR ks.toArray e)/\s'.heap.get? a=some (seqObj eR #[] e1)) vs 0 {s with heap:=h6}
  {[],0,M,W0,hok,a2} ?step ?done)
 case step=>
  rintro j x s' hx ⟨ks,e,lk,Wk,hk,hn⟩;simp only[ZO]at lk⊢;have hj:j<vs.length:=(Q3.mp hx).1;subst lk;refine VC<|wpAny_attempt (VV (turn k0 ks x s' _ _ hx Wk hk hn (λ_ z=>nomatch z) λ_ z=>nomatch z) (λk G hq=>?_) λ_ _ hF=>hF.elim);let{W2,nk,na}:=hq
  try dsimp only
  have s1:=Heap.SameBut.update G.heap k0 (Obj.mapSeq (·.push k));obtain⟨c2,Z⟩:∃c2,(G.heap.update k0 (Obj.mapSeq (·.push k))).get? k0=some (seqObj eR (ks.toArray.push k) c2):={_,get?_update_seq nk (·.push k)};refine VC<|listUpdate_at nk M ?_ (by rw[Q9];lia) (Qr (QO<|Array.size_push ..)<|by rw[Q9];lia);refine VN {M,ks++ [k],c2,by simp,wk k0 _ _ _ k0 (.inr M) W2<|λc o hc e=>(s1.2 c hc).trans e,?_,(s1.2 a kS.symm).trans na};rwa[<-List.push_toArray]
 case done=>
  rintro s' ⟨ks,e,lk,Wk,hk,hn⟩;rw[ZO]at lk
  try dsimp only
  refine VC<|listItems_at hk M ?_;let{C,a4,L}:=U k0 ks s' lk Wk;have I:∀st:SortSt,(arrOf st).Perm (ks.toArray.zip vs.toArray)->PW (blt ks) (arrOf st).toList->failedOf st=none->wpAny (model prog w) A (ksk_tail a false e1 (.ref k0) st) P E s':=by
   intro st pm pw a5;have hsz:(arrOf st).size=vs.length:=by rw[pm.size_eq,Array.size_zip,Q9,Q9,lk,Nat.min_self]
   have s1:=Heap.SameBut.update s'.heap k0 (Obj.mapSeq λ_=>(#[]:Ni));have a0:(s'.heap.update k0<|Obj.mapSeq λ_=>(#[]:Ni)).get? a=some (seqObj eR #[] e1):=(s1.2 a kS.symm).trans hn;have s2:=Heap.SameBut.update (s'.heap.update k0<|Obj.mapSeq λ_=>(#[]:Ni)) a (Obj.mapSeq λ_=>(arrOf st).map (·.2));obtain⟨c2,Z⟩:∃c2,((s'.heap.update k0<|Obj.mapSeq λ_=>(#[]:Ni)).update a (Obj.mapSeq λ_=>(arrOf st).map (·.2))).get? a=some (seqObj eR ((arrOf st).map (·.2)) c2):={_,get?_update_seq a0 λ_=>(arrOf st).map (·.2)};have W1:J2 k0 ks {s' with heap:=s'.heap.update k0 (Obj.mapSeq λ_=>(#[]:Ni))}:=wk k0 ks s' _ k0 (.inr M) Wk λc o hc e=>(s1.2 c hc).trans e;have W2:J2 k0 ks {s' with heap:=(s'.heap.update k0<|Obj.mapSeq λ_=>(#[]:Ni)).update a (Obj.mapSeq λ_=>(arrOf st).map (·.2))}:=wk k0 ks {s' with heap:=s'.heap.update k0 (Obj.mapSeq λ_=>(#[]:Ni))} _ a (.inl M) W1 λc o hc e=>(s2.2 c hc).trans e;have H2:=h k0 ks _ _ c2 lk W2 pm pw Z;have a7:((arrOf st).map (·.2)).size<=sizeLine+1:=by rw[Array.size_map,hsz];lia
   unfold ksk_tail
   try dsimp only
   simp only[QP,if_false];refine VC<|listUpdate_at hk M ?_ (by rwa[Q9,lk]) (Qh _);refine VC<|wpAny_letGo ?_;refine VC<|seqEpoch_at a0 M ?_;refine VC<|listUpdate_at a0 M ?_ (Qh _) a7;rw[a5];simp only[bne_self_eq_false,QP,if_false];exact VN H2
  unfold ksk_end
  try dsimp only
  simp only[QP,if_false];by_cases h2:vs.toArray.size<2
  .rw[VA h2,VA h2];refine VC<|VN ?_;rw[StateT.run_pure];refine VC (VN ?_)
   try dsimp only
   refine I (SortSt.mk' general' (ks.toArray.zip vs.toArray) #[] 7 none) (Array.Perm.refl _) ?_ M;have l1:(ks.toArray.zip vs.toArray).toList.length<=1:=by simp at h2⊢;lia
   show PW (blt ks) (ks.toArray.zip vs.toArray).toList;revert l1;generalize (ks.toArray.zip vs.toArray).toList=l;rcases l with _|⟨x,_|⟨y,t⟩⟩<;>intro l1<;>first|exact VY|exact Z6 _ _|exact VE l1<|Nat.not_le_of_lt (Nat.succ_lt_succ<|Nat.succ_pos _)
  .rw[Vz h2,Vz h2];have v2:2<=vs.length:=by rw[Q9]at h2;lia
   have zs:(ks.toArray.zip vs.toArray).size=vs.length:=by rw[Array.size_zip,Q9,Q9,lk,Nat.min_self]
   refine VC<|a4 v2 _ ?_;refine VC (VV (qc L (st:=SortSt.mk' κ (ks.toArray.zip vs.toArray) #[] 7 none) (Q:=λ_ st'=>KC (ks.toArray.zip vs.toArray) κ st'/\On (blt ks) (arrOf st') 0 (ks.toArray.zip vs.toArray).size) C
    {M,M,Array.Perm.refl _} M (by rw[zs];lia) λst' Wh O=>⟨Wh,O⟩) ?_ λ_ _ e=>e)
   rintro ⟨⟨⟩,st'⟩ s2 ⟨rfl,Wh,O⟩
   try dsimp only
   refine I st' Wh.perm ?_ Wh.fine;have:=eS (a:=arrOf st') (blt:=blt ks) (by rwa[Wh.size]) 0;rwa [Zp]at this
theorem sorted_anyK{l q:G'}{J2:Addr->List Value->Shared->Prop}{blt:List Value->Keyed->Keyed->Bool}(hl:s.heap.IsList l vs.toArray)(hz:vs.length<=sizeLine)
  (w0:∀(h':Heap) k,s.heap.objs.size<=k->(∀b o,s.heap.get? b=some o->h'.get? b=some o)->J2 k [] {s with heap:=h'})
  (wk:∀k ks s' h' b,(b=s.heap.objs.size+1\/b=k)->J2 k ks s'->(∀c o,c≠b->s'.heap.get? c=some o->h'.get? c=some o)->J2 k ks {s' with heap:=h'})
  (turn:∀k ks x s'(Y Z:Obj),vs[ks.length]?=some x->J2 k ks s'->s'.heap.get? k=some Y->s'.heap.get? (s.heap.objs.size+1)=some Z->(∀v,Y.data≠ .cell v)->(∀v,Z.data≠ .cell v)->
   wpAny (model prog w) A.in1.in1 (call (.ref q) [x]) (λy z=>J2 k (ks++ [y]) z/\z.heap.get? k=some Y/\z.heap.get? (s.heap.objs.size+1)=some Z) (λ_ _=>False) s')
  (G:∀k ks s',ks.length=vs.length->J2 k ks s'->Lp (blt ks)/\(2<=vs.length->∀Q':SortKind->Shared->Prop,Q' κ s'->wpAny (model prog w) A.in1.in1 (keyKind' ks.toArray) Q' (λ_ _=>False) s')/\uX prog w A.in1.in1 (λ_ _=>False) s' (ks.toArray.zip vs.toArray) κ (blt ks))
  (h:∀k ks s'(out:Mx) c,ks.length=vs.length->J2 k ks s'->out.Perm (ks.toArray.zip vs.toArray)->PW (blt ks) out.toList->s'.heap.get? (s.heap.objs.size+1)=some (seqObj eR (out.map (·.2)) c)->Q (.ref<|s.heap.objs.size+1) s'):
  wpAny (model prog w) A (call (.builtin kO) [.ref l] [(Str.ofString eN,.ref q)]) Q E s:=by
 refine call_function_entry_kw kind_sorted plain_sorted entry_sorted (ksk_s1 _ _) ?_;unfold Builtin.«sorted»;refine VC (m:=checkCount kO 1 1 _)<|VN ?_;refine VC<|collect_list hl ?_ hz;refine VC<|wpAny_newList ?_ hz;have hsz:((s.heap.push<|seqObj eR #[] 0).update s.heap.objs.size (Obj.mapSeq (· ++vs.toArray))).objs.size=s.heap.objs.size+1:=by
  rw[Heap.size_update,size_push']
 have I:(((s.heap.push<|seqObj eR #[] 0).update s.heap.objs.size (Obj.mapSeq (· ++vs.toArray))).push<|seqObj eR vs.toArray 0).get? (s.heap.objs.size+1)=some (seqObj eR vs.toArray 0):=by
  rw[<-hsz];exact VL _ M
 have keep:∀b o,s.heap.get? b=some o->(((s.heap.push<|seqObj eR #[] 0).update s.heap.objs.size (Obj.mapSeq (· ++vs.toArray))).push<|seqObj eR vs.toArray 0).get? b=some o:=λb o q=>by
  have O:b<s.heap.objs.size:=VJ q;rw[Heap.get?_push_ne _ _ _ (by rw[hsz];exact Qz<|Xn O),Heap.get?_update_ne _ _ _ _ (Qz O),Heap.get?_push_ne _ _ _ (Qz O)];exact q
 have U:s.heap.objs.size<=(((s.heap.push<|seqObj eR #[] 0).update s.heap.objs.size (Obj.mapSeq (· ++vs.toArray))).push<|seqObj eR vs.toArray 0).objs.size:=by
  rw[size_push',hsz];lia
 show wpAny _ _ _ _ _ {s with heap:=((s.heap.push<|seqObj eR #[] 0).update s.heap.objs.size (Obj.mapSeq (· ++vs.toArray))).push (seqObj eR vs.toArray 0)};rw[hsz];refine VC (W4<|VV (wpAny_call_entry_kw (E:=λ_ _=>False) slot_list_sort {_,I,M} entry_list_sort ?body (ksk_l1 _ _)) (λ_ _ q=>q) λ_ _ f=>f.elim)
 case body=>
  show wpAny (model prog w) A.in1.in1 (Builtin.«list.sort» {[.ref (s.heap.objs.size+1)],[(Str.ofString eN,.ref q)]}) _ _ _;rw[ksk_t1];generalize ((s.heap.push<|seqObj eR #[] 0).update s.heap.objs.size (Obj.mapSeq (· ++vs.toArray))).push (seqObj eR vs.toArray 0)=h2 at I keep U⊢;refine zn (s:={s with heap:=h2}) (J2:=J2) (blt:=blt) (κ:=κ) I hz (λh' k hk kp=>w0 h' k (Qr U hk) λb o e=>kp b o (Qz<|Xn<|VJ e)<|keep b o e) wk turn G λk ks s' out c lk Wk pm pw ho=>{_,M,?_};exact VN {_,M,h k ks s' out c lk Wk pm pw ho}
end
end Srt
namespace L2
open PySem PyProof.Rows
variable{fd:Nj}{ps:Na}{xs:K'}{vs:L'}{m:Nat}{sp:Sp}
section
variable{X:Cx}{W:Mv}{B:St}{H:Hp}{s:He}
def WK(X:Cx)(W:Mv)(B:St)(s:He)(J:NA)(k:G')(ks:L')(s':He):Prop:=
 ∃(kv:K')(H':Hp),Inv X W B H' s'/\A7 kv ks/\J kv H'/\H' (s.heap.objs.size+1)=none/\H' k=none/\s.heap.objs.size<=k
def WK.zero{J:NA}(I:Inv X W B H s)(j:J [] H)(h':Heap)(k:G')(hk:s.heap.objs.size<=k)(keep:∀b o,s.heap.get? b=some o->h'.get? b=some o):WK X W B s J k [] {s with heap:=h'}:=
 {[],H,I.kept (t':=s.toks) keep,.nil,j,I.hok.fresh<|QX _,I.hok.fresh hk,hk}
def WK.kept{J:NA}(I:Inv X W B H s)(k:G')(ks:L')(s':He)(h':Heap)(b:G')(hb:b=s.heap.objs.size+1\/b=k)(J2:WK X W B s J k ks s')
  (keep:∀c o,c≠b->s'.heap.get? c=some o->h'.get? c=some o):WK X W B s J k ks {s' with heap:=h'}:=by
 let{kv,H',G,r,j,O,U,hk}:=J2;have z:H' b=none:=by rcases hb with e|e<;>rw[e]<;>assumption
 have Y:s.heap.objs.size<=b:=by
  rcases hb with e|e
  .rw[e];exact QX _
  .rwa[e]
 let{_,Z,_,f3,f4,f5}:=I.fpOk Y z;exact{kv,H',G.turned (t':=s'.toks) keep z Z f3 f4 f5,r,j,O,U,hk}
def WK.turn{J:NA}{k n q:G'}(I:Inv X W B H s)(F:AZ X.prog X.w X.K X.mg X.base KI m q fd ps sp)(hr:K7 (m+2) X.A)(hb:Binds X.K fd ps [])
  (rv:A7 xs vs) (step:∀kv x H',xs[kv.length]?=some x->J kv H'->sp [x] H' (λy H2=>J (kv++ [y]) H2) E0)
  (ks:L') (x:J') (s':He) (O U:Obj) (hx:vs[ks.length]?=some x) (J2:WK X W B s J k ks s') (h1:s'.heap.get? k=some O) (h2:s'.heap.get? (s.heap.objs.size+1)=some U)
  (c1:∀v,O.data≠ .cell v) (c2:∀v,U.data≠ .cell v):
  wpAny (model X.prog X.w) X.A.in1.in1 (call (.ref q) [x]) (λy G=>WK X W B s J k (ks++ [y]) G/\G.heap.get? k=some O/\G.heap.get? (s.heap.objs.size+1)=some U) (λ_ _=>False) s':=by
 let{kv,H',Z,r,j,n1,n2,hk}:=J2;have I2:Inv X ((k,O)::(s.heap.objs.size+1,U)::W) B H' s':=Z.pins_of λp hp=>by
  let{_,f1,f2,_}:=I.fpOk hk n2;let{_,g1,g2,_}:=I.fpOk (QX _) n1;rcases Qc.mp hp with rfl|hp
  .exact⟨h1,n2,f1,f2,c1⟩
  .rcases Qc.mp hp with rfl|hp
   .exact⟨h2,n1,g1,g2,c2⟩
   .exact Z.pin p<|Qp _ hp
 obtain⟨v,hv,rx⟩:∃v,xs[kv.length]?=some v/\RelV v x:=by
  rw[<-r.length]at hx;cases z:xs[kv.length]? with
  |none=>rw[rv.none_of z]at hx;cases hx
  |some v=>
   let{u,e1,e2}:=rv.get z;rw[hx]at e1;cases e1;exact⟨v,M,e2⟩
 have h:=step kv v H' hv j;have hl:([v]:K').length=ps.length:=F.len _ _ _ _ h;have e:=I2.env0;refine wpAny_call<|codeAny_mono (F.run X.A.in1.in1 X.stack s' H' {[x],[]} ([x]++ []) [v] _ E0 hr.in1.in1 e.in1.in1 (hb s' [x] Z.kIn hl) (.cons rx .nil) h) λr' G hq=>?_;cases r' with
 |error e=>exact False.elim hq
 |ok fl=>
  cases fl with
  |ret u=>
   let{y,H2,Y,ry,j2}:=I2.after hq;have p1:=Y.pin (k,O) (Qp _ Q7);have p2:=Y.pin (s.heap.objs.size+1,U) (Qp _<|Q8 _ Q7);exact{{kv++ [y],H2,Y.pins_of λp hp=>Y.pin p<|Qp _<|Q8 _<|Q8 _ hp,r.append<|.cons ry .nil,j2,p2.2.1,p1.2.1,hk},p1.1,p2.1}
  |next=>exact False.elim hq
  |brk=>exact False.elim hq
  |cont=>exact False.elim hq
def Inv.seen{L:G'}{o:HO}(I:Inv X W B H s)(f:gx X W H L)(new:E3 X.prog X.w (upd H L o) s.heap L o):Inv X W B (upd H L o) s:=by
 let{n,O,f2,U,Y,Z}:=f;have G:∀{b:G'}{u:HO},H b=some u->b≠L:=λ{b u} e z=>by rw[z,n]at e;cases e
 refine{I.ok,I.os,I.bare,{I.base.keep,I.base.slot,λb ob e hn hx=>?_,I.base.there,λb xs e=>?_,λb ob u e=>?_,λb ps e=>?_},I.loc,I.cell,?_,λx c e=>?_,λp hp=>?_,λb u e=>?_,I.len}
 .have nb:b≠L:=λz=>by
   rcases U with q|q
   .exact hx<|z▸q
   .exact VE (Qm (VJ e)<|z▸q)<|Zv _
  rw[ae nb];exact I.base.free b ob e hn hx
 .have q:=I.base.tups b xs e;rw[ae (G q)];exact q
 .have q:=I.base.frzs b ob u e;rw[ae (G q)];exact q
 .let{more,q}:=I.base.tbls b ps e;exact{more,by rw[ae (G q)];exact q}
 .rw[ae (Ne.symm O)];exact I.free
 .rw[ae (Y x c e)];exact I.freeC x c e
 .let{q1,q2,q3}:=I.pin p hp;exact{q1,by rwa[ae (Z p hp)],q3}
 .by_cases hb:b=L
  .subst hb;rw[ag]at e;cases e;exact new
  .rw[ae hb]at e;exact(I.hok b u e).stay (λc v _ q=>q) (λc q=>by rw[ae (G q)];exact q) λc xs q=>by rw[ae (G q)];exact q
def xJ{J:NA}{q p:G'}{Q:VK}{ky:V->List Int}(I:Inv X W B H s)(hz:xs.length<=sizeLine)(rv:A7 xs vs)(hl:s.heap.IsList p vs.toArray)
  (F:AZ X.prog X.w X.K X.mg X.base KI m q fd ps sp) (hr:K7 (m+2) X.A) (hb:Binds X.K fd ps []) (j0:J [] H)
  (step:∀kv x H',xs[kv.length]?=some x->J kv H'->sp [x] H' (λy H2=>J (kv++ [y]) H2) E0)
  (jk:∀kv H',J kv H'->∀(i:Nat)(x y:V),xs[i]?=some x->kv[i]?=some y->∃a,y= .ref a/\K2 H' a (ky x))
  (fin:∀l kv H' ys,kv.length=xs.length->J kv H'->H' l=none->ys.Perm xs->ys.Pairwise (λa b=>HT.lexLt (ky b) (ky a)=false)->Q (.ref l) (upd H' l<|.lst ys)):
  Wj X (call (.builtin kO) [.ref p] [(Str.ofString eN,.ref q)]) (EP X W B Q) X.xe s:=by
 have hi:vs.length<=sizeLine:=by rwa[<-rv.length]
 have at_:∀{ks:L'}{kv:K'}{z:Keyed},ks.length=vs.length->A7 kv ks->z∈ks.toArray.zip vs.toArray->∃(i:Nat)(x y:V),xs[i]?=some x/\kv[i]?=some y/\RelV x z.2/\RelV y z.1:=λ{ks kv z} lk r hz=>by
  have hm:z∈ks.zip vs:=by simpa using hz
  let{i,e}:=XM hm;rw[ZQ]at e;let{O,e2}:=e;cases a1:xs[i]? with
  |none=>rw[rv.none_of a1]at e2;cases e2
  |some x=>
   cases a2:kv[i]? with
   |none=>rw[r.none_of a2]at O;cases O
   |some y=>
    let{u,b1,b2}:=rv.get a1;let{u',b3,b4}:=r.get a2;rw[e2]at b1;rw[O]at b3;cases b1;cases b3;exact⟨i,x,y,a1,a2,b2,b4⟩
 refine Srt.sorted_anyK (J2:=WK X W B s J) (blt:=λ_ a b=>HT.lexLt (ky<|Ll a.2)<|ky<|Ll b.2) (κ:=tuples'<|Value.type nX !=Value.type i3) hl hi (λh' k hk keep=>WK.zero I j0 h' k hk keep) (λk ks s' h' b hb J2 keep=>WK.kept I k ks s' h' b hb J2 keep)
  (λk ks x s' o1 o2 hx J2 g1 g2 c1 c2=>WK.turn (n:=0) I F hr hb rv step ks x s' o1 o2 hx J2 g1 g2 c1 c2) (λk ks s' lk J2=>{Srt.cmp_of λa=>ky<|Ll a.2,λh2 Q' G=>?_,Srt.runs_of λa b E' Q' ha hb G=>?_}) λk ks s' out c lk J2 pm pw g=>?_
 .let{kv,H',Y,r,j,n1,n2,hk}:=J2;have all:∀y∈kv,∃a k,y= .ref a/\K2 H' a k:=λy hy=>by
   let{i,e}:=XM hy;cases a1:xs[i]? with
   |none=>
    have:=Zs.mp a1;have l1:=rv.length;have l2:=r.length;have:=(Q3.mp e).1;lia
   |some x=>
    let{a,O,e2}:=jk kv H' j i x y a1 e;exact{a,_,O,e2}
  have tups:∀(bs:K')(Z:L'),(∀y∈bs,∃a k,y= .ref a/\K2 H' a k)->A7 bs Z->∃fs:List Value,PySem.W.KatTups s'.heap Z fs/\(∀f∈fs,∃i t,f=Value.int i t)/\fs.length=Z.length:=by
   intro bs
   induction bs with
   |nil=>intro Z _ r;cases r;exact{[],.nil,λ_ h=>VE h QU,M}
   |cons b bs ih=>
    intro Z hk r;cases r with
    |cons r1 r2=>
     let{a,_,rfl,i,j,ha,_}:=hk b Q7;cases r1;let{fs,t,hi,hl}:=ih _ (λb hb=>hk b<|Q8 _ hb) r2;let{o,a0,n,U,e,c,d}:=iY Y ha λ_ _ z=>z;let{u1,u2,rfl,q1,q2}:=oY U;let{t1,rfl}:=q1;refine{Value.int i t1::fs,.cons e c d M t,λf hf=>?_,by rw[Ql,Ql,hl]};rcases Qc.mp hf with z|z
     .exact⟨i,t1,z⟩
     .exact hi f z
  let{fs,t,hi,hl}:=tups kv ks all r;refine Vd (T:= .type nX) t () (λv hv=>?_) ∅ G;let{i,t,rfl}:=hi v hv;exact PySem.W.Looks.of_pure M
 .let{kv,H',Y,r,j,n1,n2,hk}:=J2;let{i1,x1,y1,p1,p2,p3,p4}:=at_ lk r ha
  let{i2,x2,y2,p5,p6,p7,p8}:=at_ lk r hb
  let{a1,rfl,i,j,ea,ka}:=jk kv H' j i1 x1 y1 p1 p2;let{a2,rfl,i',j',eb,kb}:=jk kv H' ‹J kv H'› i2 x2 y2 p5 p6;have G:Q' (HT.lexLt (ky<|Ll a.2)<|ky<|Ll b.2) s':=G;rw[mJ p3,mJ p7,ka,kb,HT.lexLt_cons,HT.lexLt_cons,HT.lexLt_nil_nil]at G;have p4:a.1= .ref a1:=p4;have p8:b.1= .ref a2:=p8;rw[p4,p8];let{o,a7,n,a3,O,c1,d1}:=iY Y ea λ_ _ z=>z;let{u1,u2,rfl,{t1,rfl},{t2,rfl}}:=oY a3;let{o',a0,n',U,e2,c2,d2}:=iY Y eb λ_ _ z=>z;let{w1,w2,rfl,{t3,rfl},{t4,rfl}}:=oY U;refine Vx O d1 e2 d2<|Zz (SeqAt.EqAt.int_int _ _ _ _ _ _ _ _<|ZJ (λe=>ZF ?_)<|λe=>ZL ?_)
  .rw[VA (VP.mp e)]at G;refine Zz<|SeqAt.EqAt.int_int _ _ _ _ _ _ _ _ (ZJ (λe=>ZF ?_)<|λe=>ZL ?_)
   .rw[VA (VP.mp e)]at G;exact Vn<|by simpa using G
   .rw[Vz (VQ.mp e)]at G;exact XD _ _<|lt_int G
  .rw[Vz (VQ.mp e)]at G;exact oneLt_int G
 .let{kv,H',Y,r,j,n1,n2,hk}:=J2;have a4:kv.length=xs.length:=by rw[r.length,lk,rv.length]
  have a5:out.toList.Perm (ks.zip vs):=by
   have:=Xk.mp pm;simpa using this
  have e2:(out.map (·.2)).toList=out.toList.map (·.2):=Array.toList_map;have pv:((out.map (·.2)).toList).Perm vs:=by
   rw[e2];refine(a5.map _).trans<|Wd ?_;exact List.map_snd_zip<|QO lk.symm
  have hu:∀u∈(out.map (·.2)).toList,RelV (Ll u) u:=λu hu=>by
   let{x,_,r}:=nM rv (pv.mem_iff.mp hu);rwa[mJ r]
  have vy:=vY hu;have py:((out.map (·.2)).toList.map Ll).Perm xs:=by
   rw[<-Al rv];exact pv.map _
  refine{.ref<|s.heap.objs.size+1,upd H' (s.heap.objs.size+1) (.lst ((out.map (·.2)).toList.map Ll)),Y.seen ?_ {by rwa[py.length_eq],_,c,vy,?_},M,fin _ kv H' _ a4 j n1 py ?_}
  .let{f0,f}:=I.fpOk (QX _) n1;exact⟨f0,f⟩
  .rw[XI];exact g
  .rw[e2,QL];exact Qw.mpr pw
end
open PySem.Spec
variable{X:Cx}
section
variable{p pos kp:Pos}{e v:Expr}{te tk:TE}
inductive tQ(P:Mz)(w:Nb)(K:Wi)(mg:Nd)(base:Heap)(m:Nat)(Q:VK)(H2:Hp):V->V->Prop
 |mk(q p:G')(fd:Nj)(ps:Na)(sp:Sp)(xs:K')(ky:V->List Int)(J:NA):
  AZ P w K mg base KI m q fd ps sp->Binds K fd ps []->Do K H2 p xs->J [] H2->
  (∀kv x H',xs[kv.length]?=some x->J kv H'->sp [x] H' (λy H2=>J (kv++ [y]) H2) E0)->
  (∀kv H',J kv H'->∀(i:Nat)(x y:V),xs[i]?=some x->kv[i]?=some y->∃a,y= .ref a/\K2 H' a (ky x))->
  (∀l kv H' ys,kv.length=xs.length->J kv H'->H' l=none->ys.Perm xs->ys.Pairwise (λa b=>HT.lexLt (ky b) (ky a)=false)->Q (.ref l) (upd H' l<|.lst ys))->
  tQ P w K mg base m Q H2 (.ref p) (.ref q)
def CP(P:Mz)(w:Nb)(K:Wi)(mg:Nd)(base:Heap)(m:Nat)(te tk:TE):TE:=λB H Q=>te B H λx H1=>tk B H1 λy H2=>tQ P w K mg base m Q H2 x y
def zD(P:Mz)(w:Nb)(K:Wi)(mg:Nd)(base:Heap)(m:Nat)(O:X.prog=P)(e2:X.w=w)(U:X.K=K)(Y:X.mg=mg)(Z:X.base=base)(hr:K7 (m+2) X.A)(hg:Gl X kO)(hm:X.mg kO=none)(he:PE X e te)(hk:PE X v tk)
  (h1:starEach [e] X.env=(false,eval e X.env)::starEach [] X.env:=by rfl) (h2:backTo pos (starEach [e] X.env)=(false,eval e X.env)::backTo pos (starEach [] X.env):=by rfl) (h3:(backTo pos<|starEach [e] X.env).any (·.1)=false:=by rfl):
  PE X (.Call (.Name kO p) [e] [{some eN,v,kp}] pos) (CP P w K mg base m te tk):=by
 subst O e2 U Y Z;intro W s B H Q I h;refine W3<|m5 I hg hm lM ?_ (_) (_);refine callWith_kw (ED (aa he af h1 pos W s B H (λvs H1=>match vs with| [x]=>tk B H1 λy H2=>tQ X.prog X.w X.K X.mg X.base m Q H2 x y|_=>False) I ?_) λus s1 ⟨vs,H1,I1,r1,z⟩=>?_) h2 h3
 .exact h
 .match vs,r1,z with
  | [x],r1,z=>
   let{u,rfl,ru}:=jQ r1;refine kws_cons<|ED (hk W s1 B H1 _ I1 z) λu2 s2 zz=>?_;let{y,H2,G,ry,q2}:=zz;refine kws_nil ?_;cases q2 with
   |mk q l fd ps sp xs ky J F hb hq j0 step jk fin=>
    cases ru;cases (show u2=Value.ref q from ry);let{its,rv,pl,hz}:=G.list hq;exact xJ G hz rv pl.isList F hr hb j0 step jk fin
def Dk{params:Arguments}{body:Expr}{scope:Scope}{P:G'}{fd:Nj}(z:defaultsOf params X.env=([],[])){fr:Na}(G:xw X scope fr)(L:LamK X.K X.mg fd P)(e:fd.code=X.env.code):
  PE X (.Lambda params body scope pos) (G2 X params body scope pos P fr):=by
 let{c,I,O}:=L.ex;exact FS z G (e.symm.trans I) O L.blt
end
def Jj:bootBuiltins "set"=some (.type "set"):=by decide+kernel
def Cg(z:X.A.handled=none):e6 X (.type "set") (λvs H Q=>∃(p:G')(ns:Mu),vs=[.ref p]/\Do X.K H p (ns.map V.int)/\ns.length<4000/\
  ∀a,H a=none->Q (.ref a) (upd H a (.set (λk'=>(firstMet (λi=>ns.getD i 0) ns.length).any (· ==k')) (firstMet (λi=>ns.getD i 0) ns.length).length))):=by
 intro W s B H xs us Q I r h;let{p,ns,rfl,hq,hz,q}:=h;let{u,rfl,G}:=jQ r;cases G;let{its,rv,pl,_}:=I.list hq;have hi:IntsAre its ns:=sX rv;have hl:ns.length=its.length:=by have:=rv.length;rwa [Q0]at this
 have hb:scanBound=4096:=M;refine PySem.call_set_list z pl.isList (by simpa using hi) (by rw[Q9];lia) λh' tk hS hk=>?_;have e2:its.toArray.size=ns.length:=by rw[Q9,hl]
 rw[e2]at hS;exact{.ref s.heap.objs.size,_,I.laid (t':=tk) (λb o e=>hk b o (VJ e) e) (Q5 _) (show E3 X.prog X.w _ h' _ (.set _ _) from hS),M,q _<|I.hok.fresh (Q5 _)}
def Ci:e6 X (.builtin "len") (λvs H Q=>∃a S n,vs=[.ref a]/\H a=some (.set S n)/\Q (.int n) H):=by
 intro W s B H xs us Q I r h;let{a,S,n,rfl,e,q}:=h;let{u,rfl,G}:=jQ r;cases G;let{o,es,ep,t,O,z,hd,_,_,hb,hf,U}:=(show s.heap.SetOf (intKind X.prog X.w) a S n from I.hok a _ e);have Y:scanBound=4096:=M;refine PySem.call_len_set O z hd hf () ?_;subst U;exact{.int _,H,I.tok _,{_,M},q}
def tD{ns:Mu}(h:ns.Nodup):(firstMet (λi=>ns.getD i 0) ns.length).length=ns.length:=by
 have e:∀i,i<=ns.length->firstMet (λi=>ns.getD i 0) i=ns.take i:=by
  intro i
  induction i with
  |zero=>intro _;rw[List.take_zero];rfl
  |succ i I=>
   intro hi;rw[firstMet_succ,I ()];unfold step_dedup;have G:ns.getD i 0=ns[i]'():=by rw[Qs,Q4 ()];rfl
   rw[Vz ?_,Qo,Q4 (),G]
   .rfl
   .intro z;let{x,hx,e}:=Vc.mp z;have e:x=ns.getD i 0:=by simpa using e
    let{j,O,ej}:=QI hx;rw[Qe]at O;rw[ZH]at ej;have:=Z2.mp h j i () () ();exact this<|by rw[ej,e,G]
 rw[e _ (Q5 _),QG]
end L2
namespace Srt
open PySem PyProof.Rows
end Srt
namespace L2
open PySem PySem.Spec PyProof.Rows
variable{C D d:G'}{X:Cx}{c elt iter l tg:Expr}{H H1 H4:Hp}{Fin:Hp->Prop}{hi lo st:Int}{J:It}{R:It->Hp->Prop}{W:Mv}{kvs:Nu}{vs:List (Key×Value)}{cl:NB}{elts ifs:Np}{M' N':Na}{xs ys:K'}{ep i n:Nat}{ob:Obj}{pos px:Pos}{P:Mz}{K:Wi}{scope:Scope}{s:He}{B:St}{x y:Str}{nx:Nx}{Wh:St->VK->It->Hp->Prop}{te:TE}{g:TG}{wi:TI}{tb:TS}{tc:TT}{Q rt:VK}{RR:Value->Addr->Result->Shared->Prop}{E:Ng}{w:Nb}
def AM{k:Key}{v:J'}(h:(bL P w).is k v=true):RelV (kV k) v:=by
 rw[zI]at h;cases k with
 |inl i=>
  cases v with
  |int j t=>exact{t,by simp[kD,Value.isInt]at h;rw[h]}
  |_=>simp[kD,Value.isInt]at h
 |inr x=>
  cases v with
  |str y t=>exact{t,by simp[kD,Value.isStrOf]at h;rw[h]}
  |_=>simp[kD,Value.isStrOf]at h
inductive JU(K:Wi)(x:V)(vs:K')(H:Hp)(Q:VK):Prop
 |mk(sep:Str)(a:G')(ys:Na)(_:x= .str sep)(_:vs=[.ref a])(_:Do K H a (ys.map V.str))(_:sep.length<=16)(_:(ys.map (·.length)).sum+ys.length<=1048576)(_:Q (.str<|Txt.join sep ys) H)
theorem xG:∀{ys:Na}{its:L'},A7 (ys.map V.str) its->StrsAre its ys
 | [],_,.nil=> .nil
 |_::_,_,.cons ⟨t,e⟩ r=>by subst e;exact .cons _ _<|xG r
def FY:Mf X "str.join" (JU X.K):=by
 intro W s B H x vs v us Q I z rv h;let{G,a,ys,rfl,rfl,hS,h1,h2,q}:=h;let{t,rfl}:=z;let{u,rfl,O}:=rv.one;cases O;let{its,r,pl,_}:=I.list hS;exact join_listW pl.isList (by simpa using xG r) h1 h2 λt' k=>{.str _,H,I.tok _,⟨t',M⟩,q}
set_option tactic.hygienic true in
theorem ni{env:Env}:∀(l:List (Str×NameKind))(cs:NB),(∀p∈l,p.2= .free->∃c,env.cells.lookup p.1=some c)->
  ∃cl,(forIn l cs (λp cs=>if(p.2==NameKind.free)=true then cellOf env p.1>>=λa=>pure (ForInStep.yield ((p.1,a)::cs))else pure (ForInStep.yield cs)):Sem _)=pure cl/\
   (∀y c,cl.lookup y=some c->cs.lookup y=some c\/env.cells.lookup y=some c)/\(∀y c,cs.lookup y=some c->∃c',cl.lookup y=some c')/\(∀y,(y,NameKind.free)∈l->∃c,cl.lookup y=some c)
 | [],cs,_=>{cs,by rw[List.forIn_nil],λy c h=> .inl h,λy c h=>⟨c,h⟩,λy h=>nomatch h}
 |(n,k)::r,cs,h=>by
  rw[List.forIn_cons];by_cases hk:k= .free
  .subst hk;let{c,hc}:=h (n,.free) Q7 M;have hc:env.cells.lookup n=some c:=hc;have e:cellOf env n=pure c:=by unfold cellOf;rw[hc]
   let{cl,h1,h2,G,I}:=ni r ((n,c)::cs) λp hp=>h p (Q8 _ hp);refine{cl,?_,λy c' hy=>?_,λy c' hy=>?_,λy hy=>?_}
   .simp only[Wa,if_true,e,pure_bind];exact h1
   .rcases h2 y c' hy with q|q
    .rw[Zy]at q;split at q
     .rename_i z
      cases q;rw[VP]at z;subst z;exact .inr hc
     .exact .inl q
    .exact .inr q
   .by_cases z:y=n
    .exact G y c<|by rw[Zy,z];simp
    .exact G y c'<|by rwa[Zy,VQ.mpr z]
   .rcases Qc.mp hy with q|q
    .have O:y=n:=(Wb q).1;exact G y c<|by rw[Zy,O];simp
    .exact I y q
  .have hb:(k==NameKind.free)=false:=by simpa using hk
   let{cl,h1,h2,G,I}:=ni r cs λp hp=>h p (Q8 _ hp);refine{cl,?_,h2,G,λy hy=>?_}
   .simp only[hb,QP,if_false,pure_bind];exact h1
   .rcases Qc.mp hy with q|q
    .exact VE (Wb q).2.symm hk
    .exact I y q
def tI{env:Env}(h:∀p∈scope.names,p.2= .free->∃c,env.cells.lookup p.1=some c):
  ∃cl,closureFor scope env=pure cl/\(∀y c,cl.lookup y=some c->env.cells.lookup y=some c)/\(∀y,(y,NameKind.free)∈scope.names->∃c,cl.lookup y=some c):=by
 let{cl,h1,h2,_,G}:=ni scope.names [] h;refine{cl,?_,λy c hy=>(h2 y c hy).resolve_left λz=>by simp at z,G};unfold closureFor;simp only[bind_pure];exact h1
def La(X:Cx)(M' N':Na)(scope:Scope)(cl:NB)(C:G')(s₂:He)(H₂:Hp)(fp:Nc):Cx:=
 {X with N:=M'++N',s₀:=s₂,H₀:=H₂,env:=compEnvC scope cl C X.env,outer:=X.stack,stack:=X.stack,ex:=fp,fn:=λ_=>false,pn:=[],xe:=λ_ _=>False}
structure K5(X:Cx)(M' N':Na)(scope:Scope):Prop where
 kind:scope.kind= .function
 nd:(M'++N').Nodup
 ln:N'.length=X.N.length
 own:∀x∈M',scope.names.lookup x=some .local
 nocell:∀y∈scope.names,y.2≠ .cell
 names:∀y∈scope.names,y.2= .local->scope.names.lookup y.1=some .local
 free:∀y∈scope.names,y.2= .free->X.env.kindOf y.1=some .cell
 vis:∀(j:Nat)(y:Str),N'[j]?=some y->Ms (relabel scope X.env) y->X.N[j]?=some y/\(y,NameKind.free)∈scope.names/\(relabel scope X.env).names.lookup y=some .cell
 cells:∀y,((relabel scope X.env).names.lookup y=some .cell\/(relabel scope X.env).names.lookup y=some .free)->(y,NameKind.free)∈scope.names
def yN(n:Nat)(g:TG)(tc:TT)(te:TE)(B:St)(Q:VK)(J:It)(H1:Hp):Prop:=∀D,H1 D=none->∃J2:Nat->Nat->St->List V->Hp->Prop,(∃m,J2 0 m (List.replicate n none++B) [] (upd H1 D<|.lst []))/\∀i m τ ys H2,J2 i m τ ys H2->H2 D=some (.lst ys)->
 (J.stop i H2/\Q (.ref D) H2)\/(J.go i H2/\∀x H3,J.yld i H2 x H3->∃G:St->Hp->Prop,(∀τ2 H4,G τ2 H4->∃(Ny:VK)(Ns:Hp->Prop),(∀y H6,Ny y H6->H6 D=some (.lst ys)/\ys.length<sizeLine/\∃m',m'<m/\J2 (i+1) m' τ2 (ys++ [y]) (upd H6 D<|.lst<|ys++ [y]))/\
  (∀H5,Ns H5->H5 D=some (.lst ys)/\∃m',m'<m/\J2 (i+1) m' τ2 ys H5)/\tc τ2 H4 λb H5=>if b=true then te τ2 H5 Ny else Ns H5)/\g x τ H3 G)
def GX:TT:=λ_ H Q=>Q true H
def PTs(X:Cx)(ifs:Np)(tc:TT):Prop:=∀(W:Mv)(s:He)(B:St)(H:Hp)(Q:Bool->Hp->Prop),Inv X W B H s->tc B H Q->
 Wj X (forIn ifs true λc r=>if r=true then do let ok<-isTrue c X.env (eval c X.env);pure (ForInStep.yield ok)else pure (ForInStep.yield r)) (λb s'=>∃H',Inv X W B H' s'/\Q b H') X.xe s
def FL:PTs X [] GX:=λ_ _ _ H _ I h=>wpAny_tests_nil ⟨H,I,h⟩
def Av(h:PT X c tc):PTs X [c] tc:=λW s B H Q I q=>wpAny_tests_one (h W s B H Q I q)
def K5.pg{s₂:He}{z:Hp}{fp:Nc}(S:K5 X M' N' scope)(h:M'[i]?=some x):PG (La X M' N' scope cl C s₂ z fp) (.Name x px) (kF i):=
 Ay S.nd (by show(M'++N')[i]?=_;rwa[QV (Q3.mp h).1]) (.inl<|lookup_relabel_local<|S.own x<|Q2 h) (.inr<|lookup_relabel_local<|S.own x<|Q2 h)
structure HA(X:Cx)(W:Mv)(H:Hp)(C:G'):Prop where
 no:H C=none
 fr:C≠X.env.locals
 ab:X.s₀.heap.objs.size<=C
 ce:∀x c,X.env.cells.lookup x=some c->c≠C
 pi:∀p∈X.pn++W,p.1≠C
def vI(hc:X.calm=true)(S:K5 X M' N' scope)(hi:PI X tg iter wi)
  (hg:∀cl C s₂ Z fp,PG (La X M' N' scope cl C s₂ Z fp) tg g) (b6:∀cl C s₂ Z fp,PTs (La X M' N' scope cl C s₂ Z fp) ifs tc) (he:∀cl C s₂ Z fp,PE (La X M' N' scope cl C s₂ Z fp) elt te)
  (a0:∀y c,cl.lookup y=some c->X.env.cells.lookup y=some c) (ap:∀y,(y,NameKind.free)∈scope.names->∃c,cl.lookup y=some c) (I:Inv X W B H s) (h:wi B H R) (hB:∀J H,R J H->yN M'.length g tc te B Q J H)
  (hR:∀D C s4 H',Inv X W B H' s4->(∃m,s4.heap.Ns C m)->HA X W H' C->Q (.ref D) H'->RR (.ref D) C (.ok .next) s4):
  Wj X (eval iter X.env) (λv s1=>Wj X (pyIter v) (λay s2=>Wj X (newList []) (λMA s3=>
   Wj X (newFunctionEnv scope X.env.globals cl [] X.env.qual none .none<|some X.env) (λa5 s4=>
    codeAny (model X.prog X.w) X.A (.compStart (.ListComp elt [{tg,iter,ifs,0}] scope pos) 0 ay MA {a5 with scope:=relabel scope X.env}) (RR MA a5.locals) s4) X.xe s3) X.xe s2) X.xe s1) X.xe s:=by
 refine ED (hi W s B H _ I h) λv s1 h1=>ED h1 λay s2 h2=>?_;let{it,fp,tn,J,H2,e,O,T,st2,f2,h}:=h2;subst e;refine wpAny_newObj_type<|wpAny_newFunctionEnv S.nocell (by intro y hy;simp at hy) (λh₁ U Y=>?_) S.kind;dsimp only at U Y⊢;generalize hD:s2.heap.objs.size=D at*;generalize ac:s2.heap.push {cls:= .type eR,dict:=none,data:= .seq ([]:List Value).toArray}=h3 at U Y⊢;have a2:h3.objs.size=D+1:=by rw[<-ac,Heap.size_push,hD]
 have fD:H2 D=none:=O.hok.fresh (QO hD);let{J2,{m0,w0},turn}:=hB _ _ h D fD;generalize hC:h3.objs.size=C at*;have gD:s2.heap.get? D=none:=Wg (QO hD);have gC:s2.heap.get? C=none:=Wg (by rw[hD,a2];exact QX _);have DC:D≠C:=by rw[a2];exact Qz<|ZM _
 have ba:∀b o,s2.heap.get? b=some o->h3.get? b=some o:=λb o e=>by rw[<-ac];exact VB _ e
 have a7:∀b o,h3.get? b=some o->h₁.get? b=some o:=λb o e=>Y.extBut b o (by intro z;have:=VJ e;rw[z,hC]at this;exact VE this<|Zv _) (VB _ e);have up:∀b o,s2.heap.get? b=some o->h₁.get? b=some o:=λb o e=>a7 b o (ba b o e);have oD:h₁.get? D=some {cls:= .type eR,dict:=none,data:= .seq ([]:List Value).toArray}:=a7 _ _ (by rw[<-ac,<-hD];exact VL _ M);have a4:∀b∈fp,b≠C/\b∉LR X.stack:=λb hb=>by
  let{o,e,_}:=T.obj _ _ st2 b hb;refine{λz=>(by rw[z,gC]at e;cases e),λz=>?_};rcases Qc.mp (O.stkSub b z)with q|q
  .exact(f2 b hb).2.1 q
  .exact(f2 b hb).2.2.1 q
 have fC:H2 C=none:=O.hok.fresh (by rw[hD,a2];exact QX _);have ok:(La X M' N' scope cl C s2 H2 fp).Ok:=
  {mod:=O.ok.mod,kind:=S.kind,glob:=O.ok.glob,blt:=O.ok.blt,above:=by show s2.heap.objs.size<=C;rw[hD,a2];exact QX _
   inj:=λy z c h1 h2=>O.ok.inj y z c (a0 _ _ h1) (a0 _ _ h2),has:=λy hy=>ap y (S.cells y hy),cab:=λy c z=>by cases z
   hd:=O.ok.hd,frames:=O.ok.frames,stk:= .inl M,exf:=λb hb=>{(a4 b hb).1,λy c e=>(f2 b hb).2.2.2.2.1 y c<|a0 y c e}
   bs:=O.bs,bsz:=Qr O.ok.bsz O.sz
   noex:=λb o e hb=>by
    rcases(f2 b hb).2.2.2.1 with q|q
    .exact O.ok.noex b o e q
    .exact VE (Qm (VJ e)<|Qr O.ok.bsz q) (Zv _)
   exfs:=λb hb=>(a4 b hb).2,funs:=O.stack,frf:=O.stkFree}
 have bv:∀b u,H2 b=some u->b≠D:=λb u e=>aj e fD;have I3:Inv (La X M' N' scope cl C s2 H2 fp) [] (List.replicate M'.length none++B) (upd H2 D<|.lst []) {s2 with heap:=h₁,toks:=s2.toks+([]:NC).length}:=
  {ok:=ok,os:=rfl,bare:=O.bare,base:=Un.laid up (QO hD) fD
   loc:={_,U,λi y v e1 e2 e3=>by
    by_cases lt:i<M'.length
    .have e2:(List.replicate M'.length none++B)[i]?=some (some v):=e2;rw[QV (by rwa[Zq]),List.getElem?_replicate,VA lt]at e2;cases e2
    .have e1:(M'++N')[i]?=some y:=e1;have e2:(List.replicate M'.length none++B)[i]?=some (some v):=e2;rw[QS (V1.mp lt)]at e1;rw[QS (by rw[Zq];exact V1.mp lt),Zq]at e2;generalize i-M'.length=j at e1 e2;let{e1,q1,q2}:=S.vis j y e1 e3;have kc:=S.free _ q1 M;let{m,hn,hl}:=O.loc;let{u,r,l}:=hl j y v e1 e2 (.inr<|.inl kc);refine{u,r,?_};rcases l with⟨k,_⟩|⟨_,c,e,z⟩
     .rw[kc]at k;cases k
     .let{c',e'}:=ap y q1;have ee:=a0 _ _ e';rw[e]at ee;cases ee;let{o,ho,hd}:=z;exact .inr {.inl q2,c,e',o,up _ _ ho,hd}}
   cell:=λy c e=>by
    let{v,o,ho,hd}:=O.cell y c (a0 _ _ e);exact{v,o,up _ _ ho,hd}
   free:=by show upd H2 D (.lst []) C=none;rwa[ae DC.symm]
   freeC:=λy c e=>by
    have q:=O.freeC y c (a0 _ _ e);let{v,o,ho,hd}:=O.cell y c (a0 _ _ e);rw[ae (λz=>by rw[z,gD]at ho;cases ho)];exact q
   pin:=λp hp=>VE (show p∈([]:Mv) from hp) (by simp)
   hok:=O.hok.laid up (QO hD) {Qh _,[],0,.nil,oD}
   len:=by show(List.replicate M'.length none++B).length=(M'++N').length;rw[Qd,Qd,Zq,O.len,S.ln]}
 have a3:∀{H':Hp},(∀b∈fp,H' b=none)->∀b∈fp,gx (La X M' N' scope cl C s2 H2 fp) [] H' b:=λhn b hb=>
  {hn b hb,(a4 b hb).1,(a4 b hb).2,.inl hb,λy c e=>(f2 b hb).2.2.2.2.1 y c<|a0 _ _ e,λp hp=>VE (show p∈([]:Mv) from hp)<|by simp}
 have b1:tn 0 h₁:=T.keep _ _ _ st2 λb hb o e=>up b o e;have a8:∀s3:Shared,s3={s2 with heap:=h₁,toks:=s2.toks+([]:NC).length}->
   codeAny (model X.prog X.w) X.A (.compLoop (.ListComp elt [{tg,iter,ifs,0}] scope pos) 0 (.ref it) (.ref D)<|compEnvC scope cl C X.env) (RR (.ref D) C) s3:=by
  rintro s3 rfl;refine codeAny_loop M (λn s'=>∃i τ ys H',Inv (La X M' N' scope cl C s2 H2 fp) [] τ H' s'/\tn i s'.heap/\(∀b∈fp,H' b=none)/\H' D=some (.lst ys)/\J2 i n τ ys H') ?_ m0
   {0,_,[],_,I3,b1,λb hb=>by rw[ae (λz=>by let{o,e,_}:=T.obj _ _ st2 b hb;rw[z,gD]at e;cases e)];exact(f2 b hb).1,ag,w0}
  rintro n s' ⟨i,τ,ys,H',I',st',b2,bb,w'⟩;show wpAny _ X.A ((compTurn (.ListComp elt [{tg,iter,ifs,0}] scope pos) 0 (.ref it) (.ref D)<|compEnvC scope cl C X.env).onRaise<|λx=>do noteFrame x (compEnvC scope cl C X.env);theTreesLotGoes x) _ _ s';refine wpAny_noted ?_;rw[compTurn_list];refine VC<|wpAny_standAt (VC ?_);rcases turn i n τ ys H' w' bb with⟨b3,qn⟩|⟨go,step⟩
  .refine ED (T.done (La X M' N' scope cl C s2 H2 fp) M M M hc i [] s' _ H' _ I' (a3 b2) st' b3) λr s4 zz=>?_;let{hr,I4}:=zz;subst hr;refine VN ?_;let{m,hn,_}:=I4.loc;have IX:Inv X W B H' s4:=O.call' (s':=s4) I4.os (show Un (LR X.stack) fp H2 H' s2.heap s4.heap from I4.base) I4.hok I4.bare λb hb=>{(f2 b hb).2.2.2.1,(f2 b hb).2.1,(f2 b hb).2.2.2.2.1,(f2 b hb).2.2.2.2.2};refine hR D C s4 H' IX ⟨m,hn⟩ {I4.free,λz=>?_,?_,λy c e z=>?_,λp hp z=>?_} qn
   .have:=O.lt;rw[<-z,a2,hD]at this;exact VE this<|V1.mpr (QX _)
   .refine Qr O.sz ?_;rw[hD,a2];exact QX _
   .let{v,o,ho,_}:=O.cell y c e;rw[z,gC]at ho;cases ho
   .have ho:=(O.pin p hp).1;rw[z,gC]at ho;cases ho
  .refine ED (T.item (La X M' N' scope cl C s2 H2 fp) M M M hc i [] s' _ H' _ I' (a3 b2) st' go) λr s4 zz=>?_;let{u,hr,h4}:=zz;subst hr;refine VC<|ED h4 λ_ s5 a1=>?_;let{y,H5,I5,r5,y5,al,bc}:=a1;have be:=I5.pinned (a3 bc) (T.obj _ _ al);let{G,hG,gq}:=step y H5 y5;refine VC<|VV (hg cl C s2 H2 fp _ s5 _ H5 y _ _ be r5 gq) (λ_ s6 a1=>?_) λ_ _ f=>f.elim;let{b4,H6,I6,q6}:=a1;have fin:∀{b5:St}{H7:Hp}{s7:He},Inv (La X M' N' scope cl C s2 H2 fp) ([]++sk fp s5.heap) b5 H7 s7->tn (i+1) s7.heap/\∀b∈fp,H7 b=none:=λ{b5 H7 s7} I7=>by
    refine{T.keep _ _ _ al λb hb o e=>(I7.pin (b,o)<|Qp _<|Qp _<|jt hb e).1,λb hb=>?_};let{o,e,d}:=T.obj _ _ al b hb;exact(I7.pin (b,o)<|Qp _<|Qp _<|jt hb e).2.1
   let{Ny,Ns,hy,hn,q6}:=hG _ _ q6;refine VC<|VV (b6 cl C s2 H2 fp _ s6 _ H6 _ I6 q6) (λb s7 zz=>?_) λ_ _ f=>f.elim;let{H7,I7,q7}:=zz;cases b with
   |false=>
    rw[Vz Qa]at q7;let{bl,m',an,w7}:=hn _ q7;exact VN<|show _/\_ from{M,m',an,i+1,b4,ys,_,I7.unpinned,(fin I7).1,(fin I7).2,bl,w7}
   |true=>
    rw[VA M]at q7;refine VC<|VC (VV (he cl C s2 H2 fp _ s7 _ H7 _ I7 q7) (λz s8 a1=>?_) λ_ _ f=>f.elim);let{y',H8,I8,r8,q8}:=a1;let{bo,bt,m',an,w8}:=hy _ _ q8;refine VC<|VV (eh (X:=La X M' N' scope cl C s2 H2 fp) _ s8 _ H8 (.ref D) [y'] (.ref D) [z] (λ_ H9=>H9=upd H8 D (.lst<|ys++ [y'])) I8 M (.cons r8 .nil) ⟨D,ys,y',M,M,bo,bt,M⟩) (λz9 s9 a1=>?_) λ_ _ f=>f.elim;let{_,H9,I9,_,e9}:=a1;subst e9;exact VN<|VN {M,m',an,i+1,b4,ys++ [y'],_,I9.unpinned,(fin I9).1,(fin I9).2,ag,w8}
 exact codeAny_compStart_list (a8 _ M)<|T.self _ 0 _ _ _ b1 (a8 _ M)
def Inv.loose{h':Heap}(I:Inv X W B H s)(l:HA X W H C)(z:Heap.SameBut C s.heap h'):Inv X W B H {s with heap:=h'}:=
 I.turned (t':=s.toks) (λb o hb e=>(z.2 b hb).trans e) l.no l.fr (.inr l.ab) l.ce l.pi
section
variable{py spos:Pos}
def xX(hB:∀B Q J H,Wh B Q J H->yN M'.length g tc te B Q J H)(hc:X.calm=true)(S:K5 X M' N' scope)(hi:PI X tg iter wi)(hg:K5 X M' N' scope->∀cl C s₂ z fp,PG (La X M' N' scope cl C s₂ z fp) tg g)(O:∀cl C s₂ z fp,PTs (La X M' N' scope cl C s₂ z fp) ifs tc)(he:∀cl C s₂ z fp,PE (La X M' N' scope cl C s₂ z fp) elt te)
  (hs:∀x,foldedSetIterable iter X.env x=pure x:=by subst_eqs):PE X (.ListComp elt [{tg,iter,ifs,0}] scope pos) (λB H Q=>wi B H<|Wh B Q):=by
 intro W s B H Q I h;let{cl,G,U,Y}:=tI (env:=X.env) (scope:=scope) λp hp hf=>I.ok.has p.1 (.inl<|S.free p hp hf);rw[eval_ListComp];refine wpAny_comprehension_free (use:=none) M hs G S.kind S.names<|vI hc S hi (hg S) O he U Y I h (hB _ _) λD C s4 H' I4 Z l q=>?_;let{m,Z}:=Z;exact{m,Z,λh' sb=>{.ref D,H',I4.loose l sb,M,q}}
def Df(hB:∀B Q J H,Wh B Q J H->yN M'.length g tc te B Q J H)(hc:X.calm=true)(S:K5 X M' N' scope)(hi:PI X tg iter wi)(hg:K5 X M' N' scope->∀cl C s₂ G fp,PG (La X M' N' scope cl C s₂ G fp) tg g)(U:∀cl C s₂ G fp,PTs (La X M' N' scope cl C s₂ G fp) ifs tc)(he:∀cl C s₂ G fp,PE (La X M' N' scope cl C s₂ G fp) elt te)
  (hN:X.N.Nodup) (hy:X.N[i]?=some y) (hk:X.env.scope.names.lookup y=some .local) (Y:swapsWith (.ListComp elt [{tg,iter,ifs,0}] scope pos) (some<|.Name y py) spos.line X.env=pure true:=by rfl)
  (hs:∀x,foldedSetIterable iter X.env x=pure x:=by subst_eqs):PS X (.Assign [.Name y py] (.ListComp elt [{tg,iter,ifs,0}] scope pos) spos) (CV (λB H Q=>wi B H<|Wh B Q)<|kF i):=by
 intro W s B H D I h;let{cl,O,Z,a0}:=tI (env:=X.env) (scope:=scope) λp hp hf=>I.ok.has p.1 (.inl<|S.free p hp hf);rw[exec_Assign_Name_used _ _ _ _ Y];refine VC<|wpAny_standAt (VC ?_);show wpAny _ X.A (do let _<-comprehension (.ListComp elt [{tg,iter,ifs,0}] scope pos) scope X.env _ (newList []) false (eval iter X.env) (some<|assign (.Name y py) X.env)) _ _ s;refine VC (ED (wpAny_comprehension_free (use:=some<|assign (.Name y py) X.env) (Q:=λ_ s'=>SP X W D .next s') M hs O S.kind S.names
  (vI (Q:=λv H'=>D.nx (B.set i<|some v) H') hc S hi (hg S) U he Z a0 I h (hB _ _) λD' C s4 H' I4 hn l q=>?_)) λ_ s' hq=>VN<|VN hq)
 let{m,hn}:=hn;show wpAny _ X.A (assign (.Name y py) X.env<|.ref D') _ _ _;refine wpAny_assign_Name<|u9 (v:= .ref D') I4 hN hy (.inl hk) M (λs5 I5 a1=>?_) (.inr hk);let{a,sb,ha}:=a1;have ne:C≠a:=by
  rcases ha with z|z
  .rw[z];exact l.fr
  .exact Ne.symm<|l.ce _ _ z
 exact{m,hn.sameBut sb ne,λh' a2=>{_,H',I5.loose l a2,q}}
end
def zX(te:TE)(B:St)(Q:VK)(J:It)(H1:Hp):Prop:=∀D,H1 D=none->∃J2:Nat->Nat->List V->Hp->Prop,(∃m,J2 0 m [] (upd H1 D<|.lst []))/\∀i m ys H2,J2 i m ys H2->H2 D=some (.lst ys)->
 (J.stop i H2/\Q (.ref D) H2)\/(J.go i H2/\∀x H3,J.yld i H2 x H3->te (some x::B) H3 λy H4=>H4 D=some (.lst ys)/\ys.length<sizeLine/\∃m',m'<m/\J2 (i+1) m' (ys++ [y]) (upd H4 D<|.lst<|ys++ [y]))
def JL(wi:TI)(te:TE):TE:=λB H Q=>wi B H (zX te B Q)
def Km(h:zX te B Q J H1):yN 1 (kF 0) GX te B Q J H1:=λD hD=>by
 let{J2,{U,Y},turn}:=h D hD;refine{λi m O ys H=>(∃v,O=v::B)/\J2 i m ys H,{U,⟨none,M⟩,Y},λi m O ys H2 w e=>?_};let{{v,rfl},w}:=w;rcases turn i m ys H2 w e with z|⟨go,z⟩
 .exact .inl z
 .refine .inr {go,λx H3 y=>{λG H4=>G=some x::B/\H4=H3,λG H4 e=>?_,M,M}};let{rfl,rfl}:=e;refine{λy I=>I D=some (.lst ys)/\ys.length<sizeLine/\∃m',m'<m/\J2 (i+1) m' (ys++ [y]) (upd I D<|.lst<|ys++ [y]),λ_=>False,λy I n=>?_,λ_ n=>n.elim,?_}
  .let{Z,n2,m',n3,n4}:=n;exact{Z,n2,m',n3,{_,M},n4}
  .exact b9 (Wh:=False)<|z x _ y
def lD(hc:X.calm=true)(S:K5 X [x] N' scope)(hi:PI X (.Name x px) iter wi)(he:∀cl C s₂ z fp,PE (La X [x] N' scope cl C s₂ z fp) elt te)
  (hs:∀x,foldedSetIterable iter X.env x=pure x:=by subst_eqs):PE X (.ListComp elt [{.Name x px,iter,[],0}] scope pos) (JL wi te):=
 xX (Wh:=zX te) (λ_ _ _ _=>Km) hc S hi (λS _ _ _ _ _=>S.pg M) (λ_ _ _ _ _=>FL) he hs
noncomputable def xS(scope dsc:Scope):List (Str×NameKind):=scope.names.map λp=>if(p.2==NameKind.free&&dsc.kind==ScopeKind.function&&dsc.names.lookup p.1==some NameKind.cell)=true then(p.1,NameKind.cell)else(p.1,p.2)
def Hr(M' N N':Na)(dsc:Scope)(scope:Scope):Bool:=
 (scope.kind==ScopeKind.function)&&decide (M'++N').Nodup&&(M'.all λx=>scope.names.lookup x==some NameKind.local)&&(scope.names.all λy=>y.2 !=NameKind.cell)&&(scope.names.all λy=>y.2 !=NameKind.local||scope.names.lookup y.1==some NameKind.local)
 &&(scope.names.all λy=>y.2 !=NameKind.free||dsc.names.lookup y.1==some NameKind.cell)&&(N'.all λy=>(xS scope dsc).lookup y !=some NameKind.local&&(xS scope dsc).lookup y !=some NameKind.free)&&decide (N'.length=N.length)&&(N'.zip N).all λp=>p.1==p.2||(xS scope dsc).lookup p.1==none
set_option tactic.hygienic true in
theorem nU{dsc:Scope}:∀{l:List (Str×NameKind)}{y:Str}{k:NameKind},(∀p∈l,p.2≠NameKind.cell)->(l.map λp=>if(p.2==NameKind.free&&dsc.kind==ScopeKind.function&&dsc.names.lookup p.1==some NameKind.cell)=true then(p.1,NameKind.cell)else(p.1,p.2)).lookup y=some k->(k= .cell\/k= .free)->(y,NameKind.free)∈l
 | [],y,k,_,h,_=>by simp at h
 |(n,kk)::r,y,k,hn,h,hk=>by
  rw[Qt]at h;by_cases c:(kk==NameKind.free&&dsc.kind==ScopeKind.function&&dsc.names.lookup n==some NameKind.cell)=true
  .dsimp only at h;rw[VA c,Zy]at h;split at h
   .rename_i z
    rw[VP]at z;subst z;have:kk= .free:=by
     rw[Qj,Qj]at c;simpa using c.1.1
    rw[this];exact Q7
   .exact Q8 _<|nU (λp hp=>hn p<|Q8 _ hp) h hk
  .dsimp only at h;rw[Vz c,Zy]at h;split at h
   .rename_i z
    rw[VP]at z;subst z;cases h;rcases hk with e|e
    .exact VE e<|hn _ Q7
    .rw[e];exact Q7
   .exact Q8 _<|nU (λp hp=>hn p<|Q8 _ hp) h hk
def K5.of{dsc:Scope}{N:Na}(Y:X.N=N)(Z:X.env.scope=dsc)(h:Hr M' N N' dsc scope=true):K5 X M' N' scope:=by
 unfold Hr at h;simp only[Qj]at h;let{{{{{{{{h1,h2},h3},h4},h5},h6},h7},h8},h9}:=h;have I:(relabel scope X.env).names=xS scope dsc:=by rw[<-Z];rfl
 have G:∀y∈scope.names,y.2≠NameKind.cell:=λy hy=>by have:=QE.mp h4 y hy;simpa using this
 refine{by simpa using h1,VF h2,by rw[Y];exact VF h8,λx hx=>by simpa using QE.mp h3 x hx,G,λy hy e=>?_,λy hy e=>?_,λj y U v=>?_,λy e=>?_}
 .have:=QE.mp h5 y hy;rw[e]at this;simpa using this
 .have:=QE.mp h6 y hy;rw[e]at this;show X.env.scope.names.lookup y.1=_;rw[Z];simpa using this
 .have O:=QE.mp h7 y (Q2 U);have hz:∃z,N[j]?=some z/\(y,z)∈N'.zip N:=by
   have lj:=(Q3.mp U).1;have l8:N'.length=N.length:=VF h8;refine{N[j]'(),Q4 _,?_};refine Q2 (i:=j) ?_;rw[ZQ];exact{U,Q4 _}
  let{z,hz,mz}:=hz;have e9:=QE.mp h9 _ mz;unfold Ms at v;rw[I]at v⊢;have O:¬(xS scope dsc).lookup y=some NameKind.local/\¬(xS scope dsc).lookup y=some NameKind.free:=by simpa using O
  rcases v with v|v|v
  .exact VE v O.1
  .refine{?_,nU G v<|.inl M,v};rw[Y,hz];dsimp only at e9;rw[v,Bool.or_eq_true]at e9;rcases e9 with e9|e9
   .rw[VP]at e9;rw[e9]
   .cases e9
  .exact VE v O.2
 .have e:(xS scope dsc).lookup y=some .cell\/(xS scope dsc).lookup y=some .free:=by rwa[<-I]
  rcases e with e|e
  .exact nU G e<|.inl M
  .exact nU G e<|.inr M
abbrev _root_.Nv:=Nat->List V->Hp->Prop
def KL(n i:Nat)(ys:K')(D:G')(Pv:Nv):VK:=λy H4=>H4 D=some (.lst ys)/\ys.length<sizeLine/\∃m',m'<n-i/\m'=n-(i+1)/\i+1<=n/\Pv (i+1) (ys++ [y]) (upd H4 D<|.lst<|ys++ [y])
def KL.mk{Pv:Nv}{y:V}(hi:i<n)(h1:H4 D=some (.lst ys))(h2:ys.length<sizeLine)(z:Pv (i+1) (ys++ [y]) (upd H4 D<|.lst<|ys++ [y])):KL n i ys D Pv y H4:=
 {h1,h2,n-(i+1),(),M,hi,z}
def lK{a:G'}(Pv:Nv)(z:Pv 0 [] (upd H1 D<|.lst []))(hl:∀i ys H,i<=xs.length->Pv i ys H->Do K H a xs)
  (hs:∀i x ys H2,xs[i]?=some x->Pv i ys H2->H2 D=some (.lst ys)->te (some x::B) H2 (KL xs.length i ys D Pv))
  (hd:∀ys H2,Pv xs.length ys H2->H2 D=some (.lst ys)->Fin H2):
  ∃J2:Nat->Nat->List V->Hp->Prop,(∃m,J2 0 m [] (upd H1 D<|.lst []))/\∀i m ys H2,J2 i m ys H2->H2 D=some (.lst ys)->
   ((ME K a).stop i H2/\Fin H2)\/((ME K a).go i H2/\∀x H3,(ME K a).yld i H2 x H3->te (some x::B) H3 λy H4=>H4 D=some (.lst ys)/\ys.length<sizeLine/\∃m',m'<m/\J2 (i+1) m' (ys++ [y]) (upd H4 D<|.lst<|ys++ [y])):=by
 refine{λi m ys H=>m=xs.length-i/\i<=xs.length/\Pv i ys H,{xs.length,by simp,Qh _,z},?_};rintro i m ys H ⟨rfl,hi,p⟩ hD;have q:=hl i ys H hi p;by_cases lt:i<xs.length
 .refine .inr {{xs,xs[i],q,by simp[lt]},λx H' y=>?_};let{e,y}:=y;subst e;exact hs i x ys _ (y xs q) p hD
 .have e:i=xs.length:=();subst e;exact .inl {{xs,q,Q5 _},hd ys H p hD}
def zV(Pv:Nv)(z:Pv 0 [] (upd H1 D<|.lst []))
  (hs:∀i ys H2,i<n->Pv i ys H2->H2 D=some (.lst ys)->te (some (.int<|lo+i)::B) H2 (KL n i ys D Pv))
  (hd:∀ys H2,Pv n ys H2->H2 D=some (.lst ys)->Fin H2):
  ∃J2:Nat->Nat->List V->Hp->Prop,(∃m,J2 0 m [] (upd H1 D<|.lst []))/\∀i m ys H2,J2 i m ys H2->H2 D=some (.lst ys)->
   ((MI lo n).stop i H2/\Fin H2)\/((MI lo n).go i H2/\∀x H3,(MI lo n).yld i H2 x H3->te (some x::B) H3 λy H4=>H4 D=some (.lst ys)/\ys.length<sizeLine/\∃m',m'<m/\J2 (i+1) m' (ys++ [y]) (upd H4 D<|.lst<|ys++ [y])):=by
 refine{λi m ys H=>m=n-i/\i<=n/\Pv i ys H,{n,by simp,Qh _,z},?_};rintro i m ys H ⟨rfl,hi,p⟩ hD;by_cases lt:i<n
 .refine .inr {lt,λx H' y=>?_};let{e,y}:=y;subst e y;exact hs i ys _ lt p hD
 .have e:i=n:=();subst e;exact .inl {Q5 _,hd ys H p hD}
def xh(tc:TT)(te:TE)(B:St)(Q:VK)(J:It)(H1:Hp):Prop:=∀D,H1 D=none->∃J2:Nat->Nat->List V->Hp->Prop,(∃m,J2 0 m [] (upd H1 D<|.lst []))/\∀i m ys H2,J2 i m ys H2->H2 D=some (.lst ys)->
 (J.stop i H2/\Q (.ref D) H2)\/(J.go i H2/\∀x H3,J.yld i H2 x H3->tc (some x::B) H3 λb H4=>if b=true then te (some x::B) H4 λy H5=>H5 D=some (.lst ys)/\ys.length<sizeLine/\∃m',m'<m/\J2 (i+1) m' (ys++ [y]) (upd H5 D<|.lst<|ys++ [y])else H4 D=some (.lst ys)/\∃m',m'<m/\J2 (i+1) m' ys H4)
def CT(wi:TI)(tc:TT)(te:TE):TE:=λB H Q=>wi B H (xh tc te B Q)
def Hs(h:xh tc te B Q J H1):yN 1 (kF 0) tc te B Q J H1:=λD hD=>by
 let{J2,{Z,w0},turn}:=h D hD;refine{λi m Y ys H=>(∃v,Y=v::B)/\J2 i m ys H,{Z,⟨none,M⟩,w0},λi m Y ys H2 w e=>?_};let{{v,rfl},w}:=w;rcases turn i m ys H2 w e with z|⟨go,z⟩
 .exact .inl z
 .refine .inr {go,λx H3 y=>{λG H4=>G=some x::B/\H4=H3,λG H4 e=>?_,M,M}};let{rfl,rfl}:=e;refine{_,_,λy H6 n=>?_,λH5 n=>?_,z x _ y}
  .let{I,n2,m',O,U}:=n;exact{I,n2,m',O,{_,M},U}
  .let{I,m',O,U}:=n;exact{I,m',O,{_,M},U}
def kg{G:Expr}(hc:X.calm=true)(S:K5 X [x] N' scope)(hi:PI X (.Name x px) iter wi)(I:∀cl C s₂ z fp,PT (La X [x] N' scope cl C s₂ z fp) G tc)(he:∀cl C s₂ z fp,PE (La X [x] N' scope cl C s₂ z fp) elt te)
  (hs:∀x,foldedSetIterable iter X.env x=pure x:=by subst_eqs):PE X (.ListComp elt [{.Name x px,iter,[G],0}] scope pos) (CT wi tc te):=
 xX (Wh:=xh tc te) (λ_ _ _ _=>Hs) hc S hi (λS _ _ _ _ _=>S.pg M) (λ_ _ _ _ _=>Av<|I _ _ _ _ _) he hs
def Dg{G:Expr}{py spos:Pos}(hc:X.calm=true)(S:K5 X [x] N' scope)(hi:PI X (.Name x px) iter wi)(I:∀cl C s₂ z fp,PT (La X [x] N' scope cl C s₂ z fp) G tc)(he:∀cl C s₂ z fp,PE (La X [x] N' scope cl C s₂ z fp) elt te)
  (hN:X.N.Nodup) (hy:X.N[i]?=some y) (hk:X.env.scope.names.lookup y=some .local) (O:swapsWith (.ListComp elt [{.Name x px,iter,[G],0}] scope pos) (some<|.Name y py) spos.line X.env=pure true:=by rfl)
  (hs:∀x,foldedSetIterable iter X.env x=pure x:=by subst_eqs):PS X (.Assign [.Name y py] (.ListComp elt [{.Name x px,iter,[G],0}] scope pos) spos) (CV (CT wi tc te)<|kF i):=
 Df (Wh:=xh tc te) (λ_ _ _ _=>Hs) hc S hi (λS _ _ _ _ _=>S.pg M) (λ_ _ _ _ _=>Av<|I _ _ _ _ _) he hN hy hk O hs
def Kz(n i:Nat)(ys:K')(D:G')(Pv:Nv)(H4:Hp):Prop:=H4 D=some (.lst ys)/\∃m',m'<n-i/\m'=n-(i+1)/\i+1<=n/\Pv (i+1) ys H4
def Kz.mk{Pv:Nv}(hi:i<n)(h1:H4 D=some (.lst ys))(z:Pv (i+1) ys H4):Kz n i ys D Pv H4:={h1,n-(i+1),(),M,hi,z}
def jJ{a:G'}(Pv:Nv)(G:Pv 0 [] (upd H1 D<|.lst []))(hl:∀i ys H,i<=xs.length->Pv i ys H->Do K H a xs)
  (hs:∀i x ys H2,xs[i]?=some x->Pv i ys H2->H2 D=some (.lst ys)->tc (some x::B) H2 λb H4=>if b=true then te (some x::B) H4 (KL xs.length i ys D Pv)else Kz xs.length i ys D Pv H4)
  (hd:∀ys H2,Pv xs.length ys H2->H2 D=some (.lst ys)->Fin H2):
  ∃J2:Nat->Nat->List V->Hp->Prop,(∃m,J2 0 m [] (upd H1 D<|.lst []))/\∀i m ys H2,J2 i m ys H2->H2 D=some (.lst ys)->
   ((ME K a).stop i H2/\Fin H2)\/((ME K a).go i H2/\∀x H3,(ME K a).yld i H2 x H3->tc (some x::B) H3 λb H4=>if b=true then te (some x::B) H4 λy z=>z D=some (.lst ys)/\ys.length<sizeLine/\∃m',m'<m/\J2 (i+1) m' (ys++ [y]) (upd z D<|.lst<|ys++ [y])else H4 D=some (.lst ys)/\∃m',m'<m/\J2 (i+1) m' ys H4):=by
 refine{λi m ys H=>m=xs.length-i/\i<=xs.length/\Pv i ys H,{xs.length,by simp,Qh _,G},?_};rintro i m ys H ⟨rfl,hi,p⟩ hD;have q:=hl i ys H hi p;by_cases lt:i<xs.length
 .refine .inr {{xs,xs[i],q,by simp[lt]},λx H' y=>?_};let{e,y}:=y;subst e;exact hs i x ys _ (y xs q) p hD
 .have e:i=xs.length:=();subst e;exact .inl {{xs,q,Q5 _},hd ys H p hD}
noncomputable def Ml(a d:G'):HO:= .ext λh=>h.IsItemsView a d
def Itd(ob:Obj)(d:G')(kvs:Nu):It:=
 {λi H=>H d=some (.frz ob<|.dK kvs)/\i<kvs.length,λi H x H'=>∃p k v,x= .ref p/\H p=none/\kvs[i]?=some (k,v)/\H'=upd H p (.tup [kV k,v]),λi H=>H d=some (.frz ob<|.dK kvs)/\kvs.length<=i}
def DObj(P:Mz)(w:Nb)(ob:Obj)(d:G')(kvs:Nu)(vs:List (Key×Value))(ep:Nat):Prop:=
 KV kvs vs/\∀h:Heap,h.get? d=some ob->h.DictAt (bL P w) d vs ep
set_option tactic.hygienic true in
def KV.getI(h:KV kvs vs):∀{i:Nat}{k:Key}{v:V},kvs[i]?=some (k,v)->∃u,vs[i]?=some (k,u)/\RelV v u:=by
 induction h with
 |nil=>intro i k v e;simp at e
 |cons r t z=>
  rename_i p q ps qs
  intro i k v e;cases i with
  |zero=>
   simp at e;subst e;exact{q.2,by simp[show k=q.1 from r.1],r.2}
  |succ j=>
   let{u,h1,h2}:=z (i:=j) (by simpa using e);exact{u,by simpa using h1,h2}
def zc{x1}(it:G')(D:DObj P w ob d kvs vs ep):
  xq P w K (.Tuple elts x1 pos) (Itd ob d kvs) [it] it (λi h=>∃ok Y,IsItemIter h it d i vs.length ep ok Y) where
 mem:=by simp
 obj:=λi h st b hb=>by
  let{ok,Y,st}:=st;have z:b=it:=by simpa using hb
  subst z;exact{_,st,λv z=>by cases z}
 keep:=λi h h' st k=>by
  let{ok,Y,st}:=st;exact{ok,Y,k it (by simp) _ st}
 item:=by
  intro X hP hw hK hc i W s B H E I hf st hg;subst hP hw hK;let{ok,Y,st}:=st;let{hq,hi}:=hg;have fi:=hf it (by simp);let{G,_}:=I.hok d _ hq;have O:=D.2 s.heap G;obtain⟨⟨k,v⟩,hx⟩:∃kv,kvs[i]?=some kv:={kvs[i],by simp[hi]};let{u,hu,ru}:=KV.getI D.1 hx;refine wpAny_pyNext_items_item st O hu λkey h' Z g1 g3 gz g5=>{_,M,?_};refine wpAny_letOwnedTupleGo_items g1 λh2 k1 k2=>?_;have rk:RelV (kV k) key:=AM Z;have np:H s.heap.objs.size=none:=I.hok.fresh (Q5 _);have a0:s.heap.objs.size≠it:=ZC (VJ st);have keep:∀b o,b≠it->s.heap.get? b=some o->h2.get? b=some o:=λb o z q=>(k2.2 b z).trans (g5 b o z q);have U:h2.get? s.heap.objs.size=some {cls:= .type i3,data:= .seq #[key,u]}:=(k2.2 _ a0).trans g3;have Mi:∀b v,H b=some v->b≠it:=λb v q z=>by rw[z,fi.1]at q;cases q
  have un:Un (LR X.stack) [it] H (upd H s.heap.objs.size<|.tup [kV k,v]) s.heap h2:=by
   refine{λb o q n hb hx=>keep b o (λz=>hx<|by simp[z]) q,λb o q n hb hx=>{o.slots,keep b o (λz=>hx<|by simp[z]) q},λb o q n hx=>?_,
    λb o q hx=>{o,keep b o (λz=>hx<|by simp[z]) q},λb ys q=>?_,λb o v q=>?_,λb ps q=>{#[],?_}}
   .rwa[ae (Qz<|VJ q)]
   .rw[ae (aj q np)];exact q
   .rw[ae (aj q np)];exact q
   .rw[ae (aj q np),q];simp
  have hok:KN X.prog X.w (upd H s.heap.objs.size<|.tup [kV k,v]) h2:=λb v' q=>by
   by_cases z:b=s.heap.objs.size
   .subst z;rw[ag]at q;cases q;exact{by show 2<=sizeLine;decide,[key,u],.cons rk<|.cons ru .nil,_,U,M,_,M}
   .rw[ae z]at q;refine(I.hok b v' q).stay (λc o hc r=>?_) (λc r=>by rwa[ae (aj r np)]) λc ys r=>by rwa[ae (aj r np)]
    rcases hc with rfl|hc
    .exact keep _ _ (Mi _ _ q) r
    .exact keep _ _ (Mi _ _ hc) r
  have I2:Inv X W B (upd H s.heap.objs.size<|.tup [kV k,v]) {s with heap:=h2}:=I.call' (s':={s with heap:=h2}) M un hok I.bare λb hb=>by
   have z:gx X W H b:=hf b hb;exact⟨z.2.2.2.1,z.2.1,z.2.2.2.2.1,z.2.2.2.2.2⟩
  refine{.ref s.heap.objs.size,_,I2,M,{_,k,v,M,np,hx,M},⟨key,u,k1⟩,λb hb=>?_};have z:b=it:=by simpa using hb
  subst z;rw[ae (Ne.symm a0)];exact fi.1
 done:=by
  intro X hP hw hK hc i W s B H E I hf st hg;subst hP hw hK;let{ok,Y,st}:=st;let{hq,hi}:=hg;let{G,_}:=I.hok d _ hq;have O:=D.2 s.heap G;let{f0,f1,f2,f3,f4,f5}:=hf it (by simp);have hl:kvs.length=vs.length:=D.1.length;exact wpAny_pyNext_items_end (I.ok.hd hc) st O (by simp;lia) λh' eb=>{M,I.turned (t':=s.toks) (λb o hb e=>eb b o hb e) f0 f1 f3 f4 f5}
 self:=λ_ _ _ _ _ st h=>let⟨_,_,st⟩:=st;PySem.W.kcp_self st h
inductive Ib(x:V)(vs:K')(H:Hp)(Q:VK):Prop
 |mk(d kvs:_)(_:x= .ref d)(_:vs=[])(_:H d=some (.dK kvs))(_:∀a,H a=none->Q (.ref a) (upd H a<|Ml a d))
def x9:Mf X "dict.items" Ib:=by
 intro W s B H x vs v us Q I G rv h;let{d,kvs,rfl,rfl,hd,q}:=h;cases G;cases rv;let{z,lo,O,U,dd}:=yC I.hok hd;refine call_meetsIn Xq dd.typeIs PySem.F.entry_dict_items (PySem.F.args_dict_items_1 _) (meets_dict_items (bL X.prog X.w) d lo) {⟨O,dd⟩,?_};have new:(s.heap.push {cls:= .type "dict_items",data:= .fields #[.ref d]}).get? s.heap.objs.size=some {cls:= .type "dict_items",data:= .fields #[.ref d]}:=VL _ M;refine{.ref s.heap.objs.size,_,I.laid (t':=s.toks) (λb o e=>VB _ e) (Q5 _) (show E3 X.prog X.w _ _ _ (Ml s.heap.objs.size d) from{{_,new,M,M},{_,new},λh1 h2 p k=>?_}),M,q _<|I.hok.fresh (Q5 _)};let{o,e,c}:=p;exact{o,k o e,c}
def Inv.freeze{H:Hp}{d:G'}{kvs:Nu}(I:Inv X W B H s)(hd:H d=some (.dK kvs))(G:s.heap.get? d=some ob):Inv X W B (upd H d<|.frz ob<|.dK kvs) s:=by
 have own:∀b y,H b=some (.own y)->upd H d (.frz ob<|.dK kvs) b=some (.own y):=λb y q=>by rw[ae (λz=>by rw[z,hd]at q;cases q)];exact q
 have tup:∀b xs,H b=some (.tup xs)->upd H d (.frz ob<|.dK kvs) b=some (.tup xs):=λb xs q=>by rw[ae (λz=>by rw[z,hd]at q;cases q)];exact q
 have non:∀b,H b=none->upd H d (.frz ob<|.dK kvs) b=none:=λb q=>by rw[ae (λz=>by rw[z,hd]at q;cases q)];exact q
 refine{I.ok,I.os,I.bare,{I.base.keep,I.base.slot,λb o e n hx=>non b<|I.base.free b o e n hx,I.base.there,λb xs e=>tup b xs<|I.base.tups b xs e,λb o u e=>?_,λb ps e=>?_},I.loc,I.cell,non _ I.free,λx c e=>non c<|I.freeC x c e,λp hp=>?_,λb o e=>?_,I.len}
 .have:=I.base.frzs b o u e;rwa[ae (λz=>by rw[z,hd]at this;cases this)]
 .let{m,q}:=I.base.tbls b ps e;exact{m,by rw[ae (λz=>by rw[z,hd]at q;cases q)];exact q}
 .let{h1,h2,O}:=I.pin p hp;exact{h1,non _ h2,O}
 .by_cases z:b=d
  .subst z;rw[ag]at e;cases e;exact{G,(I.hok b _ hd).stay (λ_ _ _ q=>q) (λc q=>own c b q) tup}
  .rw[ae z]at e;exact(I.hok b o e).stay (λ_ _ _ q=>q) (λc q=>own c b q) tup
def Inv.thaw{H:Hp}{d:G'}{kvs:Nu}(I:Inv X W B H s)(hd:H d=some (.frz ob<|.dK kvs))(G:∀o u,X.H₀ d≠some (.frz o u)):Inv X W B (upd H d<|.dK kvs) s:=by
 have own:∀b y,H b=some (.own y)->upd H d (.dK kvs) b=some (.own y):=λb y q=>by rw[ae (λz=>by rw[z,hd]at q;cases q)];exact q
 have tup:∀b xs,H b=some (.tup xs)->upd H d (.dK kvs) b=some (.tup xs):=λb xs q=>by rw[ae (λz=>by rw[z,hd]at q;cases q)];exact q
 have non:∀b,H b=none->upd H d (.dK kvs) b=none:=λb q=>by rw[ae (λz=>by rw[z,hd]at q;cases q)];exact q
 refine{I.ok,I.os,I.bare,{I.base.keep,I.base.slot,λb o e n hx=>non b<|I.base.free b o e n hx,I.base.there,λb xs e=>tup b xs<|I.base.tups b xs e,λb o u e=>?_,λb ps e=>?_},I.loc,I.cell,non _ I.free,λx c e=>non c<|I.freeC x c e,λp hp=>?_,λb o e=>?_,I.len}
 .have:=I.base.frzs b o u e;rwa[ae (λz=>by rw[z]at e;exact G _ _ e)]
 .let{m,q}:=I.base.tbls b ps e;exact{m,by rw[ae (λz=>by rw[z,hd]at q;cases q)];exact q}
 .let{h1,h2,O}:=I.pin p hp;exact{h1,non _ h2,O}
 .by_cases z:b=d
  .subst z;rw[ag]at e;cases e;let{_,q}:=I.hok b _ hd;exact E3.stay (show E3 X.prog X.w H s.heap b (.dK kvs) from q) (λ_ _ _ q=>q) (λc q=>own c b q) tup
  .rw[ae z]at e;exact(I.hok b o e).stay (λ_ _ _ q=>q) (λc q=>own c b q) tup
def Inv.noFrz{H:Hp}{d:G'}{kvs:Nu}(I:Inv X W B H s)(hd:H d=some (.dK kvs)):∀o u,X.H₀ d≠some (.frz o u):=λo u e=>by
 have:=I.base.frzs d o u e;rw[hd]at this;cases this
def IU(te:TE):TI:=λB H R=>te B H λx H1=>∃a d kvs,x= .ref a/\H1 a=some (Ml a d)/\H1 d=some (.dK kvs)/\∀ob,R (Itd ob d kvs) (upd H1 d<|.frz ob<|.dK kvs)
def xU{x1}(hl:PE X l te):PI X (.Tuple elts x1 pos) l (IU te):=by
 intro W s B H R I h;refine ED (hl W s B H _ I h) λv s1 O=>?_;let{x,H1,U,r1,q1}:=O;let{a,d,kvs,e,ha,hd,q}:=q1;subst e;cases r1;let{z,lo,vs,Y,dd}:=yC U.hok hd;let{ep,G}:=dd.dictAt;let{vw,_,_}:=(show E3 X.prog X.w H1 s1.heap a (Ml a d) from U.hok a _ ha);let{ob,es,Z,rest}:=id G;refine wpAny_pyIter_items vw G ?_;have If:=U.freeze hd Z;refine{s1.heap.objs.size,[s1.heap.objs.size],_,_,_,M,If.kept (t':=s1.toks) λb o e=>VB _ e,zc _ {Y,λh e=>⟨ob,es,e,rest⟩},{_,_,VL _ M},λb hb=>?_,q ob};have e:b=s1.heap.objs.size:=by simpa using hb
 subst e;exact If.fpOk (Q5 _) (If.hok.fresh<|Q5 _)
inductive JD(t:TS)(D:iW)(B:St)(H:Hp):Prop
 |mk(d kvs:_)(_:H d=some (.dK kvs))(_:t {λσ' H'=>∃ob,H' d=some (.frz ob<|.dK kvs)/\D.nx σ' (upd H' d<|.dK kvs),λv H'=>∃ob,H' d=some (.frz ob<|.dK kvs)/\D.rt v (upd H' d<|.dK kvs),λσ' H'=>∃ob,H' d=some (.frz ob<|.dK kvs)/\D.bk σ' (upd H' d<|.dK kvs),λσ' H'=>∃ob,H' d=some (.frz ob<|.dK kvs)/\D.ct σ' (upd H' d<|.dK kvs)} B H)
def Aw{st:Stmt}{t:TS}(h:PS X st t):PS X st (JD t):=by
 intro W s B H D I ⟨d,kvs,hd,q⟩;have U:=I.noFrz hd;refine ED (h W s B H _ I q) λf s1 Y=>?_;cases f with
 |next=>let{z,Z,G,ob,e,O}:=Y;exact{z,_,G.thaw e U,O}
 |cont=>let{z,Z,G,ob,e,O}:=Y;exact{z,_,G.thaw e U,O}
 |brk=>let{z,Z,G,ob,e,O}:=Y;exact{z,_,G.thaw e U,O}
 |ret v=>let{x7,z,Z,G,r7,ob,e,O}:=Y;exact{x7,z,_,G.thaw e U,r7,O}
def tx(Pv:ND)(O:Pv 0 B H)(hl:∀i B H,i<=kvs.length->Pv i B H->H d=some (.frz ob<|.dK kvs))
  (hs:∀i k v p B H,kvs[i]?=some (k,v)->Pv i B H->H p=none->g (.ref p) B (upd H p<|.tup [kV k,v]) λG H2=>tb {Pv<|i+1,rt,nx,Pv<|i+1} G H2) (hd:∀B H,Pv kvs.length B H->nx B H):
  ∃J2:Nat->Nat->St->Hp->Prop,(∃m,J2 0 m B H)/\∀i m B H,J2 i m B H->
   ((Itd ob d kvs).stop i H/\nx B H)\/((Itd ob d kvs).go i H/\∃N:St->Hp->Prop,(∀I H',N I H'->∃m',m'<m/\J2 (i+1) m' I H')/\∀x H',(Itd ob d kvs).yld i H x H'->g x B H' λG H2=>tb ⟨N,rt,nx,N⟩ G H2):=by
 refine{λi m B H=>m=kvs.length-i/\i<=kvs.length/\Pv i B H,{kvs.length,by simp,Qh _,O},?_};rintro i m B H ⟨rfl,hi,p⟩;have q:=hl i B H hi p;by_cases lt:i<kvs.length
 .refine .inr {⟨q,lt⟩,Pv<|i+1,λI H' z=>{kvs.length-(i+1),(),M,lt,z},λx H' y=>?_};let{U,k,v,rfl,np,e,rfl}:=y;exact hs i k v U B H e p np
 .have e:i=kvs.length:=();subst e;exact .inl {{q,Q5 _},hd B H p}
section
variable(K:Wi)(hK:X.K=K)
include hK
theorem uP:e6 X (.builtin "len") (λxs H Q=>∃p ys,xs=[.ref p]/\(Do K H p ys\/LB K H p ys)/\Q (.int ys.length) H):=by subst hK;exact ax
theorem qR:IxR X (rIxT K):=by subst hK;exact fk
end
def vJ(hc:X.calm=true):e6 X (.builtin "min") (λxs H Q=>∃(p:G')(ns:Mu),xs=[.ref p]/\Do X.K H p (ns.map V.int)/\0<ns.length/\∀M',M'∈ns->(∀a∈ns,M'<=a)->Q (.int M') H):=by
 intro W s B H xs us Q I r h;let{p,ns,rfl,hq,G,q}:=h;let{u,rfl,U}:=jQ r;cases U;let{its,rv,pl,hz}:=I.list hq;have hi:IntsAre its ns:=sX rv;let{xs,e}:=hi.allInts.items;have z:ns=xs.toList.map (·.1):=by
  rw[<-hi.numsOf,<-nums_intItems,<-e]
 have hsz:0<xs.size:=by
  have O:=G;rw[z,Q0,Qg]at O;exact O
 have hl:=pl.isList;rw[e]at hl;refine min_intList (I.ok.hd hc) hl hsz λv h' tk Y hk=>?_;let{t,rfl}:=intItems_at Y;let{h1,h2}:=argBest_lt (numAt xs) (xs.size-1);refine{.int _,H,I.kept (t':=tk) hk,⟨t,M⟩,q _ ?_ λa ha=>?_}
 .rw[z,numAt_eq];exact getD_mem<|by rw[Q0,Qg];lia
 .rw[z]at ha;let{j,Z,rfl}:=mem_getD ha;rw[Q0,Qg]at Z;rw[<-numAt_eq];exact h2 j ()
inductive FH(x:V)(vs:K')(H:Hp)(Q:VK):Prop
 |mk(l:G')(xs:K')(k:Int)(y:V)(_:x= .ref l)(_:vs=[.int k,y])(_:H l=some (.lst xs))(_:0<=k)(_:k<=(xs.length:Int))(_:xs.length<sizeLine)(_:Q .non (upd H l<|.lst (xs.take k.toNat++y::xs.drop k.toNat)))
def vt:MtM X "list.insert" FH:=by
 intro W s B H x vs v us Q I Y rv h;let{l,xs,k,y,rfl,rfl,O,h0,hk,hz,q}:=h;cases Y;let{u1,u,rfl,{t,rfl},Z}:=rv.two;let{z,its,n,r,hl,e}:=I.lstM O;have G:¬(!Builtin.List.listFitsIndex k)=true:=by
  have U:=m4;rw[fitsIndex_both () ()];exact Qa
 have hsz:its.toArray.size<=sizeLine:=by rw[Q9];lia
 refine call_meets F.slot_list_insert {_,e,M} F.entry_list_insert (F.args_list_insert_3 _ _ _) (AutoListH.list_insert_list_int_val_1 l its.toArray n k t u G hsz) {e,?_};refine{.non,_,I.lset (its':=its.take k.toNat++u::its.drop k.toNat) O e ?_ ((r.take k.toNat).append<|.cons Z<|r.drop k.toNat) ?_,M,q}
 .have e0:(if k<0 then(k+((its.toArray.size:Nat):Int)).toNat else min k.toNat its.toArray.size)=k.toNat:=by
   rw[Vz (),Q9];lia
  show(its.toArray.extract 0 _).push u++its.toArray.extract _=_;rw[e0];simp;exact QB<|by rw[QN];lia
 .rw[Qd,Ql,Qe,QN];lia
def Itk(ob:Obj)(d:G')(kvs:Nu):It:=
 {λi H=>H d=some (.frz ob<|.dK kvs)/\i<kvs.length,λi H x H'=>H'=H/\∃k v,kvs[i]?=some (k,v)/\x=kV k,λi H=>H d=some (.frz ob<|.dK kvs)/\kvs.length<=i}
def Bp(it:G')(D:DObj P w ob d kvs vs ep):
  xq P w K tg (Itk ob d kvs) [it] it (λi h=>h.IsKeyIter it d i vs.length ep) where
 mem:=by simp
 obj:=λi h st b hb=>by
  have z:b=it:=by simpa using hb
  subst z;let{o,e,c,dd}:=st;exact{o,e,λv z=>by rw[dd]at z;cases z}
 keep:=λi h h' st k=>by
  let{o,e,r}:=st;exact{o,k it (by simp) _ e,r}
 item:=by
  intro X Y hw hK hc i W s B H E I hf st Z;subst Y hw hK;let{hq,hi}:=Z;let{f0,f1,f2,f3,f4,f5}:=hf it (by simp);let{G,_}:=I.hok d _ hq;have O:=D.2 s.heap G;obtain⟨⟨k,v⟩,hx⟩:∃kv,kvs[i]?=some kv:={kvs[i],by simp[hi]};let{u,hu,ru}:=KV.getI D.1 hx;refine wpAny_pyNext_dict_item st O hu λkey h' U st' sb=>?_;have I1:Inv X W B H {s with heap:=h'}:=I.turned (t':=s.toks) (λb o hb e=>(sb.2 b hb).trans e) f0 f1 f3 f4 f5;let{o,e,c,dd}:=id st';exact{key,M,sZ (s:={s with heap:=h'}) e c dd (_) {kV k,H,I1,AM U,⟨M,k,v,hx,M⟩,st',λb hb=>(hf b hb).1}}
 done:=by
  intro X Y hw hK hc i W s B H E I hf st Z;subst Y hw hK;let{hq,hi}:=Z;let{G,_}:=I.hok d _ hq;have O:=D.2 s.heap G;let{f0,f1,f2,f3,f4,f5}:=hf it (by simp);have hl:kvs.length=vs.length:=D.1.length;exact wpAny_pyNext_dict_end (I.ok.hd hc) st O (by simp;lia) λh' eb=>{M,I.turned (t':=s.toks) (λb o hb e=>eb b o hb e) f0 f1 f3 f4 f5}
 self:=λ_ _ _ _ _ st h=>wpAny_pyIter_keyiter st h
def Kf(te:TE):TI:=λB H R=>te B H λx H1=>∃d kvs,x= .ref d/\H1 d=some (.dK kvs)/\∀ob,R (Itk ob d kvs) (upd H1 d<|.frz ob<|.dK kvs)
def FN(hl:PE X l te):PI X tg l (Kf te):=by
 intro W s B H R I h;refine ED (hl W s B H _ I h) λv s1 O=>?_;let{x,H1,I1,r1,q1}:=O;let{d,kvs,e,hd,q}:=q1;subst e;cases r1;let{z,lo,vs,U,dd}:=yC I1.hok hd;let{ep,G}:=dd.dictAt;let{ob,es,Y,rest}:=id G;refine wpAny_pyIter_dict lo G ?_;have Z:=I1.freeze hd Y;refine{s1.heap.objs.size,[s1.heap.objs.size],_,_,_,M,Z.kept (t':=s1.toks) λb o e=>VB _ e,Bp _ {U,λh e=>⟨ob,es,e,rest⟩},{_,VL _ M,M,M},λb hb=>?_,q ob};have e:b=s1.heap.objs.size:=by simpa using hb
 subst e;exact Z.fpOk (Q5 _) (Z.hok.fresh<|Q5 _)
inductive HK(te:TE)(B:St)(H:Hp)(Q:VK):Prop
 |mk(d kvs:_)(_:H d=some (.dK kvs))(_:te B H λv H'=>∃ob,H' d=some (.frz ob<|.dK kvs)/\Q v (upd H' d<|.dK kvs))
def FQ{e:Expr}(h:PE X e te):PE X e (HK te):=by
 intro W s B H Q I ⟨d,kvs,hd,q⟩;have z:=I.noFrz hd;exact ED (h W s B H _ I q) λu s1 zz=>by let{x,H1,G,r1,ob,e,O}:=zz;exact{x,_,G.thaw e z,r1,O}
def zW(Pv:Nv)(G:Pv 0 [] (upd H1 D<|.lst []))(hl:∀i ys H,i<=kvs.length->Pv i ys H->H d=some (.frz ob<|.dK kvs))
  (hs:∀i k v ys H2,kvs[i]?=some (k,v)->Pv i ys H2->H2 D=some (.lst ys)->tc (some (kV k)::B) H2 λb H4=>if b=true then te (some (kV k)::B) H4 (KL kvs.length i ys D Pv)else Kz kvs.length i ys D Pv H4)
  (hd:∀ys H2,Pv kvs.length ys H2->H2 D=some (.lst ys)->Fin H2):
  ∃J2:Nat->Nat->List V->Hp->Prop,(∃m,J2 0 m [] (upd H1 D<|.lst []))/\∀i m ys H2,J2 i m ys H2->H2 D=some (.lst ys)->
   ((Itk ob d kvs).stop i H2/\Fin H2)\/((Itk ob d kvs).go i H2/\∀x H3,(Itk ob d kvs).yld i H2 x H3->tc (some x::B) H3 λb H4=>if b=true then te (some x::B) H4 λy z=>z D=some (.lst ys)/\ys.length<sizeLine/\∃m',m'<m/\J2 (i+1) m' (ys++ [y]) (upd z D<|.lst<|ys++ [y])else H4 D=some (.lst ys)/\∃m',m'<m/\J2 (i+1) m' ys H4):=by
 refine{λi m ys H=>m=kvs.length-i/\i<=kvs.length/\Pv i ys H,{kvs.length,by simp,Qh _,G},?_};rintro i m ys H ⟨rfl,hi,p⟩ hD;have q:=hl i ys H hi p;by_cases lt:i<kvs.length
 .refine .inr {⟨q,lt⟩,λx H' y=>?_};let{rfl,k,v,e,rfl}:=y;exact hs i k v ys _ e p hD
 .have e:i=kvs.length:=();subst e;exact .inl {{q,Q5 _},hd ys H p hD}
inductive FG(x:V)(vs:K')(H:Hp)(Q:VK):Prop
 |mk(a kvs k y:_)(_:x= .ref a)(_:vs=[kV k,y])(_:H a=some (.dK kvs))(_:kvs.length<sizeLine)(_:(∀v,aP kvs k=some v->Q v H))(_:(aP kvs k=none->Q y (upd H a<|.dK<|bj kvs k y)))
def BN:Mf X "dict.setdefault" FG:=by
 intro W s B H x vs v us Q I Z rv h;let{a,kvs,k,y,rfl,rfl,U,hl,q1,q2}:=h;cases Z;let{u,r,rfl,ru,Y}:=qY rv;let{z,hd,ws,O,dd}:=yC I.hok U;have G:=O.val k;refine call_meetsIn Vo dd.typeIs PySem.F.entry_dict_setdefault (PySem.F.args_dict_setdefault_3 _ _ _) (kt_meets_setdefault (bL X.prog X.w) a (vB ru) hd r) {ws,dd,by rwa[<-O.length],λv hv=>?_,λhn h' dd' hs=>?_}
 .rw[hv]at G;cases e:aP kvs k with
  |none=>rw[e]at G;exact G.elim
  |some x=>
   rw[e]at G;exact{x,H,I.tok _,G,q1 x e}
 .rw[hn]at G;cases e:aP kvs k with
  |some x=>rw[e]at G;exact G.elim
  |none=>
   have he:∃q,h'.get? a=some q:=by let{q,_,_,hq,_}:=dd';exact⟨q,hq⟩
   have lp:=cG kvs k y;exact{y,_,xf I (by rw[U];exact VU) hs he<|Em () hd (O.put k Y) dd',Y,q2 e}
def Cq(lo st:Int)(n:Nat):It:={λi _=>i<n,λi H x H'=>H'=H/\x= .int (lo+i*st),λi _=>n<=i}
def xC(it:G')(lo st:Int)(n:Nat):xq P w K tg (Cq lo st n) [it] it (λi h=>IsRangeIter h it (lo+(i:Nat)*st) ((n:Int)-(i:Nat)) st) where
 mem:=by simp
 obj:=λi h G b hb=>by
  have e:b=it:=by simpa using hb
  subst e;exact{_,G,λv z=>by
   have z':Data.fields _=Data.cell v:=z;cases z'}
 keep:=λi h h' G k=>k it (by simp) _ G
 item:=by
  intro X O hw hK hc i W s B H E I hf G U;subst O hw hK;let{Y,Z,f2,f3,f4,f5}:=hf it (by simp);have J2:=Walks.range (prog:=X.prog) (w:=X.w) (I.ok.hd hc) it lo st n;refine J2.item i s _ _ U G λv h' tk hv st' kk=>?_;let{t,rfl}:=hv;have I1:Inv X W B H {s with heap:=h',toks:=tk}:=I.turned (λb o hb e=>kk b o (by simpa using hb) e) Y Z f3 f4 f5;exact{_,M,sZ (s:={s with heap:=h',toks:=tk}) (n:="range_iterator") st' M M (_) {.int<|lo+i*st,H,I1,⟨t,M⟩,⟨M,M⟩,st',λb hb=>(hf b hb).1}}
 done:=by
  intro X O hw hK hc i W s B H E I hf G U;subst O hw hK;let{Y,Z,f2,f3,f4,f5}:=hf it (by simp);exact wpAny_pyNext_range_end (I.ok.hd hc) G (by have:n<=i:=U;lia) λh' eb=>{M,I.turned (t':=s.toks) (λb o hb e=>eb b o hb e) Y Z f3 f4 f5}
 self:=λ_ _ _ _ _ G h=>wpAny_pyIter_rangeiter G h
noncomputable def m9(lo hi st:Int):Nat:=(Builtin.Range.rangeSize lo hi st).toNat
def lX(h:0<st):Builtin.Range.rangeSize lo hi st=if lo<hi then(hi-lo-1)/st+1 else 0:=by
 unfold Builtin.Range.rangeSize;rw[VA h]
def wG(h:0<st)(z:0<=lo)(h1:0<=hi):0<=Builtin.Range.rangeSize lo hi st/\Builtin.Range.rangeSize lo hi st<=hi:=by
 rw[lX h];split
 .have a:0<=(hi-lo-1)/st:=XE () ();have b:(hi-lo-1)/st<=hi-lo-1:=Int.ediv_le_self _ ();lia
 .lia
def BC{t u v:Tok}{tk:Nat}(I:Inv X W B H s)(h1:0<=lo)(h2:lo<2^30)(Y:0<=hi)(Z:hi<2^30)(U:0<st)(h6:st<2^30)
  (q:R (Cq lo st<|m9 lo hi st) H):Wj X (pyIter<|.ref s.heap.objs.size) (PIE X W B tg R) E {s with heap:=s.heap.push {cls:= .type iQ,data:= .fields #[.int lo t,.int hi u,.int st v]},toks:=tk}:=by
 have bd:=wG (lo:=lo) (hi:=hi) U h1 Y;refine wpAny_pyIter_range (IsRange.new ..) ?_ ?_
 .unfold Builtin.Range.small;simp only[Builtin.Range.rangeFitsLong,Qj,Bool.or_eq_true,VR,VP,U,if_true];generalize Builtin.Range.rangeSize lo hi st=n at bd⊢;have z:(2:Int)^63=9223372036854775808:=by decide
  have G:(2:Int)^30=1073741824:=by decide
  rw[G]at h2 Z h6
  try rw[z]
  lia
 have O:Inv X W B H {s with heap:=s.heap.push {cls:= .type iQ,data:= .fields #[.int lo t,.int hi u,.int st v]},toks:=tk}:=I.kept λb o e=>VB _ e;refine{(s.heap.push {cls:= .type iQ,data:= .fields #[.int lo t,.int hi u,.int st v]}).objs.size,[(s.heap.push {cls:= .type iQ,data:= .fields #[.int lo t,.int hi u,.int st v]}).objs.size],_,_,H,M,
  O.kept (t':=tk) λb o e=>VB _ e,xC _ lo st<|m9 lo hi st,?_,λb hb=>?_,q}
 .have e1:lo+((0:Nat):Int)*st=lo:=by simp
  have e2:((m9 lo hi st:Nat):Int)-((0:Nat):Int)=Builtin.Range.rangeSize lo hi st:=by unfold m9;lia
  show IsRangeIter _ _ (lo+((0:Nat):Int)*st) (((m9 lo hi st:Nat):Int)-((0:Nat):Int)) st;rw[e1,e2];exact VL _ M
 .have e:b=(s.heap.push {cls:= .type iQ,data:= .fields #[.int lo t,.int hi u,.int st v]}).objs.size:=by simpa using hb
  subst e;exact O.fpOk (Q5 _)<|O.hok.fresh (Q5 _)
def Kc(ta:TA):TI:=λB H R=>ta B H λvs H1=>∃i j k:Int,vs=[.int i,.int j,.int k]/\(0<=i/\i<2^30/\0<=j/\j<2^30/\0<k/\k<2^30)/\R (Cq i k<|m9 i j k) H1
def BE{a b:Expr}{ta:TA}{p:Pos}(Z:Gl X iQ)(hm:X.mg iQ=none)(ha:PA X [a,b,c] ta)(hs:starEach [a,b,c] X.env=[(false,eval a X.env),(false,eval b X.env),(false,eval c X.env)]:=by rfl)
  (z:starEach [b,c] X.env=[(false,eval b X.env),(false,eval c X.env)]:=by rfl):PI X tg (.Call (.Name iQ p) [a,b,c] [] pos) (Kc ta):=by
 intro W s B H R I h;refine Call_<|m5 I Z hm boot_range (PyProof.Rows.callWith_type1 (ED (ha pos W s B H _ I h) λus s1 O=>?_) (by rw[hs,z])<|by rw[z];rfl);let{vs,H1,I1,r1,U}:=O;let{i,j,k,e,{U,q2,q3,q4,q5,q6},q}:=U;subst e;cases r1 with
 |cons r G=>
  cases G with
  |cons r' G=>
   cases G with
   |cons Y G=>
    cases G;let{t,rfl}:=r;let{t',rfl}:=r';let{a0,rfl}:=Y;exact call_range_3 () (BC I1 U q2 q3 q4 q5 q6 q)<|.inl (PyProof.noPylong_small ())
def yw(Pv:ND)(O:Pv 0 B H)
  (hs:∀i B H,i<n->Pv i B H->g (.int<|lo+i*st) B H λz H2=>tb {Pv<|i+1,rt,nx,Pv<|i+1} z H2) (hd:∀B H,Pv n B H->nx B H):
  ∃J2:Nat->Nat->St->Hp->Prop,(∃m,J2 0 m B H)/\∀i m B H,J2 i m B H->
   ((Cq lo st n).stop i H/\nx B H)\/((Cq lo st n).go i H/\∃N:St->Hp->Prop,(∀G H',N G H'->∃m',m'<m/\J2 (i+1) m' G H')/\∀x H',(Cq lo st n).yld i H x H'->g x B H' λz H2=>tb ⟨N,rt,nx,N⟩ z H2):=by
 refine{λi m B H=>m=n-i/\i<=n/\Pv i B H,{n,by simp,Qh _,O},?_};rintro i m B H ⟨rfl,hi,p⟩;by_cases I:i<n
 .refine .inr {I,Pv<|i+1,λG H' U=>{n-(i+1),(),M,I,U},λx H' y=>?_};let{e,y}:=y;subst e y;exact hs i B _ I p
 .have e:i=n:=();subst e;exact .inl {Q5 _,hd B H p}
open Srt
section
variable{X:Cx}
def K3f(H:Hp)(a:G')(k:Mu):Prop:=∃i j m:Int,H a=some (.tup [.int i,.int j,.int m])/\k=[i,j,m]
def qZ{x y z:V}{its:L'}(r:A7 [x,y,z] its):∃u v w,its=[u,v,w]/\RelV x u/\RelV y v/\RelV z w:=by
 cases r with
 |cons r1 r=>
  let{v,w,rfl,h2,G}:=qY r;exact{_,v,w,M,r1,h2,G}
def uO:e6 X (.builtin kO) (λvs H Q=>∃(p:G')(as:Nc)(ky:Addr->List Int),vs=[.ref p]/\Do X.K H p (as.map V.ref)/\(∀a∈as,K3f H a (ky a))/\
  ∀(l:G')(bs:Nc),H l=none->bs.Perm as->bs.Pairwise (λa b=>HT.lexLt (ky b) (ky a)=false)->Q (.ref l) (upd H l<|.lst<|bs.map V.ref)):=by
 intro W s B H xs us Q I r h;let{p,as,ky,rfl,hq,hk,q}:=h;let{u,rfl,ru}:=jQ r;cases ru;let{its,rv,pl,hz}:=I.list hq;refine vc (κ:=tuples'<|Value.type nX !=Value.type i3) (ky:=kRef ky) I hz rv pl.isList (λh' k h2 Q' G=>?_) (λh' k x y u v E' Q' hx hy rx ry G=>?_) λl ys hl pm pw=>?_
 .have tups:∀(bs:Nc)(U:L'),(∀a∈bs,K3f H a (ky a))->A7 (bs.map V.ref) U->∃fs:List Value,PySem.W.KatTups h' U fs/\(∀f∈fs,∃i t,f=Value.int i t)/\fs.length=U.length:=by
   intro bs
   induction bs with
   |nil=>intro U _ r;cases r;exact{[],.nil,λ_ h=>VE h QU,M}
   |cons a bs ih=>
    intro U hk r;cases r with
    |cons r1 r2=>
     cases r1;let{fs,t,hi,hl}:=ih _ (λb hb=>hk b<|Q8 _ hb) r2;let{i,j,m,ha,_}:=hk a Q7;let{o,Y,n,O,e,c,d}:=iY I ha k;let{u1,u2,u3,rfl,q1,q2,q3}:=qZ O;let{Z,rfl}:=q1;refine{Value.int i Z::fs,.cons e c d M t,λf hf=>?_,by rw[Ql,Ql,hl]};rcases Qc.mp hf with z|z
     .exact⟨i,Z,z⟩
     .exact hi f z
  let{fs,t,hi,hl}:=tups as its hk rv;refine Vd (T:= .type nX) t () (λv hv=>?_) ∅ G;let{i,t,rfl}:=hi v hv;exact PySem.W.Looks.of_pure M
 .let{a,ha,rfl}:=Qk.mp hx;let{b,hb,rfl}:=Qk.mp hy;cases rx;cases ry;let{i,j,m,ea,ka}:=hk a ha;let{i',j',m',eb,kb}:=hk b hb;have G:Q' (HT.lexLt (ky a)<|ky b) {s with heap:=h'}:=G;rw[ka,kb,HT.lexLt_cons,HT.lexLt_cons,HT.lexLt_cons,HT.lexLt_nil_nil]at G;let{o,a2,n,a0,e1,c1,d1}:=iY I ea k;let{u1,u2,u3,rfl,{Z,rfl},{t2,rfl},{t5,rfl}}:=qZ a0;let{o',Y,n',O,e2,c2,d2}:=iY I eb k;let{w1,w2,w3,rfl,{t3,rfl},{t4,rfl},{t6,rfl}}:=qZ O;refine Vx e1 d1 e2 d2<|Zz (SeqAt.EqAt.int_int _ _ _ _ _ _ _ _<|ZJ (λe=>ZF ?_)<|λe=>ZL ?_)
  .rw[VA (VP.mp e)]at G;refine Zz<|SeqAt.EqAt.int_int _ _ _ _ _ _ _ _ (ZJ (λe=>ZF ?_)<|λe=>ZL ?_)
   .rw[VA (VP.mp e)]at G;refine Zz<|SeqAt.EqAt.int_int _ _ _ _ _ _ _ _ (ZJ (λe=>ZF ?_)<|λe=>ZL ?_)
    .rw[VA (VP.mp e)]at G;exact Vn<|by simpa using G
    .rw[Vz (VQ.mp e)]at G;exact XD _ _<|lt_int G
   .rw[Vz (VQ.mp e)]at G;exact XD _ _<|lt_int G
  .rw[Vz (VQ.mp e)]at G;exact oneLt_int G
 .let{bs,rfl,a1}:=vk pm;exact q l bs hl a1<|Qw.mp pw
end
end L2
namespace L2
open PySem PySem.Spec PyProof.Rows
variable{X:Cx}{tg:Expr}{P:Mz}{K:Wi}{te:TE}{w:Nb}
def Jk:bootBuiltins "all"=some (.builtin "all"):=by decide+kernel
def Ew{bs:List Bool}:∀{us:L'},A7 (bs.map V.bl) us->LSm.BoolsAre us bs:=by
 induction bs with
 |nil=>intro us r;rw[Xv]at r;cases r;exact .nil
 |cons b bs z=>
  intro us r;rw[Qt]at r;cases r with
  |cons r1 G=>
   cases r1;exact .cons b<|z G
def Cj(hc:X.calm=true):e6 X (.builtin "all") (λxs H Q=>∃(p:G')(bs:List Bool),xs=[.ref p]/\Do X.K H p (bs.map V.bl)/\Q (.bl<|bs.all id) H):=by
 intro W s B H xs us Q I r h;let{p,bs,rfl,hq,q}:=h;let{u,rfl,O}:=jQ r;cases O;let{its,rv,pl,hz}:=I.list hq;have hb:=Ew rv;have hl:=pl.isList;have z:p<s.heap.objs.size:=by let{_,e,_}:=hl;exact VJ e
 refine call_all_walk<|wpAny_pyIter_list hl ?_;refine{s.heap.objs.size,[s.heap.objs.size,p],[s.heap.objs.size],its.toArray.size,_,_,λi=>(bs[i]?).getD true,M,Walks.list (A:=X.A.in1) (I.ok.hd hc) _ p (Qz z) its.toArray,
  {{_,VL _ M,M,M},hl.push _},λi v s' Q' E' U G=>?_,λh' tk hk=>?_}
 .let{b,e,rfl}:=hb.get i v (by simpa using U);simp only[e,Option.getD_some]at G;exact VZ G
 .have e:((List.range its.toArray.size).all λi=>(bs[i]?).getD true)=bs.all id:=by
   rw[Q9,hb.length];exact LSm.range_all bs
  rw[e];exact{.bl _,H,I.kept (t':=tk)<|LSm.kept_iter hk,M,q}
def uQ:e6 X (.type nX) (λxs H Q=>∃z n,xs=[.str z]/\PySem.intText? z=some n/\z.length<=640/\Q (.int n) H):=by
 intro W s B H xs us Q I r h;let{z,n,rfl,G,hl,q}:=h;let{u,rfl,t,rfl}:=jQ r;exact PySem.W.KIN.call_text G hl {.int _,H,I.tok _,{_,M},q}
inductive rSlS(x:V)(lo hi:No)(H:Hp)(Q:VK):Prop
 |mk(z:_)(_:x= .str z)(_:z.length<=sizeLine)(_:Q (.str<|Txt.slice z lo hi) H)
def mN:SlR X rSlS:=by
 intro W s B H x v Y Z lo hi sl Q I U hs pl G h;let{z,rfl,hz,q}:=h;let{t,rfl}:=U;refine{"str",_,PyProof.Rows.slot_str_getitem.lookup,typeIs_str _ _ _,?_};have fin:∀t' k,EP X W B Q (.str (Txt.slice z lo hi) t') {s with toks:=k}:=λt' k=>{.str _,H,I.kept (t':=k)<|λb o e=>e,{_,M},q};cases pl with
 |none=>
  cases G with
  |none=>exact wpAny_getItem_str_slice (l:=none) (u:=none) (st:=none) hs M<|post_val_or_str {Qr (Txt.slice_le z _ _) hz,λt' k=>fin t' k}
  |int j u=>exact wpAny_getItem_str_slice (l:=none) (u:=some (j,u)) (st:=none) hs M<|post_val_or_str {Qr (Txt.slice_le z _ _) hz,λt' k=>fin t' k}
 |int i O=>
  cases G with
  |none=>exact wpAny_getItem_str_slice (l:=some (i,O)) (u:=none) (st:=none) hs M<|post_val_or_str {Qr (Txt.slice_le z _ _) hz,λt' k=>fin t' k}
  |int j u=>exact wpAny_getItem_str_slice (l:=some (i,O)) (u:=some (j,u)) (st:=none) hs M<|post_val_or_str {Qr (Txt.slice_le z _ _) hz,λt' k=>fin t' k}
def MV(z:Str):It:={λi _=>i<z.cps.size,λi H x H'=>H'=H/\∃c,z.cps[i]?=some c/\x= .str {#[c]},λi _=>z.cps.size<=i}
def zd(it:G')(z:Str)(t:Tok):xq P w K tg (MV z) [it] it (λi h=>h.IsStrIter it "str_ascii_iterator" z t i) where
 mem:=by simp
 obj:=λi h st b hb=>by
  have e:b=it:=by simpa using hb
  subst e;let{o,e,c,d}:=st;exact{o,e,λv z=>by rw[d]at z;cases z}
 keep:=λi h h' st k=>by
  let{o,e,r}:=st;exact{o,k it (by simp) _ e,r}
 item:=by
  intro X O hw hK hc i W s B H E I hf st G;subst O hw hK;let{U,Y,f2,Z,f4,f5}:=hf it (by simp);have G:i<z.cps.size:=G;refine wpAny_pyNext_ascii_item st (c:=z.cps[i]) (by simp[G]) λh' st' a0=>?_;have I1:Inv X W B H {s with heap:=h',toks:=s.toks+1}:=I.turned (λb o hb e=>a0.extBut b o hb e) U Y Z f4 f5;let{o,e,c,d}:=id st';exact{_,M,sZ (s:={s with heap:=h',toks:=s.toks+1}) e c d (_) {.str {#[z.cps[i]]},H,I1,{_,M},{M,_,by simp[G],M},st',λb hb=>(hf b hb).1}}
 done:=by
  intro X O hw hK hc i W s B H E I hf st G;subst O hw hK;let{U,Y,f2,Z,f4,f5}:=hf it (by simp);have G:z.cps.size<=i:=G;exact wpAny_pyNext_ascii_end (I.ok.hd hc) st (by simp[G]) λh' eb=>{M,I.turned (t':=s.toks) (λb o hb e=>eb b o hb e) U Y Z f4 f5}
 self:=λ_ _ _ _ _ st h=>wpAny_pyIter_striter_ascii st h
def Bl(it:G')(z:Str)(t:Tok):xq P w K tg (MV z) [it] it (λi h=>h.IsStrIter it "str_iterator" z t i) where
 mem:=by simp
 obj:=λi h st b hb=>by
  have e:b=it:=by simpa using hb
  subst e;let{o,e,c,d}:=st;exact{o,e,λv z=>by rw[d]at z;cases z}
 keep:=λi h h' st k=>by
  let{o,e,r}:=st;exact{o,k it (by simp) _ e,r}
 item:=by
  intro X O hw hK hc i W s B H E I hf st G;subst O hw hK;let{U,Y,f2,Z,f4,f5}:=hf it (by simp);have G:i<z.cps.size:=G;refine wpAny_pyNext_wide_item st (c:=z.cps[i]) (by simp[G]) λh' st' a0=>?_;have I1:Inv X W B H {s with heap:=h',toks:=s.toks+1}:=I.turned (λb o hb e=>a0.extBut b o hb e) U Y Z f4 f5;let{o,e,c,d}:=id st';exact{_,M,sZ (s:={s with heap:=h',toks:=s.toks+1}) e c d (_) {.str {#[z.cps[i]]},H,I1,{_,M},{M,_,by simp[G],M},st',λb hb=>(hf b hb).1}}
 done:=by
  intro X O hw hK hc i W s B H E I hf st G;subst O hw hK;let{U,Y,f2,Z,f4,f5}:=hf it (by simp);have G:z.cps.size<=i:=G;exact wpAny_pyNext_wide_end (I.ok.hd hc) st (by simp[G]) λh' eb=>{M,I.turned (t':=s.toks) (λb o hb e=>eb b o hb e) U Y Z f4 f5}
 self:=λ_ _ _ _ _ st h=>wpAny_pyIter_striter_wide st h
def iStr(te:TE):TI:=λB H R=>te B H λx H1=>∃z,x= .str z/\R (MV z) H1
def Ij{l:Expr}(hl:PE X l te):PI X tg l (iStr te):=by
 intro W s B H R I h;refine ED (hl W s B H _ I h) λv s1 O=>?_;let{x,H1,G,r1,U}:=O;let{z,e,q}:=U;subst e;let{t,rfl}:=r1;cases ha:z.cps.all (· <128)
 .refine wpAny_pyIter_wide ha {s1.heap.objs.size,[s1.heap.objs.size],_,_,H1,M,G.kept (t':=s1.toks) λb o e=>VB _ e,Bl _ z t,{_,VL _ M,M,M},λb hb=>?_,q};have e:b=s1.heap.objs.size:=by simpa using hb
  subst e;exact G.fpOk (Q5 _)<|G.hok.fresh (Q5 _)
 .refine wpAny_pyIter_ascii ha {s1.heap.objs.size,[s1.heap.objs.size],_,_,H1,M,G.kept (t':=s1.toks) λb o e=>VB _ e,zd _ z t,{_,VL _ M,M,M},λb hb=>?_,q};have e:b=s1.heap.objs.size:=by simpa using hb
  subst e;exact G.fpOk (Q5 _)<|G.hok.fresh (Q5 _)
inductive FF(x:V)(vs:K')(H:Hp)(Q:VK):Prop
 |mk(a d:_)(_:x= .str a)(_:vs=[.str d])(_:Q (.bl<|Txt.startswith a d) H)
def vq:Mf X "str.startswith" FF:=by
 intro W s B H x vs v us Q I z rv h;let{a,d,rfl,rfl,q}:=h;let{t,rfl}:=z;let{u,rfl,G}:=rv.one;let{t',rfl}:=G;exact SC.startswith {.bl _,H,I,M,q}
def Er{z:Str}{D:G'}{B:St}{H1:Hp}{Fin:Hp->Prop}(Pv:Nv)(G:Pv 0 [] (upd H1 D<|.lst []))
  (hs:∀i c ys H2,z.cps[i]?=some c->Pv i ys H2->H2 D=some (.lst ys)->te (some (.str {#[c]})::B) H2 (KL z.cps.size i ys D Pv))
  (hd:∀ys H2,Pv z.cps.size ys H2->H2 D=some (.lst ys)->Fin H2):
  ∃J2:Nat->Nat->List V->Hp->Prop,(∃m,J2 0 m [] (upd H1 D<|.lst []))/\∀i m ys H2,J2 i m ys H2->H2 D=some (.lst ys)->
   ((MV z).stop i H2/\Fin H2)\/((MV z).go i H2/\∀x H3,(MV z).yld i H2 x H3->te (some x::B) H3 λy H4=>H4 D=some (.lst ys)/\ys.length<sizeLine/\∃m',m'<m/\J2 (i+1) m' (ys++ [y]) (upd H4 D<|.lst<|ys++ [y])):=by
 refine{λi m ys H=>m=z.cps.size-i/\i<=z.cps.size/\Pv i ys H,{z.cps.size,by simp,Qh _,G},?_};rintro i m ys H ⟨rfl,hi,p⟩ hD;by_cases lt:i<z.cps.size
 .refine .inr {lt,λx H' y=>?_};let{e,c,I,y}:=y;subst e y;exact hs i c ys _ I p hD
 .have e:i=z.cps.size:=();subst e;exact .inl {Q5 _,hd ys H p hD}
abbrev sg(z:Str):List Nat:=z.cps.toList
def fO(z:Str):z.length=(sg z).length:=by show z.cps.size=_;simp[sg]
def wv{a b:Str}(h:sg a=sg b):a=b:=by cases a;cases b;congr 1;exact Array.toList_inj.mp h
def rc(z:Str)(c:Nat):Txt.startswith z {#[c]}=decide ((sg z).head?=some c):=by
 have h:=StrLaws.subAt_one z c 0;unfold Txt.startswith
 rw[Xe,Qj,VR,h,VR,List.head?_eq_getElem?]
def zo(z:Str)(lo hi:No)(is:List Nat)(e:Builtin.Str.strSliceIndices lo hi 1 z.length=is)(h:is.filterMap (z.cps[·]?)=is.filterMap ((sg z)[·]?)):sg (Txt.slice z lo hi)=if is.length=z.length then sg z else is.filterMap ((sg z)[·]?):=by
 unfold Txt.slice;rw[e];by_cases c:is.length=z.length
 .rw[VA c,VA (by simp[c])]
 .rwa[Vz c,Vz (by simp[c]),sg]
def xK(z:Str):sg (Txt.slice z (some 1) none)=(sg z).drop 1:=by
 have L:=fO z;have G:∀is:List Nat,is.filterMap (z.cps[·]?)=is.filterMap ((sg z)[·]?):=λis=>by congr 1;funext i;simp[sg]
 rcases QZ z.length with q|q
 .have I:sg z=[]:=Xc ();have le:=Txt.slice_le z (some 1) none;have:(sg<|Txt.slice z (some 1) none)=[]:=Xc (by rw[<-fO];lia);rw[this,I];rfl
 .have e:Builtin.Str.strSliceIndices (some 1) none 1 z.length=Builtin.Str.strSliceIndices (some ((1:Nat):Int)) (some (z.length:Int)) 1 z.length:=by
   unfold Builtin.Str.strSliceIndices;simp;rw[Vz (show ¬((z.length:Nat):Int)<0 by lia)];congr 1;lia
  rw[zo z _ _ _ (e.trans<|StrLaws.strSliceIndices_plain (a:=1) (b:=z.length) ()<|Q5 _) (G _)];rw[Vz (by simp;lia)];rw[StrLaws.picks (sg z) (z.length-1) 1 ()];exact QB<|by rw[QN];lia
open PySem.Builtin PySem.Builtin.Str
variable{E Q:Ng}
section
variable{X:Cx}
def Bu(l:List (Str×Tok)):A7 ((l.map (·.1)).map V.str) (strValues l):=by
 induction l with
 |nil=>exact .nil
 |cons a r z=>exact .cons ⟨a.2,M⟩ z
def Lb{prog:Mz}{w:Nb}{A:Nh}{s:He}{x y:Str}{t u:Tok}(hy:(y.length==0)=false)
  (hq:∀(l:List (Str×Tok))(k:Nat),l.map (·.1)=Txt.split x y->Q (.ref s.heap.objs.size) {s with heap:=s.heap.push {cls:= .type eR,data:= .seq (strValues l).toArray},toks:=k})
  (hsz:x.length<=sizeLine) (hsz2:(Txt.split x y).length<=sizeLine):
  wpAny (model prog w) A (call (.builtin "str.split") [.str x t,.str y u]) Q E s:=by
 cases h1:(decide (x.length<y.length)||decide (strKind x<strKind y))
 .cases hf:(occurrences x y 0 x.length<|x.length+1).isEmpty
  .have es:Txt.split x y=partsBetween x (occurrences x y 0 x.length<|x.length+1) y.length:=(Vz<|ne_true_of_eq_false h1).trans (Vz<|ne_true_of_eq_false hf);refine call_meets F.slot_str_split (typeIs_str _ _ _) F.entry_str_split (F.args_str_split_2 _ _) (meets_str_split_sep x y t u h1 hy hf hsz<|es▸hsz2) ?_;show wants Q E _ {s with toks:=_,heap:=s.heap.push {cls:= .type eR,data:= .seq (strsFrom s.toks<|partsBetween x (occurrences x y 0 x.length<|x.length+1) y.length).toArray}};rw[strsFrom_eq];exact hq (numbered s.toks _) _<|(numbered_texts _ _).trans es.symm
  .exact call_meets F.slot_str_split (typeIs_str _ _ _) F.entry_str_split (F.args_str_split_2 _ _) (meets_str_split_not_found x y t u h1 hy hf)
    (hq [(x,t)] s.toks ((Vz<|ne_true_of_eq_false h1).trans<|VA hf).symm)
 .exact call_meets F.slot_str_split (typeIs_str _ _ _) F.entry_str_split (F.args_str_split_2 _ _) (meets_str_split_cannot_occur x y t u h1)
   (hq [(x,t)] s.toks (VA h1).symm)
inductive Ia(x:V)(vs:K')(H:Hp)(Q:VK):Prop
 |mk(a d:_)(_:x= .str a)(_:vs=[.str d])(_:1<=d.length)(_:a.length<=100000)(_:∀l,H l=none->Q (.ref l) (upd H l<|.lst<|(Txt.split a d).map V.str))
def DF:Mf X "str.split" Ia:=by
 intro W s B H x vs v us Q I G rv h;let{a,d,rfl,rfl,O,Y,q}:=h;let{t,rfl}:=G;let{u,rfl,U}:=rv.one;let{t',rfl}:=U;have big:100001<=sizeLine:=by decide
 have w:=split_weight a d O;have Z:(Txt.split a d).length<=100001:=();refine Lb (by simp;lia) (λl k hl=>?_) () ();have z:=Bu l;rw[hl]at z;refine{.ref s.heap.objs.size,_,I.laid (t':=k) (o:= .lst<|(Txt.split a d).map V.str) (λb ob q=>VB _ q) (Q5 _) ?_,M,q _<|I.hok.fresh (Q5 _)};exact{by rw[Q0];lia,_,0,z,VL _ M}
def aH{e:Expr}{es:Np}{te:TE}{t:TA}(ha:PE X e te)(z:PA X es t)(hs:starEach (e::es) X.env=(false,eval e X.env)::starEach es X.env):PA X (e::es) (Ao te t):=aa ha z hs
end
def jn(c:Nat):List Str->List Nat
 | []=> []
 | [a]=>sg a
 |a::b::r=>sg a++c::jn c (b::r)
theorem wu(c:Nat):∀l:List Str,sg (Str.join {#[c]} l)=jn c l
 | []=>rfl
 | [a]=>rfl
 |a::b::r=>by
  show sg (a++{#[c]}++Str.join {#[c]} (b::r))=sg a++c::jn c (b::r);rw[<-wu c (b::r)];simp[sg,Str.cps_append]
theorem yv{c:Nat}:∀{a b r q:List Nat},c∉a->c∉b->a++c::r=b++c::q->a=b/\r=q
 | [],[],_,_,_,_,e=>by simp at e;exact⟨M,e⟩
 | [],x::b,_,_,_,h2,e=>by
  simp at e;exact VE (by rw[e.1];exact Q7) h2
 |x::a,[],_,_,h1,_,e=>by
  simp at e;exact VE (by rw[<-e.1];exact Q7) h1
 |x::a,y::b,r,q,h1,h2,e=>by
  simp only[Va,List.cons.injEq]at e;let{G,e2}:=yv (λz=>h1<|Q8 _ z) (λz=>h2<|Q8 _ z) e.2;exact{by rw[e.1,G],e2}
theorem D0{c:Nat}:∀{l m:Na},l≠[]->m≠[]->(∀a∈l,c∉sg a)->(∀a∈m,c∉sg a)->jn c l=jn c m->l=m
 | [],_,h,_,_,_,_=>VE M h
 |_::_,[],_,h,_,_,_=>VE M h
 | [a],[b],_,_,_,_,e=>by rw[wv (show sg a=sg b from e)]
 | [a],b::b'::m,_,_,h1,_,e=>by
  refine VE ?_<|h1 a Q7;rw[show sg a=sg b++c::jn c (b'::m) from e];simp
 |a::a'::l,[b],_,_,_,h2,e=>by
  refine VE ?_<|h2 b Q7;rw[<-show sg a++c::jn c (a'::l)=sg b from e];simp
 |a::a'::l,b::b'::m,_,_,h1,h2,e=>by
  let{z,e2}:=yv (h1 a Q7) (h2 b Q7) (show sg a++c::jn c (a'::l)=sg b++c::jn c (b'::m) from e);rw[wv z,D0 (by simp) (by simp) (λx hx=>h1 x<|Q8 _ hx) (λx hx=>h2 x<|Q8 _ hx) e2]
def w6(z:Str)(l:Na):Txt.join z l=Str.join z l:=StrLaws.glued_eq_join z l
def zf{c:Nat}{l:Na}(G:l≠[])(h:∀a∈l,c∉sg a):Txt.split (Txt.join {#[c]} l) {#[c]}=l:=by
 have e:=StrLaws.join_split (Txt.join {#[c]} l) {#[c]};have f:=StrLaws.split_free (Txt.join {#[c]} l) c;rw[w6]at e f⊢;have e:=VT sg e;rw[wu,wu]at e;refine D0 (λz=>?_) G f h e;unfold Txt.split at z;split at z
 .cases z
 .split at z
  .cases z
  .rw[StrLaws.partsBetween_eq]at z;let{p,r,I}:=StrLaws.partsFrom_ne (Str.join {#[c]} l) ({#[c]}:Str).length 0 (occurrences (Str.join {#[c]} l) {#[c]} 0 (Str.join {#[c]} l).length<|(Str.join {#[c]} l).length+1);rw[I]at z;cases z
end L2
namespace L2
open PySem PySem.Spec PyProof.Rows
variable{X:Cx}{tg:Expr}{xs:K'}{K:Wi}{te:TE}
def Itv(K:Wi)(a:G')(n:Nat):It:=
 {λi H=>i<n/\∃xs x,Do K H a xs/\xs[n-1-i]?=some x,λi H x H'=>H'=H/\∀xs,Do K H a xs->xs[n-1-i]?=some x,λi _=>n<=i}
def CK{P:Mz}{w:Nb}(a it:G')(n:Nat):xq P w K tg (Itv K a n) [it] it (λi h=>i<=n/\h.IsRevIter it a ((n:Int)-1-(i:Int))) where
 mem:=by simp
 obj:=λi h st b hb=>by
  have e:b=it:=by simpa using hb
  subst e;let{_,o,e,c,d}:=st;exact{o,e,λv z=>by rw[d]at z;cases z}
 keep:=λi h h' st k=>{st.1,st.2.at λo e=>k it (by simp) o e}
 item:=by
  intro X O hw hK hc i W s B H E I hf st U;subst O hw hK;let{hi,xs,x,hq,hx}:=U;let{its,rv,p,hz}:=I.list hq;let{u,hu,ru}:=rv.get hx;let{Y,Z,f2,f3,f4,f5}:=hf it (by simp);have e1:(n:Int)-1-(i:Int)=((n-1-i:Nat):Int):=();have G:=st.2;rw[e1]at G;refine wpAny_pyNext_rev_item G p.isList (x:=u) (by simpa using hu) λh' st' sb=>?_;have e2:((n-1-i:Nat):Int)-1=(n:Int)-1-((i+1:Nat):Int):=();rw[e2]at st';have I1:Inv X W B H {s with heap:=h'}:=I.turned (t':=s.toks) (λb o hb e=>(sb.2 b hb).trans e) Y Z f3 f4 f5;let{o,e,c,d}:=id st';exact{u,M,sZ (s:={s with heap:=h'}) e c d (_) {x,H,I1,ru,{M,λys hy=>by rwa[I.list_inj hy hq]},⟨hi,st'⟩,λb hb=>(hf b hb).1}}
 done:=by
  intro X O hw hK hc i W s B H E I hf st U;subst O hw hK;let{Y,Z,f2,f3,f4,f5}:=hf it (by simp);have G:=st.2;have hn:n<=i:=U;have e:(n:Int)-1-(i:Int)= -1:=by have:=st.1;lia
  rw[e]at G;exact wpAny_pyNext_rev_end (I.ok.hd hc) G λh' eb=>{M,I.turned (t':=s.toks) (λb o hb e=>eb b o hb e) Y Z f3 f4 f5}
 self:=λ_ _ _ _ _ st h=>wpAny_pyIter_revIter st.2 h
def iRev(K:Wi)(ta:TA):TI:=λB H R=>ta B H λvs H1=>∃a xs,vs=[.ref a]/\Do K H1 a xs/\R (Itv K a xs.length) H1
def Ik{a:Expr}{ta:TA}{p pos:Pos}(O:Gl X "reversed")(U:X.mg "reversed"=none)(ha:PA X [a] ta)(hs:starEach [a] X.env=[(false,eval a X.env)]:=by rfl):PI X tg (.Call (.Name "reversed" p) [a] [] pos) (iRev X.K ta):=by
 intro W s B H R I h;refine Call_<|m5 I O U Boot.«reversed» (PyProof.Rows.callWith_type1 (ED (ha pos W s B H _ I h) λus s1 G=>?_) hs M);let{vs,H1,z,r1,Y}:=G;let{b,xs,e,hq,q}:=Y;subst e;cases r1 with
 |cons r Z=>
  cases Z;cases r;let{its,rv,p,hz}:=z.list hq;have hl:=rv.length;refine call_reversed_list p.isList ?_;refine wpAny_pyIter_revIter (l:=b) (i:=(its.toArray.size:Int)-1) {_,VL _ M,M,M} ?_;refine{s1.heap.objs.size,[s1.heap.objs.size],_,_,H1,M,z.kept (t':=s1.toks) λb o e=>VB _ e,CK b _ xs.length,{Qh _,?_},λb hb=>?_,q}
  .have e:(xs.length:Int)-1-((0:Nat):Int)=(its.toArray.size:Int)-1:=by simp;lia
   rw[e];exact{_,VL _ M,M,M}
  .have e:b=s1.heap.objs.size:=by simpa using hb
   subst e;exact z.fpOk (Q5 _)<|z.hok.fresh (Q5 _)
def Ce{a D:G'}{tc:TT}{B:St}{H1:Hp}{Fin:Hp->Prop}(Pv:Nv)(G:Pv 0 [] (upd H1 D<|.lst []))(hl:∀i ys H,i<=xs.length->Pv i ys H->Do K H a xs)
  (hs:∀i x ys H2,xs.reverse[i]?=some x->Pv i ys H2->H2 D=some (.lst ys)->tc (some x::B) H2 λb H4=>if b=true then te (some x::B) H4 (KL xs.length i ys D Pv)else Kz xs.length i ys D Pv H4)
  (hd:∀ys H2,Pv xs.length ys H2->H2 D=some (.lst ys)->Fin H2):
  ∃J2:Nat->Nat->List V->Hp->Prop,(∃m,J2 0 m [] (upd H1 D<|.lst []))/\∀i m ys H2,J2 i m ys H2->H2 D=some (.lst ys)->
   ((Itv K a xs.length).stop i H2/\Fin H2)\/((Itv K a xs.length).go i H2/\∀x H3,(Itv K a xs.length).yld i H2 x H3->tc (some x::B) H3 λb H4=>if b=true then te (some x::B) H4 λy z=>z D=some (.lst ys)/\ys.length<sizeLine/\∃m',m'<m/\J2 (i+1) m' (ys++ [y]) (upd z D<|.lst<|ys++ [y])else H4 D=some (.lst ys)/\∃m',m'<m/\J2 (i+1) m' ys H4):=by
 refine{λi m ys H=>m=xs.length-i/\i<=xs.length/\Pv i ys H,{xs.length,by simp,Qh _,G},?_};rintro i m ys H ⟨rfl,hi,p⟩ hD;have q:=hl i ys H hi p;by_cases lt:i<xs.length
 .refine .inr {{lt,xs,xs[xs.length-1-i]'(),q,Q4 _},λx H' y=>?_};let{e,y}:=y;subst e;exact hs i x ys _ (by rw[List.getElem?_reverse lt];exact y xs q) p hD
 .have e:i=xs.length:=();subst e;exact .inl {Q5 _,hd ys H p hD}
noncomputable def va(xs:K')(lo hi:No)(st:Int):List V:=
 (sliceRange (sliceBounds lo hi (some st) xs.length).1 (sliceBounds lo hi (some st) xs.length).2.1 (sliceBounds lo hi (some st) xs.length).2.2).filterMap (xs[·]?)
def CH{us:L'}(r:A7 xs us):∀k:Nat,(xs[k]?=none/\us[k]?=none)\/∃x u,xs[k]?=some x/\us[k]?=some u/\RelV x u:=by
 induction r with
 |nil=>exact λk=> .inl {by simp,by simp}
 |cons r1 G z=>
  intro k;cases k with
  |zero=>exact .inr {_,_,M,M,r1}
  |succ k=>rw[ZA,ZA];exact z k
theorem oW{xs:K'}{us:L'}(r:A7 xs us):∀z:List Nat,A7 (z.filterMap (xs[·]?)) (z.filterMap (us[·]?))
 | []=> .nil
 |k::l=>by
  rcases CH r k with⟨h1,h2⟩|⟨x,u,h1,h2,G⟩
  .rw[List.filterMap_cons_none h1,List.filterMap_cons_none h2];exact oW r l
  .rw[List.filterMap_cons_some h1,List.filterMap_cons_some h2];exact .cons G<|oW r l
def Bv(xs:K'):va xs none none (-1)=xs.reverse:=by
 unfold va;rw[PySem.W.krv_bounds];show(sliceRange ((xs.length:Int)-1) (-1)<|-1).filterMap (xs[·]?)=_;rw[PySem.W.krv_sliceRange,PySem.W.krv_range,List.filterMap_reverse];have h:=PySem.W.krv_all xs.toArray;have e:(λx:Nat=>xs.toArray[x]?)=λx=>xs[x]?:=funext λx=>List.getElem?_toArray;rw[e,Q9]at h;rw[h]
section
variable{e est:Expr}{ts:TE}{lo hi:Option Expr}{tl th:TO}{pos p2:Pos}
inductive rStL(K:Wi)(x:V)(l u o:No)(H:Hp)(Q:VK):Prop
 |mk(a xs st:_)(_:x= .ref a)(_:o=some st)(_:st≠0)(_:Do K H a xs)(_:∀p,H p=none->Q (.ref p) (upd H p<|.lst<|va xs l u st))
def JE(K:Wi)(te:TE)(tl th:TO)(ts:TE):TE:=λB H Q=>te B H λx H1=>tl B H1 λl H2=>th B H2 λu H3=>GZ ts B H3 λo H4=>rStL K x l u o H4 Q
def FR(he:PE X e te)(hl:PO X lo tl)(hu:PO X hi th)(hs:PE X est ts):PE X (.Subscript e (.Slice lo hi (some est) p2) pos) (JE X.K te tl th ts):=by
 intro W s B H Q I h;refine Subscript_<|ED (he W s B H _ I h) λv s1 G=>?_;let{x,H1,I1,r1,q1}:=G;refine wpAny_Slice<|ED (hl W s1 B H1 _ I1 q1) λY s2 zz=>?_;let{l,H2,I2,pl,q2}:=zz;refine ED (hu W s2 B H2 _ I2 q2) λZ s3 zz=>?_;let{u,H3,I3,pu,q3}:=zz;refine ED (b7 hs W s3 B H3 _ I3 q3) λvs s4 G=>?_;let{o,H4,I4,ps,q4}:=G;have U:Inv X W B H4 {s4 with heap:=s4.heap.push {cls:= .type "slice",data:= .fields #[Y,Z,vs]}}:=I4.kept (t':=s4.toks) λb ob q=>VB _ q;let{a,xs,st,ex,eo,h0,hx,q}:=q4;subst ex;subst eo;obtain rfl:v=Value.ref a:=r1;let{its,r,ht,hz}:=U.list hx;have O:=r.length;show Wj X (subscriptTail e (.Slice lo hi (some est) p2) (.ref a)<|.ref s4.heap.objs.size) (EP X W B Q) X.xe {s4 with heap:=s4.heap.push {cls:= .type "slice",data:= .fields #[Y,Z,vs]}};refine tail_any (ops:=[.ref a,.ref s4.heap.objs.size]) ht.isList.typeIs slot_list_getitem.lookup (wpAny_getItem_list_slice ht.isList (Heap.IsSliceOf.new ..) pl pu ps (by intro z;exact h0<|VG z) ?_<|by rw[Q9]<;>lia) (by with_unfolding_all rfl);have ep:slicePick its.toArray l u (some st)=((sliceRange (sliceBounds l u (some st) xs.length).1 (sliceBounds l u (some st) xs.length).2.1 (sliceBounds l u (some st) xs.length).2.2).filterMap (its[·]?)).toArray:=by
  unfold slicePick;have ef:(λx:Nat=>its.toArray[x]?)=λx=>its[x]?:=funext λx=>List.getElem?_toArray;rw[Q9,<-O,ef]
 have le:=slicePick_size_le its.toArray l u (some st);rw[ep,Q9,Q9]at le;rw[ep];have rv:=oW r (sliceRange (sliceBounds l u (some st) xs.length).1 (sliceBounds l u (some st) xs.length).2.1 (sliceBounds l u (some st) xs.length).2.2);refine{.ref _,_,U.laid (t':=s4.toks) (o:= .lst<|va xs l u st) (λb ob q=>VB _ q) (Q5 _) ?_,M,q _<|U.hok.fresh (Q5 _)};exact{by show(va xs l u st).length<=_;unfold va;rw[rv.length];lia,_,0,rv,VL _ M}
end
end L2
namespace SW
open PySem L2
set_option maxHeartbeats 0
abbrev _root_.My:=List (Int×V)
abbrev _root_.Nr:=List (List Int)
variable{C L a b c c' dx l p q r tb:G'}{F F':Mw}{t:KF}{up:Bool}{o:HO}{x':L3}{H H' H1 H2:Hp}{hi k lo m n sz:Int}{R:Nt}{kv' kvs ps qs:My}{ls:Nr}{fs:Nl}{A:Nc}{ks x y:Mu}{pa':List Pk}{ts:List Tp}{xs:K'}{bm:L'}{i i0 j:Nat}{K:Wi}{st:K4}{B:St}{qual:Str}{α β:Type}{a' av v:V}{Q:VK}{E:XK}
structure Txt(K:Wi)(mg:Nd)(t:KF):Prop where
 dh:mg "NoToken"=some (.ref t.a7)
 vx:mg "NoText"=some (.ref t.cZ)
 yg:mg "Token"=some (.ref t.eL)
 js:mg "BySlots"=some (.ref t.aJ)
 yf:mg "Up"=some (.ref t.cQ)
 AE:mg "Down"=some (.ref t.bI)
 Jy:mg "Leaves"=some (.ref t.bc)
 J8:mg "Makes"=some (.ref t.eO)
 J7:mg "Slots"=some (.ref t.aQ)
 J9:mg "House"=some (.ref t.a8)
 yj:mg "turned"=some (.ref t.yR)
 tR:KH K "turned" "turned" r9 t.yR t.tG
 yO:Binds K t.tG ["number"] []
 BQ:mg "mark_of"=some (.ref t.vT)
 vX:KH K "mark_of" "mark_of" pz t.vT t.pW
 Cm:Binds K t.pW [eN] []
 sU:mg "place_of"=some (.ref t.nE)
 nG:KH K "place_of" "place_of" mR t.nE t.jB
 tL:Binds K t.jB [eN] []
 vz:mg "slot_of"=some (.ref t.vR)
 qb:KH K "slot_of" "slot_of" pj t.vR t.pU
 vP:Binds K t.pU [eN,kP] []
 Gg:mg "stretch_of"=some (.ref t.oC)
 xt:KH K "stretch_of" "stretch_of" i4 t.oC t.jx
 Gz:Binds K t.jx ["slot",kP] []
 BP:mg "slot_at"=some (.ref t.vS)
 vW:KH K "slot_at" "slot_at" pq t.vS t.pV
 Cl:Binds K t.pV ["place",kP] []
 IB:mg "is_whole"=some (.ref t.tM)
 Af:KH K "is_whole" "is_whole" mS t.tM t.m8
 Jm:Binds K t.m8 ["thing"] []
 iM:mg "is_from"=some (.ref t.vU)
 fJ:KH K "is_from" "is_from" pA t.vU t.pX
 iR:Binds K t.pX ["thing","low"] []
 BO:mg "word_of"=some (.ref t.vQ)
 vV:KH K "word_of" "word_of" pf t.vQ t.pT
 Ck:Binds K t.pT ["bound"] []
 iF:KH K gt "Token.__init__" gS t.iE t.ie
 mf:Binds K t.ie [cC,"kind",lm,hW] []
 EJ:KH K "words" "Token.words" fR t.cI t.gr
 cH:Binds K t.gr [cC] []
 Cw:M2 K gt "BySlots.__init__" fg t.jP t.cq
 qJ:Binds K t.cq [cC,lm,hW] []
 pZ:lg K t.cq [cC,lm,hW] [(.int<|0),(.int<|65536)]
 Cs:KH K "holds" "BySlots.holds" d7 t.iV t.eC
 iT:Binds K t.eC [cC,eN] []
 Jv:M2 K gt "Up.__init__" mT t.tN t.gl
 zZ:Binds K t.gl [cC,lm,hW] []
 yQ:lg K t.gl [cC,lm,hW] [(.int<|0),.non]
 HB:KH K "holds" "Up.holds" jY t.qq t.kM
 kR:Binds K t.kM [cC,eN] []
 GR:M2 K gt "Down.__init__" jh t.oR t.dR
 xk:Binds K t.dR [cC,lm,hW] []
 uV:lg K t.dR [cC,lm,hW] [.non,(.int<|0)]
 Fg:KH K "holds" "Down.holds" g6 t.mG t.iC
 iD:Binds K t.iC [cC,eN] []
 DQ:mg "ask"=some (.ref t.Hx)
 Bf:M2 K "ask" "ask" C5 t.Hx t.yG
 nB:lg K t.yG ["house",gp,l9,"sieve"] [.non]
 Cu:mg "page_by_slots"=some (.ref t.jO)
 qK:KH K "page_by_slots" "page_by_slots" e7 t.jO t.fo
 Cv:Binds K t.fo [nz,gp,l9] []
 DO:mg "page_by_keys"=some (.ref t.kU)
 tT:KH K "page_by_keys" "page_by_keys" dE t.kU t.gi
 Ez:Binds K t.gi ["house",gp,l9] []
 DP:mg "keys_of_page"=some (.ref t.kW)
 tU:KH K "keys_of_page" "keys_of_page" dF t.kW t.gj
 EA:Binds K t.gj [ge,gp,l9] []
 Hj:mg "keys_near"=some (.ref t.qk)
 yS:KH K "keys_near" "keys_near" jV t.qk t.kH
 Ht:Binds K t.kH [ge,gp,ms] []
 DN:mg "token_behind"=some (.ref t.kT)
 tS:KH K "token_behind" "token_behind" fP t.kT t.gh
 Ey:Binds K t.gh [gp,eN] []
 EK:KH K gt "Leaves.__init__" fS t.kZ t.gs
 EB:Binds K t.gs [cC] []
 Fd:KH K "add" "Leaves.add" eG t.mD t.iz
 EY:Binds K t.iz [cC,eN] []
 Fa:KH K "has" "Leaves.has" gX t.mC t.iy
 EX:Binds K t.iy [cC,eN] []
 Bi:KH K "from_on" "Leaves.from_on" cw t.gQ t.dQ
 Ba:Binds K t.dQ [cC,eN,ms] []
 y4:KH K "down_from" "Leaves.down_from" bV t.fA t.cW
 yZ:Binds K t.cW [cC,eN,ms] []
 Bh:KH K "leaf_of" "Leaves.leaf_of" dH t.gP t.dP
 dW:Binds K t.dP [cC,eN] []
 y3:KH K "part_leaf" "Leaves.part_leaf" cT t.fw t.cV
 yY:Binds K t.cV [cC,lm] []
 E9:KH K gt "Makes.__init__" gW t.mB t.iw
 EW:Binds K t.iw [cC] []
 E8:KH K "note" "Makes.note" gV t.my t.iu
 EV:Binds K t.iu [cC,"moment",kj] []
 qh:mg "empty_row"=some (.ref t.ql)
 lf:KH K "empty_row" "empty_row" gF t.ql t.kI
 qj:Binds K t.kI [kP] []
 E7:KH K gt "Slots.__init__" gU t.mw t.iq
 EU:Binds K t.iq [cC] []
 GM:KH K "put" "Slots.put" jc t.oK t.jE
 GC:Binds K t.jE [cC,eN,kj] []
 GO:KH K "get" "Slots.get" je t.oN t.jG
 GE:Binds K t.jG [cC,eN] []
 GN:KH K "has" "Slots.has" jd t.oM t.jF
 GD:Binds K t.jF [cC,eN] []
 E6:KH K "rows" "Slots.rows" eF t.mr t.io
 uU:Binds K t.io [cC] []
 E5:KH K "span" "Slots.span" cY t.mq t.ii
 ET:Binds K t.ii [cC,"low","high"] []
 E4:KH K "stop" "Slots.stop" gT t.mn t.ig
 uT:Binds K t.ig [cC,"place"] []
 Cr:KH K "cell_of" "Slots.cell_of" d6 t.iU t.eB
 iS:Binds K t.eB [cC,eN] []
 Bg:KH K "lying_at" "Slots.lying_at" dG t.gO t.dO
 A8:Binds K t.dO [cC,"place"] []
 Ag:KH K "move_slot" "Slots.move_slot" c8 t.gu t.dn
 z7:Binds K t.dn [cC] []
 Ah:KH K "begin_row" "Slots.begin_row" da t.gv t.dt
 z8:Binds K t.dt [cC] []
 Fe:KH K gt "House.__init__" gY t.mE t.iA
 EZ:Binds K t.iA [cC] []
 GP:KH K "put" "House.put" jf t.oP t.jH
 GF:Binds K t.jH [cC,eN,kj] []
 GQ:KH K "get" "House.get" jg t.oQ t.jI
 GG:Binds K t.jI [cC,eN] []
 Ff:KH K "done" "House.done" gZ t.mF t.iB
 E1:Binds K t.iB [cC,"row",kj] []
 ER:mg "are_figures"=some (.ref t.mh)
 uY:KH K "are_figures" "are_figures" eD t.mh t.hV
 ES:Binds K t.hV ["text"] []
 Gh:mg "read_whole"=some (.ref t.oE)
 xu:KH K "read_whole" "read_whole" i5 t.oE t.jy
 GA:Binds K t.jy ["text"] []
 w5:mg "read_bound"=some (.ref t.oH)
 oU:KH K "read_bound" "read_bound" i7 t.oH t.jA
 xj:Binds K t.jA ["word"] []
 wZ:mg "read_token"=some (.ref t.oG)
 oS:KH K "read_token" "read_token" i6 t.oG t.jz
 xi:Binds K t.jz ["text"] []
 b5:mg "_law_cell_at"=some (.ref t.kX)
 bJ:KH K "_law_cell_at" "_law_cell_at" fQ t.kX t.gk
 b6:Binds K t.gk [kz,mu] []
 cN:mg "_law_drawn"=some (.ref t.oJ)
 cm:KH K "_law_drawn" "_law_drawn" i9 t.oJ t.jD
 cR:Binds K t.jD [lz,mu] []
 Gi:mg "_law_house"=some (.ref t.oI)
 xv:KH K "_law_house" "_law_house" i8 t.oI t.jC
 GB:Binds K t.jC ["_law_cells",ff] []
 uL:mg "_law_sorted"=some (.ref t.mj)
 mI:KH K "_law_sorted" "_law_sorted" gR t.mj t.eK
 uS:Binds K t.eK [fe,"_law_rows"] []
 yk:mg "_law_bent"=some (.ref t.qp)
 qr:KH K "_law_bent" "_law_bent" jX t.qp t.kL
 yP:Binds K t.kL [l7,lz] []
 Hk:mg "_law_read"=some (.ref t.qm)
 yT:KH K "_law_read" "_law_read" jW t.qm t.kJ
 Hu:Binds K t.kJ [l7] []
 Hl:mg "_law_page"=some (.ref t.qo)
 yU:KH K "_law_page" "_law_page" gG t.qo t.kK
 Hv:Binds K t.kK [eZ,ff,fe,gM] []
 uK:mg "_law_walked"=some (.ref t.mi)
 mH:KH K "_law_walked" "_law_walked" eE t.mi t.hZ
 uR:Binds K t.hZ [eZ,ff,fe,gM] []
 Kr:mg "law"=some (.ref t.Hw)
 Kn:KH K "law" "law" C4 t.Hw t.AY
 aS:L9 K t.a7 (([t.bQ]:Nc).map Value.ref++MD)
 dA:PySem.W.findIn K (.ref t.a7) gt=some (some<|.builtin "ValueError.__init__")
 fF:L9 K t.cZ (([t.bQ]:Nc).map Value.ref++MD)
 zP:PySem.W.findIn K (.ref t.cZ) gt=some (some<|.builtin "ValueError.__init__")
 qG:E2 K t.aJ "kind"
 hI:E2 K t.aJ lm
 bZ:E2 K t.aJ hW
 aZ:Le K t.aJ
 sQ:Mk K t.aJ t.jP
 c7:XIs K t.aJ
 m6:PySem.W.kitOne K (.ref t.aJ) (.ref t.aJ)=some true
 pO:cv K t.aJ "words" t.cI
 iK:cv K t.aJ "holds" t.iV
 zH:E2 K t.cQ "kind"
 n8:E2 K t.cQ lm
 iI:E2 K t.cQ hW
 dS:Le K t.cQ
 Hh:Mk K t.cQ t.tN
 dC:XIs K t.cQ
 uM:PySem.W.kitOne K (.ref t.cQ) (.ref t.aJ)=some false
 yr:PySem.W.kitOne K (.ref t.cQ) (.ref t.cQ)=some true
 yi:cv K t.cQ "words" t.cI
 kC:cv K t.cQ "holds" t.qq
 wX:E2 K t.bI "kind"
 gd:E2 K t.bI lm
 gJ:E2 K t.bI hW
 bC:Le K t.bI
 AD:Mk K t.bI t.oR
 bx:XIs K t.bI
 qH:PySem.W.kitOne K (.ref t.bI) (.ref t.aJ)=some false
 sV:PySem.W.kitOne K (.ref t.bI) (.ref t.cQ)=some false
 uJ:cv K t.bI "words" t.cI
 hJ:cv K t.bI "holds" t.mG
 aG:E2 K t.bc ge
 aO:Le K t.bc
 Jx:Mk K t.bc t.kZ
 EO:cv K t.bc "add" t.mD
 EN:cv K t.bc "has" t.mC
 AH:cv K t.bc "from_on" t.gQ
 yX:cv K t.bc "down_from" t.fA
 dM:cv K t.bc "leaf_of" t.gP
 yW:cv K t.bc "part_leaf" t.fw
 uF:E2 K t.eO "made"
 yJ:Le K t.eO
 J4:Mk K t.eO t.mB
 EM:cv K t.eO "note" t.my
 aM:E2 K t.aQ "table"
 bE:E2 K t.aQ "shifted"
 bD:E2 K t.aQ "kept"
 ay:Le K t.aQ
 J3:Mk K t.aQ t.mw
 Gb:cv K t.aQ "put" t.oK
 Gd:cv K t.aQ "get" t.oN
 Gc:cv K t.aQ "has" t.oM
 uI:cv K t.aQ "rows" t.mr
 EL:cv K t.aQ "span" t.mq
 uH:cv K t.aQ "stop" t.mn
 iJ:cv K t.aQ "cell_of" t.iU
 AG:cv K t.aQ "lying_at" t.gO
 zJ:cv K t.aQ "move_slot" t.gu
 zK:cv K t.aQ "begin_row" t.gv
 jr:E2 K t.a8 "now"
 DE:E2 K t.a8 "floor"
 dL:E2 K t.a8 nz
 jN:E2 K t.a8 ge
 pL:E2 K t.a8 "written"
 DD:E2 K t.a8 "marks"
 uG:E2 K t.a8 "past"
 BM:E2 K t.a8 "holders"
 aX:Le K t.a8
 J5:Mk K t.a8 t.mE
 Ge:cv K t.a8 "put" t.oP
 Gf:cv K t.a8 "get" t.oQ
 EQ:cv K t.a8 "done" t.mF
 lZ:EG K t.eL gt (.ref t.iE)
 Bt:PySem.W.subIn K (.ref t.cZ) (.ref t.cZ)=some true
 ze:PySem.W.subIn K (.ref t.a7) (.ref t.a7)=some true
 g_BITS:∃tk,mg "BITS"=some (.int 16 tk)
 g_PLACES:∃tk,mg "PLACES"=some (.int 65536 tk)
 g_STRETCHES_A_KEY:∃tk,mg "STRETCHES_A_KEY"=some (.int 4 tk)
 g_MOST_IN_LEAF:∃tk,mg "MOST_IN_LEAF"=some (.int 8 tk)
 g_LEAST_SIZE:∃tk,mg "LEAST_SIZE"=some (.int 4 tk)
 g_GREATEST_SIZE:∃tk,mg "GREATEST_SIZE"=some (.int 256 tk)
 g_FIGURES:∃tk,mg "FIGURES"=some (.str nj tk)
 g_MOST_FIGURES:∃tk,mg "MOST_FIGURES"=some (.int 60 tk)
 g_WORDS_OF_TOKEN:∃tk,mg "WORDS_OF_TOKEN"=some (.int 3 tk)
 Kq:mg "all"=none
 Ko:mg "bool"=none
 JA:mg nX=none
 bN:mg "isinstance"=none
 bM:mg "len"=none
 Jz:mg "max"=none
 xy:mg "min"=none
 qL:mg iQ=none
 HE:mg "reversed"=none
 Kp:mg "set"=none
 qX:mg kO=none
 GT:mg "str"=none
 Fh:LamK K mg t.eK t.aL
def BA:ao ["number","told","rest","step"] ["number"] (ai r9):=KM
def zu:ao [eN] [eN] (ai pz):=KM
def xO:ao [eN] [eN] (ai mR):=KM
def zr:ao [eN,kP] [eN,kP] (ai pj):=KM
def uj:ao ["slot",kP,"low"] ["slot",kP] (ai i4):=KM
def zt:ao ["place",kP] ["place",kP] (ai pq):=KM
def xP:ao ["thing"] ["thing"] (ai mS):=KM
def zx:ao ["thing","low"] ["thing","low"] (ai pA):=KM
def zq:ao ["bound"] ["bound"] (ai pf):=KM
def rO:ao [cC,"kind",lm,hW] [cC,"kind",lm,hW] (ai gS):=KM
def qy:ao [cC] [cC] (ai fR):=KM
def Kx:ao [cC,lm,hW] [cC,lm,hW] (ai fg):=KM
def nR:ao [cC,eN] [cC,eN] (ai d7):=KM
def LU:ao [cC,lm,hW] [cC,lm,hW] (ai mT):=KM
def wB:ao [cC,eN] [cC,eN] (ai jY):=KM
def LI:ao [cC,lm,hW] [cC,lm,hW] (ai jh):=KM
def r6:ao [cC,eN] [cC,eN] (ai g6):=KM
def ML:ao ["house",gp,l9,"sieve","page"] ["house",gp,l9,"sieve"] (ai C5):=KM
def KP:ao [nz,gp,l9,"rows","reached","gone","stop"] [nz,gp,l9] (ai e7):=KM
def L7:ao ["house",gp,l9,"page"] ["house",gp,l9] (ai dE):=KM
def KU:ao [ge,gp,l9,ms,"held","page"] [ge,gp,l9] (ai dF):=KM
def ww:ao [ge,gp,ms] [ge,gp,ms] (ai jV):=KM
def L4:ao [gp,eN] [gp,eN] (ai fP):=KM
def qz:ao [cC] [cC] (ai fS):=KM
def rX:ao [cC,eN,lm,"leaf"] [cC,eN] (ai eG):=KM
def rW:ao [cC,eN,lm] [cC,eN] (ai gX):=KM
def Ks:ao [cC,eN,ms,"told",lm] [cC,eN,ms] (ai cw):=KM
def KQ:ao [cC,eN,ms,"told",lm] [cC,eN,ms] (ai bV):=KM
def mQ:ao [cC,eN,"low","high","middle"] [cC,eN] (ai dH):=KM
def jU:ao [cC,lm,"leaf","middle"] [cC,lm] (ai cT):=KM
def rV:ao [cC] [cC] (ai gW):=KM
def rT:ao [cC,"moment",kj] [cC,"moment",kj] (ai gV):=KM
def wx:ao [kP] [kP] (ai gF):=KM
def rS:ao [cC] [cC] (ai gU):=KM
def uo:ao [cC,eN,kj,"cell"] [cC,eN,kj] (ai jc):=KM
def ur:ao [cC,eN,"cell"] [cC,eN] (ai je):=KM
def uq:ao [cC,eN] [cC,eN] (ai jd):=KM
def rR:ao [cC] [cC] (ai eF):=KM
def rQ:ao [cC,"low","high","found","reached",hW,"inside"] [cC,"low","high"] (ai cY):=KM
def rP:ao [cC,"place",kP] [cC,"place"] (ai gT):=KM
def nQ:ao [cC,eN,"old","slot","new"] [cC,eN] (ai d6):=KM
def mP:ao [cC,"place",kP,"found","row","slot",eN,kj] [cC,"place"] (ai dG):=KM
def lP:ao [cC,"old","new",eN,kj] [cC] (ai c8):=KM
def lQ:ao [cC,kP] [cC] (ai da):=KM
def rY:ao [cC] [cC] (ai gY):=KM
def ut:ao [cC,eN,kj] [cC,eN,kj] (ai jf):=KM
def uu:ao [cC,eN] [cC,eN] (ai jg):=KM
def rZ:ao [cC,"row",kj,eN] [cC,"row",kj] (ai gZ):=KM
def rM:ao ["text"] ["text"] (ai eD):=KM
def LG:ao ["text","below","figures"] ["text"] (ai i5):=KM
def LF:ao ["word"] ["word"] (ai i7):=KM
def LH:ao ["text","words",lm,hW] ["text"] (ai i6):=KM
def qx:ao [kz,mu] [kz,mu] (ai fQ):=KM
def uk:ao [lz,mu,"_law_number"] [lz,mu] (ai i9):=KM
def LJ:ao ["_law_cells",ff,eZ,lz,"_law_number","_law_some","_law_one"] ["_law_cells",ff] (ai i8):=KM
def rN:ao [fe,"_law_rows"] [fe,"_law_rows"] (ai gR):=KM
def wA:ao [l7,lz,"_law_some","_law_sign","_law_place","_law_way"] [l7,lz] (ai jX):=KM
def wy:ao [l7,fe] [l7] (ai jW):=KM
def wz:ao [eZ,ff,fe,gM,"_law_rows","_law_after","_law_one","_law_value"] [eZ,ff,fe,gM] (ai gG):=KM
def LA:ao [eZ,ff,fe,gM,"_law_due","_law_found",mu,"_law_page_here"] [eZ,ff,fe,gM] (ai eE):=KM
def MS:ao [kz,ff,eZ,fe,gM,mu,"_law_after",l7,"_law_again","_law_bent_here","_law_other"] [kz] (ai C4):=KM
def Sc:V->Prop
 | .non=>True| .bl _=>True| .int _=>True| .str _=>True|_=>False
def T0(z:Int):Sc (.int z):=VU
noncomputable def isW:V->Bool
 | .int _=>true|_=>false
def Fr(F F':Mw)(H H':Hp):Prop:=∀b o,¬F b->H b=some o->H' b=some o/\¬F' b
def Fr.refl:Fr F F H H:=λ_ _ n e=>⟨e,n⟩
def Fr.trans{z:Mw}{H'':Hp}(x:Fr F F' H H')(y:Fr F' z H' H''):Fr F z H H'':=λb o n e=>y b o (x b o n e).2 (x b o n e).1
def Fr.of_same(s:Cp H H'):Fr F F H H':=λb o n e=>{s b o e,n}
noncomputable def aN(kv:My):List (Key×V):=kv.map λp=>(Sum.inl p.1,p.2)
def cO{kv:My}:aP (aN kv) (Sum.inl k:Key)=aP kv k:=by
 induction kv with
 |nil=>rfl
 |cons p r G=>
  show aP ((Sum.inl p.1,p.2)::aN r) (Sum.inl k:Key)=_;by_cases e:p.1=k
  .rw[bg e,bg (by show(Sum.inl p.1:Key)=_;rw[e])]
  .rw[bh e,bh (by show ¬(Sum.inl p.1:Key)=_;exact λz=>e<|Sum.inl.inj z),G]
def BS{kv:My}:((aN kv).any λx=>decide (x.1=(Sum.inl k:Key)))=kv.any λx=>decide (x.1=k):=by
 rw[cz,cz,cO]
def iN{kv:My}:bj (aN kv) (Sum.inl k:Key) v=aN (bj kv k v):=by
 unfold bj;rw[BS];by_cases c:(kv.any λx=>decide (x.1=k))=true
 .rw[VA c,VA c];unfold aN;rw[QL,QL];refine Zj λp _=>?_;show(if(Sum.inl p.1:Key)=Sum.inl k then _ else _)=_;by_cases e:p.1=k
  .rw[VA (by rw[e])];simp[e]
  .rw[Vz λz=>e (Sum.inl.inj z)];simp[e]
 .rw[Vz c,Vz c];unfold aN;rw[Qb];rfl
def cP{kv:My}:(aN kv).length=kv.length:=Q0 _
theorem j6{f:Str}{v:V}:∀fs:List (Str×V),(bR f v fs).length<=fs.length+1
 | []=>Q5 _
 |(g,x)::r=>by
  rw[bR];split
  .rw[Ql,Ql];lia
  .have:=j6 (f:=f) (v:=v) r;rw[Ql,Ql];lia
section
variable{κ:Type}[DecidableEq κ]{kv:List (κ×V)}{k j:κ}
theorem mem_keys:∀{kv:List (κ×V)},k∈kv.map (·.1)↔(aP kv k).isSome=true
 | []=>by simp[nN]
 |p::r=>by
  by_cases e:p.1=k
  .rw[bg e];simp[e]
  .rw[bh e,<-mem_keys];simp[Ne.symm e]
def oj:(bj kv k v).map (·.1)=if(aP kv k).isSome=true then kv.map (·.1)else kv.map (·.1)++ [k]:=by
 unfold bj;rw[cz];by_cases c:(aP kv k).isSome=true
 .rw[VA c,VA c,QL];refine Zj λp _=>?_;show(if p.1=k then(p.1,v)else p).1=p.1;split<;>rfl
 .rw[Vz c,Vz c,Qb];rfl
def zG(h:(kv.map (·.1)).Nodup):((bj kv k v).map (·.1)).Nodup:=by
 cases e:aP kv k with
 |none=>exact FX v h e
 |some x=>rwa[oj,e]
theorem gc:∀{l S:List κ},l.Nodup->(∀x∈l,x∈S)->l.length<=S.length
 | [],_,_,_=>Qh _
 |x::xs,S,hn,hs=>by
  let{h1,h2}:=Z9.mp hn;have hx:x∈S:=hs x Q7;have:=gc (S:=S.erase x) h2 λy hy=>(List.mem_erase_of_ne λz=>h1<|by rwa[<-z]).mpr (hs y<|Q8 _ hy);rw[List.length_erase_of_mem hx]at this;have:=List.length_pos_of_mem hx;rw[Ql];lia
end
def Lj(K:Wi)(F:Mw)(H:Hp)(a:G')(xs:K'):Prop:=(Rd H a (.lst xs)/\¬F a)\/∀H',Do K H' a xs
def Lj.sq(h:Lj K F H a xs):Do K H a xs:=by
 rcases h with h|h
 .exact .inl h.1
 .exact h H
def Lj.of(h:Do K H a xs)(n:∀o,H a=some o->¬F a):Lj K F H a xs:=by
 rcases h with h|h
 .rcases h with h|⟨o,h⟩
  .exact .inl {.inl h,n _ h}
  .exact .inl {.inr ⟨o,h⟩,n _ h}
 .exact .inr λ_=> .inr h
def Lj.fr(h:Lj K F H a xs)(f:Fr F F' H H'):Lj K F' H' a xs:=by
 rcases h with⟨h,n⟩|h
 .rcases h with h|⟨o,h⟩
  .exact .inl {.inl (f _ _ n h).1,(f _ _ n h).2}
  .exact .inl {.inr {o,(f _ _ n h).1},(f _ _ n h).2}
 .exact .inr h
def Lj.new(h:Lj K F H a xs)(n:H p=none):Lj K F (upd H p o) a xs:=h.fr (Fr.of_same<|am n)
set_option genInjectivity false in
structure K4 where
 kv:List (Int×V)
 size:Int
 nxt:Option Int
 mv:Int
noncomputable def K4.new:K4:={[],4,none,0}
noncomputable def K4.one(s:K4):K4:=match s.nxt with
 |none=>s
 |some m=>if s.mv+1=s.size then{s with size:=m,nxt:=none,mv:=0}else{s with mv:=s.mv+1}
noncomputable def K4.three(s:K4):K4:=match s.nxt with
 |some _=>s
 |none=>if s.size<(s.kv.length:Int)/\s.size<256 then{s with nxt:=some (2*s.size),mv:=0}else if 4*(s.kv.length:Int)<s.size/\4<s.size then{s with nxt:=some (s.size/2),mv:=0}else s
def K4.put(s:K4)(k:Int)(v:V):K4:=K4.three {s.one with kv:=bj s.kv k v}
noncomputable def K4.rows(s:K4):List Int:=match s.nxt with
 |none=> [s.size]
 |some m=> [s.size,m]
noncomputable def K4.moved(s:K4):Int:=match s.nxt with
 |none=>0
 |some _=>s.mv
set_option genInjectivity false in
structure Lw where
 tb:Addr
 r0:Addr
 r1:Addr
 A0:List Addr
 A1:List Addr
 C0:List (List<|Int×V)
 C1:List (List<|Int×V)
 n:Int
noncomputable def LL(tb:G')(sh n:Int):List (Str×V):=[("table",.ref tb),("shifted",.int sh),("kept",.int n)]
def fB{k:Str}{r:Nl}:((k,v)::r).lookup k=some v:=by
 have hb:(k==k)=true:=VP.mpr M;simp only[List.lookup,hb]
def bH{k m:Str}{r:Nl}(h:m≠k):((k,v)::r).lookup m=r.lookup m:=by
 have hb:(m==k)=false:=VQ.mpr h;simp only[List.lookup,hb]
section
variable{tb':G'}{sh sh' n':Int}{m:Str}
def gE:(LL tb sh n).lookup ("table":Str)=some (.ref tb):=fB
def xL:(LL tb sh n).lookup ("shifted":Str)=some (.int sh):=by unfold LL;rw[bH ∅,fB]
def qe:(LL tb sh n).lookup ("kept":Str)=some (.int n):=by unfold LL;rw[bH ∅,bH ∅,fB]
def NoM(m:Str):Prop:=m≠("table":Str)/\m≠("shifted":Str)/\m≠("kept":Str)
instance:Decidable (NoM m):=by unfold NoM;infer_instance
def G4(h:NoM m):(LL tb sh n).lookup m=none:=by unfold LL;rw[bH h.1,bH h.2.1,bH h.2.2];rfl
def JW:bR ("table":Str) (.ref tb') (LL tb sh n)=LL tb' sh n:=by unfold LL;rw[bR,VA M]
def G9:bR ("shifted":Str) (.int sh') (LL tb sh n)=LL tb sh' n:=by unfold LL;rw[bR,Vz ∅,bR,VA M]
def JX:bR ("kept":Str) (.int n') (LL tb sh n)=LL tb sh n':=by unfold LL;rw[bR,Vz ∅,bR,Vz ∅,bR,VA M]
def qM:(LL tb sh n).length<1000:=by show 3<1000;decide
end
structure K8(H:Hp)(r:G')(A:Nc)(C:List (List<|Int×V))(sz:Int):Prop where
 lst:H r=some (.lst<|A.map V.ref)
 la:(A.length:Int)=sz
 lc:(C.length:Int)=sz
 cell:∀(j:Nat)(b:G')(kv:My),A[j]?=some b->C[j]?=some kv->H b=some (.dK<|aN kv)
 ndk:∀(j:Nat)(kv:My),C[j]?=some kv->(kv.map (·.1)).Nodup
 inj:∀(i j:Nat)(b:G'),A[i]?=some b->A[j]?=some b->i=j
 home:∀(j:Nat)(kv:My),C[j]?=some kv->∀p∈kv,p.1%65536%sz=(j:Int)
def K8.has{C:List (List<|Int×V)}(h:K8 H r A C sz)(hb:b∈A):∃(j:Nat)(kv:My),A[j]?=some b/\C[j]?=some kv/\H b=some (.dK<|aN kv):=by
 let{j,G,e}:=QI hb;have hc:j<C.length:=by have:=h.la;have:=h.lc;lia
 have z:A[j]?=some b:=by rw[Q4 G,e]
 have e2:C[j]?=some C[j]:=Q4 hc;exact{j,C[j],z,e2,h.cell j b _ z e2}
def K8.frame{C:List (List<|Int×V)}(h:K8 H r A C sz)(f:∀b,b=r\/b∈A->H' b=H b):K8 H' r A C sz:=
 {by rw[f r (.inl M)];exact h.lst,h.la,h.lc,λj b kv z e2=>by rw[f b (.inr<|Q2 z)];exact h.cell j b kv z e2,h.ndk,h.inj,h.home}
def K8.notr{C:List (List<|Int×V)}(h:K8 H r A C sz)(hb:b∈A){x:G'}(e:H x=some o)(G:∀kvs,o≠ .dK kvs):b≠x:=λz=>by
 let{j,kv,_,_,q}:=h.has hb;rw[z,e]at q;cases q;exact G _ M
def K8.set{C:List (List<|Int×V)}(h:K8 H r A C sz)(ea:A[j]?=some c)(nd:(kv'.map (·.1)).Nodup)(I:∀p∈kv',p.1%65536%sz=(j:Int)):
  K8 (upd H c<|.dK<|aN kv') r A (C.set j kv') sz:=by
 have hc:r≠c:=(h.notr (Q2 ea) h.lst<|λ_ z=>by cases z).symm;refine{by rw[ae hc];exact h.lst,h.la,by rw[Z5];exact h.lc,λi b kv G e2=>?_,λi kv e=>?_,h.inj,λi kv e=>?_}
 .rw[QH]at e2;by_cases z:j=i
  .subst z;rw[ea]at G;cases G;rw[VA M]at e2;split at e2
   .cases e2;exact ag
   .cases e2
  .rw[Vz z]at e2;rw[ae λy=>z (h.inj j i c ea<|by rwa[<-y])];exact h.cell i b kv G e2
 .rw[QH]at e;by_cases z:j=i
  .rw[VA z]at e;split at e
   .cases e;exact nd
   .cases e
  .rw[Vz z]at e;exact h.ndk i kv e
 .rw[QH]at e;by_cases z:j=i
  .subst z;rw[VA M]at e;split at e
   .cases e;exact I
   .cases e
  .rw[Vz z]at e;exact h.home i kv e
def LN(a:G')(st:K4)(d:Lw):Addr->Prop:=λb=>b=a\/b=d.tb\/b=d.r0\/b∈d.A0\/(st.nxt.isSome=true/\b=d.r1)\/b∈d.A1
def IsCell(d:Lw)(st:K4)(k:Int)(c:G')(kv:My):Prop:=
 (st.moved<=k%65536%st.size/\d.A0[(k%65536%st.size).toNat]?=some c/\d.C0[(k%65536%st.size).toNat]?=some kv)\/
 (∃m,st.nxt=some m/\k%65536%st.size<st.moved/\d.A1[(k%65536%m).toNat]?=some c/\d.C1[(k%65536%m).toNat]?=some kv)
structure KA(st:K4):Prop where
 pw:st.size∈([4,8,16,32,64,128,256]:Mu)
 nx:∀m,st.nxt=some m->m∈([4,8,16,32,64,128,256]:Mu)/\0<=st.mv/\st.mv<st.size/\(m=2*st.size\/2*m=st.size)
def j5{x:Int}(h:x∈([4,8,16,32,64,128,256]:List Int)):x=4\/x=8\/x=16\/x=32\/x=64\/x=128\/x=256:=by simpa using h
def bB{x:Int}(h:x∈([4,8,16,32,64,128,256]:List Int)):4<=x/\x<=256:=by
 rcases j5 h with h|h|h|h|h|h|h<;>lia
structure KR(t:KF)(H:Hp)(a:G')(st:K4)(d:Lw):Prop where
 obj:∃dx,H a=some (.ins t.aQ dx<|LL d.tb st.moved d.n)
 tbl:H d.tb=some (.lst<|match st.nxt with|none=> [.ref d.r0]|some _=> [.ref d.r0,.ref d.r1])
 row0:K8 H d.r0 d.A0 d.C0 st.size
 row1:match st.nxt with|none=>d.A1=[]/\d.C1=[]|some m=>K8 H d.r1 d.A1 d.C1 m
 dis:∀b,b∈d.A0->b∉d.A1
 tr:d.tb≠d.r0
 tr1:st.nxt.isSome=true->d.tb≠d.r1/\d.r0≠d.r1
 old:∀(j:Nat)(kv:My),d.C0[j]?=some kv->(j:Int)<st.moved->kv=[]
 new:∀(j:Nat)(kv:My),d.C1[j]?=some kv->∀p∈kv,p.1%65536%st.size<st.moved
 val:∀(k:Int)(c:G')(kv:My),IsCell d st k c kv->aP kv k=aP st.kv k
section
variable{d:Lw}
def KR.frame(h:KR t H a st d)(f:∀b,LN a st d b->H' b=H b):KR t H' a st d:=by
 let{dx,z}:=h.obj;refine{{dx,by rwa[f a (.inl M)]},by rw[f d.tb (.inr<|.inl M)];exact h.tbl,h.row0.frame λb hb=>f b ?_,?_,h.dis,h.tr,h.tr1,h.old,h.new,h.val}
 .rcases hb with hb|hb
  .exact .inr<|.inr (.inl hb)
  .exact .inr<|.inr (.inr<|.inl hb)
 .have r1:=h.row1;have G:=f;unfold LN at G;cases e:st.nxt with
  |none=>rw[e]at r1;exact r1
  |some m=>
   rw[e]at r1;refine K8.frame (H:=H) r1 λb hb=>f b ?_;unfold LN;rw[e];rcases hb with hb|hb
   .exact .inr<|.inr (.inr<|.inr<|.inl ⟨M,hb⟩)
   .exact .inr<|.inr (.inr<|.inr<|.inr hb)
def KR.dom(h:KR t H a st d)(hb:LN a st d b):∃o,H b=some o:=by
 let{dx,z}:=h.obj;rcases hb with rfl|rfl|rfl|hb|⟨hs,rfl⟩|hb
 .exact{_,z}
 .exact{_,h.tbl}
 .exact{_,h.row0.lst}
 .let{_,_,_,_,q}:=h.row0.has hb;exact{_,q}
 .have r1:=h.row1;cases e:st.nxt with
  |none=>rw[e]at hs;cases hs
  |some m=>rw[e]at r1;exact{_,r1.lst}
 .have r1:=h.row1;cases e:st.nxt with
  |none=>rw[e]at r1;rw[r1.1]at hb;cases hb
  |some m=>rw[e]at r1;let{_,_,_,_,q}:=r1.has hb;exact{_,q}
def KR.at(h:KR t H a st d){kv:My}(G:IsCell d st k c kv):H c=some (.dK<|aN kv)/\LN a st d c/\(kv.map (·.1)).Nodup:=by
 rcases G with⟨_,z,e2⟩|⟨m,I,_,z,e2⟩
 .exact{h.row0.cell _ _ _ z e2,.inr<|.inr<|.inr<|.inl<|Q2 z,h.row0.ndk _ _ e2}
 .have r1:=h.row1;rw[I]at r1;exact{r1.cell _ _ _ z e2,.inr<|.inr<|.inr<|.inr<|.inr<|Q2 z,r1.ndk _ _ e2}
def pN(z:4<=m):0<=k%65536%m/\k%65536%m<m/\((k%65536%m).toNat:Int)=k%65536%m:=by
 have h1:=Qx (k%65536) (show m≠0 by lia);have h2:=QA (k%65536) (show 0<m by lia);exact{h1,h2,XX h1}
def cU{l:List α}{z:Int}(G:0<=z)(h1:z<(l.length:Int)):∃x,l[z.toNat]?=some x:={l[z.toNat]'(),Q4 ()}
def KR.cell(h:KR t H a st d)(z:KA st)(k:Int):∃c kv,IsCell d st k c kv:=by
 let{s4,_}:=bB z.pw;let{I,O,m2}:=pN (k:=k) s4;by_cases c:st.moved<=k%65536%st.size
 .let{x,G}:=cU (l:=d.A0) I (by rwa[h.row0.la]);let{y,e2}:=cU (l:=d.C0) I (by rwa[h.row0.lc]);exact{x,y,.inl ⟨c,G,e2⟩}
 .cases e:st.nxt with
  |none=>
   exfalso;have:st.moved=0:=by unfold K4.moved;rw[e]
   lia
  |some m=>
   let{Z,_}:=z.nx m e;let{s5,_}:=bB Z;let{U,Y,n2}:=pN (k:=k) s5;have r1:=h.row1;rw[e]at r1;let{x,G}:=cU (l:=d.A1) U (by rwa[r1.la]);let{y,e2}:=cU (l:=d.C1) U (by rwa[r1.lc]);exact{x,y,.inr {m,e,(),G,e2}}
def IsCell.uniq{kv:My}(x:IsCell d st k c kv)(y:IsCell d st k c' kv'):c=c'/\kv=kv':=by
 rcases x with⟨U,O,e2⟩|⟨m,Y,U,O,e2⟩<;>rcases y with⟨Z,z,G⟩|⟨m',I,Z,z,G⟩
 .rw[O]at z;rw[e2]at G;cases z;cases G;exact⟨M,M⟩
 .lia
 .lia
 .rw[Y]at I;cases I;rw[O]at z;rw[e2]at G;cases z;cases G;exact⟨M,M⟩
def KR.setN(h:KR t H a st d):KR t (upd H a<|.ins t.aQ dx<|LL d.tb st.moved n) a st {d with n:=n}:=by
 let{O,G}:=h.obj;have I:d.tb≠a:=cy h.tbl G (by intro z;cases z);refine{⟨dx,ag⟩,by show upd H a _ d.tb=_;rw[ae I];exact h.tbl,h.row0.frame λb hb=>ae ?_,?_,h.dis,h.tr,h.tr1,h.old,h.new,h.val}
 .rcases hb with rfl|hb
  .exact cy h.row0.lst G<|by intro z;cases z
  .exact h.row0.notr hb G<|λ_ z=>by cases z
 .have r1:=h.row1;cases e:st.nxt with
  |none=>rw[e]at r1;exact r1
  |some m=>
   rw[e]at r1;refine K8.frame (H:=H) r1 λb hb=>ae ?_;rcases hb with rfl|hb
   .exact cy r1.lst G<|by intro z;cases z
   .exact r1.notr hb G<|λ_ z=>by cases z
def KR.setCell(h:KR t H a st d)(z:KA st){kv:My}(ic:IsCell d st k c kv)(nd:(kv'.map (·.1)).Nodup)(hm:∀p∈kv',p∈kv\/p.1=k)
  (hk:aP kv' k=aP kvs k) (ho:∀j,j≠k->aP kv' j=aP kv j/\aP kvs j=aP st.kv j):
  ∃d',KR t (upd H c<|.dK<|aN kv') a {st with kv:=kvs} d'/\d'.n=d.n/\∀b,LN a {st with kv:=kvs} d' b↔LN a st d b:=by
 let{hc,hf,_}:=h.at ic;let{dx,a1}:=h.obj;let{s4,_}:=bB z.pw;let{m0,m1,m2}:=pN (k:=k) s4;have na:a≠c:=cy a1 hc (by intro z;cases z);have nt:d.tb≠c:=cy h.tbl hc (by intro z;cases z);have nr:d.r0≠c:=cy h.row0.lst hc (by intro z;cases z);have a0:∀(d':Lw)(j:Int)(b:G')(x:My),IsCell d' {st with kv:=kvs} j b x->(∀y,IsCell d st j b y->(x=y/\b≠c)\/(x=kv'/\y=kv))->(∃y,IsCell d st j b y)->aP x j=aP kvs j:=λd' j b x hx f ⟨y,hy⟩=>by
  by_cases e:j=k
  .subst e;let{rfl,rfl}:=IsCell.uniq hy ic;rcases f y hy with⟨_,z⟩|⟨rfl,_⟩
   .exact VE M z
   .exact hk
  .rw[(ho j e).2];rcases f y hy with⟨rfl,_⟩|⟨rfl,rfl⟩
   .exact h.val j b x hy
   .rw[(ho j e).1];exact h.val j b y hy
 rcases ic with⟨h0,e1,e2⟩|⟨m,em,h0,e1,e2⟩
 .have Y:c∈d.A0:=Q2 e1;have Z:∀p∈kv',p.1%65536%st.size=((k%65536%st.size).toNat:Int):=λp hp=>by
   rcases hm p hp with q|q
   .exact h.row0.home _ _ e2 p q
   .rw[q,m2]
  refine⟨{d with C0:=d.C0.set (k%65536%st.size).toNat kv'},{{dx,by rwa[ae na]},by show upd H c _ d.tb=_;rw[ae nt];exact h.tbl,h.row0.set e1 nd Z,?_,h.dis,h.tr,h.tr1,λj x e lt=>?_,h.new,λj b x hx=>?_},M,λb=>Iff.rfl⟩
  .have r1:=h.row1;show match st.nxt with|none=>_|some m=>_
   cases e:st.nxt with
   |none=>rw[e]at r1;exact r1
   |some m=>
    rw[e]at r1;refine K8.frame (H:=H) r1 λb hb=>ae ?_;rcases hb with rfl|hb
    .exact cy r1.lst hc<|by intro z;cases z
    .exact λy=>h.dis c Y (y▸hb)
  .have e:(d.C0.set (k%65536%st.size).toNat kv')[j]?=some x:=e;have lt:(j:Int)<st.moved:=lt;rw[QH]at e;by_cases q:(k%65536%st.size).toNat=j
   .exfalso;lia
   .rw[Vz q]at e;exact h.old j x e lt
  .refine a0 _ j b x hx (λy hy=>?_) ?_
   .rcases hx with⟨U,G,O⟩|⟨m',I,U,G,O⟩
    .have O:(d.C0.set (k%65536%st.size).toNat kv')[(j%65536%st.size).toNat]?=some x:=O;have G:d.A0[(j%65536%st.size).toNat]?=some b:=G;have U:st.moved<=j%65536%st.size:=U;rcases hy with⟨_,y1,y2⟩|⟨_,_,y0,_,_⟩
     .rw[QH]at O;by_cases q:(k%65536%st.size).toNat=(j%65536%st.size).toNat
      .rw[VA q]at O;split at O
       .cases O;rw[<-q,e2]at y2;cases y2;exact .inr ⟨M,M⟩
       .cases O
      .rw[Vz q,y2]at O;cases O;exact .inl {M,λw=>q<|h.row0.inj _ _ c e1 (by rwa[<-w])}
     .lia
    .have G:d.A1[(j%65536%m').toNat]?=some b:=G;have O:d.C1[(j%65536%m').toNat]?=some x:=O;have U:j%65536%st.size<st.moved:=U;have I:st.nxt=some m':=I;rcases hy with⟨y0,_,_⟩|⟨m2,e3,y0,y1,y2⟩
     .lia
     .rw[I]at e3;cases e3;rw[O]at y2;cases y2;exact .inl {M,λw=>h.dis c Y<|w▸Q2 G}
   .let{b',y,hy}:=h.cell z j;have:b'=b:=by
     rcases hx with⟨U,G,O⟩|⟨m',I,U,G,O⟩<;>rcases hy with⟨y0,y1,y2⟩|⟨m3,e3,y0,y1,y2⟩
     .have G:d.A0[(j%65536%st.size).toNat]?=some b:=G;rw[y1]at G;exact VG G
     .have U:st.moved<=j%65536%st.size:=U;lia
     .have U:j%65536%st.size<st.moved:=U;lia
     .have I:st.nxt=some m':=I;rw[I]at e3;cases e3;have G:d.A1[(j%65536%m').toNat]?=some b:=G;rw[y1]at G;exact VG G
    subst this;exact⟨y,hy⟩
 .have r1:=h.row1;rw[em]at r1;have Y:c∈d.A1:=Q2 e1;let{pm,_}:=z.nx m em;let{s5,_}:=bB pm;let{n0,n1,n2}:=pN (k:=k) s5;have Z:∀p∈kv',p.1%65536%m=((k%65536%m).toNat:Int):=λp hp=>by
   rcases hm p hp with q|q
   .exact r1.home _ _ e2 p q
   .rw[q,n2]
  refine⟨{d with C1:=d.C1.set (k%65536%m).toNat kv'},{{dx,by rwa[ae na]},by show upd H c _ d.tb=_;rw[ae nt];exact h.tbl,h.row0.frame λb hb=>ae ?_,?_,h.dis,h.tr,h.tr1,h.old,λj x e p hp=>?_,λj b x hx=>?_},M,λb=>Iff.rfl⟩
  .rcases hb with rfl|hb
   .exact nr
   .exact λy=>h.dis b hb (y▸Y)
  .show match st.nxt with|none=>_|some m=>_
   rw[em];exact r1.set e1 nd Z
  .have e:(d.C1.set (k%65536%m).toNat kv')[j]?=some x:=e;show p.1%65536%st.size<st.moved;rw[QH]at e;by_cases q:(k%65536%m).toNat=j
   .rw[VA q]at e;split at e
    .cases e;rcases hm p hp with q|q
     .exact h.new _ _ e2 p q
     .rwa[q]
    .cases e
   .rw[Vz q]at e;exact h.new j x e p hp
  .refine a0 _ j b x hx (λy hy=>?_) ?_
   .rcases hx with⟨U,G,O⟩|⟨m',I,U,G,O⟩
    .have G:d.A0[(j%65536%st.size).toNat]?=some b:=G;have O:d.C0[(j%65536%st.size).toNat]?=some x:=O;have U:st.moved<=j%65536%st.size:=U;rcases hy with⟨_,y1,y2⟩|⟨_,_,y0,_,_⟩
     .rw[O]at y2;cases y2;exact .inl {M,λw=>h.dis b (Q2 G)<|w▸Y}
     .lia
    .have I:st.nxt=some m':=I;rw[em]at I;cases I;have O:(d.C1.set (k%65536%m).toNat kv')[(j%65536%m).toNat]?=some x:=O;have G:d.A1[(j%65536%m).toNat]?=some b:=G;have U:j%65536%st.size<st.moved:=U;rcases hy with⟨y0,_,_⟩|⟨m2,e3,y0,y1,y2⟩
     .lia
     .rw[em]at e3;cases e3;rw[QH]at O;by_cases q:(k%65536%m).toNat=(j%65536%m).toNat
      .rw[VA q]at O;split at O
       .cases O;rw[<-q,e2]at y2;cases y2;exact .inr ⟨M,M⟩
       .cases O
      .rw[Vz q,y2]at O;cases O;exact .inl {M,λw=>q<|r1.inj _ _ c e1 (by rwa[<-w])}
   .let{b',y,hy}:=h.cell z j;have:b'=b:=by
     rcases hx with⟨U,G,O⟩|⟨m',I,U,G,O⟩<;>rcases hy with⟨y0,y1,y2⟩|⟨m3,e3,y0,y1,y2⟩
     .have G:d.A0[(j%65536%st.size).toNat]?=some b:=G;rw[y1]at G;exact VG G
     .have U:st.moved<=j%65536%st.size:=U;lia
     .have U:j%65536%st.size<st.moved:=U;lia
     .have I:st.nxt=some m':=I;rw[I]at e3;cases e3;have G:d.A1[(j%65536%m').toNat]?=some b:=G;rw[y1]at G;exact VG G
    subst this;exact⟨y,hy⟩
end
def sS{kv:My}{p:Int×V}(h:p∈bj kv k v):p∈kv\/p.1=k:=by
 unfold bj at h;split at h
 .let{q,hq,e}:=Qk.mp h;by_cases z:q.1=k
  .rw[VA z]at e;rw[<-e];exact .inr z
  .rw[Vz z]at e;rw[<-e];exact .inl hq
 .rcases Q6.mp h with h|h
  .exact .inl h
  .rw[Qf.mp h];exact .inr M
def FZ{kv:My}{p:Int×V}(h:p∈kv):(aP kv p.1).isSome=true:=mem_keys.mp (Qk.mpr ⟨p,h,M⟩)
def fh(m:Int)(C:List (List<|Int×V))(p:Int×V):List (List<|Int×V):=C.set (p.1%65536%m).toNat (bj (C.getD (p.1%65536%m).toNat []) p.1 p.2)
def DG{C:List (List<|Int×V)}{p:Int×V}:(fh m C p).length=C.length:=Z5
theorem AC{m:Int}:∀{kv:My}{C:List (List<|Int×V)},(kv.foldl (fh m) C).length=C.length
 | [],_=>rfl
 |p::r,C=>by rw[List.foldl_cons,AC,DG]
def yb{C:List (List<|Int×V)}{p:Int×V}{y:My}(e:C[j]?=some y):(fh m C p)[j]?=some (if(p.1%65536%m).toNat=j then bj y p.1 p.2 else y):=by
 unfold fh;rw[QH];by_cases z:(p.1%65536%m).toNat=j
 .have G:j<C.length:=(Q3.mp e).1;rw[VA z,VA z,VA (by rwa[z]),Qs,z,e];rfl
 .rw[Vz z,Vz z,e]
set_option tactic.hygienic true in
theorem wY{m:Int}:∀{kv:My}{C:List (List<|Int×V)}{j:Nat}{y:My},(kv.map (·.1)).Nodup->C[j]?=some y->∃x,(kv.foldl (fh m) C)[j]?=some x/\
  (∀p∈x,p∈y\/p.1∈kv.map (·.1))/\∀k,aP x k=if(k%65536%m).toNat=j then(aP kv k).or (aP y k)else aP y k
 | [],C,j,y,_,e=>{y,e,λp hp=> .inl hp,λk=>by rw[nN];simp}
 |p::r,C,j,y,nd,e=>by
  let{G,I}:=Z9.mp (show(p.1::r.map (·.1)).Nodup from nd);let{x,h1,h2,O}:=wY (m:=m) I (yb (m:=m) (p:=p) e);refine{x,h1,λq hq=>?_,λk=>?_}
  .rcases h2 q hq with z|z
   .split at z
    .rcases sS z with z|z
     .exact .inl z
     .exact .inr<|Qk.mpr ⟨p,Q7,z.symm⟩
    .exact .inl z
   .exact .inr<|Q8 _ z
  .rw[O k];by_cases z:(k%65536%m).toNat=j
   .rw[VA z,VA z];by_cases w:p.1=k
    .subst w;have:aP r p.1=none:=by
      cases q:aP r p.1 with
      |none=>rfl
      |some v=>exact VE (vZ q) G
     rw[this,bg M,VA z,fL,VA M];rfl
    .rw[bh w];congr 1;split
     .rw[fL,Vz (Ne.symm w)]
     .rfl
   .rw[Vz z,Vz z];split
    .rename_i w
     rw[fL,Vz (λy=>z<|by rwa[y])]
    .rfl
def K8.mov{C:List (List<|Int×V)}{y:My}(h:K8 H r A C sz)(s4:4<=sz)(ea:A[(k%65536%sz).toNat]?=some c)(G:C[(k%65536%sz).toNat]?=some y):
  K8 (upd H c<|.dK<|aN<|bj y k v) r A (fh sz C (k,v)) sz:=by
 have e:fh sz C (k,v)=C.set (k%65536%sz).toNat (bj y k v):=by
  unfold fh;rw[Qs];show C.set (k%65536%sz).toNat (bj (C[(k%65536%sz).toNat]?.getD []) k v)=_;rw[G];rfl
 rw[e];let{O,U,I}:=pN (k:=k) s4;refine h.set ea (zG<|h.ndk _ _ G) λp hp=>?_;rcases sS hp with z|z
 .exact h.home _ _ G p z
 .rw[z,I]
section
variable{d:Lw}
def K4.moved_some(e:st.nxt=some m):st.moved=st.mv:=by unfold K4.moved;rw[e]
def K4.moved_none(e:st.nxt=none):st.moved=0:=by unfold K4.moved;rw[e]
def KR.movVal(h:KR t H a st d)(z:KA st)(G:st.nxt=some m){kv:My}(I:d.C0[st.mv.toNat]?=some kv)(hk:k%65536%st.size<=st.mv){x:My}
  (ex:(kv.foldl (fh m) d.C1)[(k%65536%m).toNat]?=some x):aP x k=aP st.kv k:=by
 let{pm,v0,v1,_}:=z.nx m G;let{s4,_}:=bB z.pw;let{s5,_}:=bB pm;have r1:=h.row1;rw[G]at r1;let{n0,n1,n2}:=pN (k:=k) s5;let{m0,m1,m2}:=pN (k:=k) s4;let{y,O}:=cU (l:=d.C1) n0 (by rwa[r1.lc]);let{c1,U}:=cU (l:=d.A1) n0 (by rwa[r1.la]);let{x',e',_,hv}:=wY (m:=m) (h.row0.ndk _ _ I) O;rw[ex]at e';cases e';rw[hv k,VA M];have hm:=K4.moved_some G;by_cases c:k%65536%st.size=st.mv
 .let{b0,Y}:=cU (l:=d.A0) m0 (by rwa[h.row0.la]);have Z:IsCell d st k b0 kv:= .inl {(),Y,by rw[c];exact I};have yn:aP y k=none:=by
   cases q:aP y k with
   |none=>rfl
   |some v=>
    let{p,hp,e}:=Qk.mp (vZ q);have:=h.new _ _ O p hp;rw[e]at this;lia
  rw[h.val k b0 kv Z,yn];simp
 .have Z:IsCell d st k c1 y:= .inr {m,G,(),U,O};have kn:aP kv k=none:=by
   cases q:aP kv k with
   |none=>rfl
   |some v=>
    let{p,hp,e}:=Qk.mp (vZ q);have:=h.row0.home _ _ I p hp;rw[e]at this;lia
  rw[kn,h.val k c1 y Z];rfl
def c5{l:List α}{x y:α}(e:(l.set i x)[j]?=some y):(i=j/\y=x)\/(i≠j/\l[j]?=some y):=by
 rw[QH]at e;by_cases z:i=j
 .rw[VA z]at e;split at e
  .cases e;exact .inl ⟨z,M⟩
  .cases e
 .rw[Vz z]at e;exact .inr ⟨z,e⟩
def KR.one(h:KR t H a st d)(z:KA st)(Y:st.nxt=some m){kv:My}(ek:d.C0[st.mv.toNat]?=some kv){b':G'}(nl:st.mv+1≠st.size)
  (ha:H' a=some (.ins t.aQ dx<|LL d.tb (st.mv+1) d.n)) (ht:H' d.tb=H d.tb) (h0:H' d.r0=some (.lst<|(d.A0.set st.mv.toNat b').map V.ref)) (hb:H' b'=some (.dK [])) (hF:¬LN a st d b')
  (hA:∀(j:Nat) b,d.A0[j]?=some b->j≠st.mv.toNat->H' b=H b) (hr:K8 H' d.r1 d.A1 (kv.foldl (fh m) d.C1) m):
  KR t H' a st.one {d with A0:=d.A0.set st.mv.toNat b',C0:=d.C0.set st.mv.toNat [],C1:=kv.foldl (fh m) d.C1}:=by
 let{pm,v0,v1,_}:=z.nx m Y;have a1:st.one={st with mv:=st.mv+1}:=by unfold K4.one;rw[Y];exact Vz nl
 have G:({st with mv:=st.mv+1}:K4).moved=st.mv+1:=K4.moved_some (st:={st with mv:=st.mv+1}) Y;have hm:=K4.moved_some Y;have a2:b'∉d.A0:=λq=>hF (.inr<|.inr<|.inr<|.inl q);have a3:b'∉d.A1:=λq=>hF (.inr<|.inr<|.inr<|.inr<|.inr q);rw[a1];have r1:=h.row1;rw[Y]at r1;refine{{dx,by rwa[G]},by rw[ht];exact h.tbl,{h0,by rw[Z5];exact h.row0.la,by rw[Z5];exact h.row0.lc,λj b x Z e2=>?_,λj x e=>?_,λi j b Z e2=>?_,λj x e p hp=>?_},?_,λb a4 hb1=>?_,h.tr,h.tr1,λj x e lt=>?_,λj x e p hp=>?_,λk c x ic=>?_}
 .rcases c5 Z with⟨q,rfl⟩|⟨q,Z⟩
  .rcases c5 e2 with⟨_,rfl⟩|⟨q2,_⟩
   .exact hb
   .exact VE q q2
  .rcases c5 e2 with⟨q2,_⟩|⟨_,e2⟩
   .exact VE q2 q
   .rw[hA j b Z (Ne.symm q)];exact h.row0.cell j b x Z e2
 .rcases c5 e with⟨_,rfl⟩|⟨_,e⟩
  .exact ZB
  .exact h.row0.ndk j x e
 .have Z:(d.A0.set st.mv.toNat b')[i]?=some b:=Z;have e2:(d.A0.set st.mv.toNat b')[j]?=some b:=e2;rcases c5 Z with⟨q,y1⟩|⟨q,O⟩<;>rcases c5 e2 with⟨q2,y2⟩|⟨q2,I⟩
  .exact q.symm.trans q2
  .rw[y1]at I;exact VE (Q2 I) a2
  .rw[y2]at O;exact VE (Q2 O) a2
  .exact h.row0.inj i j b O I
 .rcases c5 e with⟨_,rfl⟩|⟨_,e⟩
  .cases hp
  .exact h.row0.home j x e p hp
 .show match st.nxt with|none=>_|some m=>_
  rwa[Y]
 .let{j,hj,e}:=QI (show b∈d.A0.set st.mv.toNat b' from a4);rcases c5 (Q3.mpr ⟨hj,e⟩)with⟨_,rfl⟩|⟨_,e⟩
  .exact a3 hb1
  .exact h.dis b (Q2 e) hb1
 .rw[G]at lt;rcases c5 e with⟨_,rfl⟩|⟨q,e⟩
  .rfl
  .exact h.old j x e ()
 .rw[G];show p.1%65536%st.size<st.mv+1;obtain⟨y,ey⟩:∃y,d.C1[j]?=some y:=by
   have hj:j<(kv.foldl (fh m) d.C1).length:=(Q3.mp e).1;rw[AC]at hj;exact{_,Q4 hj}
  let{x',e',a0,_}:=wY (m:=m) (h.row0.ndk _ _ ek) ey;have e:(kv.foldl (fh m) d.C1)[j]?=some x:=e;rw[e]at e';cases e';rcases a0 p hp with q|q
  .have:=h.new j y ey p q;lia
  .let{p',a0,e3}:=Qk.mp q;have:=h.row0.home _ _ ek p' a0;rw[e3]at this;lia
 .show aP x k=aP st.kv k;rcases ic with⟨g0,O,I⟩|⟨m',U,g0,O,I⟩
  .rw[G]at g0;have g0:st.mv+1<=k%65536%st.size:=g0;have O:(d.A0.set st.mv.toNat b')[(k%65536%st.size).toNat]?=some c:=O;have I:(d.C0.set st.mv.toNat [])[(k%65536%st.size).toNat]?=some x:=I;rcases c5 O with⟨q,_⟩|⟨_,O⟩
   .lia
   .rcases c5 I with⟨q,_⟩|⟨_,I⟩
    .lia
    .exact h.val k c x<|.inl {(),O,I}
  .rw[G]at g0;have U:st.nxt=some m':=U;rw[Y]at U;cases U;have g0:k%65536%st.size<st.mv+1:=g0;exact h.movVal z Y ek () I
def KR.last(h:KR t H a st d)(z:KA st)(U:st.nxt=some m){kv:My}(Y:d.C0[st.mv.toNat]?=some kv){tb':G'}(l:st.mv+1=st.size)
  (ha:H' a=some (.ins t.aQ dx<|LL tb' 0 d.n)) (Z:H' tb'=some (.lst [.ref d.r1])) (hn:tb'≠d.r1) (hr:K8 H' d.r1 d.A1 (kv.foldl (fh m) d.C1) m):
  KR t H' a st.one {tb',d.r1,d.r1,d.A1,[],kv.foldl (fh m) d.C1,[],d.n}:=by
 have G:st.one={st with size:=m,nxt:=none,mv:=0}:=by unfold K4.one;rw[U];exact VA l
 let{s4,_}:=bB z.pw;rw[G];refine{⟨dx,ha⟩,Z,hr,⟨M,M⟩,(λb _ q=>by cases q),hn,(λq=>by cases q),λj x e lt=>?_,(λj x e=>by simp at e),λk c x ic=>?_}
 .have lt:(j:Int)<0:=lt;lia
 .rcases ic with⟨g0,f1,I⟩|⟨m',O,_⟩
  .have I:(kv.foldl (fh m) d.C1)[(k%65536%m).toNat]?=some x:=I;let{m0,m1,m2}:=pN (k:=k) s4;exact h.movVal z U Y () I
  .cases O
def KR.begin(h:KR t H a st d)(en:st.nxt=none)(ha:H' a=H a)(ht:H' d.tb=some (.lst [.ref d.r0,.ref r]))(h0:∀b,b=d.r0\/b∈d.A0->H' b=H b)
  (hr:K8 H' r A (List.replicate m.toNat []) m) (O:¬LN a st d r) (nA:∀b∈A,¬LN a st d b):KR t H' a {st with nxt:=some m,mv:=0} {d with r1:=r,A1:=A,C1:=List.replicate m.toNat []}:=by
 let{dx,U}:=h.obj;have Y:=K4.moved_none en;refine{{dx,by rw[ha];rw[Y]at U;exact U},ht,h.row0.frame h0,hr,λb q q2=>nA b q2<|.inr<|.inr<|.inr<|.inl q,h.tr,λ_=>{λq=>O<|.inr<|.inl q.symm,λq=>O<|.inr (.inr<|.inl q.symm)},λj x e lt=>?_,λj x e p hp=>?_,λk c x ic=>?_}
 .have lt:(j:Int)<0:=lt;lia
 .have:=Zw (Q2 e);subst this;cases hp
 .rcases ic with⟨G,Z,I⟩|⟨m',a0,G,Z,I⟩
  .refine h.val k c x<|.inl {?_,Z,I};rwa[Y]
  .have G:k%65536%st.size<0:=G;have I:(List.replicate m.toNat ([]:My))[(k%65536%m').toNat]?=some x:=I;have:0<=k%65536%st.size:=by
    have z:(0:Int)<=st.size:=by rw[<-h.row0.la];lia
    rcases Int.lt_or_eq_of_le z with q|q
    .exact Qx _ ()
    .rw[<-q,Int.emod_zero];exact Qx _ (_)
   lia
def KR.fresh(ha:H a=some (.ins t.aQ dx<|LL tb 0 0))(I:H tb=some (.lst [.ref r]))(O:K8 H r A (List.replicate 4 []) 4)(n:tb≠r):KR t H a K4.new {tb,r,r,A,[],List.replicate 4 [],[],0}:=by
 refine{⟨dx,ha⟩,I,O,⟨M,M⟩,(λb _ q=>by cases q),n,(λq=>by cases q),λj x e lt=>?_,(λj x e=>by simp at e),λk c x U=>?_}
 .have lt:(j:Int)<0:=lt;lia
 .rcases U with⟨Y,Z,z⟩|⟨m',G,_⟩
  .have z:(List.replicate 4 ([]:My))[(k%65536%4).toNat]?=some x:=z;have:=Zw (Q2 z);subst this;rfl
  .cases G
def KR.short(h:KR t H a st d)(z:KA st){kv:My}(Y:IsCell d st k c kv):kv.length<=st.kv.length:=by
 let{_,_,nd}:=h.at Y;have sub:∀x∈kv.map (·.1),x∈st.kv.map (·.1):=λx hx=>by
  let{p,hp,e}:=Qk.mp hx;subst e;refine mem_keys.mpr ?_;have hs:=FZ hp;have:∃c',IsCell d st p.1 c' kv:=by
   rcases Y with⟨Z,I,G⟩|⟨m,O,Z,I,G⟩
   .let{s4,_}:=bB z.pw;let{m0,m1,m2}:=pN (k:=k) s4;have e:=h.row0.home _ _ G p hp;rw[m2]at e;exact{c,.inl {by rwa[e],by rw[e];exact I,by rwa[e]}}
   .let{pm,_}:=z.nx m O;let{s5,_}:=bB pm;let{n0,n1,n2}:=pN (k:=k) s5;have r1:=h.row1;rw[O]at r1;have e:=r1.home _ _ G p hp;rw[n2]at e;exact{c,.inr {m,O,h.new _ _ G p hp,by rw[e];exact I,by rwa[e]}}
  let{c',U}:=this;rwa[<-h.val p.1 c' kv U]
 have:=gc nd sub;rw[Q0,Q0]at this;exact this
end
theorem ya{m:Int}:∀{kv:My}{C:List (List<|Int×V)}{j:Nat}{x y:My},C[j]?=some y->(kv.foldl (fh m) C)[j]?=some x->x.length<=y.length+kv.length
 | [],C,j,x,y,e,f=>by
  have f:C[j]?=some x:=f;rw[e]at f;cases f;exact Q5 _
 |p::r,C,j,x,y,e,f=>by
  have h:=ya (m:=m) (yb (m:=m) (p:=p) e) f;have l:=cG y p.1 p.2;rw[Ql];split at h<;>lia
section
variable{d:Lw}
def KR.short0(h:KR t H a st d)(z:KA st){kv:My}(e:d.C0[j]?=some kv):kv.length<=st.kv.length:=by
 cases kv with
 |nil=>exact Qh _
 |cons p r=>
  have hp:=h.row0.home j _ e p Q7;have I:¬(j:Int)<st.moved:=λq=>by have:=h.old j _ e q;cases this
  have ej:(p.1%65536%st.size).toNat=j:=();have G:j<d.A0.length:=by
   have:=h.row0.la;have:=h.row0.lc;have:=(Q3.mp e).1;lia
  exact h.short z (k:=p.1) (c:=d.A0[j])<|.inl {(),by rw[ej];exact Q4 G,by rwa[ej]}
def KR.short1(h:KR t H a st d)(z:KA st)(G:st.nxt=some m){kv:My}(e:d.C1[j]?=some kv):kv.length<=st.kv.length:=by
 have r1:=h.row1;rw[G]at r1;cases kv with
 |nil=>exact Qh _
 |cons p r=>
  have hp:=r1.home j _ e p Q7;have I:=h.new j _ e p Q7;have ej:(p.1%65536%m).toNat=j:=();have O:j<d.A1.length:=by
   have:=r1.la;have:=r1.lc;have:=(Q3.mp e).1;lia
  exact h.short z (k:=p.1) (c:=d.A1[j])<|.inr {m,G,I,by rw[ej];exact Q4 O,by rwa[ej]}
end
def KA.new:KA K4.new:={(_),λm e=>by cases e}
def KA.kv(z:KA st):KA {st with kv:=kvs}:=⟨z.pw,z.nx⟩
set_option tactic.hygienic true in
def KA.one(z:KA st):KA st.one:=by
 unfold K4.one;cases e:st.nxt with
 |none=>exact z
 |some m=>
  let{G,O,U,I}:=z.nx m e;show KA (if _ then _ else _);split
  .exact{G,λm' q=>by cases q}
  .rename_i c
   refine{z.pw,λm' q=>?_};have q:some m=some m':=q;cases q;exact{G,by show 0<=st.mv+1;lia,by show st.mv+1<st.size;lia,I}
def JV{x:Int}(h:x∈([4,8,16,32,64,128,256]:List Int))(c:x<256):2*x∈([4,8,16,32,64,128,256]:Mu):=by
 rcases j5 h with rfl|rfl|rfl|rfl|rfl|rfl|rfl<;>first|decide|exact VE c (_)
def G8{x:Int}(h:x∈([4,8,16,32,64,128,256]:List Int))(c:4<x):x/2∈([4,8,16,32,64,128,256]:Mu)/\2*(x/2)=x:=by
 rcases j5 h with rfl|rfl|rfl|rfl|rfl|rfl|rfl<;>first|decide|exact VE c (_)
def G7{x:Int}(h:x∈([4,8,16,32,64,128,256]:List Int)):0<x:=by
 rcases j5 h with rfl|rfl|rfl|rfl|rfl|rfl|rfl<;>decide
set_option tactic.hygienic true in
def KA.three(z:KA st):KA st.three:=by
 unfold K4.three;cases e:st.nxt with
 |some m=>exact z
 |none=>
  show KA (if _ then _ else _);split
  .rename_i c
   refine{z.pw,λm' q=>?_};cases q;exact{JV z.pw c.2,ZY _,G7 z.pw,.inl M}
  .split
   .rename_i c
    refine{z.pw,λm' q=>?_};cases q;exact{(G8 z.pw c.2).1,ZY _,G7 z.pw,.inr (G8 z.pw c.2).2}
   .exact z
def Ku(_K:Wi)(t:KF)(H:Hp)(a:G')(F:Mw)(st:K4):Prop:=
 ∃d,KR t H a st d/\(∀b,F b↔LN a st d b)/\d.n=(st.kv.length:Int)/\(st.kv.map (·.1)).Nodup/\KA st
def Ku.ins(h:Ku K t H a F st):∃dx fs,H a=some (.ins t.aQ dx fs)/\∀m,NoM m->fs.lookup m=none:=by
 let{d,hb,_}:=h;let{dx,z}:=hb.obj;exact{dx,_,z,λm G=>G4 G}
def Ku.dom(h:Ku K t H a F st)(hb:F b):∃o,H b=some o:=by
 let{d,h1,h2,_}:=h;exact h1.dom<|(h2 b).mp hb
def Ku.frame(h:Ku K t H a F st)(f:∀b,F b->H' b=H b):Ku K t H' a F st:=by
 let{d,h1,h2,z}:=h;exact{d,h1.frame λb hb=>f b<|(h2 b).mpr hb,h2,z}
def Ku.same(h:Ku K t H a F st)(s:Cp H H'):Ku K t H' a F st:=h.frame λb hb=>by
 let{o,e}:=h.dom hb;rw[e];exact s b o e
def Ku.out(h:Ku K t H a F st)(e:H p=none):¬F p:=λz=>by
 let{o,q}:=h.dom z;rw[q]at e;cases e
def Ku.upd(h:Ku K t H a F st)(e:¬F p):Ku K t (L2.upd H p o) a F st:=h.frame λb hb=>ae λz=>e (z▸hb)
def Ku.new(h:Ku K t H a F st)(e:H p=none):Ku K t (L2.upd H p o) a F st:=h.upd (h.out e)
def rC(K:Wi)(t:KF):Sp:=λvs H Q _=>∃(a dx:G'),vs=[.ref a]/\H a=some (.ins t.aQ dx [])/\H dx=some (.own a)/\∀H' F,Ku K t H' a F K4.new->Fr (λb=>b=a\/b=dx) F H H'->Q .non H'
def ua(K:Wi)(t:KF):Sp:=λvs H Q _=>∃(a:G')(k i:Int)(F:Mw)(st:K4),vs=[.ref a,.int k,.int i]/\Ku K t H a F st/\0<=k/\st.kv.length<4096/\
 ∀H' F',Ku K t H' a F' (st.put k<|.int i)->Fr F F' H H'->Q .non H'
def uc(K:Wi)(t:KF):Sp:=λvs H Q E=>∃(a:G')(k:Int)(F:Mw)(st:K4),vs=[.ref a,.int k]/\Ku K t H a F st/\0<=k/\
 (∀v,aP st.kv k=some v->∀H' F',Ku K t H' a F' st->Fr F F' H H'->Q v H')/\(aP st.kv k=none->False)
def ub(K:Wi)(t:KF):Sp:=λvs H Q _=>∃(a:G')(k:Int)(F:Mw)(st:K4),vs=[.ref a,.int k]/\Ku K t H a F st/\0<=k/\
 ∀H' F',Ku K t H' a F' st->Fr F F' H H'->Q (.bl (aP st.kv k).isSome) H'
def rB(K:Wi)(t:KF):Sp:=λvs H Q _=>∃(a:G')(F:Mw)(st:K4),vs=[.ref a]/\Ku K t H a F st/\
 ∀H' F' l,Ku K t H' a F' st->Fr F F' H H'->H l=none->¬F' l->H' l=some (.lst<|st.rows.map V.int)->Q (.ref l) H'
def cX(l:Mu):Prop:=l.Pairwise (· < ·)
structure Ky(ls:Nr):Prop where
 ne:∀l∈ls,l≠[]
 le:∀l∈ls,l.length<=8
 nb:∀(i:Nat)(x y:Mu),ls[i]?=some x->ls[i+1]?=some y->5<=x.length+y.length
 up:cX ls.flatten
def Ky.nil:Ky []:={(λ_ h=>by cases h),(λ_ h=>by cases h),(λi x y e=>by simp at e),VY}
def Jh(e:ls[i]?=some x):ls=ls.take i++x::ls.drop (i+1):=by
 let{h,e}:=Q3.mp e;rw[<-e,<-Zt h,QR]
def lJ(e:ls[i]?=some x):ls.flatten=(ls.take i).flatten++(x++(ls.drop<|i+1).flatten):=by
 conv=>lhs;rw[Jh e]
 rw[ZS,ZI]
def M0{a b c:Mu}:cX (a++(b++c))↔cX a/\cX b/\cX c/\(∀x∈a,∀y∈b,x<y)/\(∀x∈a,∀y∈c,x<y)/\∀x∈b,∀y∈c,x<y:=by
 unfold cX;rw[Qi,Qi];constructor
 .rintro ⟨h1,⟨h2,I,O⟩,G⟩;exact{h1,h2,I,λx hx y hy=>G x hx y<|QW _ hy,λx hx y hy=>G x hx y<|Qp _ hy,O}
 .rintro ⟨h1,h2,I,O,G,U⟩;refine{h1,⟨h2,I,U⟩,λx hx y hy=>?_};rcases Q6.mp hy with z|z
  .exact O x hx y z
  .exact G x hx y z
structure KS(ls:Nr)(k:Int)(i:Nat):Prop where
 le:i<=ls.length
 lo:∀(j:Nat)(x:Mu),j<i->ls[j]?=some x->∀y∈x,y<k
 hi:∀x,ls[i]?=some x->∃y∈x,k<=y
def xD{y:Int}(h:y∈(ls.take i).flatten):∃(j:Nat)(x:Mu),j<i/\ls[j]?=some x/\y∈x:=by
 let{x,hx,hy}:=Ve.mp h;let{j,z,e}:=QI hx;rw[Qe]at z;rw[ZH]at e;exact{j,x,(),Q3.mpr {(),e},hy}
def KS.ahead(h:KS ls k i):∀y∈(ls.take i).flatten,y<k:=λy hy=>by
 let{j,x,z,e,hx}:=xD hy;exact h.lo j x z e y hx
def KS.behind(o:Ky ls)(h:KS ls k i):∀y∈(ls.drop<|i+1).flatten,k<y:=λy hy=>by
 cases e:ls[i]? with
 |none=>
  have:ls.length<=i:=Zs.mp e;rw[Zl ()]at hy;cases hy
 |some x=>
  let{z,hz,le}:=h.hi x e;have up:=o.up;rw[lJ e]at up;have:=(M0.mp up).2.2.2.2.2 z hz y hy;lia
def KS.mem(o:Ky ls)(h:KS ls k i):k∈ls.flatten↔∃x,ls[i]?=some x/\k∈x:=by
 constructor
 .intro hk;cases e:ls[i]? with
  |none=>
   have l:ls.length<=i:=Zs.mp e;have:ls.take i=ls:=QB l;have:=h.ahead k (by rwa[this]);lia
  |some x=>
   rw[lJ e]at hk;rcases Q6.mp hk with z|z
   .have:=h.ahead k z;lia
   .rcases Q6.mp z with z|z
    .exact⟨x,M,z⟩
    .have:=h.behind o k z;lia
 .rintro ⟨x,e,hk⟩;exact Ve.mpr {x,Q2 e,hk}
theorem yH:∀{l:Mu}{k:Int},cX l->k∉l->(∀x∈l.take (l.filter<|λz=>decide (z<k)).length,x<k)/\∀x∈l.drop (l.filter<|λz=>decide (z<k)).length,k<x
 | [],k,_,_=>{λx h=>by simp at h,λx h=>by simp at h}
 |a::r,k,up,nk=>by
  let{h1,h2}:=Z0.mp up;have G:k∉r:=λz=>nk (Q8 _ z);have U:a≠k:=λz=>nk (by rw[z];exact Q7);by_cases c:a<k
  .let{I,O}:=yH h2 G;rw[List.filter_cons,VA (by simpa using c),Ql,XY,List.drop_succ_cons];refine{λx hx=>?_,O};rcases Qc.mp hx with rfl|hx
   .exact c
   .exact I x hx
  .have:(a::r).filter (λz=>decide (z<k))=[]:=by
    rw[ZD];intro x hx;rcases Qc.mp hx with rfl|hx
    .simpa using c
    .have:=h1 x hx;simp;lia
   rw[this];refine{λx hx=>by simp at hx,λx hx=>?_};have hx:x∈a::r:=by simpa using hx
   rcases Qc.mp hx with rfl|hx
   .lia
   .have:=h1 x hx;lia
noncomputable def eY(l:Mu)(k:Int):List Int:=l.take (l.filter<|λz=>decide (z<k)).length++k::l.drop (l.filter<|λz=>decide (z<k)).length
def D5{l:Mu}:(eY l k).length=l.length+1:=by
 have h:=Qq (λz=>decide (z<k)) l;unfold eY;rw[Qd,Ql,Qe,QN];lia
def Lc{l:Mu}{x:Int}:x∈eY l k↔x=k\/x∈l:=by
 unfold eY;rw[Q6,Qc];have:x∈l↔x∈l.take (l.filter<|λz=>decide (z<k)).length\/x∈l.drop (l.filter<|λz=>decide (z<k)).length:=by
  rw[<-Q6,QR]
 rw[this];constructor
 .rintro (h|h|h)
  .exact .inr<|.inl h
  .exact .inl h
  .exact .inr<|.inr h
 .rintro (h|h|h)
  .exact .inr<|.inl h
  .exact .inl h
  .exact .inr<|.inr h
def BY{l:Mu}(up:cX l)(G:k∉l):cX (eY l k):=by
 let{h1,h2}:=yH up G;have up':cX (l.take (l.filter<|λz=>decide (z<k)).length++l.drop (l.filter<|λz=>decide (z<k)).length):=by rwa[QR]
 let{I,O,U}:=Qi.mp up';unfold eY;refine Qi.mpr {I,Z0.mpr ⟨h2,O⟩,λx hx y hy=>?_};rcases Qc.mp hy with rfl|hy
 .exact h1 x hx
 .exact U x hx y hy
structure MR(ls:Nr)(k:Int)(i:Nat)(x:Mu):Prop where
 at_:ls[i]?=some x
 lo:∀y∈(ls.take i).flatten,y<k
 hi:∀y∈(ls.drop<|i+1).flatten,k<y
def KS.add(o:Ky ls)(h:KS ls k i)(G:ls≠[]):∃x,MR ls k (min i<|ls.length-1) x:=by
 have hl:0<ls.length:=Zk.mpr G;by_cases c:i<ls.length
 .have:min i (ls.length-1)=i:=();rw[this];exact{ls[i],Q4 c,h.ahead,h.behind o}
 .have le:=h.le;have:min i (ls.length-1)=ls.length-1:=();rw[this];have z:ls.length-1<ls.length:=();refine{ls[ls.length-1],Q4 z,λy hy=>?_,λy hy=>?_}
  .let{j,x,I,e,hx}:=xD hy;exact h.lo j x () e y hx
  .rw[Zl ()]at hy;cases hy
def Aq(e:ls[i]?=some x):ls.set i y=ls.take i++y::ls.drop (i+1):=by
 have hi:=(Q3.mp e).1;rw[List.set_eq_take_append_cons_drop,VA hi]
def xN(e:ls[i]?=some x):(ls.set i y).flatten=(ls.take i).flatten++(y++(ls.drop<|i+1).flatten):=by
 rw[Aq e,ZS,ZI]
def MR.set(o:Ky ls)(h:MR ls k i x)(G:k∉ls.flatten):cX (ls.set i<|eY x k).flatten/\∀z,z∈(ls.set i<|eY x k).flatten↔z=k\/z∈ls.flatten:=by
 have up:=o.up;rw[lJ h.at_]at up G;let{I,O,U,Y,Z,u6}:=M0.mp up;have nx:k∉x:=λz=>G (Qp _<|QW _ z);rw[xN h.at_,lJ h.at_];refine{M0.mpr {I,BY O nx,U,λa ha b hb=>?_,Z,λa ha b hb=>?_},λz=>?_}
 .rcases Lc.mp hb with rfl|hb
  .exact h.lo a ha
  .exact Y a ha b hb
 .rcases Lc.mp ha with rfl|ha
  .exact h.hi b hb
  .exact u6 a ha b hb
 .rw[Q6,Q6,Q6,Q6,Lc];constructor
  .rintro (h|(h|h)|h)
   .exact .inr<|.inl h
   .exact .inl h
   .exact .inr<|.inr (.inl h)
   .exact .inr<|.inr (.inr h)
  .rintro (h|h|h|h)
   .exact .inr<|.inl (.inl h)
   .exact .inl h
   .exact .inr<|.inl (.inr h)
   .exact .inr<|.inr h
def xb{z:Mu}(e:ls[i]?=some x)(f:(ls.set i y)[j]?=some z):(i=j/\z=y)\/(i≠j/\ls[j]?=some z):=by
 rw[QH]at f;by_cases c:i=j
 .rw[VA c]at f;split at f
  .cases f;exact .inl ⟨c,M⟩
  .cases f
 .rw[Vz c]at f;exact .inr ⟨c,f⟩
def AF{z:Mu}(e:ls[i]?=some x)(h:z∈ls.set i y):z=y\/z∈ls:=by
 let{j,G,I}:=QI h;rcases xb e (Q3.mpr ⟨G,I⟩)with⟨_,q⟩|⟨_,q⟩
 .exact .inl q
 .exact .inr<|Q2 q
def Ky.grown(o:Ky ls)(e:ls[i]?=some x)(l1:x.length<=y.length)(I:y.length<=8)(up:cX (ls.set i y).flatten):Ky (ls.set i y):=by
 have hx:=o.ne x (Q2 e);have px:0<x.length:=Zk.mpr hx;refine{λl hl=>?_,λl hl=>?_,λj a b f g=>?_,up}
 .rcases AF e hl with rfl|hl
  .exact Xl ()
  .exact o.ne l hl
 .rcases AF e hl with rfl|hl
  .exact I
  .exact o.le l hl
 .rcases xb e f with⟨c,h1⟩|⟨c,z⟩<;>rcases xb e g with⟨c',h2⟩|⟨c',G⟩
  .lia
  .subst c;have:=o.nb i x b e G;rw[h1];lia
  .rw[c']at e;have:=o.nb j a x z e;rw[h2];lia
  .exact o.nb j a b z G
set_option tactic.hygienic true in
def Ky.parted{a b:Mu}(o:Ky ls)(e:ls[i]?=some x)(O:a.length=4)(U:b.length=5)(up:cX (ls.set i<|a++b).flatten):
  Ky ((ls.set i a).take (i+1)++b::(ls.set i a).drop (i+1))/\((ls.set i a).take (i+1)++b::(ls.set i a).drop (i+1)).flatten=(ls.set i<|a++b).flatten:=by
 have hi:=(Q3.mp e).1;have lt:(ls.take i).length=i:=by rw[Qe];lia
 have I:(ls.set i a).take (i+1)++b::(ls.set i a).drop (i+1)=ls.take i++a::b::ls.drop (i+1):=by
  rw[Aq (y:=a) e];have h1:(ls.take i++a::ls.drop (i+1)).take (i+1)=ls.take i++ [a]:=by
   rw[List.take_append,lt,QB ()];have:i+1-i=1:=();rw[this];rfl
  have h2:(ls.take i++a::ls.drop (i+1)).drop (i+1)=ls.drop (i+1):=by
   rw[List.drop_append,lt,Zl ()];have:i+1-i=1:=();rw[this];rfl
  rw[h1,h2,Qn];rfl
 have e2:(ls.take i++a::b::ls.drop (i+1)).flatten=(ls.set i<|a++b).flatten:=by
  rw[xN e,ZS,ZI,ZI,Qn]
 rw[I];refine{{λl hl=>?_,λl hl=>?_,λj p q f g=>?_,by rwa[e2]},e2}
 .rcases Q6.mp hl with h|h
  .exact o.ne l<|Zg h
  .rcases Qc.mp h with rfl|h
   .exact Xl ()
   .rcases Qc.mp h with rfl|h
    .exact Xl ()
    .exact o.ne l<|Xd h
 .rcases Q6.mp hl with h|h
  .exact o.le l<|Zg h
  .rcases Qc.mp h with rfl|h
   .lia
   .rcases Qc.mp h with rfl|h
    .lia
    .exact o.le l<|Xd h
 .have look:∀(j:Nat)(p:Mu),(ls.take i++a::b::ls.drop (i+1))[j]?=some p->(j<i/\ls[j]?=some p)\/(j=i/\p=a)\/(j=i+1/\p=b)\/(i+2<=j/\ls[j-1]?=some p):=λj p f=>by
   rw[XR,lt]at f;split at f
   .rename_i c
    rw[List.getElem?_take,VA c]at f;exact .inl ⟨c,f⟩
   .rename_i c
    rcases(show j=i\/j=i+1\/i+2<=j by lia)with rfl|rfl|h
    .have:j-j=0:=();rw[this]at f;cases f;exact .inr<|.inl ⟨M,M⟩
    .have:i+1-i=1:=();rw[this]at f;cases f;exact .inr<|.inr (.inl ⟨M,M⟩)
    .obtain⟨n,rfl⟩:∃n,j=i+2+n:={j-(i+2),()};have:i+2+n-i=n+1+1:=();rw[this,ZA,ZA,Xj]at f;refine .inr<|.inr (.inr {h,?_});have:i+2+n-1=i+1+n:=();rw[this];exact f
  have pos:∀(j:Nat)(p:Mu),ls[j]?=some p->1<=p.length:=λj p f=>Zk.mpr (o.ne p<|Q2 f);rcases look j p f with⟨c,z⟩|⟨c,h1⟩|⟨c,h1⟩|⟨c,z⟩<;>rcases look (j+1) q g with⟨c',G⟩|⟨c',h2⟩|⟨c',h2⟩|⟨c',G⟩<;>(try rw[h1])<;>(try rw[h2])<;>(try lia)
  .exact o.nb j p q z G
  .have:=pos j p z;lia
  .have:j+1-1=j-1+1:=();rw[this]at G;exact o.nb (j-1) p q z G
def lvF(L:G'):List (Str×V):=[(ge,.ref L)]
def fu:(lvF L).lookup (ge:Str)=some (.ref L):=by
 have hb:((ge:Str)==(ge:Str))=true:=VP.mpr M;unfold lvF;simp only[List.lookup,hb]
def Hm{m:Str}(h:m≠(ge:Str)):(lvF L).lookup m=none:=by
 have hb:(m==(ge:Str))=false:=VQ.mpr h;unfold lvF;simp only[List.lookup,hb]
structure LO(t:KF)(H:Hp)(a L:G')(A:Nc)(ls:Nr):Prop where
 obj:∃dx,H a=some (.ins t.bc dx<|lvF L)
 lst:H L=some (.lst<|A.map V.ref)
 len:A.length=ls.length
 leaf:∀(j:Nat)(b:G')(l:Mu),A[j]?=some b->ls[j]?=some l->H b=some (.lst<|l.map V.int)
 inj:∀(i j:Nat)(b:G'),A[i]?=some b->A[j]?=some b->i=j
 nL:L∉A
def M8(a L:G')(A:Nc):Addr->Prop:=λb=>b=a\/b=L\/b∈A
def LO.at(h:LO t H a L A ls)(e:ls[i]?=some x):∃c,A[i]?=some c/\H c=some (.lst<|x.map V.int):=by
 have hi:i<A.length:=by rw[h.len];exact(Q3.mp e).1
 exact{A[i],Q4 hi,h.leaf i _ x (Q4 hi) e}
def LO.has(h:LO t H a L A ls)(hb:b∈A):∃(j:Nat)(l:Mu),A[j]?=some b/\ls[j]?=some l/\H b=some (.lst<|l.map V.int):=by
 let{j,z,e}:=QI hb;have hc:j<ls.length:=by rwa[<-h.len]
 have G:A[j]?=some b:=by rw[Q4 z,e]
 exact{j,ls[j],G,Q4 hc,h.leaf j b _ G<|Q4 hc}
def LO.frame(h:LO t H a L A ls)(f:∀b,M8 a L A b->H' b=H b):LO t H' a L A ls:=by
 let{dx,G}:=h.obj;exact{{dx,by rwa[f a (.inl M)]},by rw[f L (.inr<|.inl M)];exact h.lst,h.len,λj b l z e2=>by rw[f b (.inr<|.inr<|Q2 z)];exact h.leaf j b l z e2,h.inj,h.nL}
def LO.dom(h:LO t H a L A ls)(hb:M8 a L A b):∃o,H b=some o:=by
 let{dx,z}:=h.obj;rcases hb with rfl|rfl|hb
 .exact{_,z}
 .exact{_,h.lst}
 .let{_,_,_,_,q}:=h.has hb;exact{_,q}
def LO.same(h:LO t H a L A ls)(s:Cp H H'):LO t H' a L A ls:=h.frame λb hb=>by
 let{o,e}:=h.dom hb;rw[e,s b o e]
def LO.out(h:LO t H a L A ls)(n:H p=none):¬M8 a L A p:=λz=>by
 let{o,e}:=h.dom z;rw[n]at e;cases e
def LO.write(h:LO t H a L A ls)(G:A[i]?=some c)(ex:ls[i]?=some x):LO t (upd H c<|.lst<|y.map V.int) a L A (ls.set i y):=by
 let{dx,O}:=h.obj;have hc:=h.leaf i c x G ex;have U:=Q2 G;refine{{dx,by rwa[ae (cy O hc<|by intro z;cases z)]},by rw[ae (λz=>h.nL<|by rwa[z])];exact h.lst,by rw[Z5];exact h.len,λj b l I e2=>?_,h.inj,h.nL};rw[QH]at e2;by_cases z:i=j
 .subst z;rw[G]at I;cases I;rw[VA M]at e2;split at e2
  .cases e2;exact ag
  .cases e2
 .rw[Vz z]at e2;rw[ae (λy=>z<|h.inj i j c G<|by rw[<-y];exact I)];exact h.leaf j b l I e2
def LO.swap(h:LO t H a L A ls){n:G'}(ec:A[i]?=some c)(ex:ls[i]?=some x)(Y:H n=some (.lst<|y.map V.int))(I:¬M8 a L A n):LO t (upd H L<|.lst<|(A.set i n).map V.ref) a L (A.set i n) (ls.set i y):=by
 let{dx,O}:=h.obj;have nA:n∉A:=λz=>I (.inr<|.inr z);have U:n≠L:=λz=>I (.inr<|.inl z);refine{{dx,by rwa[ae (cy O h.lst<|by intro z;cases z)]},ag,by rw[Z5,Z5];exact h.len,λj b l G e2=>?_,λj k b G e2=>?_,λz=>?_}
 .rw[QH]at G e2;by_cases z:i=j
  .rw[VA z]at G e2;split at G
   .cases G;split at e2
    .cases e2;rwa[ae U]
    .cases e2
   .cases G
  .rw[Vz z]at G e2;rw[ae (λy=>h.nL<|by rw[<-y];exact Q2 G)];exact h.leaf j b l G e2
 .rw[QH]at G e2;by_cases z:i=j
  .rw[VA z]at G;split at G
   .cases G;by_cases w:i=k
    .exact z.symm.trans w
    .rw[Vz w]at e2;exact VE (Q2 e2) nA
   .cases G
  .rw[Vz z]at G;by_cases w:i=k
   .rw[VA w]at e2;split at e2
    .cases e2;exact VE (Q2 G) nA
    .cases e2
   .rw[Vz w]at e2;exact h.inj j k b G e2
 .let{j,Z,e}:=QI z;have G:=Q3.mpr ⟨Z,e⟩;rw[QH]at G;by_cases w:i=j
  .rw[VA w]at G;split at G
   .cases G;exact U M
   .cases G
  .rw[Vz w]at G;exact h.nL<|Q2 G
set_option tactic.hygienic true in
def KZ{l:List α}{x y:α}(hi:i<=l.length)(e:(l.take i++x::l.drop i)[j]?=some y):(j<i/\l[j]?=some y)\/(j=i/\y=x)\/(i<j/\l[j-1]?=some y):=by
 have lt:(l.take i).length=i:=by rw[Qe];lia
 rw[XR,lt]at e;split at e
 .rename_i c
  rw[List.getElem?_take,VA c]at e;exact .inl ⟨c,e⟩
 .rename_i c
  rcases(show j=i\/i<j by lia)with rfl|h
  .have:j-j=0:=();rw[this]at e;cases e;exact .inr<|.inl ⟨M,M⟩
  .obtain⟨n,rfl⟩:∃n,j=i+1+n:={j-(i+1),()};have:i+1+n-i=n+1:=();rw[this,ZA,Xj]at e;have:i+1+n-1=i+n:=();exact .inr<|.inr {h,by rwa[this]}
def LO.insert(h:LO t H a L A ls){n:G'}(hi:i<=A.length)(hn:H n=some (.lst<|y.map V.int))(Z:¬M8 a L A n):
  LO t (upd H L<|.lst<|(A.take i++n::A.drop i).map V.ref) a L (A.take i++n::A.drop i) (ls.take i++y::ls.drop i):=by
 let{dx,ho}:=h.obj;have nA:n∉A:=λz=>Z (.inr<|.inr z);have nL:n≠L:=λz=>Z (.inr<|.inl z);have U:i<=ls.length:=by rwa[<-h.len]
 refine{{dx,by rwa[ae (cy ho h.lst<|by intro z;cases z)]},ag,?_,λj b l Y e2=>?_,λj k b Y e2=>?_,λz=>?_}
 .have:=h.len;rw[Qd,Qd,Ql,Ql,Qe,Qe,QN,QN];lia
 .rcases KZ hi Y with⟨O,G⟩|⟨O,G⟩|⟨O,G⟩<;>rcases KZ U e2 with⟨c2,I⟩|⟨c2,I⟩|⟨c2,I⟩<;>(try lia)
  .rw[ae (λy=>h.nL<|by rw[<-y];exact Q2 G)];exact h.leaf j b l G I
  .rwa[G,I,ae nL]
  .rw[ae (λy=>h.nL<|by rw[<-y];exact Q2 G)];exact h.leaf (j-1) b l G I
 .rcases KZ hi Y with⟨O,G⟩|⟨O,G⟩|⟨O,G⟩<;>rcases KZ hi e2 with⟨c2,I⟩|⟨c2,I⟩|⟨c2,I⟩
  .exact h.inj j k b G I
  .rw[I]at G;exact VE (Q2 G) nA
  .have:=h.inj _ _ b G I;lia
  .rw[G]at I;exact VE (Q2 I) nA
  .lia
  .rw[G]at I;exact VE (Q2 I) nA
  .have:=h.inj _ _ b G I;lia
  .rw[I]at G;exact VE (Q2 G) nA
  .have:=h.inj _ _ b G I;lia
 .rcases Q6.mp z with z|z
  .exact h.nL<|Zg z
  .rcases Qc.mp z with z|z
   .exact nL z.symm
   .exact h.nL<|Xd z
def ve(up:cX ls.flatten)(ex:ls[i]?=some x)(z:ls[j]?=some y)(h:i<j):∀p∈x,∀q∈y,p<q:=λp hp q hq=>by
 rw[lJ ex]at up;refine(M0.mp up).2.2.2.2.2 p hp q<|Ve.mpr {y,?_,hq};refine Q2 (i:=j-(i+1)) ?_;rw[Xj];have:i+1+(j-(i+1))=j:=();rwa[this]
def FB(up:cX ls.flatten)(ex:ls[i]?=some x):cX x:=by
 rw[lJ ex]at up;exact(M0.mp up).2.1
def DX(up:cX x)(G:x≠[]):∃m,x[x.length-1]?=some m/\m∈x/\∀y∈x,y<=m:=by
 have hl:=Zk.mpr G;have z:x.length-1<x.length:=();refine{x[x.length-1],Q4 z,X8 z,λy hy=>?_};let{j,I,e}:=QI hy;rcases(show j=x.length-1\/j<x.length-1 by lia)with h|h
 .subst h;rw[e];exact ZY _
 .have:=Z2.mp up j (x.length-1) I z h;rw[e]at this;lia
noncomputable def joinL(ls:Nr)(i:Nat):List (List Int):=match ls[i]?,ls[i+1]? with
 |some x,some y=>if x.length+y.length<5 then(ls.set i<|x++y).eraseIdx (i+1)else ls
 |_,_=>ls
def LV(_K:Wi)(t:KF)(H:Hp)(a:G')(F:Mw)(ks:Mu):Prop:=∃L A ls,LO t H a L A ls/\Ky ls/\ls.flatten=ks/\∀b,F b↔M8 a L A b
def LV.ins(h:LV K t H a F ks):∃dx fs,H a=some (.ins t.bc dx fs)/\∀m,m≠(ge:Str)->fs.lookup m=none:=by
 let{L,A,ls,hb,_}:=h;let{dx,z}:=hb.obj;exact{dx,_,z,λm G=>Hm G}
def LV.dom(h:LV K t H a F ks)(hb:F b):∃o,H b=some o:=by
 let{L,A,ls,h1,_,_,h2}:=h;exact h1.dom<|(h2 b).mp hb
def LV.frame(h:LV K t H a F ks)(f:∀b,F b->H' b=H b):LV K t H' a F ks:=by
 let{L,A,ls,h1,z,G,h2}:=h;exact{L,A,ls,h1.frame λb hb=>f b<|(h2 b).mpr hb,z,G,h2}
def LV.out(h:LV K t H a F ks)(e:H p=none):¬F p:=λz=>by
 let{o,q}:=h.dom z;rw[q]at e;cases e
def qw(K:Wi)(t:KF):Sp:=λvs H Q _=>∃(a dx:G'),vs=[.ref a]/\H a=some (.ins t.bc dx [])/\H dx=some (.own a)/\∀H' F,LV K t H' a F []->Fr (λb=>b=a\/b=dx) F H H'->Q .non H'
def rF(K:Wi)(t:KF):Sp:=λvs H Q _=>∃(a:G')(k:Int)(F:Mw)(ks:Mu),vs=[.ref a,.int k]/\LV K t H a F ks/\∀H' F',LV K t H' a F' ks->Fr F F' H H'->Q (.bl<|decide (k∈ks)) H'
def rG(K:Wi)(t:KF):Sp:=λvs H Q E=>∃(a:G')(k:Int)(F:Mw)(ks:Mu),vs=[.ref a,.int k]/\LV K t H a F ks/\ks.length<4096/\
 (k∉ks->∀H' F' ks',LV K t H' a F' ks'->(∀z,z∈ks'↔z=k\/z∈ks)->Fr F F' H H'->Q .non H')/\(k∈ks->False)
def Ky.short(o:Ky ls):ls.length<=ls.flatten.length:=by
 have h:=o.ne;clear o
 induction ls with
 |nil=>exact Q5 _
 |cons x r z=>
  have:=Zk.mpr (h x Q7);have:=z λl hl=>h l (Q8 _ hl);rw[ZI,Qd,Ql];lia
def mM(K:Wi)(t:KF):Sp:=λvs H Q _=>∃(a:G')(k n:Int)(F:Mw)(ks:Mu),vs=[.ref a,.int k,.int n]/\LV K t H a F ks/\ks.length<4096/\0<=n/\
 ∀(H':Hp)(l:G'),Cp H H'->H l=none->H' l=some (.lst<|((ks.filter λz=>decide (k<=z)).take n.toNat).map V.int)->Q (.ref l) H'
def tH(h:0<=n):oA xs none (some n)=xs.take n.toNat:=by
 unfold oA HT.sIx;simp only[Zp,Nat.sub_zero];rw[Vz ()];rcases Nat.le_total n.toNat xs.length with c|c
 .rw[XF c]
 .rw[Nat.min_eq_right c,QG,QB c]
def B6(o:Ky ls)(h:KS ls k i0):∀z∈(ls.take i0).flatten,¬k<=z:=λz hz=>by
 have:=h.ahead z hz;lia
noncomputable def dB(k:No)(z:Int):Bool:=match k with|none=>true|some k=>decide (z<=k)
def vDn:Option Int->V|none=> .non|some k=> .int k
def jT(K:Wi)(t:KF):Sp:=λvs H Q _=>∃(a:G')(k:No)(n:Int)(F:Mw)(ks:Mu),vs=[.ref a,vDn k,.int n]/\LV K t H a F ks/\ks.length<4096/\0<=n/\
 ∀(H':Hp)(l:G'),Cp H H'->H l=none->H' l=some (.lst<|((ks.reverse.filter<|dB k).take n.toNat).map V.int)->Q (.ref l) H'
noncomputable def K4.low(s:K4):Int:=match s.nxt with
 |none=>s.size
 |some m=>if m<s.size then m else s.size
def DR{M':Int}(h:M'∈st.rows)(l:∀x∈st.rows,M'<=x):M'=st.low:=by
 unfold K4.rows at h l;unfold K4.low;cases e:st.nxt with
 |none=>rw[e]at h;simpa using h
 |some m=>
  rw[e]at h l;have h:M'=st.size\/M'=m:=by simpa using h
  have l1:=l st.size (by simp);have z:=l m (by simp);show M'=if m<st.size then m else st.size
  split<;>lia
def fj(z:KA st):st.low∈([4,8,16,32,64,128,256]:Mu):=by
 unfold K4.low;cases e:st.nxt with
 |none=>exact z.pw
 |some m=>
  show(if m<st.size then m else st.size)∈_;split
  .exact(z.nx m e).1
  .exact z.pw
def sj{x:Int}(h:x∈([4,8,16,32,64,128,256]:List Int)):∃a b,Row x a b:=by
 rcases j5 h with h|h|h|h|h|h|h<;>subst h
 .exact{_,_,mU (k:=0) (_)}
 .exact{_,_,mU (k:=1) (_)}
 .exact{_,_,mU (k:=2) (_)}
 .exact{_,_,mU (k:=3) (_)}
 .exact{_,_,mU (k:=4) (_)}
 .exact{_,_,mU (k:=5) (_)}
 .exact{_,_,mU (k:=6) (_)}
def wb{S p:Int}{a b:Nat}(R:Row S a b)(G:0<=p)(h1:p<65536):tz (tz p%S)+65536/S=(p/(65536/S)+1)*(65536/S):=by
 have hs:=R.st_has (m:=tz p) (oX p);rw[Am G h1]at hs;have I:=R.slot (s:=tz p%S) (R.mod0 _) (R.mod1 _);have w:=R.width;have z:=R.wpos';rw[I.1,<-w]at hs⊢;have:p/(65536/S)=rz a (tz p%S):=by
  have k0:=Qx p (Zc z);have k1:=QA p z;have k2:=XG p (65536/S);exact R.between z (x:=p/(65536/S)) (y:=rz a<|tz p%S) (p:=p) () () hs.1 hs.2
 rw[this,Int.add_mul,Int.one_mul,V4]
def rq(K:Wi)(t:KF):Sp:=λvs H Q _=>∃(a:G')(p:Int)(F:Mw)(st:K4),vs=[.ref a,.int p]/\Ku K t H a F st/\0<=p/\p<65536/\
 ∀H' F',Ku K t H' a F' st->Fr F F' H H'->Q (.int<|(p/(65536/st.low)+1)*(65536/st.low)) H'
structure uW(kd:Str)(fs:Nl)(a e:V):Prop where
 ki:fs.lookup ("kind":Str)=some (.str kd)
 at_:fs.lookup (lm:Str)=some a
 end_:fs.lookup (hW:Str)=some e
 wo:fs.lookup ("words":Str)=none
 ho:fs.lookup ("holds":Str)=none
def Mq(a e:V):Prop:=∃i j,a= .int i/\e= .int j/\0<=i/\i<=j/\j<=65536
def Lm(a e:V):Prop:=∃i,a= .int i/\0<=i/\(e= .non\/∃j,e= .int j/\i<=j)
def Li(a e:V):Prop:=∃j,e= .int j/\0<=j/\(a= .non\/∃i,a= .int i/\j<=i)
def LW(p:G')(H H':Hp):Prop:=∀b o,H b=some o->b≠p->H' b=some o
def RsB(p:G')(H:Hp)(C:G')(E:XK):Prop:=∀(ea:G')(od:Nf)(H':Hp),HC H' ea od C []->LW p H H'->E (.ref ea) od H'
def xH:Sp:=λvs H Q _=>∃x,vs=[x]/\Sc x/\Q (.bl<|isW x) H
noncomputable def isF(lo:Int):V->Bool
 | .int i=>decide (lo<=i)|_=>false
def zk:Sp:=λvs H Q _=>∃x lo,vs=[x,.int lo]/\Sc x/\Q (.bl<|isF lo x) H
noncomputable def wr:V->Str
 | .int i=>toString i|_=>"-"
def zg:Sp:=λvs H Q _=>∃x,vs=[x]/\(x= .non\/∃i:Int,x= .int i/\i.natAbs.log2<1920)/\Q (.str<|wr x) H
def fN(K:Wi):Sp:=λvs H Q _=>∃(p C dx:G')(kd:Str)(a e:V),vs=[.ref p,.str kd,a,e]/\H p=some (.ins C dx [])/\Le K C/\E2 K C "kind"/\E2 K C lm/\E2 K C hW/\∀H' fs,LW p H H'->H' p=some (.ins C dx fs)->uW kd fs a e->Q .non H'
def Ap(C N:G')(kd:Str)(ok:V->V->Prop):Sp:=λvs H Q E=>∃(p dx:G')(a e:V),vs=[.ref p,a,e]/\H p=some (.ins C dx [])/\Sc a/\Sc e/\
 (ok a e->∀H' fs,LW p H H'->H' p=some (.ins C dx fs)->uW kd fs a e->Q .non H')/\(¬ok a e->RsB p H N E)
def pc(t:KF):Sp:=Ap t.aJ t.a7 nz Mq
def xI(t:KF):Sp:=Ap t.cQ t.a7 "up" Lm
def uh(t:KF):Sp:=Ap t.bI t.a7 "down" Li
def LM(kd:Int)(a e:V):Prop:=(kd=0/\Mq a e)\/(kd=1/\Lm a e)\/(kd=2/\Li a e)
def hS:V->V->Int->Bool
 | .int i,.int j,k=>decide (i<=tz (k%65536))&&decide (tz (k%65536)<j)
 |_,_,_=>false
noncomputable def hU:V->V->Int->Bool
 | .int i,.int j,k=>decide (i<=k)&&decide (k<j)
 | .int i,.non,k=>decide (i<=k)
 |_,_,_=>false
noncomputable def hD:V->V->Int->Bool
 | .int i,.int j,k=>decide (j<=k)&&decide (k<=i)
 | .non,.int j,k=>decide (j<=k)
 |_,_,_=>false
def hN(kd:Int):V->V->Int->Bool:=if kd=0 then hS else if kd=1 then hU else hD
def MW:V->Prop
 | .int i=>i<10^80|_=>True
def iX(kd:Str)(a e:V):Str:=Txt.join (" ":Str) [kd,wr a,wr e]
def zm(C:G')(kd:Str)(ok:V->V->Prop)(h:V->V->Int->Bool):Sp:=λvs H Q _=>∃(p dx:G')(fs:Nl)(a e:V)(k:Int),vs=[.ref p,.int k]/\H p=some (.ins C dx fs)/\uW kd fs a e/\ok a e/\0<=k/\∀H',Cp H H'->Q (.bl<|h a e k) H'
def dD(t:KF):Sp:=zm t.aJ nz Mq hS
def cJ(t:KF):Sp:=zm t.cQ "up" Lm hU
def bW(t:KF):Sp:=zm t.bI "down" Li hD
def Ma(t:KF)(kd:Int):Addr:=if kd=0 then t.aJ else if kd=1 then t.cQ else t.bI
noncomputable def Lg(kd:Int):Str:=if kd=0 then nz else if kd=1 then "up" else "down"
def cn(t:KF):Sp:=λvs H Q _=>∃(p dx:G')(kd:Int)(fs:Nl)(a e:V),vs=[.ref p]/\H p=some (.ins (Ma t kd) dx fs)/\uW (Lg kd) fs a e/\LM kd a e/\MW a/\MW e/\∀H',Cp H H'->Q (.str<|iX (Lg kd) a e) H'
def lw{x:G'}(h1:H x=none)(h2:H dx=none)(k:LW x (upd (upd H dx<|.own x) x<|.ins C dx []) H'):Cp H H':=λb o q=>by
 refine k b o ?_<|aj q h1;rw[ae (aj q h1),ae (aj q h2)];exact q
def spHN(t:KF)(kd:Int):Sp:=if kd=0 then dD t else if kd=1 then cJ t else bW t
def L8(t:KF)(H:Hp)(p:G')(kd:Int)(a e:V):Prop:=∃(dx:G')(fs:Nl),H p=some (.ins (Ma t kd) dx fs)/\uW (Lg kd) fs a e
def L8.same{kd:Int}{a e:V}(h:L8 t H p kd a e)(s:Cp H H'):L8 t H' p kd a e:=by
 let{dx,fs,h1,h2}:=h;exact{dx,fs,s _ _ h1,h2}
def LM.kd{kd:Int}{a e:V}(h:LM kd a e):kd=0\/kd=1\/kd=2:=by
 rcases h with⟨h,_⟩|⟨h,_⟩|⟨h,_⟩
 .exact .inl h
 .exact .inr<|.inl h
 .exact .inr<|.inr h
def LM.s{a e:V}(h:LM 0 a e):Mq a e:=by
 rcases h with⟨_,h⟩|⟨h,_⟩|⟨h,_⟩
 .exact h
 .cases h
 .cases h
def LM.u{a e:V}(h:LM 1 a e):Lm a e:=by
 rcases h with⟨h,_⟩|⟨_,h⟩|⟨h,_⟩
 .cases h
 .exact h
 .cases h
def LM.d{a e:V}(h:LM 2 a e):Li a e:=by
 rcases h with⟨h,_⟩|⟨h,_⟩|⟨_,h⟩
 .cases h
 .cases h
 .exact h
def dHN{kd:Int}(h:kd=0\/kd=1\/kd=2):Mm (D1 t.aJ<|dD t) (Mm (D1 t.cQ<|cJ t)<|D1 t.bI<|bW t) (Ma t kd) (spHN t kd):=by
 rcases h with rfl|rfl|rfl
 .exact .inl ⟨M,M⟩
 .exact .inr<|.inl ⟨M,M⟩
 .exact .inr<|.inr ⟨M,M⟩
def dWN{kd:Int}(h:kd=0\/kd=1\/kd=2):Mm (D1 t.aJ<|cn t) (Mm (D1 t.cQ<|cn t)<|D1 t.bI<|cn t) (Ma t kd) (cn t):=by
 rcases h with rfl|rfl|rfl
 .exact .inl ⟨M,M⟩
 .exact .inr<|.inl ⟨M,M⟩
 .exact .inr<|.inr ⟨M,M⟩
def wn{kd:Int}{a e:V}(z:LM kd a e)(h:H p=some (.ins (Ma t kd) dx fs))(f:uW (Lg kd) fs a e)(G:0<=k)
  (q:∀H',Cp H H'->Q (.bl<|hN kd a e k) H'):spHN t kd [.ref p,.int k] H Q E:=by
 rcases z.kd with rfl|rfl|rfl
 .exact⟨p,dx,fs,a,e,k,M,h,f,z.s,G,q⟩
 .exact⟨p,dx,fs,a,e,k,M,h,f,z.u,G,q⟩
 .exact⟨p,dx,fs,a,e,k,M,h,f,z.d,G,q⟩
set_option exponentiation.threshold 2000 in
def Ka{i:Int}(G:0<=i)(h1:i<10^80):i.natAbs.log2<1920:=by
 rcases QZ i.natAbs with z|z
 .rw[z];decide
 .refine(Nat.log2_lt<|ZC z).mpr ?_;have:i.natAbs<10^80:=();exact Nat.lt_trans this<|Qm (show 10^80<2^300 by decide) (Nat.pow_le_pow_right (_) (_))
def few(a:V):Prop:=(a= .non\/∃i:Int,a= .int i/\i.natAbs.log2<1920)/\(wr a).length<=81
def AS:few .non:={.inl M,∅}
def gL{i:Int}(z:0<=i)(h1:MW (.int i)):few (.int i):=by
 have h1:i<10^80:=h1;refine{.inr {i,M,Ka z h1},?_};show(Str.ofString<|toString i).length<=81;have h:(toString i).length<=80+1:=PySem.int_text_length_le10 (_) ();rw[Str.ofString_eq_toList];show((toString i).toList.map Char.toNat).toArray.size<=81;rwa[Q9,Q0]
def LM.few{kd:Int}{a e:V}(h:LM kd a e)(G:MW a)(I:MW e):few a/\few e:=by
 rcases h with⟨_,i,j,rfl,rfl,z,h1,_⟩|⟨_,i,rfl,z,rfl|⟨j,rfl,h1⟩⟩|⟨_,j,rfl,z,rfl|⟨i,rfl,h1⟩⟩
 .exact{gL z G,gL () I}
 .exact{gL z G,AS}
 .exact{gL z G,gL () I}
 .exact{AS,gL z I}
 .exact{gL () G,gL z I}
set_option genInjectivity false in
structure Tp where
 p:Addr
 k:Int
 v:V
def Tp.kv(e:Tp):Int×V:=(e.k,e.v)
structure PgA(H H':Hp)(F F':Mw)(r g:G')(v:V)(ts:List Tp):Prop where
 tu:H' r=some (.tup [.ref g,v])
 li:H' g=some (.lst<|ts.map λe=>V.ref e.p)
 rw:∀e∈ts,H' e.p=some (.tup [.int e.k,e.v])/\¬F' e.p
 nr:(¬F r->H r=none)/\¬F' r
 ng:(¬F g->H g=none)/\¬F' g
section
variable{P:Mz}{w:Nb}{mg:Nd}{base:Heap}
variable{K:Wi}{t:KF}(T:Txt K mg t)
def Bw:Sp:=λvs H Q _=>∃n:Int,vs=[.int n]/\0<=n/\Q (.int<|tz n) H
def zj:Sp:=λvs H Q _=>∃k:Int,vs=[.int k]/\Q (.int<|k%65536) H
def qd:Sp:=λvs H Q _=>∃k:Int,vs=[.int k]/\Q (.int<|tz<|k%65536) H
def zh:Sp:=λvs H Q _=>∃k n:Int,vs=[.int k,.int n]/\0<n/\Q (.int<|k%65536%n) H
def zi:Sp:=λvs H Q _=>∃p n:Int,vs=[.int p,.int n]/\0<=p/\0<n/\Q (.int<|tz p%n) H
def tW:Sp:=λvs H Q _=>∃s n:Int,vs=[.int s,.int n]/\0<=s/\0<n/\n<1073741824/\∀p,H p=none->Q (.ref p) (upd H p<|.tup [.int (tz s),.int (tz s+65536/n)])
def pI:AZ P w K mg base KI 1 t.yR t.tG ["number"] Bw:=by
 let{G,z}:=T.g_BITS;refine T.tR.okl BA λs H vs Q E O h _=>?_;intro X;let{n,rfl,U,k}:=h;refine ah (KB 1 ak)
   (ah (KB 2 Dm)
   (ah (jo VW M (lB {_} T.qL (aa (bK (v:= .int 16) {_} z {_,M}) af)) (MC 3)
    (j7 (KB 1<|aF bY (aF fX K3 ak)<|aF bG K9 ak)
    (aq<|KB 2<|aF eJ K9 ak)))
   (aD (aw K3) ?_)))
 intros
 have I:((n.toNat/2^0:Nat):Int)=n:=by rw[Nat.pow_zero,Nat.div_one];lia
 refine{_,M,16,M,(_),(_),vF (n:=16) (λi B H'=>∃v,H'=H/\B=[some (.int n),some (.int ((rv i n.toNat:Nat):Int)),some (.int ((n.toNat/2^i:Nat):Int)),v]) ?_ ?_ ?_}
 .refine{none,M,?_};rw[I];rfl
 .rintro i B H' hi ⟨v,rfl,rfl⟩;refine{_,M,_,_,M,M,.inr {(_),(_)},_,M,_,_,M,M,(by show(0:Int)<2;decide),_,_,M,M,_,M,_,_,M,M,{(_),(_)},?_};refine{some<|.int<|0+(i:Int),M,?_};rw[<-Bm i n.toNat,<-Bn i n.toNat];rfl
 .rintro B H' ⟨v,rfl,rfl⟩;unfold tz at k;exact{_,M,k}
def sC:AZ P w K mg base KI 1 t.vT t.pW [eN] zj:=by
 let{G,z}:=T.g_PLACES;refine T.vX.okl zu λs H vs Q E I h _=>?_;intro X;let{n,rfl,k}:=h;refine{_,(aq<|aw<|aF bG Dm<|bK (v:= .int 65536) {_} z {_,M})
  ,?_}
 exact{_,M,_,_,M,M,(by show(0:Int)<65536;decide),k}
def ko:AZ P w K mg base KI 2 t.nE t.jB [eN] qd:=by
 refine T.nG.okl xO λs H vs Q E z h _=>?_;intro X;let{n,rfl,k}:=h;refine{_,(aq<|aw<|au (pI T) z.mo {_} T.yj T.tR.kp T.yO .nil aA (aa (au (sC T) z.mo {_} T.BQ T.vX.kp T.Cm .nil aA (aa Dm af)) af))
  ,?_}
 exact{_,M,_,M,_,M,Qx _ (_),k}
def sv:AZ P w K mg base KI 2 t.vR t.pU [eN,kP] zh:=by
 refine T.qb.okl zr λs H vs Q E z h _=>?_;intro X;let{n,m,rfl,G,k}:=h;refine{_,(aq<|aw<|aF bG (au (sC T) z.mo {_} T.BQ T.vX.kp T.Cm .nil aA (aa Dm af)) K3)
  ,?_}
 exact{_,M,_,M,_,M,_,_,M,M,G,k}
def sw:AZ P w K mg base KI 2 t.vS t.pV ["place",kP] zi:=by
 refine T.vW.okl zt λs H vs Q E z h _=>?_;intro X;let{n,m,rfl,G,I,k}:=h;refine{_,(aq<|aw<|aF bG (au (pI T) z.mo {_} T.yj T.tR.kp T.yO .nil aA (aa Dm af)) K3)
  ,?_}
 exact{_,M,_,M,G,_,M,_,_,M,M,I,k}
def uv:AZ P w K mg base KI 2 t.oC t.jx ["slot",kP] tW:=by
 let{G,z}:=T.g_PLACES;refine T.xt.okl uj λs H vs Q E I h _=>?_;intro X;let{n,m,rfl,O,U,h1,k}:=h;refine ah (KB 2<|au (pI T) I.mo {_} T.yj T.tR.kp T.yO .nil aA (aa Dm af))
   (aD (aw<|db<|aa K9<|aa (aF bY K9<|aF eJ (bK (v:= .int 65536) {_} z {_,M}) K3) af) ?_)
 intros
 exact{_,M,_,M,O,_,M,_,M,_,M,_,_,M,M,⟨U,h1⟩,_,_,M,M,(by show 2<=sizeLine;decide),λp hp=>k p hp}
def By{n:Nat}(h:n<=4096):n<sizeLine:=Xg h (_)
def wd:Sp:=λvs H Q _=>∃n:Int,vs=[.int n]/\0<=n/\n<=1000/\∀H' r A,Cp H H'->H r=none->(∀b∈A,H b=none)->K8 H' r A (List.replicate n.toNat []) n->Q (.ref r) H'
set_option tactic.hygienic true in
def n6:AZ P w K mg base KI 1 t.ql t.kI [kP] wd:=by
 refine T.lf.okl wx λs H vs Q E hr h _=>?_;intro X;let{n,rfl,n0,n1,q}:=h;refine{_,(aq<|aw<|lD M (K5.of (M':=["slot"]) (N:=[kP]) (N':=[kP]) (dsc:=ai gF) M M ∅) (lB {_} T.qL (aa Dm af))<|λ_ _ _ _ _=>kf)
  ,?_}
 refine{_,M,n,M,(),(),λD hD=>?_};refine zV (n:=n.toNat) (lo:=0) (λi ys H3=>Cp H H3/\∃as:List Addr,ys=as.map V.ref/\as.length=i/\(∀b∈as,H b=none/\b≠D/\H3 b=some (.dK []))/\∀(x y:Nat)(b:G'),as[x]?=some b->as[y]?=some b->x=y)
  {am hD,[],M,M,(λb hb=>by cases hb),λx y b e=>by simp at e} (λi ys H3 hi Z G=>?_) (λys H3 Z G=>?_)
 .let{s3,as,Y,el,hb,inj}:=Z;intro c O;have cD:c≠D:=(aj G O).symm;have I:c∉as:=λz=>by
   have:=(hb c z).2.2;rw[O]at this;cases this
  have nH:H c=none:=by
   cases e:H c with
   |none=>rfl
   |some o=>rw[s3 c o e]at O;cases O
  refine KL.mk hi (by rwa[ae cD.symm]) (by rw[Y,Q0];exact cr ()) {cE (s3.trans<|am O) hD,as++ [c],by rw[Y,Qb];rfl,by rw[Qd,el];rfl,λb a0=>?_,λx y b e1 e2=>?_}
  .rcases Q6.mp a0 with z|z
   .let{h1,h2,h3}:=hb b z;exact{h1,h2,by rwa[ae h2,ae (λw=>I<|by rw[<-w];exact z)]}
   .rw[Qf.mp z];exact{nH,cD,by rw[ae cD,ag]}
  .have U:∀x:Nat,(as++ [c])[x]?=some b->as[x]?=some b\/(x=as.length/\b=c):=λx e=>by
    rw[XR]at e;split at e
    .exact .inl e
    .rename_i w
     have:x-as.length=0:=by
      rcases QZ (x-as.length)with z|z
      .exact z
      .rw[List.getElem?_eq_none (by simp;lia)]at e;cases e
     rw[this]at e;cases e;exact .inr {(),M}
   rcases U x e1 with f1|⟨f1,g1⟩<;>rcases U y e2 with f2|⟨f2,g2⟩
   .exact inj x y b f1 f2
   .subst g2;exact VE (Q2 f1) I
   .subst g1;exact VE (Q2 f2) I
   .lia
 .let{s3,as,Y,el,hb,inj}:=Z;refine q H3 D as s3 hD (λb z=>(hb b z).1) {by rw[G,Y],by rw[el];lia,by rw[Zq];lia,λj b kv e1 e2=>?_,λj kv e=>?_,inj,λj kv e p hp=>?_}
  .rw[Zw (Q2 e2)];exact(hb b<|Q2 e1).2.2
  .rw[Zw (Q2 e)];exact ZB
  .rw[Zw (Q2 e)]at hp;cases hp
def nO(t:KF):Sp:=λvs H Q _=>∃(a:G')(k:Int)(st:K4)(d:Lw),vs=[.ref a,.int k]/\KR t H a st d/\KA st/\∀c kv,IsCell d st k c kv->Q (.ref c) H
def lN(t:KF):Sp:=λvs H Q _=>∃(a:G')(st:K4)(d:Lw),vs=[.ref a]/\KR t H a st d/\KA st/\st.kv.length<4096/\∀H' d',KR t H' a st.one d'->d'.n=d.n->Fr (LN a st d) (LN a st.one d') H H'->Q .non H'
def lO(t:KF):Sp:=λvs H Q _=>∃(a:G')(st:K4)(d:Lw),vs=[.ref a]/\KR t H a st d/\KA st/\d.n=(st.kv.length:Int)/\∀H' d',KR t H' a st.three d'->d'.n=d.n->Fr (LN a st d) (LN a st.three d') H H'->Q .non H'
def sT{z:Int}(G:0<=z)(e:A[z.toNat]?=some c):Lv (A.map V.ref) z=some (.ref c):=by
 let{j,rfl}:=Zh G;refine qU ?_;rw[Qu];have e:A[j]?=some c:=e;rw[e];rfl
def dJ:AZ P w K mg base KI 3 t.iU t.eB [cC,eN] (nO t):=by
 refine T.Cr.okl nQ λs H vs Q E Y h _=>?_;intro X;let{a,k,st,d,rfl,hb,z,q}:=h;refine ah (KB 2<|aY aW (aC Dm M) ak<|λ_ _=>M)
   (ah (KB 3<|au (sv T) Y.mo {_} T.vz T.qb.kp T.vP .nil aA (aa K3<|aa (ar ax {_} T.bM a6 (aa K9 af)) af))
   (ah (aT (az vo KY (aC Dm M)<|aB _)
    (aq<|aw<|aY aW K9 KY<|λ_ _=>M)
    aE)
   (ah (KB 4<|aY aW (aC Dm M) ak<|λ_ _=>M)
   (aD (aw<|aY aW Kt (au (sv T) Y.mo {_} T.vz T.qb.kp T.vP .nil aA (aa K3<|aa (ar ax {_} T.bM a6 (aa Kt af)) af))<|λ_ _=>M) ?_))))
 intros
 let{dx,I}:=hb.obj;let{s4,s5}:=bB z.pw;let{O,Z,m2}:=pN (k:=k) s4;have t0:∃xs,H d.tb=some (.lst xs)/\Lv xs 0=some (.ref d.r0):=by
  refine{_,hb.tbl,?_};cases st.nxt<;>rfl
 let{xs,hx,x0}:=t0;have a0:∀{Q':VK},Q' (.ref d.tb) H->tFld K (Fm 0) "table" [some (.ref a),some (.int k),none,none,none] H Q':=λ{Q'} q=>{_,M,a,_,dx,_,_,M,I,T.ay,T.aM,gE,q};have la:((d.A0.map V.ref).length:Int)=st.size:=by rw[Q0];exact hb.row0.la
 refine{_,M,a,_,dx,_,_,M,I,T.ay,T.aM,gE,d.tb,_,_,_,M,M,Do.of hx,x0,?_};refine{_,M,_,M,d.r0,_,M,.inl<|Do.of hb.row0.lst,k,_,M,by rw[la];lia,?_};dsimp only;rw[la];refine{_,M,_,M,a,_,dx,_,_,M,I,T.ay,T.bE,xL,_,_,M,M,_,M,dY (λc=>?_)<|λc=>?_}
 .have c:=VF c;let{x,G}:=cU (l:=d.A0) O (by rwa[hb.row0.la]);let{y,e2}:=cU (l:=d.C0) O (by rwa[hb.row0.lc]);exact{_,M,_,M,d.r0,_,_,_,M,M,Do.of hb.row0.lst,sT O G,q x y<|.inl ⟨c,G,e2⟩}
 .have c:¬st.moved<=k%65536%st.size:=λz=>c (VI z);cases e:st.nxt with
  |none=>rw[K4.moved_none e]at c;exact VE O c
  |some m=>
   have hm:=K4.moved_some e;let{pm,_}:=z.nx m e;let{s6,_}:=bB pm;let{U,n1,n2}:=pN (k:=k) s6;have r1:=hb.row1;rw[e]at r1;have ht:=hb.tbl;rw[e]at ht;have lb:((d.A1.map V.ref).length:Int)=m:=by rw[Q0];exact r1.la
   let{x,G}:=cU (l:=d.A1) U (by rwa[r1.la]);let{y,e2}:=cU (l:=d.C1) U (by rwa[r1.lc]);refine{_,M,a,_,dx,_,_,M,I,T.ay,T.aM,gE,d.tb,_,_,_,M,M,Do.of ht,M,?_};refine{_,M,_,M,_,M,d.r1,_,M,.inl<|Do.of r1.lst,k,_,M,by rw[lb];lia,?_};dsimp only;rw[lb];exact{d.r1,_,_,_,M,M,Do.of r1.lst,sT U G,q x y<|.inr {m,e,(),G,e2}}
def bi{n:Nat}(h:n<=100000):n<sizeLine:=Xg h (_)
def IQ{n:Nat}{z:Int}(G:0<=z)(h1:z<n):MJ n z=some z.toNat:=by unfold MJ;rw[VA G,VA h1]
def vA{kv:My}{k:Key}(e:(aN kv)[i]?=some (k,v)):∃n:Int,k=Sum.inl n/\kv[i]?=some (n,v):=by
 unfold aN at e;rw[Qu]at e;cases q:kv[i]? with
 |none=>rw[q]at e;cases e
 |some p=>rw[q]at e;cases e;exact⟨p.1,M,M⟩
def CM{kv:My}{C:List (List<|Int×V)}{p:Int×V}(e:kv[i]?=some p):(kv.take<|i+1).foldl (fh m) C=fh m ((kv.take i).foldl (fh m) C) p:=by
 rw[Qo,e,List.foldl_append];rfl
def lR:AZ P w K mg base KI 3 t.gu t.dn [cC] (lN t):=by
 refine T.Ag.okl lP λs H vs Q E hr h _=>?_;intro X;let{a,st,d,rfl,hb,z,hl,q}:=h;refine ah (aT (az eV (ar ax {_} T.bM a6 (aa (aC Dm M) af)) ak<|aB _)
    (aq wI)
    aE)
   (ah (KB 1<|aY aW (aC Dm M) ak<|λ_ _=>M)
   (ah (KB 2<|aY aW (aC Dm M) ak<|λ_ _=>M)
   (eX (λx=>(Aw (jo VW M (xU<|Dn Xr Xq PySem.F.type_dict_items x9<|aY aW K3 (aC Dm M)<|λ_ _=>M) (wL M<|eT (MC 3)<|eT (MC 4) qN)
    x))) ?_)))
 refine aD (wJ (l5 hr) (aY aW K9 (au (sv T) hr.mo {_} T.vz T.qb.kp T.vP .nil aA (aa KY<|aa (ar ax {_} T.bM a6 (aa K9 af)) af))<|λ_ _=>M) KY Kt M) ?_
 intros
 refine ah (zC kf<|Di K3 (aC Dm M) xM)
   (ah (pE Dm ak zQ)
   (aD (aT (az eV (aC Dm M) (ar ax {_} T.bM a6 (aa K3 af))<|aB _)
    (j7 (cu Dm (de<|aa K9 af) M)
    (aq<|cu Dm ak M))
    aE) ?_))
 intros
 let{dx,ho}:=hb.obj;have ht:=hb.tbl;cases e:st.nxt with
 |none=>
  rw[e]at ht;refine{_,M,a,_,dx,_,_,M,ho,T.ay,T.aM,gE,d.tb,_,M,.inl<|Do.of ht,M,_,M,iO M ?_};have e1:st.one=st:=by unfold K4.one;rw[e]
  rw[e1]at q;exact q H d hb M Fr.refl
 |some m=>
  rw[e]at ht;refine{_,M,a,_,dx,_,_,M,ho,T.ay,T.aM,gE,d.tb,_,M,.inl<|Do.of ht,M,_,M,br (λz=>by cases z) ?_};refine{_,M,a,_,dx,_,_,M,ho,T.ay,T.aM,gE,d.tb,_,_,_,M,M,Do.of ht,M,?_};refine{_,M,a,_,dx,_,_,M,ho,T.ay,T.aM,gE,d.tb,_,_,_,M,M,Do.of ht,M,?_};let{pm,v0,v1,_}:=z.nx m e;let{s4,s5}:=bB z.pw;let{s6,s7}:=bB pm;have hm:=K4.moved_some e;rw[hm]at ho;have r1:=hb.row1;rw[e]at r1;let{c0,ec}:=cU (l:=d.A0) v0 (by rwa[hb.row0.la]);let{kv,ek}:=cU (l:=d.C0) v0 (by rwa[hb.row0.lc]);have I:=hb.row0.cell _ _ _ ec ek;have lb:((d.A1.map V.ref).length:Int)=m:=by rw[Q0];exact r1.la
  have a5:c0∉d.A1:=hb.dis c0 (Q2 ec);have al:d.r1≠c0:=cy r1.lst I (by intro z;cases z);have bb:=hb.short0 z ek;have a7:∀b,b=d.r1\/b∈d.A1->∃o,H b=some o:=λb hb1=>by
   rcases hb1 with rfl|hb1
   .exact{_,r1.lst}
   .let{_,_,_,_,w}:=r1.has hb1;exact{_,w}
  refine{c0,aN kv,I,_,M,_,M,a,_,dx,_,_,M,ho,T.ay,T.bE,xL,d.r0,_,_,_,M,M,Do.of hb.row0.lst,sT v0 ec,.inr<|.inr<|.inl {M,.inl {_,I}},c0,aN kv,M,M,I,λvw nv=>?_};have b2:upd H vw (Ml vw c0) c0=some (.dK<|aN kv):=by rw[ae (aj I nv)];exact I
  refine{vw,c0,aN kv,M,ag,b2,λob=>?_};refine tx (λi B H'=>∃v3 v4,B=[some (.ref a),some (.ref d.r0),some (.ref d.r1),v3,v4]/\K8 H' d.r1 d.A1 ((kv.take i).foldl (fh m) d.C1) m/\H' c0=some (.frz ob<|.dK<|aN kv)/\∀b o,b∉d.A1->b≠c0->H b=some o->H' b=some o)
   {_,_,M,?_,ag,λb o _ n2 e=>?_} (λi B H' _ zz=>by let{_,_,_,_,hf,_}:=zz;exact hf) (λi k v p B H' ei zw np=>?_) (λB H' zw=>?_)
  .refine K8.frame (H:=H) r1 λb hb1=>?_;let{o,w}:=a7 b hb1;have n2:b≠c0:=by
    rcases hb1 with rfl|hb1
    .exact al
    .exact λz=>a5 (z▸hb1)
   rw[ae n2,ae (aj w nv)]
  .rwa[ae n2,ae (aj e nv)]
  .let{v3,v4,a8,hr,hf,hk}:=zw;subst a8;let{n,rfl,en}:=vA ei;have a0:K8 (upd H' p<|.tup [kV (Sum.inl n),v]) d.r1 d.A1 ((kv.take i).foldl (fh m) d.C1) m:=hr.frame λb hb1=>ae λw=>by
    have:∃o,H' b=some o:=by
     rcases hb1 with rfl|hb1
     .exact{_,hr.lst}
     .let{_,_,_,_,w}:=hr.has hb1;exact{_,w}
    let{o,q}:=this;rw[w,np]at q;cases q
   let{n0,n1,n2}:=pN (k:=n) s6;let{c,e1}:=cU (l:=d.A1) n0 (by rwa[a0.la]);let{y,e2}:=cU (l:=(kv.take i).foldl (fh m) d.C1) n0 (by rwa[a0.lc]);let{y0,e3}:=cU (l:=d.C1) n0 (by rwa[r1.lc]);have yl:=ya e3 e2;have bc:=hb.short1 z e e3;have tl:(kv.take i).length<=kv.length:=by rw[Qe];lia
   have hc:=a0.cell _ _ _ e1 e2;have cA:c∈d.A1:=Q2 e1;refine{p,_,M,LB.of ag,M,_,_,M,_,_,M,M,?_};refine{_,M,_,M,_,M,_,M,d.r1,_,M,.inl<|Do.of a0.lst,n,_,M,by rw[lb];lia,?_};dsimp only;rw[lb];refine{d.r1,_,_,_,M,M,Do.of a0.lst,sT n0 e1,_,M,c,_,M,M1.k (k:=Sum.inl n) hc (by rw[cP];exact bi ()),?_};rw[iN];have pn:∀b o,H' b=some o->b≠p:=λb o q=>aj q np;refine{_,_,M,?_,?_,λb o nA nc q=>?_}
   .rw[CM en];exact a0.mov s6 e1 e2
   .rwa[ae (λw=>a5<|by rw[w];exact cA),ae (pn _ _ hf)]
   .have q:=hk b o nA nc q;rw[ae (λw=>nA<|by rw[w];exact cA),ae (pn _ _ q)];exact q
  .let{v3,v4,a8,hr,hf,hk}:=zw;subst a8;rw[cP,QG]at hr;refine{ob,hf,λb' O=>?_};have hF:∀b,¬LN a st d b->b∉d.A1/\b≠c0/\b≠a/\b≠d.r0/\b≠d.tb/\b≠d.r1:=λb n=>
    {λq=>n<|.inr<|.inr<|.inr<|.inr<|.inr q,λq=>n<|.inr<|.inr<|.inr<|.inl<|q▸Q2 ec,λq=>n<|.inl q,λq=>n<|.inr<|.inr<|.inl q,λq=>n<|.inr<|.inl q,λq=>n<|.inr (.inr<|.inr<|.inr<|.inl {by rw[e];rfl,q})}
   have a2:∀b o,H b=some o->(∀kvs,o≠ .dK kvs)->b∉d.A1:=λb o q ne w=>(r1.notr w q ne) M;have K1:∀b o,b∉d.A1->b≠c0->H b=some o->upd H' c0 (.dK<|aN kv) b=some o:=λb o n1 n2 q=>by rw[ae n2];exact hk b o n1 n2 q
   have a1:K8 (upd H' c0<|.dK<|aN kv) d.r1 d.A1 (kv.foldl (fh m) d.C1) m:=hr.frame λb hb1=>ae (by
    rcases hb1 with rfl|hb1
    .exact al
    .exact λw=>a5<|w▸hb1)
   have an:upd H' c0 (.dK<|aN kv) c0=some (.dK<|aN kv):=ag;generalize upd H' c0 (.dK<|aN kv)=H3 at O K1 a1 an⊢;have U:=K1 a _ (a2 _ _ ho<|λ_ w=>by cases w) (cy ho I<|by intro w;cases w) ho;have a3:=hb.row0.lst;have G:=K1 d.r0 _ (a2 _ _ a3<|λ_ w=>by cases w) (cy a3 I<|by intro w;cases w) a3;have ac:=K1 d.tb _ (a2 _ _ ht<|λ_ w=>by cases w) (cy ht I<|by intro w;cases w) ht;have b3:¬LN a st d b':=λw=>by
    rcases w with w|w|w|w|⟨_,w⟩|w
    .rw[w,U]at O;cases O
    .rw[w,ac]at O;cases O
    .rw[w,G]at O;cases O
    .let{j,b4,f1,f2,f3}:=hb.row0.has w;by_cases y:b'=c0
     .rw[y,an]at O;cases O
     .rw[K1 b' _ (hb.dis b' w) y f3]at O;cases O
    .rw[w,a1.lst]at O;cases O
    .let{_,_,_,_,w'}:=a1.has w;rw[w']at O;cases O
   have lA:((d.A0.map V.ref).length:Int)=st.size:=by rw[Q0];exact hb.row0.la
   have bo:∀{x:G'}{o:HO},H3 x=some o->x≠b':=λq=>aj q O;refine{_,M,_,M,a,_,dx,_,_,M,(by rwa[ae (bo U)]),T.ay,T.bE,xL,d.r0,_,_,_,M,M,(by rwa[ae (bo G)]),IQ v0 (by rwa[lA]),?_};have g0:H3 d.r1=some (.lst<|d.A1.map V.ref):=a1.lst;have ra:d.r0≠a:=cy a3 ho (by intro w;cases w);have b5:d.r0≠d.r1:=(hb.tr1<|by rw[e];rfl).2;have t1:d.tb≠d.r1:=(hb.tr1<|by rw[e];rfl).1;have ta:d.tb≠a:=cy ht ho (by intro w;cases w);have ap:d.r1≠a:=cy r1.lst ho (by intro w;cases w);have Z:∀b∈d.A1,b≠b'/\b≠d.r0/\b≠a:=λb w=>by
    let{_,_,_,_,f}:=a1.has w;exact{bo f,cy f G (by intro w;cases w),cy f U<|by intro w;cases w}
   have es:(d.A0.map V.ref).set st.mv.toNat (V.ref b')=(d.A0.set st.mv.toNat b').map V.ref:=by rw[List.map_set]
   rw[es];have b1:upd (upd H3 b'<|.dK []) d.r0 (.lst<|(d.A0.set st.mv.toNat b').map V.ref) a=some (.ins t.aQ dx<|LL d.tb st.mv d.n):=by rwa[ae ra.symm,ae (bo U)]
   refine{_,M,a,_,dx,_,_,M,b1,T.ay,T.bE,xL,_,_,M,M,dx,_,b1,qM,?_};rw[G9];have a4:∀{o:HO},upd (upd (upd H3 b'<|.dK []) d.r0<|.lst<|(d.A0.set st.mv.toNat b').map V.ref) a o d.r0=some (.lst<|(d.A0.set st.mv.toNat b').map V.ref):=by
    intro o;rw[ae ra,ag]
   have lS:(((d.A0.set st.mv.toNat b').map V.ref).length:Int)=st.size:=by rw[Q0,Z5];exact hb.row0.la
   refine{_,M,a,_,dx,_,_,M,ag,T.ay,T.bE,xL,_,M,d.r0,_,M,.inl<|Do.of a4,M,_,M,?_};rw[lS];have Y:∀{o:HO},K8 (upd (upd (upd H3 b'<|.dK []) d.r0<|.lst<|(d.A0.set st.mv.toNat b').map V.ref) a o) d.r1 d.A1 (kv.foldl (fh m) d.C1) m:=λ{o}=>a1.frame λb hb1=>by
    have:b≠b'/\b≠d.r0/\b≠a:=by
     rcases hb1 with rfl|hb1
     .exact{bo g0,b5.symm,ap}
     .exact Z b hb1
    rw[ae this.2.2,ae this.2.1,ae this.1]
   have K6:∀{o':HO}(b:G')(o:HO),¬LN a st d b->H b=some o->upd (upd (upd H3 b'<|.dK []) d.r0<|.lst<|(d.A0.set st.mv.toNat b').map V.ref) a o' b=some o:=λ{o'} b o n q=>by
    let{f1,f2,f3,f4,_}:=hF b n;have q3:=K1 b o f1 f2 q;rwa[ae f3,ae f4,ae (bo q3)]
   refine dY (λc=>?_)<|λc=>?_
   .have c:st.mv+1=st.size:=V.int.inj (VF c);refine{_,M,(by show 1<=sizeLine;decide),λtb' nt=>{_,M,a,_,dx,_,M,(by rw[ae (aj ag nt)];exact ag),T.ay,T.aM,qM,?_}};rw[JW];refine{_,M,a,_,dx,_,M,ag,T.ay,T.bE,qM,?_};rw[G9,bU];have b6:tb'≠a:=(aj ag nt).symm;have ba:tb'≠d.r1:=(aj (Y (o:= .ins t.aQ dx<|LL d.tb (st.mv+1) d.n)).lst nt).symm;refine q _ _ (hb.last z e ek (tb':=tb') (dx:=dx) c ag (by rw[ae b6];exact ag) ba ?_) M<|λb o n w=>?_
    .refine(Y (o:= .ins t.aQ dx<|LL d.tb (st.mv+1) d.n)).frame λb hb1=>?_;have:b≠a:=by
      rcases hb1 with rfl|hb1
      .exact ap
      .exact(Z b hb1).2.2
     rw[ae this,ae (λw=>?_)];obtain⟨o,f⟩:∃o,upd (upd (upd H3 b'<|.dK []) d.r0<|.lst<|(d.A0.set st.mv.toNat b').map V.ref) a (.ins t.aQ dx<|LL d.tb (st.mv+1) d.n) b=some o:=by
      rcases hb1 with rfl|hb1
      .exact{_,Y.lst}
      .let{_,_,_,_,f}:=Y.has hb1;exact{_,f}
     rw[w,nt]at f;cases f
    .let{f1,f2,f3,f4,f5,f6}:=hF b n;have k6:=K6 (o':= .ins t.aQ dx<|LL d.tb (st.mv+1) d.n) b o n w;have bt:b≠tb':=aj k6 nt;refine{by rwa[ae f3,ae bt],λy=>?_};rcases y with y|y|y|y|⟨_,y⟩|y
     .exact f3 y
     .exact bt y
     .exact f6 y
     .exact f1 y
     .exact f6 y
     .cases y
   .have c:st.mv+1≠st.size:=λw=>c (VI<|by rw[w]);refine q _ _ (hb.one z e ek (b':=b') (dx:=dx) c ag (by rw[ae ta,ae hb.tr,ae (bo ac),ac,hb.tbl,e]) a4 ?_ b3 (λj b f1 f2=>?_) Y) M<|λb o n w=>{K6 b o n w,λy=>?_}
    .have n1:b'≠a:=(bo U).symm;have n2:b'≠d.r0:=(bo G).symm;rw[ae n1,ae n2];exact ag
    .have bA:=Q2 f1;let{_,b4,_,_,f}:=hb.row0.has bA;have nc:b≠c0:=λw=>f2 (hb.row0.inj j _ c0 (w▸f1) ec);have f3:=K1 b _ (hb.dis b bA) nc f;rw[ae (cy f3 U<|by intro w;cases w),ae (cy f3 G<|by intro w;cases w),ae (bo f3),f3,f]
    .let{f1,f2,f3,f4,f5,f6}:=hF b n;rcases y with y|y|y|y|⟨_,y⟩|y
     .exact f3 y
     .exact f5 y
     .exact f4 y
     .let{j,hj,ej}:=QI (show b∈d.A0.set st.mv.toNat b' from y);rcases c5 (Q3.mpr ⟨hj,ej⟩)with⟨_,g⟩|⟨_,g⟩
      .have:=K1 b o f1 f2 w;rw[g,O]at this;cases this
      .exact n<|.inr (.inr<|.inr<|.inl<|Q2 g)
     .exact f6 y
     .exact f1 y
def lT:AZ P w K mg base KI 2 t.gv t.dt [cC] (lO t):=by
 let{U,G}:=T.g_GREATEST_SIZE;let{Z,I}:=T.g_LEAST_SIZE;refine T.Ah.okl lQ λs H vs Q E hr h _=>?_;intro X;let{a,st,d,rfl,hb,z,hn,q}:=h;refine ah (aT (az eV (ar ax {_} T.bM a6 (aa (aC Dm M) af)) ak<|aB _)
    (aq wI)
    aE)
   (ah (KB 1<|ar ax {_} T.bM a6 (aa (aY aW (aC Dm M) ak<|λ_ _=>M) af))
   (J0 (λx y=>aT (PW.pt<|fV (az Dq (aC Dm M) K3<|aB _)<|eI<|az fY K3 (bK (v:= .int 256) {_} G {_,M})<|aB _) x y) ?_))
 refine aD (bf<|eU QD Zd Ze eh (aC Dm M)<|aa (au (n6 T) hr.mo {_} T.qh T.lf.kp T.qj .nil aA (aa (aF fX K3 ak) af)) af) ?_
 intros
 refine Dy (λx=>aT (PW.pt<|fV (az fY (aF fX ak<|aC Dm M) K3<|aB _)<|eI<|az Dq K3 (bK (v:= .int 4) {_} I {_,M})<|aB _) x aE) ?_;refine aD (bf<|eU QD Zd Ze eh (aC Dm M)<|aa (au (n6 T) hr.mo {_} T.qh T.lf.kp T.qj .nil aA (aa (aF eJ K3 ak) af)) af) ?_
 intros
 let{dx,O}:=hb.obj;have Y:=hb.tbl;cases e:st.nxt with
 |some m=>
  rw[e]at Y;refine{_,M,a,_,dx,_,_,M,O,T.ay,T.aM,gE,d.tb,_,M,.inl<|Do.of Y,M,_,M,iO M ?_};have e1:st.three=st:=by unfold K4.three;rw[e]
  rw[e1]at q;exact q H d hb M Fr.refl
 |none=>
  rw[e]at Y;refine{_,M,a,_,dx,_,_,M,O,T.ay,T.aM,gE,d.tb,_,M,.inl<|Do.of Y,M,_,M,br (λz=>by cases z) ?_};have la:((d.A0.map V.ref).length:Int)=st.size:=by rw[Q0];exact hb.row0.la
  let{a4,a5}:=bB z.pw;refine{_,M,a,_,dx,_,_,M,O,T.ay,T.aM,gE,d.tb,_,_,_,M,M,Do.of Y,M,d.r0,_,M,.inl<|Do.of hb.row0.lst,?_};dsimp only;rw[la];have fin:∀{m:Int}{H':Hp}{r:G'}{A:Nc},st.three={st with nxt:=some m,mv:=0}->Cp H H'->H r=none->(∀b∈A,H b=none)->K8 H' r A (List.replicate m.toNat []) m->H' d.tb=some (.lst [.ref d.r0])/\Q .non (upd H' d.tb<|.lst<|[.ref d.r0]++ [.ref r]):=λ{m H' r A} e3 s nr nA hr=>by
   have a1:=s _ _ Y;have a0:∀b,LN a st d b->∃o,H b=some o:=λb w=>hb.dom w;have a2:¬LN a st d r:=λw=>by let{o,q}:=a0 r w;rw[nr]at q;cases q
   have a3:∀b∈A,¬LN a st d b:=λb hA w=>by let{o,q}:=a0 b w;rw[nA b hA]at q;cases q
   refine{a1,?_};have sb:=hb.begin (H':=upd H' d.tb<|.lst [.ref d.r0,.ref r]) e (m:=m) (r:=r) (A:=A) (by rw[ae (cy O Y<|by intro w;cases w),s _ _ O,O]) ag (λb hb1=>?_) (hr.frame λb hb1=>ae ?_) a2 a3
   .rw[<-e3]at sb;refine q _ _ sb M λb o n w=>{?_,λy=>?_}
    .rw[ae (λv=>n<|.inr<|.inl v)];exact s _ _ w
    .rw[e3]at y;rcases y with y|y|y|y|⟨_,y⟩|y
     .exact n<|.inl y
     .exact n<|.inr (.inl y)
     .exact n<|.inr (.inr<|.inl y)
     .exact n<|.inr (.inr<|.inr<|.inl y)
     .have y:b=r:=y;rw[y,nr]at w;cases w
     .rw[nA b y]at w;cases w
   .let{o,q}:=a0 b (by
     rcases hb1 with w|w
     .exact .inr<|.inr (.inl w)
     .exact .inr<|.inr<|.inr<|.inl w)
    have:b≠d.tb:=by
     rcases hb1 with w|w
     .rw[w];exact hb.tr.symm
     .exact hb.row0.notr w Y<|λ_ z=>by cases z
    rw[ae this,s _ _ q,q]
   .rcases hb1 with w|w
    .rw[w];exact λv=>by rw[v,Y]at nr;cases nr
    .exact λv=>by have:=nA b w;rw[v,Y]at this;cases this
  by_cases cA:st.size<d.n/\st.size<256
  .have e3:st.three={st with nxt:=some (2*st.size),mv:=0}:=by
    unfold K4.three;rw[e];exact VA<|by rwa[<-hn]
   refine{_,M,a,_,dx,_,_,M,O,T.ay,T.bD,qe,_,M,_,_,M,M,_,M,kE cA.1 {_,M,_,_,M,M,_,M,kE cA.2 ?_}};refine{_,M,a,_,dx,_,_,M,O,T.ay,T.aM,gE,.inl {M,_,Do.of Y},_,M,_,_,M,M,.inr {(_),(_)},_,M,(),(),λH' r A s nr nA hr=>?_};let{f1,f2}:=fin (m:=st.size*2) (by rw[e3,V4]) s nr nA hr;exact{d.tb,_,_,M,M,f1,cr (by show 1<=1000;decide),f2}
  .by_cases cB:4*d.n<st.size/\4<st.size
   .have e3:st.three={st with nxt:=some (st.size/2),mv:=0}:=by
     unfold K4.three;rw[e];exact(Vz<|by rwa[<-hn]).trans<|VA (by rwa[<-hn])
    have c1:¬st.size<d.n:=();refine{_,M,a,_,dx,_,_,M,O,T.ay,T.bD,qe,_,M,_,_,M,M,_,M,br c1 ?_};refine{_,M,a,_,dx,_,_,M,O,T.ay,T.bD,qe,_,_,M,M,.inl {(_),(_)},_,M,_,_,M,M,_,M,kE cB.1 {_,M,_,_,M,M,_,M,kE cB.2 ?_}};refine{_,M,a,_,dx,_,_,M,O,T.ay,T.aM,gE,.inl {M,_,Do.of Y},_,M,_,_,M,M,{(_),(_)},_,M,(),(),λH' r A s nr nA hr=>?_};let{f1,f2}:=fin (m:=st.size/2) e3 s nr nA hr;exact{d.tb,_,_,M,M,f1,cr (by show 1<=1000;decide),f2}
   .have e3:st.three=st:=by
     unfold K4.three;rw[e];exact(Vz<|by rwa[<-hn]).trans<|Vz (by rwa[<-hn])
    rw[e3]at q;have q0:=q H d hb M Fr.refl;by_cases c1:st.size<d.n
    .have c2:¬st.size<256:=λw=>cA ⟨c1,w⟩;have c3:¬4*d.n<st.size:=();refine{_,M,a,_,dx,_,_,M,O,T.ay,T.bD,qe,_,M,_,_,M,M,_,M,kE c1 {_,M,_,_,M,M,_,M,br c2 ?_}};exact{_,M,a,_,dx,_,_,M,O,T.ay,T.bD,qe,_,_,M,M,.inl {(_),(_)},_,M,_,_,M,M,_,M,br c3 q0}
    .refine{_,M,a,_,dx,_,_,M,O,T.ay,T.bD,qe,_,M,_,_,M,M,_,M,br c1 ?_};refine{_,M,a,_,dx,_,_,M,O,T.ay,T.bD,qe,_,_,M,M,.inl {(_),(_)},_,M,_,_,M,M,_,M,?_};by_cases c3:4*d.n<st.size
     .exact kE c3 {_,M,_,_,M,M,_,M,br (λw=>cB ⟨c3,w⟩) q0}
     .exact br c3 q0
section
variable{d:Lw}
def KR.put(h:KR t H a st d)(z:KA st){kv:My}(G:IsCell d st k c kv)(v:V):
  ∃d',KR t (upd H c<|.dK<|aN<|bj kv k v) a {st with kv:=bj st.kv k v} d'/\d'.n=d.n/\∀b,LN a {st with kv:=bj st.kv k v} d' b↔LN a st d b:=
 h.setCell z G (zG (h.at G).2.2) (λ_ hp=>sS hp) (by rw[fL,fL,VA M,VA M]) λj I=>{by rw[fL,Vz I],by rw[fL,Vz I]}
def KR.insM(h:KR t H a st d):∃dx fs,H a=some (.ins t.aQ dx fs)/\∀m,NoM m->fs.lookup m=none:=by
 let{dx,z}:=h.obj;exact{dx,_,z,λm G=>G4 G}
def K4.one_kv:st.one.kv=st.kv:=by
 unfold K4.one;cases st.nxt with
 |none=>rfl
 |some m=>show(if _ then _ else _:K4).kv=_;split<;>rfl
def K4.three_kv:st.three.kv=st.kv:=by
 unfold K4.three;cases st.nxt with
 |some m=>rfl
 |none=>show(if _ then _ else _:K4).kv=_;split;rfl;split<;>rfl
set_option tactic.hygienic true in
def AJ{kv:My}:((bj kv k v).length:Int)=if(aP kv k).isSome=true then(kv.length:Int)else kv.length+1:=by
 have:=VT List.length (oj (kv:=kv) (k:=k) (v:=v));rw[Q0]at this;split
 .rename_i c;rw[VA c,Q0]at this;lia
 .rename_i c;rw[Vz c,Qd,Q0]at this;simp at this;lia
end
def uA:AZ P w K mg base KI 4 t.oM t.jF [cC,eN] (ub K t):=by
 refine T.GN.okl uq λs H vs Q E G h _=>?_;intro X;let{a,k,F,st,rfl,{d,hb,O,U,nd,z},Z,q}:=h;refine{_,(aq<|aw<|Ip<|Iq (l5 G) K3<|a9 Dm T.ay T.iJ (dJ T) G.mo T.iS .nil aA<|aa K3 af)
  ,?_}
 let{dx,fs,hi,Y}:=hb.insM;refine{_,M,_,M,a,dx,fs,M,hi,Y _ ∅,_,M,a,k,st,d,M,hb,z,λc kv I=>?_};let{hc,_,_}:=hb.at I;refine{c,_,M,LQ.k (k:=Sum.inl k) hc,?_};rw[cO,hb.val k c kv I];exact q H F ⟨d,hb,O,U,nd,z⟩ Fr.refl
def uB:AZ P w K mg base KI 4 t.oN t.jG [cC,eN] (uc K t):=by
 refine T.GO.okl ur λs H vs Q E G h _=>?_;intro X;let{a,k,F,st,rfl,{d,hb,U,Y,nd,z},h0,Z,q2}:=h;refine ah (KB 2<|a9 Dm T.ay T.iJ (dJ T) G.mo T.iS .nil aA<|aa K3 af)
   (ah (aT (zA<|pH (l5 G) K3 K9)
    (aq wK)
    aE)
   (aD (aw<|wN (l5 G) K9 K3<|λ_ _=>M) ?_))
 intros
 have hA:Ku K t H a F st:=⟨d,hb,U,Y,nd,z⟩;let{dx,fs,hi,hm}:=hb.insM;refine{_,M,a,dx,fs,M,hi,hm _ ∅,_,M,a,k,st,d,M,hb,z,λc kv I=>?_};let{hc,_,_}:=hb.at I;have O:=hb.val k c kv I;refine{_,M,_,M,c,_,M,LQ.k (k:=Sum.inl k) hc,?_};rw[cO,O];cases e:aP st.kv k with
 |none=>
  refine{_,M,b9 ?_};exact(q2 e).elim
 |some v=>
  refine{_,M,bT ?_};refine{_,M,_,M,c,v,M,?_,Z v e H F hA Fr.refl};have:=LQ.k (k:=Sum.inl k) hc;rw[cO,O,e]at this;exact this
def uz:AZ P w K mg base KI 4 t.oK t.jE [cC,eN,kj] (ua K t):=by
 refine T.GM.okl uo λs H vs Q E hr h _=>?_;intro X;let{a,k,i,F,st,rfl,{d,hb,hF,hn,nd,z},h0,hl,q}:=h;refine ah (bf<|nY Dm T.ay T.zJ (lR T) hr.mo T.z7 .nil aA)
   (ah (KB 3<|a9 Dm T.ay T.iJ (dJ T) hr.mo T.iS .nil aA<|aa K3 af)
   (ah (aT (zA<|pH (l5 hr) K3 KY)
    (aq<|pE Dm ak zQ)
    aE)
   (ah (wJ (l5 hr) KY K3 K9 M)
   (aD (bf<|nY Dm T.ay T.zK (lT T) hr.mo T.z8 .nil aA) ?_))))
 intros
 let{dx,fs,hi,hm}:=hb.insM;refine{_,M,a,dx,fs,M,hi,hm _ ∅,a,st,d,M,hb,z,hl,λH1 Y hb1 e1 O=>?_};let{ac,al,an,ap}:=hb1.insM;have z1:=z.one;refine{_,M,a,ac,al,M,an,ap _ ∅,_,M,a,k,st.one,Y,M,hb1,z1,λc kv ic=>?_};let{hc,cF,_}:=hb1.at ic;have hv:=hb1.val k c kv ic;have sh:=hb1.short z1 ic;rw[K4.one_kv]at hv sh;let{U,Z}:=hb1.obj;have na:a≠c:=cy Z hc (by intro w;cases w);have key:∀(H2:Hp)(n2:Int),KR t H2 a st.one {Y with n:=n2}->Fr (LN a st d) (LN a st.one Y) H H2->n2=((bj st.kv k<|.int i).length:Int)->∃I,KR t (upd H2 c<|.dK<|aN<|bj kv k<|.int i) a {st.one with kv:=bj st.one.kv k (.int i)} I/\I.n=((bj st.one.kv k<|.int i).length:Int)/\
   ∀H4 d4,KR t H4 a (K4.three {st.one with kv:=bj st.one.kv k (.int i)}) d4->d4.n=I.n->Fr (LN a {st.one with kv:=bj st.one.kv k (.int i)} I) (LN a (K4.three {st.one with kv:=bj st.one.kv k (.int i)}) d4) (upd H2 c<|.dK<|aN<|bj kv k<|.int i) H4->Q .non H4:=λH2 n2 a0 b1 b2=>by
  let{I,G,e3,f3}:=a0.put z1 (kv:=kv) ic (.int i);have a1:I.n=((bj st.one.kv k<|.int i).length:Int):=by rwa[e3,K4.one_kv]
  refine{I,G,a1,λH4 d4 a7 e4 a8=>?_};rw[K4.one_kv]at a7 a8 f3 a1;refine q H4 _ {d4,a7,λb=>Iff.rfl,?_,?_,?_} ?_
  .show d4.n=((K4.three _).kv.length:Int);rw[K4.three_kv,e4,a1]
  .show((K4.three _).kv.map (·.1)).Nodup;rw[K4.three_kv];exact zG nd
  .exact(z1.kv).three
  .have step:Fr (LN a st.one Y) (LN a {st.one with kv:=bj st.kv k (.int i)} I) H2 (upd H2 c<|.dK<|aN<|bj kv k<|.int i):=λb o n w=>{by rwa[ae (λy=>n<|by rw[y];exact cF)],λy=>n<|(f3 b).mp y};exact Fr.trans (λb o n w=>b1 b o (λy=>n<|(hF b).mpr y) w)<|Fr.trans step a8
 refine{_,M,_,M,c,_,M,LQ.k (k:=Sum.inl k) hc,?_};rw[cO,hv];have kl:(aN kv).length<sizeLine:=by rw[cP];exact By ()
 cases e:aP st.kv k with
 |none=>
  refine{_,M,b9 ?_};refine{_,M,a,_,U,_,_,M,Z,T.ay,T.bD,qe,_,_,M,M,U,_,Z,qM,?_};rw[JX];have a0:=hb1.setN (dx:=U) (n:=Y.n+1);have b3:upd H1 a (.ins t.aQ U<|LL Y.tb st.one.moved<|Y.n+1) c=some (.dK<|aN kv):=by rwa[ae na.symm]
  let{I,G,n3,fin}:=key _ _ a0 (λb o n w=>{by rw[ae (λy=>(O b o n w).2<|.inl y)];exact(O b o n w).1,(O b o n w).2}) (by rw[AJ,e,e1,hn];rfl);refine{_,M,_,M,_,M,c,_,M,M1.k (k:=Sum.inl k) b3 kl,?_};rw[iN];let{a2,a3,a4,a5}:=G.insM;exact{_,M,a,a2,a3,M,a4,a5 _ ∅,a,_,I,M,G,z1.kv,n3,fin}
 |some v=>
  refine{_,M,bT ?_};let{I,G,n3,fin}:=key H1 Y.n hb1 O (by rw[AJ,e,e1,hn];rfl);refine{_,M,_,M,_,M,c,_,M,M1.k (k:=Sum.inl k) hc kl,?_};rw[iN];let{a2,a3,a4,a5}:=G.insM;exact{_,M,a,a2,a3,M,a4,a5 _ ∅,a,_,I,M,G,z1.kv,n3,fin}
def ku:AZ P w K mg base KI 1 t.mr t.io [cC] (rB K t):=by
 refine T.E6.okl rR λs H vs Q E Y h _=>?_;intro X;let{a,F,st,rfl,{d,hb,hF,hn,nd,z},q}:=h;refine{_,(aq<|aw<|lD M (K5.of (M':=["row"]) (N:=[cC]) (N':=[cC]) (dsc:=ai eF) M M ∅) (dI<|aC Dm M)<|λ_ _ _ _ _=>(ar (uP K M) {_} T.bM a6 (aa Dm af)))
  ,?_}
 have hA:Ku K t H a F st:=⟨d,hb,hF,hn,nd,z⟩;let{dx,ho}:=hb.obj;have Z:∃xs,H d.tb=some (.lst xs)/\xs.length=st.rows.length/\∀(i:Nat)(x:V),xs[i]?=some x->∃r O,x= .ref r/\H r=some (.lst O)/\st.rows[i]?=some (O.length:Int):=by
  have G:=hb.tbl;have l0:((d.A0.map V.ref).length:Int)=st.size:=by rw[Q0];exact hb.row0.la
  unfold K4.rows;have r1:=hb.row1;cases e:st.nxt with
  |none=>
   rw[e]at G;refine{_,G,M,λi x hx=>?_};cases i with
   |zero=>cases hx;exact{d.r0,_,M,hb.row0.lst,by rw[l0];rfl}
   |succ j=>simp at hx
  |some m=>
   rw[e]at G r1;have l1:((d.A1.map V.ref).length:Int)=m:=by rw[Q0];exact r1.la
   refine{_,G,M,λi x hx=>?_};cases i with
   |zero=>cases hx;exact{d.r0,_,M,hb.row0.lst,by rw[l0];rfl}
   |succ j=>
    cases j with
    |zero=>cases hx;exact{d.r1,_,M,r1.lst,by rw[l1];rfl}
    |succ j=>simp at hx
 let{xs,G,lx,look}:=Z;refine{_,M,a,_,dx,_,_,M,ho,T.ay,T.aM,gE,d.tb,M,{_,Do.of G},λD hD=>?_};refine lK (K:=K) (a:=d.tb) (xs:=xs) (λi ys H3=>H3=upd H D (.lst ys)/\ys=(st.rows.take i).map V.int) ⟨M,M⟩ (λi ys H3 _ w=>Do.of<|by rwa[w.1,ae (aj G hD)]) (λi x ys H3 hx w I=>?_)<|λys H3 w I=>?_
 .let{U,e2}:=w;let{r,O,rfl,Y,hs}:=look i x hx;have hi:i<xs.length:=(Q3.mp hx).1;have a0:H3 r=some (.lst O):=by rwa[U,ae (aj Y hD)]
  refine{_,M,r,_,M,.inl<|Do.of a0,KL.mk hi I ?_ {?_,?_}}
  .rw[e2,Q0,Qe];have:st.rows.length<=2:=by(unfold K4.rows;cases st.nxt<;>simp)
   exact cr ()
  .rw[U,bU]
  .rw[e2,Qo,hs,Qb];rfl
 .let{U,e2}:=w;rw[lx,QG]at e2;subst e2;subst U;exact q _ F D (hA.new hD) (Fr.of_same<|am hD) hD (hA.out hD) ag
def HW{sh:Int}:bR ("kept":Str) (.int n) (bR ("shifted":Str) (.int sh)<|bR ("table":Str) (.ref tb) [])=LL tb sh n:=by
 have z:bR ("table":Str) (.ref tb) []=[(("table":Str),V.ref tb)]:=M;rw[z,bR,Vz ∅,bR,bR,Vz ∅,bR,Vz ∅,bR];rfl
def sG:AZ P w K mg base KI 2 t.mw t.iq [cC] (rC K t):=by
 let{G,z}:=T.g_LEAST_SIZE;refine T.E7.okl rS λs H vs Q E I h _=>?_;intro X;let{a,dx,rfl,ha,hd,q}:=h;refine ah (cu Dm (de<|aa (au (n6 T) I.mo {_} T.qh T.lf.kp T.qj .nil aA (aa (bK (v:= .int 4) {_} z {_,M}) af)) af) M)
   (ah (cu Dm ak M)
   (aD (cu Dm ak M) ?_))
 intros
 refine{4,M,(_),(_),λH' r A s nr nA I=>{(by show 1<=sizeLine;decide),λtb Y=>?_}};have O:=s _ _ ha;have U:a≠tb:=aj O Y;refine{_,M,a,_,dx,[],M,(by rwa[ae U]),T.ay,T.aM,(by show 0<1000;decide),?_};refine{_,M,a,_,dx,_,M,ag,T.ay,T.bE,?_,?_}
 .show 1<1000;decide
 refine{_,M,a,_,dx,_,M,ag,T.ay,T.bD,?_,?_}
 .have h1:=j6 (f:="shifted") (v:= .int 0) (bR "table" (.ref tb) []);have h2:=j6 (f:="table") (v:= .ref tb) [];have h3:([]:Nl).length=0:=M;lia
 rw[HW,bU,bU];have a0:tb≠r:=(aj I.lst Y).symm;have sb:=KR.fresh (t:=t) (H:=upd (upd H' tb<|.lst [.ref r]) a<|.ins t.aQ dx<|LL tb 0 0) (a:=a) (tb:=tb) (r:=r) (A:=A) (dx:=dx) ag (by rw[ae U.symm];exact ag) (I.frame λb hb1=>?_) a0
 .refine q _ _ {_,sb,λb=>Iff.rfl,M,ZB,KA.new} λb o n w=>?_;have Z:b≠a:=λy=>n (.inl y);have w1:=s _ _ w;have n2:b≠tb:=aj w1 Y;refine{by rwa[ae Z,ae n2],λy=>?_};rcases y with y|y|y|y|⟨y,_⟩|y
  .exact Z y
  .exact n2 y
  .have y:b=r:=y;rw[y,nr]at w;cases w
  .rw[nA b y]at w;cases w
  .cases y
  .cases y
 .have:∃o,H' b=some o:=by
   rcases hb1 with rfl|hb1
   .exact{_,I.lst}
   .let{_,_,_,_,w}:=I.has hb1;exact{_,w}
  let{o,w}:=this;have n2:b≠tb:=aj w Y;have Z:b≠a:=λy=>by
   rcases hb1 with y2|y2
   .rw[<-y2,y,ha]at nr;cases nr
   .have:=nA b y2;rw[y,ha]at this;cases this
  rw[ae Z,ae n2]
def kt:AZ P w K mg base KI 3 t.mn t.ig [cC,"place"] (rq K t):=by
 refine T.E4.okl rP λs H vs Q E G h _=>?_;intro X;let{a,p,F,st,rfl,I,U,Z,q}:=h;refine ah (KB 2<|ar (vJ M) {_} T.xy pY (aa (nY Dm T.ay T.uI (ku T) G.mo T.uU .nil aA) af))
   (aD (aw<|aY fk (au (uv T) G.mo {_} T.Gg T.xt.kp T.Gz .nil aA (aa (au (sw T) G.mo {_} T.BP T.vW.kp T.Cl .nil aA (aa K3<|aa K9 af))<|aa K9 af)) ak<|λ_ _=>M) ?_)
 intros
 have z:KA st:=let⟨_,_,_,_,_,z⟩:=I;z
 let{s4,s5}:=bB (fj z);let{x,y,R}:=sj (fj z);let{dx,fs,hi,hm}:=I.ins;refine{_,M,a,dx,fs,M,hi,hm _ ∅,a,F,st,M,I,λH1 F1 l sA fr nl oF hl=>{l,st.rows,M,Do.of hl,?_,λM' hM O=>?_}}
 .unfold K4.rows;cases st.nxt<;>simp
 .have eM:=DR hM O;subst eM;refine{_,M,_,M,p,_,M,U,(),_,M,_,_,M,Qx _ (),(),(),λtp Y=>?_};rw[wb R U Z];exact{tp,_,_,_,M,M,LB.of ag,M,q _ F1 (sA.new Y)<|fr.trans (Fr.of_same<|am Y)}
set_option genInjectivity false in
structure Rw where
 r:Addr
 A:List Addr
 C:List (List<|Int×V)
 s:Int
noncomputable def dZ(st:K4)(d:Lw):List Rw:=match st.nxt with|none=> [⟨d.r0,d.A0,d.C0,st.size⟩]|some m=> [⟨d.r0,d.A0,d.C0,st.size⟩,⟨d.r1,d.A1,d.C1,m⟩]
def KG(k:Int):Int:=tz (k%65536)
def qP{st:Int}{x:Nat}(h:0<st):x<m9 lo hi st↔lo+(x:Int)*st<hi:=by
 unfold m9;rw[lX h];by_cases c:lo<hi
 .rw[VA c];have a:0<=(hi-lo-1)/st:=XE () ();have e:(x:Int)<=(hi-lo-1)/st↔(x:Int)*st<=hi-lo-1:=Int.le_ediv_iff_mul_le h;lia
 .rw[Vz c];have:0<=(x:Int)*st:=XS () ();lia
def du{kv:My}(nd:(kv.map (·.1)).Nodup)(h:(k,v)∈kv):aP kv k=some v:=by
 induction kv with
 |nil=>cases h
 |cons p r z=>
  rw[Qt,Z9]at nd;by_cases e:p.1=k
  .rw[bg e];rcases Qc.mp h with h|h
   .rw[<-h]
   .exact VE (QC (f:=(·.1)) h)<|by rw[<-e]at*;exact nd.1
  .rw[bh e];rcases Qc.mp h with h|h
   .rw[<-h]at e;exact VE M e
   .exact z nd.2 h
def kB{kv:My}(h:aP kv k=some v):(k,v)∈kv:=by
 induction kv with
 |nil=>rw[nN]at h;cases h
 |cons p r z=>
  by_cases e:p.1=k
  .rw[bg e]at h;cases h;rw[<-e];exact Q7
  .rw[bh e]at h;exact Q8 _<|z h
def qT{d:Lw}{ri:Nat}{R:Rw}{kv:My}(hb:KR t H a st d)(U:(dZ st d)[ri]?=some R)(hk:R.C[j]?=some kv)(Y:(k,v)∈kv):
  k%65536%R.s=(j:Int)/\(kv.map (·.1)).Nodup/\∃c,IsCell d st k c kv:=by
 have O:∀{A:Nc}{C:List (List<|Int×V)}{r:G'}{s:Int}{x:Nat},K8 H r A C s->C[x]?=some kv->∃b,A[x]?=some b:=λ{A C r s x} ro h=>by
  have h1:=(Q3.mp h).1;have h2:=ro.la;have h3:=ro.lc;exact{A[x]'(),Q4 _}
 have Z:kv≠[]:=λz=>by rw[z]at Y;cases Y
 have I:=hb.row1;have zero:(j:Int)<st.moved->d.C0[j]?=some kv->False:=λh1 h2=>Z (hb.old _ _ h2 h1);unfold dZ at U;cases en:st.nxt with
 |none=>
  rw[en]at U;cases ri with
  |zero=>
   cases U;have G:=hb.row0.home _ _ hk _ Y;let{b,eb}:=O hb.row0 hk;refine{G,hb.row0.ndk _ _ hk,b,.inl {?_,by rwa[G],by rwa[G]}};rw[G,K4.moved_none en];lia
  |succ j=>simp at U
 |some m=>
  rw[en]at U I;cases ri with
  |zero=>
   cases U;have G:=hb.row0.home _ _ hk _ Y;let{b,eb}:=O hb.row0 hk;refine{G,hb.row0.ndk _ _ hk,b,.inl {?_,by rwa[G],by rwa[G]}};rw[G];exact Int.not_lt.mp λy=>zero y hk
  |succ j'=>
   cases j' with
   |zero=>
    cases U;have G:=I.home _ _ hk _ Y;let{b,eb}:=O I hk;exact{G,I.ndk _ _ hk,b,.inr {_,en,hb.new _ _ hk _ Y,by rwa[G],by rwa[G]}}
   |succ j=>simp at U
noncomputable def lU(C:List (List<|Int×V))(s m:Int)(x:Nat):List (Int×V):=C.getD (s+(x:Int)*m).toNat []
def FA(s m:Int)(R:Rw):List (Int×V):=(List.range<|m9 s R.s m).flatMap (lU R.C s m)
def IC(st:K4)(d:Lw)(s:Int):List (Int×V):=(dZ st d).flatMap (FA s st.low)
def pD{d:Lw}(z:KA st){R:Rw}(h:R∈dZ st d):R.s=st.low\/R.s=2*st.low:=by
 unfold dZ at h;unfold K4.low;cases e:st.nxt with
 |none=>rw[e]at h;rw[Qf.mp h];exact .inl M
 |some m=>
  rw[e]at h;let{_,_,_,nx}:=z.nx m e;have p:=bB z.pw;show R.s=(if m<st.size then m else st.size)\/R.s=2*(if m<st.size then m else st.size);rcases Qc.mp h with h|h
  .rw[h];show st.size=_\/st.size=_;split<;>lia
  .rw[Qf.mp h];show m=_\/m=_;split<;>lia
def AI{x r:Int}(h:r=m\/r=2*m):x%r%m=x%m:=by
 rcases h with rfl|rfl
 .exact Int.emod_emod_of_dvd _<|Int.dvd_refl _
 .exact Int.emod_emod_of_dvd _ {2,()}
def Ga{d:Lw}{s:Int}(hb:KR t H a st d)(z:KA st)(nd:(st.kv.map (·.1)).Nodup)(s0:0<=s)(s1:s<st.low)(k:Int)(v:V):
  (k,v)∈IC st d s↔(k,v)∈st.kv/\k%65536%st.low=s:=by
 have lp:=bB (fj z);constructor
 .intro h;let{R,G,h}:=ZP.mp h;let{x,hx,h}:=ZP.mp h;have hx:=Vs.mp hx;have O:=pD z G;let{ri,U,Y}:=QI G;have Y:(dZ st d)[ri]?=some R:=by rw[Q4 U,Y]
  unfold lU at h;have xs:=(qP ()).mp hx;have xm:0<=(x:Int)*st.low:=XS () ();cases Z:R.C[(s+(x:Int)*st.low).toNat]? with
  |none=>rw[Qs,Z]at h;cases h
  |some kv=>
   rw[Qs,Z]at h;have h:(k,v)∈kv:=h;let{h1,h2,c,I}:=qT hb Y Z h;refine{kB (by rw[<-hb.val k c kv I];exact du h2 h),?_};rw[<-AI O,h1,XX (),Int.add_mul_emod_self_right];exact Int.emod_eq_of_lt s0 s1
 .rintro ⟨h,hs⟩;let{c,kv,ic}:=hb.cell z k;have hv:=hb.val k c kv ic;rw[du nd h]at hv;have hm:=kB hv;have fin:∀R:Rw,R∈dZ st d->R.C[(k%65536%R.s).toNat]?=some kv->(k,v)∈IC st d s:=λR G hk=>by
   have O:=pD z G;have j0:0<=k%65536%R.s:=Qx _ ();have j1:k%65536%R.s<R.s:=QA _ ();have jm:=AI (x:=k%65536) O;rw[hs]at jm;have dv:=XG (k%65536%R.s) st.low;have q0:0<=k%65536%R.s/st.low:=XE j0 ();have eq:s+((k%65536%R.s/st.low).toNat:Int)*st.low=k%65536%R.s:=by
    rw[XX q0,V4];lia
   refine ZP.mpr {R,G,ZP.mpr {(k%65536%R.s/st.low).toNat,Vs.mpr<|(qP ()).mpr (by rwa[eq]),?_}};unfold lU;rwa[eq,Qs,hk]
  rcases ic with⟨_,_,I⟩|⟨m,en,_,_,I⟩
  .refine fin ⟨d.r0,d.A0,d.C0,st.size⟩ ?_ I;unfold dZ;cases st.nxt<;>simp
  .refine fin ⟨d.r1,d.A1,d.C1,m⟩ ?_ I;unfold dZ;rw[en];simp
def lG{C:List (List<|Int×V)}{s:Int}{x:Nat}{p:Int×V}(h:p∈lU C s m x):∃kv,C[(s+(x:Int)*m).toNat]?=some kv/\p∈kv:=by
 unfold lU at h;cases z:C[(s+(x:Int)*m).toNat]? with
 |none=>rw[Qs,z]at h;cases h
 |some kv=>
  rw[Qs,z]at h;exact⟨kv,M,h⟩
def BK{d:Lw}{s:Int}(hb:KR t H a st d)(z:KA st)(s0:0<=s):((IC st d s).map (·.1)).Nodup:=by
 have lp:=bB (fj z);refine Qw.mpr ?_;have row:∀R∈dZ st d,(FA s st.low R).Pairwise (λp q=>p.1≠q.1):=λR I=>by
  let{ri,O,G}:=QI I;have G:(dZ st d)[ri]?=some R:=by rw[Q4 O,G]
  refine List.pairwise_flatMap.mpr {λx _=>?_,?_}
  .unfold lU;cases U:R.C[(s+(x:Int)*st.low).toNat]? with
   |none=>rw[Qs,U];exact VY
   |some kv=>
    rw[Qs,U];show List.Pairwise _ kv;cases ke:kv with
    |nil=>exact VY
    |cons p r=>
     have:=(qT hb G U (k:=p.1) (v:=p.2)<|by rw[ke];exact Q7).2.1;rw[ke]at this;exact Qw.mp this
  .refine(List.pairwise_lt_range (n:=m9 s R.s st.low)).imp λ{x y} a3 p hp q hq e=>?_;let{kv,h1,h2}:=lG hp;let{kv',Y,Z}:=lG hq;have a1:=(qT hb G h1 h2).1;have a2:=(qT hb G Y Z).1;have m1:(x:Int)*st.low<(y:Int)*st.low:=Int.mul_lt_mul_of_pos_right () ();have m0:0<=(x:Int)*st.low:=XS () ();rw[e,a2]at a1;lia
 refine List.pairwise_flatMap.mpr {row,?_};have a0:=hb.row1;unfold dZ;cases en:st.nxt with
 |none=>exact Z6 _ _
 |some m=>
  refine Z0.mpr {λR I p hp q hq e=>?_,Z6 _ _};rw[Qf.mp I]at hq;let{x,_,hp}:=ZP.mp hp;let{y,_,hq}:=ZP.mp hq;let{kv,h1,h2}:=lG hp;let{kv',Y,Z}:=lG hq;have n1:=hb.new _ _ Y _ Z;have n2:=hb.row0.home _ _ h1 _ h2;have n3:¬((s+(x:Int)*st.low).toNat:Int)<st.moved:=λc=>by
   have:=hb.old _ _ h1 c;rw[this]at h2;cases h2
  rw[<-e,n2]at n1;exact n3 n1
structure Ly(X:Nc)(H H':Hp)(l:G')(ts:List Tp)(L:My):Prop where
 sm:∀c o,c∉X->H c=some o->H' c=some o
 li:H' l=some (.lst<|ts.map λe=>V.ref e.p)
 tu:∀e∈ts,H' e.p=some (.tup [.int (KG e.k),.int e.k,e.v])/\H e.p=none
 eq:ts.map Tp.kv=L
section
variable{X:Nc}{H'':Hp}{L:My}
def Ly.same(h:Ly X H H' l ts L)(s:Cp H' H''):Ly X H H'' l ts L:={λc o n e=>s _ _<|h.sm c o n e,s _ _ h.li,λe he=>{s _ _ (h.tu e he).1,(h.tu e he).2},h.eq}
def Ly.add(h:Ly X H H' l ts L)(s:Cp H' H'')(np:H' p=none)(I:H l=none)(O:∀c∈X,∃o,H c=some o/\∃o',H' c=some o')(U:H'' p=some (.tup [.int (KG k),.int k,v])):
  Ly X H (upd H'' l<|.lst<|ts.map (λe=>V.ref e.p)++ [.ref p]) l (ts++ [⟨p,k,v⟩]) (L++ [(k,v)]):=by
 have pl:p≠l:=λz=>by rw[z,h.li]at np;cases np
 have old:H p=none:=by
  cases q:H p with
  |none=>rfl
  |some o=>
   by_cases c:p∈X
   .let{_,_,o',G}:=O p c;rw[np]at G;cases G
   .rw[h.sm _ _ c q]at np;cases np
 have h2:=h.same s;refine{λc o n e=>?_,by rw[ag,Qb];rfl,λe he=>?_,by rw[Qb,h.eq];rfl}
 .rw[ae λz=>by rw[z,I]at e;cases e];exact h2.sm c o n e
 .rcases Q6.mp he with he|he
  .have q:=h2.tu e he;exact{by rw[ae λz=>by rw[z,h2.li]at q;cases q.1];exact q.1,q.2}
  .rw[Qf.mp he];exact{by rwa[ae pl],old}
def Ly.freeze{o':HO}(h:Ly [] H H' l ts L)(hb:H b=some o)(bl:b≠l):Ly [b] H (upd H' b o') l ts L:=
 {λc o n e=>by rw[ae λz=>n (by rw[z];exact Q7)];exact h.sm c o (by simp) e,by rw[ae bl.symm];exact h.li,
  λe he=>{by rw[ae λz=>by have:=(h.tu e he).2;rw[z,hb]at this;cases this];exact(h.tu e he).1,(h.tu e he).2},h.eq}
def Ly.thaw(h:Ly [b] H H' l ts L)(hb:H b=some o)(bl:b≠l):Ly [] H (upd H' b o) l ts L:=by
 refine{λc o' _ e=>?_,by rw[ae bl.symm];exact h.li,λe he=>{by rw[ae λz=>by have:=(h.tu e he).2;rw[z,hb]at this;cases this];exact(h.tu e he).1,(h.tu e he).2},h.eq};by_cases z:c=b
 .rwa[z,ag,<-hb,<-z]
 .rw[ae z];exact h.sm c o' (by simpa using z) e
end
def mK(K:Wi)(t:KF):Sp:=λvs H Q _=>∃(a:G')(p:Int)(F:Mw)(st:K4),vs=[.ref a,.int p]/\Ku K t H a F st/\0<=p/\p<65536/\st.kv.length<4096/\
 ∀(H':Hp)(F':Mw)(l:G')(ts:List Tp),Ku K t H' a F' st->Fr F F' H H'->¬F' l->H' l=some (.lst<|ts.map λe=>V.ref e.p)->(∀e∈ts,H' e.p=some (.tup [.int (KG e.k),.int e.k,e.v])/\¬F' e.p)->
  (∀k v,(k,v)∈ts.map Tp.kv↔(k,v)∈st.kv/\k%65536%st.low=tz p%st.low)->((ts.map Tp.kv).map (·.1)).Nodup->Q (.ref l) H'
def HJ{d:Lw}(hb:KR t H a st d)(sz:KA st):∃xs,H d.tb=some (.lst xs)/\xs.length=(dZ st d).length/\(dZ st d).length<=2/\
  ∀(i:Nat)(x:V),xs[i]?=some x->∃R:Rw,x= .ref R.r/\(dZ st d)[i]?=some R/\K8 H R.r R.A R.C R.s/\R.s<=256/\∀(j:Nat)(kv:My),R.C[j]?=some kv->kv.length<=st.kv.length:=by
 have pw:=bB sz.pw;have z:=hb.tbl;have r1:=hb.row1;unfold dZ;cases e:st.nxt with
 |none=>
  rw[e]at z;refine{_,z,M,by simp,λi x hx=>?_};cases i with
  |zero=>cases hx;exact{_,M,M,hb.row0,pw.2,λj kv h=>hb.short0 sz h}
  |succ j=>simp at hx
 |some m=>
  rw[e]at z r1;refine{_,z,M,by simp,λi x hx=>?_};cases i with
  |zero=>cases hx;exact{_,M,M,hb.row0,pw.2,λj kv h=>hb.short0 sz h}
  |succ j=>
   cases j with
   |zero=>cases hx;exact{_,M,M,r1,(bB (sz.nx m e).1).2,λj kv h=>hb.short1 sz e h}
   |succ j=>simp at hx
def Ee{RR:List Rw}{f:Rw->List (Int×V)}{R:Rw}(e:RR[i]?=some R):(RR.take<|i+1).flatMap f=(RR.take i).flatMap f++f R:=by
 rw[Qo,e,List.flatMap_append];simp
def zS{f:Nat->List (Int×V)}{x:Nat}:(List.range<|x+1).flatMap f=(List.range x).flatMap f++f x:=by
 rw[List.range_succ,List.flatMap_append];simp
def Br{kv:My}{p:Int×V}(e:kv[i]?=some p):kv.take (i+1)=kv.take i++ [p]:=by
 rw[Qo,e];rfl
def mY:AZ P w K mg base KI 3 t.gO t.dO [cC,"place"] (mK K t):=by
 refine T.Bg.okl mP λs H vs Q E hr h _=>?_;intro X;let{a,p,F,st,rfl,hA,p0,p1,b2,q}:=h;refine ah (KB 2<|ar (vJ M) {_} T.xy pY (aa (nY Dm T.ay T.uI (ku T) hr.mo T.uU .nil aA) af))
   (ah (KB 3<|de af)
   (eX (λx=>(jo VW M (dI<|aC Dm M) (MC 4)
    x)) ?_))
 refine Dy (λx=>(jo VW M (BE {_} T.qL (@aH _ _ _ _ _ (au (sw T) hr.mo {_} T.BP T.vW.kp T.Cl .nil aA (aa K3<|aa K9 af)) (@aH _ _ _ _ _ (ar ax {_} T.bM a6 (aa Kt af)) (@aH _ _ _ _ _ K9 af M) M) M)) (MC 5)
    x)) ?_
 refine Dy (λx=>(Aw (jo VW M (xU<|Dn Xr Xq PySem.F.type_dict_items x9<|aY aW Kt Lx<|λ_ _=>M) (wL M<|eT (MC 6)<|eT (MC 7) qN)
    x))) ?_
 refine aD (bf<|eU QD Zd Ze eh KY<|@aH _ _ _ _ _ (db<|@aH _ _ _ _ _ (au (ko T) hr.mo {_} T.sU T.nG.kp T.tL .nil aA (aa MF af)) (@aH _ _ _ _ _ MF (@aH _ _ _ _ _ Mh af M) M) M) af M) ?_
 intros
 refine aD (aw KY) ?_
 intros
 have z:KA st:=let⟨_,_,_,_,_,z⟩:=hA;z
 let{s4,s5}:=bB (fj z);let{dx,fs,hi,hm}:=hA.ins;refine{_,M,a,dx,fs,M,hi,hm _ ∅,a,F,st,M,hA,λH1 F1 lr sA fr b3 oF a4=>{lr,st.rows,M,Do.of a4,?_,λM' hM a5=>?_}}
 .unfold K4.rows;cases st.nxt<;>simp
 have eM:=DR hM a5;subst eM;have sB:=sA;let{d,hb,hF,hn,nd,_}:=sB;let{a7,ho}:=hb.obj;let{xs,ht,lx,l2,look}:=HJ hb z;have g0:0<=tz p%st.low:=Qx _ ();have g1:tz p%st.low<st.low:=QA _ ();have U:st.low>0:=();refine{Qh _,λl nl=>?_};have y0:Ly [] H1 (upd H1 l<|.lst []) l [] []:={λc o _ e=>am nl _ _ e,ag,(λe he=>by cases he),M};generalize upd H1 l (.lst [])=H2 at y0⊢;generalize hs:tz p%st.low=I at g0 g1 q;refine{_,M,a,_,a7,_,_,M,y0.sm _ _ (by simp) ho,T.ay,T.aM,gE,d.tb,M,{_,Do.of<|y0.sm _ _ (by simp) ht},pR (K:=K) (a:=d.tb) (xs:=xs) (λi B H'=>∃(v4 v5 Y Z:Nm)(ts:List Tp),B=[some (.ref a),some (.int p),some (.int st.low),some (.ref l),v4,v5,Y,Z]/\Ly [] H1 H' l ts (((dZ st d).take i).flatMap<|FA I st.low)/\ts.length<=8192*i)
  {_,_,_,_,[],M,y0,by simp} (λi B H' _ w=>by let{_,_,_,_,_,_,c,_}:=w;exact Do.of<|c.sm _ _ (by simp) ht) (λi x B H' hx w=>?_) (λB H' w=>?_)}
 .let{v4,v5,Y,Z,ts,G,c,lt}:=w;subst G;let{R,rfl,hR,ro,b1,a8}:=look i x hx;have hr:=c.sm _ _ (by simp) ro.lst;have iL:=(Q3.mp hx).1;have lA:((R.A.map V.ref).length:Int)=R.s:=by rw[Q0];exact ro.la
  have rl:=pD z (Q2 hR);have a1:∀y:Nat,y<m9 I R.s st.low->y<2:=λy hy=>by
   have:=(qP U).mp hy;refine Nat.lt_of_not_le λy2=>?_;have:(2:Int)*st.low<=(y:Int)*st.low:=Vf () ();lia
  have b4:m9 I R.s st.low<=2:=by
   by_cases c0:m9 I R.s st.low=0
   .lia
   .have:=a1 (m9 I R.s st.low-1) ();lia
  refine{_,M,_,M,p,_,M,p0,U,_,M,R.r,_,M,.inl<|Do.of hr,_,M,_,_,_,M,?_,?_}
  .rw[hs,lA];exact{(),(),(),(),(),()}
  rw[hs,lA];generalize ac:((dZ st d).take i).flatMap (FA I st.low)=L0 at c;refine yw (n:=m9 I R.s st.low) (λx B H'=>∃(v5 Y Z:Nm)(ts:List Tp),B=[some (.ref a),some (.int p),some (.int st.low),some (.ref l),some (.ref R.r),v5,Y,Z]/\Ly [] H1 H' l ts (L0++(List.range x).flatMap (lU R.C I st.low))/\ts.length<=8192*i+4096*x)
   {_,_,_,ts,M,by simpa using c,()} (λx B H' hx w=>?_) (λB H' w=>?_)
  .let{v5,Y,Z,ts,G,c,lt}:=w;subst G;have b5:=(qP U).mp hx;have x2:=a1 x hx;have xm:0<=(x:Int)*st.low:=XS () ();have la:=ro.la;have lc:=ro.lc;have eb:R.A[(I+(x:Int)*st.low).toNat]?=some (R.A[(I+(x:Int)*st.low).toNat]'()):=Q4 ();have ek:R.C[(I+(x:Int)*st.low).toNat]?=some (R.C[(I+(x:Int)*st.low).toNat]'()):=Q4 ();generalize R.A[(I+(x:Int)*st.low).toNat]'()=b at eb;generalize R.C[(I+(x:Int)*st.low).toNat]'()=kv at ek;have O:=ro.cell _ _ _ eb ek;have b6:=a8 _ _ ek;have a0:=c.sm _ _ (by simp) O;have al:=c.sm _ _ (by simp) ro.lst;have bl:b≠l:=λz=>by rw[z,nl]at O;cases O
   refine{b,aN kv,a0,_,M,_,M,R.r,_,_,_,M,M,Do.of al,sT () eb,.inr<|.inr<|.inl {M,.inl {_,a0}},b,aN kv,M,M,a0,λvw nv=>?_};have an:upd H' vw (Ml vw b) b=some (.dK<|aN kv):=by rwa[ae (aj a0 nv)]
   refine{vw,b,aN kv,M,ag,an,λob=>?_};have cF:=(c.same<|am (o:=Ml vw b) nv).freeze (o':= .frz ob<|.dK<|aN kv) O bl;generalize ap:L0++(List.range x).flatMap (lU R.C I st.low)=L1 at cF;refine tx (λy B H''=>∃(Y Z:Nm)(ts:List Tp),B=[some (.ref a),some (.int p),some (.int st.low),some (.ref l),some (.ref R.r),some (.int<|I+(x:Int)*st.low),Y,Z]/\Ly [b] H1 H'' l ts (L1++kv.take y)/\H'' b=some (.frz ob<|.dK<|aN kv)/\ts.length<=8192*i+4096*x+y)
    {_,_,ts,M,by simpa using cF,ag,()} (λy B H'' _ w=>by let{_,_,_,_,_,hf,_}:=w;exact hf) (λy k v p' B H'' ei w np=>?_) (λB H'' w=>?_)
   .let{Y,Z,ts,G,c,hf,lt}:=w;subst G;let{n,rfl,en}:=vA ei;have yl:=(Q3.mp en).1;refine{p',_,M,LB.of ag,M,_,_,M,_,_,M,M,?_};have c3:=c.same (am (o:= .tup [kV (Sum.inl n),v]) np);have a2:=am (o:= .tup [kV (Sum.inl n),v]) np _ _ hf;generalize upd H'' p' (.tup [kV (Sum.inl n),v])=H3 at c3 a2⊢;refine{_,M,.inl {M,_,Do.of c3.li},_,M,n,M,_,M,_,M,(by show 3<=sizeLine;decide),λp2 a3=>?_};have s4:Cp H3 (upd H3 p2<|.tup [.int (tz<|n%65536),kV (Sum.inl n),v]):=am a3;have e4:upd H3 p2 (.tup [.int (tz<|n%65536),kV (Sum.inl n),v]) p2=some (.tup [.int (KG n),.int n,v]):=ag;generalize upd H3 p2 (.tup [.int (tz<|n%65536),kV (Sum.inl n),v])=H4 at s4 e4⊢;refine{l,_,_,M,M,s4 _ _ c3.li,bi (by rw[Q0];lia),?_};refine{_,_,ts++ [⟨p2,n,v⟩],M,?_,?_,?_}
    .rw[Br en,<-Qn];exact c3.add s4 a3 nl (λc hc=>by rw[Qf.mp hc];exact{_,O,_,a2}) e4
    .rw[ae bl];exact s4 _ _ a2
    .rw[Qd,Zr];lia
   .let{Y,Z,ts,G,c,hf,lt}:=w;subst G;rw[cP,QG]at c;rw[cP]at lt;refine{ob,hf,_,_,_,ts,M,?_,()};rw[zS,<-Qn,show lU R.C I st.low x=kv by unfold lU;rw[Qs,ek];rfl];rw[ap];exact c.thaw O bl
  .let{v5,Y,Z,ts,G,c,lt}:=w;subst G;exact{_,_,_,_,ts,M,by rw[Ee hR,ac];exact c,()}
 .let{v4,v5,Y,Z,ts,G,c,lt}:=w;subst G;rw[lx,QG]at c;have e:=c.eq;have sm:Cp H1 H':=λb o e=>c.sm b o (by simp) e;refine{_,M,q H' F1 l ts (sA.same sm) (fr.trans<|Fr.of_same sm) (sA.out nl) c.li (λe he=>{(c.tu e he).1,sA.out (c.tu e he).2}) (λk v=>?_) ?_}
  .rw[e];exact Ga hb z nd g0 g1 k v
  .rw[e];exact BK hb z g0
def wC{S p:Int}{a b:Nat}(R:Row S a b)(G:0<=p)(h1:p<65536)(hS:S<=65536):k%65536%S=tz p%S↔KG k/(65536/S)=p/(65536/S):=by
 have I:=R.wpos';have z:=wb R G h1;have k0:0<=k%65536:=Qx _ (_);have k1:k%65536<65536:=QA _ (_);have e2:=wb R (p:=KG k) (oX _) (GW _);rw[show tz (KG k)=k%65536 from Am k0 k1]at e2;have O:=R.mod0 (k%65536);have Y:=R.mod1 (k%65536);have U:=R.mod0 (tz p);have Z:=R.mod1 (tz p);constructor
 .intro e;rw[e,z]at e2;have:=Int.eq_of_mul_eq_mul_right (Zc I) e2;lia
 .intro e;rw[e,<-z]at e2;exact HG O () U () ()
def Ii(k:Int):0<=KG k/\KG k<65536:={oX _,GW _}
def wM{f:α->β}:∀{ts:List α}{l:List β},l.Perm (ts.map f)->∃us:List α,us.Perm ts/\us.map f=l:=by
 intro ts l h;generalize e:ts.map f=m at h
 induction h generalizing ts with
 |nil=>exact{[],by rw[XW.mp e],M}
 |cons x _ I=>
  cases ts with
  |nil=>cases e
  |cons y ts=>
   rw[Qt]at e;injection e with e1 e2;let{us,h1,h2}:=I e2;exact{y::us,h1.cons y,by rw[Qt,h2,e1]}
 |swap x y l=>
  cases ts with
  |nil=>cases e
  |cons a ts=>
   cases ts with
   |nil=>cases e
   |cons b ts=>
    rw[Qt,Qt]at e;injection e with e1 e2;injection e2 with e2 e3;exact{b::a::ts,List.Perm.swap a b ts,by rw[Qt,Qt,e1,e2,e3]}
 |trans _ _ z G=>
  let{us,h1,h2}:=G e;let{O,U,Y}:=z h2;exact{O,U.trans h1,Y}
def mW(x y:Int×V):Prop:=KG x.1<KG y.1\/(KG x.1=KG y.1/\x.1<y.1)
def rA(K:Wi)(t:KF):Sp:=λvs H Q _=>∃(a:G')(lo hi:Int)(F:Mw)(st:K4),vs=[.ref a,.int lo,.int hi]/\Ku K t H a F st/\st.kv.length<4096/\(∀p∈st.kv,∃i:Int,p.2= .int i)/\
 ∀(H':Hp)(F':Mw)(l:G')(ts:List Tp),Ku K t H' a F' st->Fr F F' H H'->¬F' l->(¬F l->H l=none)->H' l=some (.lst<|ts.map λe=>V.ref e.p)->(∀e∈ts,H' e.p=some (.tup [.int e.k,e.v])/\¬F' e.p)->
  (ts.map Tp.kv).Pairwise mW->(∀k v,(k,v)∈ts.map Tp.kv↔(k,v)∈st.kv/\lo<=KG k/\KG k<hi)->Q (.ref l) H'
def AT{x J2 q:Int}(h:0<J2):x/J2=q↔q*J2<=x/\x<(q+1)*J2:=by
 constructor
 .rintro rfl;exact{Int.ediv_mul_le x<|Zc h,Xf x h}
 .rintro ⟨h1,h2⟩;have a:=(Int.le_ediv_iff_mul_le h).mpr h1;have b:=(Int.ediv_lt_iff_lt_mul h).mpr h2;lia
def ky3(H:Hp)(b:G'):List Int:=match H b with
 |some (.tup [.int i,.int j,.int m])=> [i,j,m]
 |_=> []
def zO{i j:Int}(h:H b=some (.tup [.int i,.int j,.int m])):ky3 H b=[i,j,m]:=by
 unfold ky3;rw[h]
def none_of(s:Cp H H2)(n:H2 p=none):H p=none:=by
 cases e:H p with
 |none=>rfl
 |some o=>rw[s _ _ e]at n;cases n
def oq(f:Fr F F' H H')(n:¬F b)(e:H' b=none):H b=none:=by
 cases q:H b with
 |none=>rfl
 |some o=>rw[(f _ _ n q).1]at e;cases e
def Fr.upd_new(f:Fr F F' H H')(n:¬F b->H b=none):Fr F F' H (upd H' b o):=λc u G e=>{by rw[ae λz=>by rw[z]at G e;rw[n G]at e;cases e];exact(f c u G e).1,(f c u G e).2}
def wF{n:Nat}(z:(ts.map λe=>V.ref e.p)[n]?=some v):∃e:Tp,v= .ref e.p/\ts[n]?=some e:=by
 rw[Qu]at z;cases q':ts[n]? with
 |none=>rw[q']at z;cases z
 |some e=>rw[q']at z;cases z;exact⟨e,M,M⟩
structure MO(K:Wi)(t:KF)(H H':Hp)(a l:G')(F F':Mw)(st:K4)(ts:List Tp)(b0 c:Int):Prop where
 sl:Ku K t H' a F' st
 fr:Fr F F' H H'
 ol:¬F' l
 li:H' l=some (.lst<|ts.map λe=>V.ref e.p)
 tu:∀e∈ts,H' e.p=some (.tup [.int (KG e.k),.int e.k,e.v])/\¬F' e.p
 me:∀k v,(k,v)∈ts.map Tp.kv↔(k,v)∈st.kv/\b0<=KG k/\KG k<c
 nd:((ts.map Tp.kv).map (·.1)).Nodup
section
variable{l1:G'}{F1:Mw}{ts1:List Tp}{b0 c:Int}
def MO.len(h:MO K t H H' a l F F' st ts b0 c):ts.length<=st.kv.length:=by
 have:=gc h.nd (S:=st.kv.map (·.1)) λx hx=>by
  let{p,hp,rfl}:=Qk.mp hx;exact QC ((h.me p.1 p.2).mp hp).1
 simpa using this
def MO.move(h:MO K t H H' a l F F' st ts b0 c)(s1:Ku K t H1 a F1 st)(z:Fr F' F1 H' H1):MO K t H H1 a l F F1 st ts b0 c:=
 {s1,h.fr.trans z,(z _ _ h.ol h.li).2,(z _ _ h.ol h.li).1,λe he=>z _ _ (h.tu e he).2 (h.tu e he).1,h.me,h.nd}
def MO.step{r J2:Int}(h:MO K t H H' a l F F' st ts b0 (r/J2*J2))(nl:H l=none)(W0:0<J2)(hb:b0<=r/J2*J2)(s1:Ku K t H1 a F1 st)(Z:Fr F' F1 H' H1)(u1:∀e∈ts1,H1 e.p=some (.tup [.int (KG e.k),.int e.k,e.v])/\¬F1 e.p)
  (m1:∀k v,(k,v)∈ts1.map Tp.kv↔(k,v)∈st.kv/\KG k/J2=r/J2) (n1:((ts1.map Tp.kv).map (·.1)).Nodup):
  MO K t H (upd H1 l<|.lst<|ts.map (λe=>V.ref e.p)++ts1.map (λe=>V.ref e.p)) a l F F1 st (ts++ts1) b0 ((r/J2+1)*J2):=by
 let{l1,G}:=Z _ _ h.ol h.li;have e1:(r/J2+1)*J2=r/J2*J2+J2:=by rw[Int.add_mul,Int.one_mul]
 have I:∀{p:G'}{xs:K'},H1 p=some (.tup xs)->p≠l:=λ{p xs} e z=>by rw[z,l1]at e;cases e
 refine{s1.upd G,λb o n e=>?_,G,by rw[ag,Qb],λe he=>?_,λk v=>?_,?_}
 .let{O,Y}:=(h.fr.trans Z) b o n e;exact{by rwa[ae λz=>by rw[z,nl]at e;cases e],Y}
 .rcases Q6.mp he with he|he
  .let{O,Y}:=h.tu e he;let{U,g4}:=Z _ _ Y O;exact{by rwa[ae (I U)],g4}
  .let{U,g4}:=u1 e he;exact{by rwa[ae (I U)],g4}
 .rw[Qb,Q6,h.me,m1,AT W0,e1];constructor
  .rintro (⟨x,y,z⟩|⟨x,y,z⟩)
   .exact{x,y,()}
   .exact{x,(),z}
  .rintro ⟨x,y,z⟩;by_cases d:KG k<r/J2*J2
   .exact .inl ⟨x,y,d⟩
   .exact .inr {x,(),z}
 .rw[Qb,Qb];refine V8.mpr {h.nd,n1,λx hx y hy e=>?_};let{p,hp,rfl}:=Qk.mp hx;let{q,hq,rfl}:=Qk.mp hy;have O:=(h.me p.1 p.2).mp hp;have Y:=(AT W0).mp ((m1 q.1 q.2).mp hq).2;rw[e]at O;lia
end
def JN{fs us:List Tp}(up:us.Perm fs)(z:∀e∈fs,∃i:Int,H e.p=some (.tup [.int (KG e.k),.int e.k,.int i]))(nd:(fs.map (·.k)).Nodup)(pw:(us.map (·.p)).Pairwise (λa b=>HT.lexLt (ky3 H b) (ky3 H a)=false)):(us.map Tp.kv).Pairwise mW:=by
 have I:us.Pairwise (λe f=>e.k≠f.k):=(up.pairwise_iff<|λh=>h.symm).mpr (Qw.mp nd);refine Qw.mpr<|((Qw.mp pw).and I).imp_of_mem λ{e f} he hf h=>?_;let{i,te}:=z e (up.mem_iff.mp he);let{j,O}:=z f (up.mem_iff.mp hf);let{h1,h2}:=h;rw[zO te,zO O,HT.lexLt_cons,HT.lexLt_cons]at h1;show KG e.k<KG f.k\/(KG e.k=KG f.k/\e.k<f.k);by_cases G:KG f.k=KG e.k
 .rw[VA G,Vz (Ne.symm h2)]at h1;have:=VS h1;lia
 .rw[Vz G]at h1;have:=VS h1;lia
def sF:AZ P w K mg base KI 4 t.mq t.ii [cC,"low","high"] (rA K t):=by
 let{a4,O}:=T.g_PLACES;refine T.E5.okl rQ λs H vs Q E hr h _=>?_;intro X;let{a,lo,hi,F,st,rfl,hA,ap,hint,q}:=h;refine ah (KB 3<|de af)
   (ah (KB 4<|ar (vK M) {_} T.Jz Et (aa K3<|aa ak af))
   (ah (KB 5<|ar (lL M) {_} T.xy pY (aa K9<|aa (bK (v:= .int 65536) {_} O {_,M}) af))
   (eX (λx=>(j8 VW (az fY Kt Lx<|aB _)
    x)) ?_)))
 refine ah (bf<|eU QD ZT ZU lE KY<|aa (a9 Dm T.ay T.AG (mY T) hr.mo T.A8 .nil aA<|aa Kt af) af)
   (aD (KB 4<|a9 Dm T.ay T.uH (kt T) hr.mo T.uT .nil aA<|aa Kt af) ?_)
 intros
 refine ah (KB 6<|ar uO {_} T.qX lM (aa (kg M (K5.of (M':=["one"]) (N:=[cC,"low","high","found","reached",hW,"inside"]) (N':=[cC,"low","high","found","reached",hW,"inside"]) (dsc:=ai cY) M M ∅) (dI KY) (λ_ _ _ _ _=>(xT nZ fY K9 (aY (qR K M) Dm ak<|λ_ _=>M) KY))<|λ_ _ _ _ _=>Dm) af))
   (aD (aw<|lD M (K5.of (M':=["one"]) (N:=[cC,"low","high","found","reached",hW,"inside"]) (N':=[cC,"low","high","found","reached",hW,"inside"]) (dsc:=ai cY) M M ∅) (dI MF)<|λ_ _ _ _ _=>(db<|aa (aY (qR K M) Dm ak<|λ_ _=>M)<|aa (aY (qR K M) Dm ak<|λ_ _=>M) af)) ?_)
 intros
 have z:KA st:=let⟨_,_,_,_,_,z⟩:=hA;z
 let{s4,s5}:=bB (fj z);let{x,y,R}:=sj (fj z);have W0:=R.wpos';have a3:∀{p k:Int},0<=p->p<65536->(k%65536%st.low=tz p%st.low↔KG k/(65536/st.low)=p/(65536/st.low)):=λh0 h1=>wC R h0 h1 ();refine{Qh _,λl nl=>?_};refine{_,M,_,_,M,_,M,_,_,M,?_};have r1:0<=(if(0:Int)>lo then 0 else lo)/\lo<=(if(0:Int)>lo then 0 else lo)/\((if(0:Int)>lo then 0 else lo)=0\/(if(0:Int)>lo then 0 else lo)=lo):=by split<;>lia
 have r2:(if(65536:Int)<hi then 65536 else hi)<=65536/\((if(65536:Int)<hi then 65536 else hi)=65536\/(if(65536:Int)<hi then 65536 else hi)=hi):=by split<;>lia
 dsimp only;generalize (if(0:Int)>lo then 0 else lo)=r0 at r1⊢;generalize (if(65536:Int)<hi then 65536 else hi)=e0 at r2⊢;generalize eW:65536/st.low=J2 at W0 a3;have I0:MO K t H (upd H l<|.lst []) a l F F st [] (r0/J2*J2) (r0/J2*J2):={hA.new nl,Fr.of_same<|am nl,hA.out nl,ag,(λe he=>by cases he),(λk v=>{λh=>by(cases h),λh=>()}),ZB};generalize upd H l (.lst [])=H1 at I0⊢;refine{λm B H'=>∃(r:Int)(F':Mw)(ts:List Tp),m=(e0-r).toNat/\B=[some (.ref a),some (.int lo),some (.int hi),some (.ref l),some (.int r),some (.int e0),none]/\MO K t H H' a l F F' st ts (r0/J2*J2) (r/J2*J2)/\r0<=r/\(r=r0\/r/J2*J2=r),{_,r0,F,[],M,M,I0,ZY _,.inl M},λm B H' w=>?_};let{r,F',ts,rfl,b2,I,rr,rm}:=w;subst b2;refine{_,M,_,M,_,_,M,M,_,M,dY (λc=>?_)<|λc=>?_}
 .have c:=VF c;let{dx,fs,ac,hm}:=I.sl.ins;refine{λal H2=>∃(r':Int)(F2:Mw)(a5:List Tp),r<r'/\al=[some (.ref a),some (.int lo),some (.int hi),some (.ref l),some (.int r'),some (.int e0),none]/\MO K t H H2 a l F F2 st a5 (r0/J2*J2) (r'/J2*J2)/\r'/J2*J2=r',λal H2 w=>?_,?_}
  .let{r',F2,a5,lt,e,I2,g}:=w;exact{_,(),r',F2,a5,M,e,I2,(),.inr g}
  refine{_,M,.inl {M,_,Do.of I.li},_,M,a,dx,fs,M,ac,hm _ ∅,_,M,a,r,F',st,M,I.sl,(),(),ap,λH2 F2 l1 ts1 s2 f2 o2 e2 u2 m2 n2=>?_};have b3:r0/J2*J2<=r/J2*J2:=Vf (Vg W0 rr) ();have I2:=I.step nl W0 b3 s2 f2 u2 (λk v=>by rw[m2,a3 () ()]) n2;have ln:=I2.len;rw[Qd]at ln;refine{l,l1,_,_,M,M,(f2 _ _ I.ol I.li).1,e2,by rw[Q0,Q0];exact Z1<|bi (),?_};generalize upd H2 l (.lst<|ts.map (λe=>V.ref e.p)++ts1.map (λe=>V.ref e.p))=H3 at I2⊢;let{b4,b5,a7,b6}:=I2.sl.ins;refine{_,M,a,b4,b5,M,a7,b6 _ ∅,_,M,a,r,F2,st,M,I2.sl,(),(),λH4 F4 s4 f4=>?_};rw[eW];have ed:(r/J2+1)*J2/J2*J2=(r/J2+1)*J2:=by rw[Int.mul_ediv_cancel _ (Zc W0)]
  exact{(r/J2+1)*J2,F4,ts++ts1,Xf r W0,M,by rw[ed];exact I2.move s4 f4,ed}
 .have c:¬r<e0:=λy=>c (VI y);have hl:=I.li;have ln:=I.len;refine{_,M,l,M,{_,Do.of hl},λD hD=>?_};refine jJ (K:=K) (a:=l) (xs:=ts.map λe=>V.ref e.p) (λn ys H3=>H3=upd H' D (.lst ys)/\ys=((ts.take n).filter λe=>decide (lo<=KG e.k)&&decide (KG e.k<hi)).map (λe=>V.ref e.p)) ⟨M,M⟩
   (λn ys H3 _ w=>Do.of<|by rwa[w.1,ae (aj hl hD)]) (λn v ys H3 hv w U=>?_) (λys H3 w U=>?_)
  .let{e1,e2}:=w;have hn:=(Q3.mp hv).1;let{e,rfl,Y}:=wF hv;have te:=(I.tu e<|Q2 Y).1;have ba:H3 e.p=some (.tup [.int (KG e.k),.int e.k,e.v]):=by rwa[e1,ae (aj te hD)]
   have yl:ys.length<=ts.length:=by
    rw[e2,Q0];have h1:=Qq (λe:Tp=>decide (lo<=KG e.k)&&decide (KG e.k<hi)) (ts.take n);have h2:(ts.take n).length<=ts.length:=by rw[Qe];lia
    lia
   refine{_,M,_,M,e.p,_,_,_,M,M,LB.of ba,M,_,_,M,M,_,M,?_};by_cases c1:lo<=KG e.k
   .refine kE c1 {_,M,_,_,M,M,_,M,?_};by_cases c2:KG e.k<hi
    .refine kE c2 {_,M,KL.mk hn U (bi ()) {by rw[e1,bU],?_}};rw[e2,Qo,Y,QF,Qb];simp[c1,c2]
    .refine br c2<|Kz.mk hn U {e1,?_};rw[e2,Qo,Y,QF];simp[c1,c2]
   .refine br c1 {_,M,bT<|Kz.mk hn U {e1,?_}};rw[e2,Qo,Y,QF];simp[c1]
  .let{e1,e2}:=w;rw[Q0,QG]at e2;have s3:Cp H' H3:=by rw[e1];exact am hD
   have Z:(ts.filter λe=>decide (lo<=KG e.k)&&decide (KG e.k<hi)).Sublist ts:=List.filter_sublist;have fm:∀e,e∈(ts.filter λe=>decide (lo<=KG e.k)&&decide (KG e.k<hi))↔e∈ts/\lo<=KG e.k/\KG e.k<hi:=λe=>by
    rw[Qy,Qj,VR,VR]
   generalize (ts.filter λe=>decide (lo<=KG e.k)&&decide (KG e.k<hi))=fs at e2 Z fm;have an:∀e∈fs,(e.k,e.v)∈st.kv:=λe he=>((I.me e.k e.v).mp<|QC (f:=Tp.kv) ((fm e).mp he).1).1;have t3:∀e∈fs,∃i:Int,e.v= .int i/\H3 e.p=some (.tup [.int (KG e.k),.int e.k,.int i]):=λe he=>by
    let{i,ei}:=hint _ (an e he);have te:=s3 _ _ (I.tu e ((fm e).mp he).1).1;have ei:e.v= .int i:=ei;rw[ei]at te;exact⟨i,ei,te⟩
   refine{D,fs.map (·.p),ky3 H3,M,Do.of (by rw[U,e2,QL];rfl),λb hb=>?_,λl2 bs bb pm pw=>?_}
   .let{e,he,rfl}:=Qk.mp hb;let{i,_,te}:=t3 e he;exact{_,_,_,te,zO te}
   let{us,up,ue}:=wM pm;subst ue;have um:∀e,e∈us↔e∈fs:=λe=>up.mem_iff;have nk:(fs.map (·.k)).Nodup:=by
    have h0:=I.nd;rw[QL]at h0;exact h0.sublist<|Z.map _
   have a1:=JN up (λe he=>(t3 e he).imp λ_ h=>h.2) nk pw;have a8:∀k v,(k,v)∈us.map Tp.kv↔(k,v)∈st.kv/\lo<=KG k/\KG k<hi:=λk v=>by
    constructor
    .intro h;let{e,he,Y}:=Qk.mp h;cases Y;have he:=(um e).mp he;exact{an e he,((fm e).mp he).2}
    .rintro ⟨h1,h2,h3⟩;have pb:=Ii k;have b1:=Int.ediv_mul_le r0 (Zc W0);have h4:(k,v)∈ts.map Tp.kv:=(I.me k v).mpr {h1,(),()};let{e,he,Y}:=Qk.mp h4;cases Y;exact Qk.mpr {e,(um e).mpr<|(fm e).mpr ⟨he,h2,h3⟩,M}
   have ul:us.length<=ts.length:=by rw[up.length_eq];exact Z.length_le
   have e8:upd H3 l2 (.lst ((us.map (·.p)).map V.ref)) l2=some (.lst<|us.map λe=>V.ref e.p):=by rw[ag,QL];rfl
   have s8:Cp H' (upd H3 l2 (.lst ((us.map (·.p)).map V.ref))):=s3.trans (am bb);have t8:∀e∈us,upd H3 l2 (.lst ((us.map (·.p)).map V.ref)) e.p=some (.tup [.int (KG e.k),.int e.k,e.v]):=λe he=>s8 _ _ (I.tu e ((fm e).mp<|(um e).mp he).1).1;generalize upd H3 l2 (.lst ((us.map (·.p)).map V.ref))=H8 at e8 s8 t8⊢;refine{_,M,l2,M,{_,Do.of e8},λD2 a2=>?_};refine lK (K:=K) (a:=l2) (xs:=us.map λe=>V.ref e.p) (λn ys H9=>Cp H8 H9/\∃ws:List Tp,ys=ws.map (λe=>V.ref e.p)/\ws.map Tp.kv=(us.take n).map Tp.kv/\∀e∈ws,e.p≠D2/\H8 e.p=none/\H9 e.p=some (.tup [.int e.k,e.v]))
    {am a2,[],M,M,λe he=>by cases he} (λn ys H9 _ w=>Do.of<|w.1 _ _ e8) (λn v ys H9 hv w G=>?_) (λys H9 w G=>?_)
   .let{s9,ws,ey,ek,ew}:=w;have hn:=(Q3.mp hv).1;let{e,rfl,Y}:=wF hv;have te:=s9 _ _ (t8 e<|Q2 Y);refine{_,M,e.p,_,_,_,M,M,LB.of te,M,_,M,e.p,_,_,_,M,M,LB.of te,M,(by show 2<=sizeLine;decide),λp2 a0=>?_};have pd:p2≠D2:=λz=>by rw[z,G]at a0;cases a0
    have wl:ws.length<=us.length:=by
     have:=VT List.length ek;rw[Q0,Q0,Qe]at this;lia
    refine KL.mk hn (by rwa[ae pd.symm]) (bi<|by rw[ey,Q0];lia) {cE (s9.trans<|am a0) a2,ws++ [⟨p2,e.k,e.v⟩],by rw[ey,Qb];rfl,?_,λf hf=>?_}
    .rw[Qb,ek,Qo,Y,Qb];rfl
    .rcases Q6.mp hf with hf|hf
     .let{g1,g2,g3}:=ew f hf;exact{g1,g2,by rw[ae g1];exact am a0 _ _ g3}
     .rw[Qf.mp hf];exact{pd,none_of s9 a0,by rw[ae pd];exact ag}
   .let{s9,ws,ey,ek,ew}:=w;rw[Q0,QG]at ek;have sm:=s8.trans s9;refine q H9 F' D2 ws (I.sl.same sm) (I.fr.trans<|Fr.of_same sm) (I.sl.out<|none_of s8 a2) (λnF=>oq (I.fr.trans<|Fr.of_same s8) nF a2) (by rw[G,ey]) (λe he=>?_) (by rwa[ek]) (by rwa[ek]);let{_,g2,g3}:=ew e he;exact{g3,I.sl.out<|none_of s8 g2}
def lH(e:A[j]?=some c):Lv (A.map V.ref) (j:Int)=some (.ref c):=by
 refine qU ?_;rw[Qu,e];rfl
def Bb(z:x≠[])(e:x[x.length-1]?=some m):Lv (x.map V.int) (-1)=some (.int m):=by
 have hl:=Zk.mpr z;unfold Lv MJ;rw[Q0,Vz (_),VA ()];show(x.map V.int)[((-1:Int)+(x.length:Int)).toNat]?=_;have:((-1:Int)+(x.length:Int)).toNat=x.length-1:=();rw[this,Qu,e];rfl
def Gk(h:i<A.length):MJ (A.map V.ref).length (i:Int)=some i:=by
 unfold MJ;rw[VA (),VA (by rw[Q0];lia)];rfl
def Hy(a:G')(k:Int)(ls:Nr)(H:Hp):Nat->St->Hp->Prop:=λm B H'=>∃(lo hi:Nat)(v4:Nm),m=hi-lo/\H'=H/\B=[some (.ref a),some (.int k),some (.int (lo:Int)),some (.int (hi:Int)),v4]/\lo<=hi/\hi<=ls.length/\
 (∀(j:Nat)(x:Mu),j<lo->ls[j]?=some x->∀y∈x,y<k)/\∀(j:Nat)(x:Mu),hi<=j->ls[j]?=some x->∃y∈x,k<=y
def mL(t:KF):Sp:=λvs H Q _=>∃(a:G')(k:Int)(L:G')(A:Nc)(ls:Nr),vs=[.ref a,.int k]/\LO t H a L A ls/\(∀l∈ls,l≠[])/\cX ls.flatten/\∀i:Nat,KS ls k i->Q (.int (i:Int)) H
def b8:AZ P w K mg base KI 1 t.gP t.dP [cC,eN] (mL t):=by
 refine T.Bh.okl mQ λs H vs Q E hr h _=>?_;intro X;let{a,k,L,A,ls,rfl,hb,ne,up,q}:=h;refine ah (KB 2 ak)
   (ah (KB 3<|ar ax {_} T.bM a6 (aa (aC Dm M) af))
   (eX (λx=>(j8 VW (az fY K9 KY<|aB _)
    x)) ?_))
 refine ah (KB 4<|aF eJ (aF bY K9 KY) ak)
   (aD (aT (az fY (aY aW (aY aW (aC Dm M) Kt<|λ_ _=>M) (Dj y9 ak)<|λ_ _=>M) K3<|aB _)
    (aq<|KB 2<|aF bY Kt ak)
    (aq<|KB 3 Kt)) ?_)
 intros
 refine aD (aw K9) ?_
 intros
 let{dx,ho}:=hb.obj;have lA:((A.map V.ref).length:Int)=(ls.length:Int):=by rw[Q0,hb.len]
 refine{_,M,a,_,dx,_,_,M,ho,T.aO,T.aG,fu,L,_,M,.inl<|Do.of hb.lst,?_};dsimp only;rw[lA];refine{Hy a k ls H,{_,0,ls.length,none,M,M,M,Qh _,Q5 _,λj x h=>VE h (),λj x h e=>?_},?_}
 .have:=(Q3.mp e).1;lia
 rintro m B H' ⟨lo,hi,v4,rfl,rfl,rfl,h1,h2,h3,h4⟩;refine{_,M,_,M,_,_,M,M,_,M,dY (λc=>?_)<|λc=>?_}
 .have c:lo<hi:=by have:=VF c;lia
  refine{λU H''=>∃m',m'<hi-lo/\Hy a k ls H' m' U H'',λ_ _ h=>h,?_};refine{_,M,_,M,_,_,M,M,_,_,M,M,{(_),(_)},?_};obtain⟨G,em,m1,m2⟩:∃G:Nat,((lo:Int)+(hi:Int))/2=(G:Int)/\lo<=G/\G<hi:={(lo+hi)/2,(),(),()};dsimp only;rw[em];have hm:G<ls.length:=();have ex:ls[G]?=some ls[G]:=Q4 hm;let{b,eb,Y}:=hb.at ex;have I:=ne _ (X8 hm);let{g,eg,Z,O}:=DX (FB up ex) I;refine{_,M,a,_,dx,_,_,M,ho,T.aO,T.aG,fu,_,M,L,_,_,_,M,M,Do.of hb.lst,lH eb,_,M,b,_,_,_,M,M,Do.of Y,Bb I eg,_,M,_,_,M,M,_,M,dY (λc2=>?_)<|λc2=>?_}
  .have c2:=VF c2;refine{_,M,_,_,M,M,hi-(G+1),(),G+1,hi,_,M,M,M,(),h2,λj x hj e y hy=>?_,h4};rcases(show j<G\/j=G by lia)with h|h
   .have:=ve up e ex h y hy g Z;lia
   .subst h;rw[ex]at e;cases e;have:=O y hy;lia
  .have c2:¬g<k:=λz=>c2 (VI z);refine{_,M,G-lo,(),lo,G,_,M,M,M,(),(),h3,λj x hj e=>?_};rcases(show j=G\/G<j by lia)with h|h
   .subst h;rw[ex]at e;cases e;exact{g,Z,()}
   .let{y,hy}:=List.exists_mem_of_ne_nil x (ne x<|Q2 e);have:=ve up ex e h g Z y hy;exact{y,hy,()}
 .have c:¬lo<hi:=λz=>c (VI ());have:lo=hi:=();subst this;exact{_,M,q lo {h2,h3,λx e=>h4 lo x (Q5 _) e}}
theorem yt{k:Int}:∀{x:Mu},inV (.int k) (x.map V.int)=decide (k∈x)
 | []=>rfl
 |a::r=>by
  have G:=yt (k:=k) (x:=r);unfold inV at G⊢;rw[Qt,X9,G];have:MZ (.int a) (.int k)=decide (k=a):=by
   show(a==k)=_;by_cases c:a=k
   .subst c;simp
   .have c':¬k=a:=λz=>c z.symm;simp[c,c']
  rw[this];by_cases c:k=a
  .simp[c]
  .simp[c]
def B7:(x.map V.int).all ox=true:=by
 rw[List.all_map];exact QE.mpr λ_ _=>rfl
def sJ:AZ P w K mg base KI 2 t.mC t.iy [cC,eN] (rF K t):=by
 refine T.Fa.okl rW λs H vs Q E hr h _=>?_;intro X;let{a,k,F,ks,rfl,I,q}:=h;refine ah (KB 2<|a9 Dm T.aO T.dM (b8 T) hr.mo T.dW .nil aA<|aa K3 af)
   (aD (aw<|pG (c6 fY K9 (ar ax {_} T.bM a6 (aa (aC Dm M) af))<|aB _)<|j9<|c6 BG K3 (aY aW (aC Dm M) K9<|λ_ _=>M) M) ?_)
 intros
 let{dx,fs,hi,hm}:=I.ins;have q:=q H F I Fr.refl;let{L,A,ls,hb,ok,U,hF}:=I;let{G,Y}:=hb.obj;have lA:((A.map V.ref).length:Int)=(ls.length:Int):=by rw[Q0,hb.len]
 refine{_,M,a,dx,fs,M,hi,hm _ ∅,_,M,a,k,L,A,ls,M,hb,ok.ne,ok.up,λi Z=>?_};refine{_,M,_,M,a,_,G,_,_,M,Y,T.aO,T.aG,fu,L,_,M,.inl<|Do.of hb.lst,_,_,M,M,_,M,dY (λc=>?_)<|λc=>?_}
 .have c:=VF c;have hi:i<ls.length:=();have ex:ls[i]?=some ls[i]:=Q4 hi;let{b,eb,O}:=hb.at ex;refine{_,M,_,M,a,_,G,_,_,M,Y,T.aO,T.aG,fu,_,M,L,_,_,_,M,M,Do.of hb.lst,lH eb,b,_,M,.inl<|Do.of O,M,B7,?_};show Q (.bl<|inV (.int k)<|ls[i].map V.int) H;rw[yt];have:k∈ls[i]↔k∈ks:=by
   rw[<-U,Z.mem ok];constructor
   .exact λz=>{_,ex,z}
   .rintro ⟨x,e,z⟩;rw[ex]at e;cases e;exact z
  rw[decide_eq_decide.mpr this];exact q
 .have c:¬(i:Int)<((A.map V.ref).length:Int):=λz=>c (VI z);have:k∉ks:=λz=>by
   rw[<-U,Z.mem ok]at z;let{x,e,_}:=z;have:=(Q3.mp e).1;lia
  rw[VM this]at q;exact q
def qF:AZ P w K mg base KI 1 t.kZ t.gs [cC] (qw K t):=by
 refine T.EK.okl qz λs H vs Q E Y h _=>?_;intro X;let{a,dx,rfl,ha,hd,q}:=h;refine{_,(aq<|cu Dm (de af) M)
  ,?_}
 refine{Qh _,λL G=>{_,M,a,_,dx,[],M,(by rwa[ae (aj ha G)]),T.aO,T.aG,(by show 0<1000;decide),?_}};have U:=aj ha G;refine q _ (M8 a L []) {L,[],[],{⟨dx,ag⟩,by rw[ae U.symm];exact ag,M,(λj b l e=>by simp at e),(λi j b e=>by simp at e),(λz=>by cases z)},Ky.nil,M,λb=>Iff.rfl} λb o n w=>?_;have I:b≠a:=λy=>n (.inl y);have O:b≠L:=aj w G;refine{by rwa[ae I,ae O],λy=>?_};rcases y with y|y|y
 .exact I y
 .exact O y
 .cases y
def jS(t:KF):Sp:=λvs H Q _=>∃(a L:G')(A:Nc)(ls:Nr)(i:Nat)(x:Mu),vs=[.ref a,.int (i:Int)]/\LO t H a L A ls/\ls[i]?=some x/\x.length=9/\ls.length<5000/\
 ∀H' A',LO t H' a L A' ((ls.set i<|x.take 4).take (i+1)++x.drop 4::(ls.set i<|x.take 4).drop (i+1))->Fr (M8 a L A) (M8 a L A') H H'->Q .non H'
def kx:AZ P w K mg base KI 1 t.fw t.cV [cC,lm] (jS t):=by
 refine T.y3.okl jU λs H vs Q E hr h _=>?_;intro X;let{a,L,A,ls,i,x,rfl,hb,ex,lx,ll,q}:=h;refine ah (KB 2<|aY aW (aC Dm M) K3<|λ_ _=>M)
   (ah (KB 3<|aF eJ (ar ax {_} T.bM a6 (aa K9 af)) ak)
   (ah (zC (bX lu K9 cx<|b7 KY)<|Di (aC Dm M) K3 xM)
   (aD (bf<|eU QD PySem.F.slot_list_insert PySem.F.type_list_insert vt (aC Dm M)<|aa (aF bY K3 ak)<|aa (bX lu K9 (b7 KY) cx) af) ?_)))
 intros
 let{dx,ho}:=hb.obj;let{c,ec,hc}:=hb.at ex;have ay:i<A.length:=(Q3.mp ec).1;have a0:((x.map V.int).length:Int)=9:=by rw[Q0,lx];rfl
 refine{_,M,a,_,dx,_,_,M,ho,T.aO,T.aG,fu,_,M,L,_,_,_,M,M,Do.of hb.lst,lH ec,?_};refine{_,M,c,_,M,.inl<|Do.of hc,_,_,M,M,{(_),(_)},?_};dsimp only;rw[a0];have a1:oA (x.map V.int) none (some<|9/2)=(x.take 4).map V.int:=by
  unfold oA;rw[Q0,lx];show((x.map V.int).drop 0).take (4-0)=_;rw[Zp,ZV]
 have a2:oA (x.map V.int) (some<|9/2) none=(x.drop 4).map V.int:=by
  unfold oA;rw[Q0,lx];show((x.map V.int).drop 4).take (9-4)=_;rw[XZ,QB (by rw[QN,Q0,lx];exact Q5 _)]
 refine{_,M,_,M,_,M,c,_,M,Do.of hc,λG O=>?_};rw[a1];have s1:Cp H (upd H G<|.lst<|(x.take 4).map V.int):=am O;have hb1:=hb.same s1;have a3:upd H G (.lst<|(x.take 4).map V.int) G=some (.lst<|(x.take 4).map V.int):=ag;have b1:=hb.out O;have a4:=s1 _ _ ho;have a5:=s1 _ _ hc;have a7:=s1 _ _ hb.lst;generalize upd H G (.lst<|(x.take 4).map V.int)=H1 at s1 hb1 a3 a4 a5 a7⊢;refine{_,M,a,_,dx,_,_,M,a4,T.aO,T.aG,fu,_,M,L,_,_,_,M,M,a7,Gk ay,?_};have es:(A.map V.ref).set i (V.ref G)=(A.set i G).map V.ref:=by rw[List.map_set]
 rw[es];have I:=hb1.swap ec ex a3 b1;have cL:c≠L:=λz=>hb.nL (z▸Q2 ec);have a8:upd H1 L (.lst<|(A.set i G).map V.ref) c=some (.lst<|x.map V.int):=by rwa[ae cL]
 let{b2,ac}:=I.obj;have U:=I.lst;have f2:Fr (M8 a L A) (M8 a L<|A.set i G) H (upd H1 L<|.lst<|(A.set i G).map V.ref):=λb o n w=>by
  have w1:=s1 _ _ w;refine{by rwa[ae (λy=>n<|.inr<|.inl y)],λy=>?_};rcases y with y|y|y
  .exact n<|.inl y
  .exact n<|.inr (.inl y)
  .rcases List.mem_or_eq_of_mem_set y with y|y
   .exact n<|.inr (.inr y)
   .rw[y,O]at w;cases w
 generalize upd H1 L (.lst<|(A.set i G).map V.ref)=H2 at I a8 ac U f2⊢;refine{_,M,a,_,b2,_,_,M,ac,T.aO,T.aG,fu,.inl {M,_,Do.of U},_,M,_,_,M,M,_,M,_,M,_,M,c,_,M,Do.of a8,λZ Y=>?_};rw[a2];have s3:Cp H2 (upd H2 Z<|.lst<|(x.drop 4).map V.int):=am Y;have al:=I.same s3;have an:upd H2 Z (.lst<|(x.drop 4).map V.int) Z=some (.lst<|(x.drop 4).map V.int):=ag;have b3:=I.out Y;have ap:=s3 _ _ U;generalize upd H2 Z (.lst<|(x.drop 4).map V.int)=H3 at s3 al an ap⊢;have lS:(A.set i G).length=A.length:=Z5;refine{L,_,_,_,M,M,ap,(),(by rw[Q0,lS];lia),(by rw[Q0,lS,hb.len];exact bi ()),?_};have ei:((i:Int)+1).toNat=i+1:=();have b4:=al.insert (i:=i+1) (by rw[lS];lia) an b3;rw[ei];have em:((A.set i G).map V.ref).take (i+1)++V.ref Z::((A.set i G).map V.ref).drop (i+1)=((A.set i G).take (i+1)++Z::(A.set i G).drop (i+1)).map V.ref:=by
  rw[Qb,Qt,ZV,XZ]
 rw[em];refine q _ _ b4<|f2.trans (λb o n w=>?_);have w3:=s3 _ _ w;refine{by rwa[ae (λy=>n<|.inr<|.inl y)],λy=>?_};rcases y with y|y|y
 .exact n<|.inl y
 .exact n<|.inr (.inl y)
 .rcases Q6.mp y with y|y
  .exact n<|.inr (.inr<|Zg y)
  .rcases Qc.mp y with y|y
   .rw[y,Y]at w;cases w
   .exact n<|.inr (.inr<|Xd y)
def LO.insM(h:LO t H a L A ls):∃dx fs,H a=some (.ins t.bc dx fs)/\∀m,m≠(ge:Str)->fs.lookup m=none:=by
 let{dx,z}:=h.obj;exact{dx,_,z,λm G=>Hm G}
def sK:AZ P w K mg base KI 3 t.mD t.iz [cC,eN] (rG K t):=by
 let{I,G}:=T.g_MOST_IN_LEAF;refine T.Fd.okl rX λs H vs Q E hr h _=>?_;intro X;let{a,k,F,ks,rfl,hA,hl,q1,q2}:=h;refine ah (aT (bF<|a9 Dm T.aO T.EN (sJ T) hr.mo T.EX .nil aA<|aa K3 af)
    (aq wK)
    aE)
   (eX (λx=>aT (az eV (ar ax {_} T.bM a6 (aa (aC Dm M) af)) ak<|aB _) x aE) ?_)
 refine ah (bf<|eU QD Zd Ze eh (aC Dm M)<|aa (de<|aa K3 af) af)
   (aD wI ?_)
 intros
 refine ah (KB 2<|ar (lL M) {_} T.xy pY (aa (a9 Dm T.aO T.dM (b8 T) hr.mo T.dW .nil aA<|aa K3 af)<|aa (aF su (ar ax {_} T.bM a6 (aa (aC Dm M) af)) ak) af))
   (ah (KB 3<|aY aW (aC Dm M) K9<|λ_ _=>M)
   (ah (bf<|eU QD PySem.F.slot_list_insert PySem.F.type_list_insert vt KY<|aa (ar ax {_} T.bM a6 (aa (kg M (K5.of (M':=["one"]) (N:=[cC,eN,lm,"leaf"]) (N':=[cC,eN,lm,"leaf"]) (dsc:=ai eG) M M ∅) (dI KY) (λ_ _ _ _ _=>(az fY Dm K9<|aB _))<|λ_ _ _ _ _=>Dm) af))<|aa K3 af)
   (aD (aT (az Dq (ar ax {_} T.bM a6 (aa KY af)) (bK (v:= .int 8) {_} G {_,M})<|aB _)
    (aq<|bf<|a9 Dm T.aO T.yW (kx T) hr.mo T.yY .nil aA<|aa K9 af)
    aE) ?_)))
 intros
 let{dx,fs,hi,hm}:=hA.ins;refine{_,M,a,dx,fs,M,hi,hm _ ∅,_,M,a,k,F,ks,M,hA,λH0 F0 a5 a0=>?_};by_cases ck:k∈ks
 .rw[VI ck];refine{_,M,b9 ?_};exact(q2 ck).elim
 rw[VM ck];refine{_,M,bT ?_};have q:=q1 ck;let{L,A,ls,hb,ok,ef,hF}:=a5;let{O,ho}:=hb.obj;have lA:((A.map V.ref).length:Int)=(ls.length:Int):=by rw[Q0,hb.len]
 have sh:=ok.short;rw[ef]at sh;have fr:Fr F (M8 a L A) H H0:=λb o n e=>{(a0 b o n e).1,λy=>(a0 b o n e).2<|(hF b).mpr y};have nk:k∉ls.flatten:=by rwa[ef]
 by_cases ce:ls=[]
 .subst ce;have eA:A=[]:=List.length_eq_zero_iff.mp hb.len;subst eA;refine{_,M,a,_,O,_,_,M,ho,T.aO,T.aG,fu,L,_,M,.inl<|Do.of hb.lst,M,_,M,iO M ?_};refine{_,M,a,_,O,_,_,M,ho,T.aO,T.aG,fu,.inl {M,_,Do.of hb.lst},_,M,(by show 1<=sizeLine;decide),λn nn=>?_};have s1:Cp H0 (upd H0 n<|.lst [.int k]):=am nn;have hb1:=hb.same s1;have a7:upd H0 n (.lst [.int k]) n=some (.lst<|([k]:Mu).map V.int):=ag;have nF:=hb.out nn;have a8:=s1 _ _ hb.lst;refine{L,_,_,M,M,a8,cr (by show 0<=1000;decide),?_};have ac:=hb1.insert (i:=0) (Qh _) a7 nF;have al:Ky [[k]]:={(λl hl=>by rw[Qf.mp hl];simp),(λl hl=>by rw[Qf.mp hl];simp),(λi x y e1 e2=>by simp at e2),by show cX [k];exact Z6 _ _};refine q _ (M8 a L [n]) [k] {L,[n],[[k]],ac,al,M,λb=>Iff.rfl} (λz=>?_)<|fr.trans λb o n' w=>?_
  .rw[<-ef];simp
  .have w1:=s1 _ _ w;refine{by rwa[ae (λy=>n'<|.inr<|.inl y)],λy=>?_};rcases y with y|y|y
   .exact n'<|.inl y
   .exact n'<|.inr (.inl y)
   .rw[Qf.mp y,nn]at w;cases w
 .have bl:=Zk.mpr ce;refine{_,M,a,_,O,_,_,M,ho,T.aO,T.aG,fu,L,_,M,.inl<|Do.of hb.lst,M,_,M,br (λw=>?_) ?_}
  .have:=V.int.inj w;lia
  let{an,ap,ay,b1}:=hb.insM;refine{_,M,a,an,ap,M,ay,b1 _ ∅,_,M,a,k,L,A,ls,M,hb,ok.ne,ok.up,λi li=>?_};refine{_,M,a,_,O,_,_,M,ho,T.aO,T.aG,fu,L,_,M,.inl<|Do.of hb.lst,_,_,M,M,_,_,M,?_};let{x,ad}:=li.add ok ce;have em:(if((A.map V.ref).length:Int)-1<(i:Int)then((A.map V.ref).length:Int)-1 else(i:Int))=((min i (ls.length-1):Nat):Int):=by
   rw[lA];split<;>lia
  dsimp only;rw[em];generalize min i (ls.length-1)=j at ad⊢;let{c,ec,hc}:=hb.at ad.at_;have jl:j<ls.length:=(Q3.mp ad.at_).1;have x8:=ok.le x (Q2 ad.at_);refine{_,M,a,_,O,_,_,M,ho,T.aO,T.aG,fu,_,M,L,_,_,_,M,M,Do.of hb.lst,lH ec,?_};refine{_,M,.inl {M,_,Do.of hc},_,M,c,M,{_,Do.of hc},λD hD=>?_};refine jJ (K:=K) (a:=c) (xs:=x.map V.int) (λn ys H3=>H3=upd H0 D (.lst ys)/\ys=((x.take n).filter<|λz=>decide (z<k)).map V.int) ⟨M,M⟩ (λn ys H3 _ w=>Do.of<|by rwa[w.1,ae (aj hc hD)]) (λn v ys H3 hv w U=>?_)<|λys H3 w U=>?_
  .let{e1,e2}:=w;obtain⟨g,rfl,eg⟩:∃g:Int,v= .int g/\x[n]?=some g:=by
    rw[Qu]at hv;cases e:x[n]? with
    |none=>rw[e]at hv;cases hv
    |some g=>rw[e]at hv;cases hv;exact⟨g,M,M⟩
   have hn:n<(x.map V.int).length:=(Q3.mp hv).1;refine{_,M,_,M,_,_,M,M,_,M,?_};have fl:ys.length<=8:=by
    rw[e2,Q0];have h1:=Qq (λz=>decide (z<k)) (x.take n);have h2:(x.take n).length<=x.length:=by rw[Qe];lia
    lia
   by_cases cg:g<k
   .refine kE cg {_,M,KL.mk hn U (cr ()) {by rw[e1,bU],?_}};rw[e2,Qo,eg,QF,Qb];simp[cg]
   .refine br cg<|Kz.mk hn U {e1,?_};rw[e2,Qo,eg,QF];simp[cg]
  .let{e1,e2}:=w;rw[Q0,QG]at e2;have s3:Cp H0 H3:=by rw[e1];exact am hD
   have b2:=hb.same s3;have b3:=s3 _ _ hc;have yl:(ys.length:Int)=((x.filter<|λz=>decide (z<k)).length:Int):=by rw[e2,Q0]
   have bo:=Qq (λz=>decide (z<k)) x;refine{D,_,M,.inl<|Do.of U,_,M,c,_,_,_,M,M,b3,(),(by rw[Q0];lia),(by rw[Q0];exact cr ()),?_};have ei:(x.map V.int).take (ys.length:Int).toNat++V.int k::(x.map V.int).drop (ys.length:Int).toNat=(eY x k).map V.int:=by
    rw[yl,Zi];unfold eY;rw[Qb,Qt,ZV,XZ]
   dsimp only;rw[ei];have Y:=b2.write (y:=eY x k) ec ad.at_;have il:=D5 (l:=x) (k:=k);let{a1,Z}:=ad.set ok nk;have cF:M8 a L A c:= .inr (.inr<|Q2 ec);have f4:Fr (M8 a L A) (M8 a L A) H0 (upd H3 c<|.lst<|(eY x k).map V.int):=λb o n w=>{by rw[ae (λy=>n<|by rwa[y])];exact s3 _ _ w,n};have a2:upd H3 c (.lst<|(eY x k).map V.int) c=some (.lst<|(eY x k).map V.int):=ag;generalize upd H3 c (.lst<|(eY x k).map V.int)=H4 at Y f4 a2⊢;refine{_,M,c,_,M,.inl<|Do.of a2,_,_,M,M,_,M,?_};have ll:((eY x k).map V.int).length=x.length+1:=by rw[Q0,il]
   by_cases c9:x.length=8
   .refine kE (by rw[ll];lia) ?_;let{b4,b5,b6,ba}:=Y.insM;have e5:(ls.set j<|eY x k)[j]?=some (eY x k):=by rw[QH,VA M,VA jl]
    refine{_,M,a,b4,b5,M,b6,ba _ ∅,_,M,a,L,A,_,j,_,M,Y,e5,(),by rw[Z5];lia,λH6 A6 a3 f6=>?_};have er:(ls.set j<|eY x k).set j ((eY x k).take 4)=ls.set j ((eY x k).take 4):=List.set_set _;rw[er]at a3;have bb:cX (ls.set j<|(eY x k).take 4++(eY x k).drop 4).flatten:=by rwa[QR]
    let{bc,a4}:=ok.parted ad.at_ (a:=(eY x k).take 4) (b:=(eY x k).drop 4) (by rw[Qe];lia) (by rw[QN];lia) bb;rw[QR]at a4;refine q H6 _ _ {L,A6,_,a3,bc,M,λb=>Iff.rfl} (λz=>?_)<|fr.trans (f4.trans f6);rw[a4,Z,ef]
   .refine br (by rw[ll];lia) ?_;have be:=ok.grown ad.at_ (y:=eY x k) () () a1;exact q H4 _ _ {L,A,_,Y,be,M,λb=>Iff.rfl} (λz=>by rw[Z,ef])<|fr.trans f4
def Hz(a l:G')(k n:Int)(ls:Nr)(H:Hp):Nat->St->Hp->Prop:=λm B H'=>∃(i:Nat),m=ls.length-i/\Cp H H'/\H l=none/\B=[some (.ref a),some (.int k),some (.int n),some (.ref l),some (.int (i:Int))]/\i<=ls.length/\H' l=some (.lst<|(((ls.take i).flatten).filter λz=>decide (k<=z)).map V.int)
def pS(e:ls[i]?=some x):(ls.take<|i+1).flatten=(ls.take i).flatten++x:=by
 rw[Qo,e,ZS];simp
def ot(ls:Nr)(i:Nat):ls.flatten=(ls.take i).flatten++(ls.drop i).flatten:=by rw[<-ZS,QR]
def mZ:AZ P w K mg base KI 2 t.gQ t.dQ [cC,eN,ms] (mM K t):=by
 refine T.Bi.okl Ks λs H vs Q E hr h _=>?_;intro X;let{a,k,n,F,ks,rfl,hA,hl,n0,q}:=h;refine ah (KB 3<|de af)
   (ah (KB 4<|a9 Dm T.aO T.dM (b8 T) hr.mo T.dW .nil aA<|aa K3 af)
   (eX (λx=>(j8 VW (PW.pt<|fV (az fY Kt (ar ax {_} T.bM a6 (aa (aC Dm M) af))<|aB _)<|eI<|az fY (ar ax {_} T.bM a6 (aa KY af)) K9<|aB _)
    x)) ?_))
 refine ah (bf<|eU QD ZT ZU lE KY<|aa (kg M (K5.of (M':=["one"]) (N:=[cC,eN,ms,"told",lm]) (N':=[cC,eN,ms,"told",lm]) (dsc:=ai cw) M M ∅) (dI<|aY aW (aC Dm M) Kt<|λ_ _=>M) (λ_ _ _ _ _=>(az vo Dm K9<|aB _))<|λ_ _ _ _ _=>Dm) af)
   (aD (zB (i:=4) Ks.nd M (Or.inl M) ak D4) ?_)
 intros
 refine aD (aw<|bX lu KY cx<|b7 K9) ?_
 intros
 let{L,A,ls,hb,ok,ef,hF}:=hA;refine{Qh _,λl Z=>?_};have s0:Cp H (upd H l<|.lst []):=am Z;have e0:upd H l (.lst []) l=some (.lst<|([]:Mu).map V.int):=ag;have O:=hb.same s0;generalize upd H l (.lst [])=H0 at s0 e0 O⊢;let{a3,a4,a5,a7}:=O.insM;refine{_,M,a,a3,a4,M,a5,a7 _ ∅,_,M,a,k,L,A,ls,M,O,ok.ne,ok.up,λi0 li=>?_};have f0:((ls.take i0).flatten).filter (λz=>decide (k<=z))=[]:=ZD.mpr λz hz=>by
  have:=B6 ok li z hz;simpa using this
 have lA:((A.map V.ref).length:Int)=(ls.length:Int):=by rw[Q0,hb.len]
 refine{Hz a l k n ls H,{_,i0,M,s0,Z,M,li.le,by rwa[f0]},?_};rintro m B H' ⟨i,rfl,s1,_,rfl,il,e1⟩;have hb1:=hb.same s1;let{a0,a1}:=hb1.obj;have fin:∀(done:((((ls.take i).flatten).filter λz=>decide (k<=z)).take n.toNat)=(ks.filter λz=>decide (k<=z)).take n.toNat),∀p,H' p=none->Q (.ref p) (upd H' p<|.lst<|oA ((((ls.take i).flatten).filter λz=>decide (k<=z)).map V.int) none<|some n):=λdone p np=>by
  refine q _ p (s1.trans<|am np) ?_ ?_
  .cases e:H p with
   |none=>rfl
   |some o=>rw[s1 _ _ e]at np;cases np
  .rw[ag,tH n0,<-ZV,done]
 refine{_,M,_,M,a,_,a0,_,_,M,a1,T.aO,T.aG,fu,L,_,M,.inl<|Do.of hb1.lst,_,_,M,M,_,M,?_};by_cases c:i<ls.length
 .refine kE (by rw[lA];lia) ?_;refine{_,M,l,_,M,.inl<|Do.of e1,_,M,_,_,M,M,_,M,?_};by_cases c2:((((((ls.take i).flatten).filter λz=>decide (k<=z)).map V.int).length:Nat):Int)<n
  .refine kE c2 ?_;refine{λa8 H''=>∃m',m'<ls.length-i/\Hz a l k n ls H m' a8 H'',λ_ _ h=>h,?_};have ex:ls[i]?=some ls[i]:=Q4 c;let{b,eb,G}:=hb1.at ex;have lb:l≠b:=λz=>by
    let{b',a2,h'}:=hb.at ex;rw[eb]at a2;cases a2;rw[<-z,Z]at h';cases h'
   have al:=Qq (λz=>decide (k<=z)) (ls.take i).flatten;have ac:(ls.take i).flatten.length+ls[i].length<=ks.length:=by
    rw[<-ef,ot ls (i+1),pS ex,Qd,Qd];lia
   refine{_,M,.inl {M,_,Do.of e1},_,M,a,_,a0,_,_,M,a1,T.aO,T.aG,fu,_,M,L,_,_,_,M,M,Do.of hb1.lst,lH eb,b,M,{_,Do.of G},λD hD=>?_};generalize ls[i]=x at ex G ac⊢;refine jJ (K:=K) (a:=b) (xs:=x.map V.int) (λm ys H3=>H3=upd H' D (.lst ys)/\ys=((x.take m).filter<|λz=>decide (k<=z)).map V.int) ⟨M,M⟩ (λm ys H3 _ w=>Do.of<|by rwa[w.1,ae (aj G hD)]) (λm v ys H3 Y w I=>?_)<|λys H3 w I=>?_
   .let{w1,U}:=w;obtain⟨g,rfl,eg⟩:∃g:Int,v= .int g/\x[m]?=some g:=by
     rw[Qu]at Y;cases e:x[m]? with
     |none=>rw[e]at Y;cases Y
     |some g=>rw[e]at Y;cases Y;exact⟨g,M,M⟩
    have hn:m<(x.map V.int).length:=(Q3.mp Y).1;refine{_,M,_,M,_,_,M,M,_,M,?_};have fl:ys.length<=100000:=by
     rw[U,Q0];have h1:=Qq (λz=>decide (k<=z)) (x.take m);have h2:(x.take m).length<=x.length:=by rw[Qe];lia
     lia
    by_cases cg:k<=g
    .refine kE cg {_,M,KL.mk hn I (bi fl) {by rw[w1,bU],?_}};rw[U,Qo,eg,QF,Qb];simp[cg]
    .refine br cg<|Kz.mk hn I {w1,?_};rw[U,Qo,eg,QF];simp[cg]
   .let{w1,U}:=w;rw[Q0,QG]at U;have s3:Cp H' H3:=by rw[w1];exact am hD
    have e3:=s3 _ _ e1;have an:=Qq (λz=>decide (k<=z)) x;have hsz:((((ls.take i).flatten).filter λz=>decide (k<=z)).map V.int).length+ys.length<=sizeLine:=by
     rw[U,Q0,Q0];exact Z1<|bi ()
    refine{l,D,_,_,M,M,e3,I,hsz,?_};have hE:(((ls.take i).flatten).filter λz=>decide (k<=z)).map V.int++ys=(((ls.take<|i+1).flatten).filter λz=>decide (k<=z)).map V.int:=by
     rw[U,pS ex,QF,Qb]
    rw[hE];refine{_,M,_,_,M,M,_,?_,i+1,M,?_,Z,M,c,ag}
    .lia
    .exact cE (s1.trans s3) Z
  .refine br c2 ?_;refine{_,M,_,M,_,M,l,_,M,Do.of e1,fin ?_};have:ks.filter (λz=>decide (k<=z))=((ls.take i).flatten).filter (λz=>decide (k<=z))++((ls.drop i).flatten).filter (λz=>decide (k<=z)):=by rw[<-ef,ot ls i,QF]
   rw[this,Vk];rw[Q0]at c2;lia
 .refine br (by rw[lA];lia) ?_;have ei:i=ls.length:=();subst ei;refine{_,M,_,M,_,M,l,_,M,Do.of e1,fin ?_};rw[QG,ef]
def WDn(a l:G')(k:No)(n:Int)(ls:Nr)(H:Hp):Nat->St->Hp->Prop:=λm B H'=>Cp H H'/\H l=none/\m<=ls.length/\B=[some (.ref a),some (vDn k),some (.int n),some (.ref l),some (.int<|(m:Int)-1)]/\H' l=some (.lst<|(((ls.drop m).flatten).reverse.filter<|dB k).map V.int)
def Gn{c:Prop}[Decidable c]{D:iW}{A:Prop}(Pv:Nx)(main:∀z H',Pv z H'->D.nx z H')(G:c->(∀z H',Pv z H'->D.nx z H')->A)(I:Pv B H):if c then A else CQ D B H:=dY (λh=>G h main) (λ_=>main _ _ I)
def B8(e:ls[i]?=some x):((ls.drop i).flatten).reverse=((ls.drop<|i+1).flatten).reverse++x.reverse:=by
 let{h,e}:=Q3.mp e;rw[Zt h,e,ZI,List.reverse_append]
def Ca(ok:Ky ls)(G:KS ls k i0):((ls.drop<|i0+1).flatten).reverse.filter (dB<|some k)=[]:=ZD.mpr λz hz=>by
 have:=G.behind ok z (Zm.mp hz);simp only[dB,VR];lia
def El{len:Nat}:(if((len:Int)-1<(i0:Int))then((len:Int)-1)else(i0:Int))=((min (i0+1) len:Nat):Int)-1:=by
 split<;>lia
def Cb(ok:Ky ls)(z:KS ls k i0):((ls.drop<|min (i0+1) ls.length).flatten).reverse.filter (dB<|some k)=[]:=by
 rcases Nat.le_total (i0+1) ls.length with c|c
 .rw[XF c];exact Ca ok z
 .rw[Nat.min_eq_right c,List.drop_length];rfl
def kA:AZ P w K mg base KI 2 t.fA t.cW [cC,eN,ms] (jT K t):=by
 refine T.y4.okl KQ λs H vs Q E hr h _=>?_;intro X;let{a,k,n,F,ks,rfl,hA,hl,n0,q}:=h;refine ah (KB 3<|de af)
   (ah (KB 4<|aF su (ar ax {_} T.bM a6 (aa (aC Dm M) af)) ak)
   (eX (λx=>aT (az wQ K3 bS<|aB _) x aE) ?_))
 refine aD (KB 4<|ar (lL M) {_} T.xy pY (aa (a9 Dm T.aO T.dM (b8 T) hr.mo T.dW .nil aA<|aa K3 af)<|aa Kt af)) ?_
 intros
 refine eX (λx=>(j8 VW (PW.pt<|fV (az vo Kt ak<|aB _)<|eI<|az fY (ar ax {_} T.bM a6 (aa KY af)) K9<|aB _)
    x)) ?_
 refine ah (bf<|eU QD ZT ZU lE KY<|aa (kg M (K5.of (M':=["one"]) (N:=[cC,eN,ms,"told",lm]) (N':=[cC,eN,ms,"told",lm]) (dsc:=ai bV) M M ∅) (Ik {_} T.HE (aa (aY aW (aC Dm M) Kt<|λ_ _=>M) af)) (λ_ _ _ _ _=>(PW.pt<|qf (az g7 K9 bS<|aB _)<|mV<|az nZ Dm K9<|aB _))<|λ_ _ _ _ _=>Dm) af)
   (aD (zB (i:=4) KQ.nd M (Or.inl M) ak IR) ?_)
 intros
 refine aD (aw<|bX lu KY cx<|b7 K9) ?_
 intros
 let{L,A,ls,hb,ok,ef,hF}:=hA;refine{Qh _,λl nl=>?_};have s0:Cp H (upd H l<|.lst []):=am nl;have e0:upd H l (.lst []) l=some (.lst<|([]:Mu).map V.int):=ag;have z:=hb.same s0;generalize upd H l (.lst [])=H0 at s0 e0 z⊢;let{a1,a2}:=z.obj;have lA:((A.map V.ref).length:Int)=(ls.length:Int):=by rw[Q0,hb.len]
 refine{_,M,a,_,a1,_,_,M,a2,T.aO,T.aG,fu,L,_,M,.inl<|Do.of z.lst,_,_,M,M,?_};rw[lA];refine{_,M,M,_,M,Gn (λG H'=>∃m,WDn a l k n ls H m G H') (λG H' wW=>?main) (λc key=>?A) {ls.length,s0,nl,Q5 _,M,by rwa[List.drop_length]}}
 case A=>
  cases k with
  |none=>exact VE c (_)
  |some k=>
   let{a3,a4,a5,a7}:=z.insM;refine{_,M,a,a3,a4,M,a5,a7 _ ∅,_,M,a,k,L,A,ls,M,z,ok.ne,ok.up,λi0 li=>?_};refine{_,M,_,_,M,?_};dsimp only;rw[El];exact key _ _ {min (i0+1) ls.length,s0,nl,Nat.min_le_right _ _,M,by rwa[Cb ok li]}
 case main=>
  let{m0,w0}:=wW;refine{WDn a l k n ls H,⟨m0,w0⟩,?_};rintro m B H' ⟨s1,_,ml,rfl,e1⟩;have hb1:=hb.same s1;let{a8,ac}:=hb1.obj;have fin:∀(done:((((ls.drop m).flatten).reverse.filter<|dB k).take n.toNat)=(ks.reverse.filter<|dB k).take n.toNat),∀p,H' p=none->Q (.ref p) (upd H' p<|.lst<|oA ((((ls.drop m).flatten).reverse.filter<|dB k).map V.int) none<|some n):=λdone p np=>by
   refine q _ p (s1.trans<|am np) ?_ ?_
   .cases e:H p with
    |none=>rfl
    |some o=>rw[s1 _ _ e]at np;cases np
   .rw[ag,tH n0,<-ZV,done]
  refine{_,M,_,_,M,M,_,M,?_};cases m with
  |zero=>
   refine br (_) ?_;refine{_,M,_,M,_,M,l,_,M,Do.of e1,fin ?_};rw[Zp,ef]
  |succ i=>
   have im:((i+1:Nat):Int)-1=(i:Int):=();rw[im];refine kE () ?_;refine{_,M,l,_,M,.inl<|Do.of e1,_,M,_,_,M,M,_,M,?_};by_cases c2:((((((ls.drop<|i+1).flatten).reverse.filter<|dB k).map V.int).length:Nat):Int)<n
   .refine kE c2 ?_;refine{λG H''=>∃m',m'<i+1/\WDn a l k n ls H m' G H'',λ_ _ h=>h,?_};have ex:ls[i]?=some ls[i]:=Q4 ml;let{b,eb,I}:=hb1.at ex;have ap:=Qq (dB k) ((ls.drop<|i+1).flatten).reverse;have al:((ls.drop<|i+1).flatten).reverse.length+ls[i].length<=ks.length:=by
     rw[<-ef,ot ls (i+1),pS ex,Qd,Qd,Z8];lia
    refine{_,M,.inl {M,_,Do.of e1},_,M,a,_,a8,_,_,M,ac,T.aO,T.aG,fu,_,M,L,_,_,_,M,M,Do.of hb1.lst,lH eb,b,_,M,Do.of I,λD hD=>?_};generalize ls[i]=x at ex I al⊢;refine Ce (K:=K) (a:=b) (xs:=x.map V.int) (λm ys H3=>H3=upd H' D (.lst ys)/\ys=((x.reverse.take m).filter<|dB k).map V.int) ⟨M,M⟩ (λm ys H3 _ w=>Do.of<|by rw[w.1,ae (aj I hD)];exact I) (λm v ys H3 Z w O=>?_)<|λys H3 w O=>?_
    .let{w1,Y}:=w;obtain⟨g,rfl,eg⟩:∃g:Int,v= .int g/\x.reverse[m]?=some g:=by
      rw[<-Vh,Qu]at Z;cases e:x.reverse[m]? with
      |none=>rw[e]at Z;cases Z
      |some g=>rw[e]at Z;cases Z;exact⟨g,M,M⟩
     have hn:m<(x.map V.int).length:=by
      have:=(Q3.mp Z).1;rwa [Z8]at this
     have fl:ys.length<=100000:=by
      rw[Y,Q0];have h1:=Qq (dB k) (x.reverse.take m);have h2:(x.reverse.take m).length<=x.reverse.length:=by rw[Qe];lia
      rw[Z8]at h2;lia
     have a0:dB k g=true->KL (x.map V.int).length m ys D (λm ys H3=>H3=upd H' D (.lst ys)/\ys=((x.reverse.take m).filter<|dB k).map V.int) (.int g) H3:=λU=>by
      refine KL.mk hn O (bi fl) {by rw[w1,bU],?_};rw[Y,Qo,eg,QF,Qb];simp[U]
     have no:dB k g=false->Kz (x.map V.int).length m ys D (λm ys H3=>H3=upd H' D (.lst ys)/\ys=((x.reverse.take m).filter<|dB k).map V.int) H3:=λU=>by
      refine Kz.mk hn O {w1,?_};rw[Y,Qo,eg,QF];simp[U]
     refine{_,M,M,_,M,?_};cases k with
     |none=>exact b9<|b9 {_,M,a0 M}
     |some k=>
      refine bT {_,M,_,M,_,_,M,M,_,M,?_};by_cases U:g<=k
      .exact kE U {_,M,a0<|VI U}
      .exact br U<|no (VM U)
    .let{w1,Y}:=w;rw[Q0,show x.length=x.reverse.length from Z8.symm,QG]at Y;have s3:Cp H' H3:=by rw[w1];exact am hD
     have e3:=s3 _ _ e1;have an:=Qq (dB k) x.reverse;have hsz:((((ls.drop<|i+1).flatten).reverse.filter<|dB k).map V.int).length+ys.length<=sizeLine:=by
      rw[Y,Q0,Q0];rw[Z8]at an;exact Z1<|bi ()
     refine{l,D,_,_,M,M,e3,O,hsz,?_};have hE:(((ls.drop<|i+1).flatten).reverse.filter<|dB k).map V.int++ys=(((ls.drop i).flatten).reverse.filter<|dB k).map V.int:=by
      rw[Y,B8 ex,QF,Qb]
     rw[hE];refine{_,M,_,_,M,M,i,ZM _,cE (s1.trans s3) nl,nl,Z1 ml,M,ag}
   .refine br c2 ?_;refine{_,M,_,M,_,M,l,_,M,Do.of e1,fin ?_};have:ks.reverse.filter (dB k)=((ls.drop<|i+1).flatten).reverse.filter (dB k)++((ls.take<|i+1).flatten).reverse.filter (dB k):=by rw[<-ef,ot ls (i+1),List.reverse_append,QF]
    rw[this,Vk];rw[Q0]at c2;lia
theorem xR:∀{a b:Mu},cX a->cX b->(∀z,z∈a↔z∈b)->a=b
 | [],[],_,_,_=>rfl
 | [],y::r,_,_,h=>by have:=(h y).mpr Q7;cases this
 |x::r,[],_,_,h=>by have:=(h x).mp Q7;cases this
 |x::r,y::r',ha,hb,h=>by
  let{a1,a2}:=Z0.mp ha;let{I,O}:=Z0.mp hb;have G:x=y:=by
   rcases Qc.mp ((h x).mp Q7)with e|e
   .exact e
   .rcases Qc.mp ((h y).mpr Q7)with e2|e2
    .exact e2.symm
    .have h1:=I x e;have h2:=a1 y e2;lia
  subst G;rw[xR a2 O λz=>?_];constructor
  .intro hz;rcases Qc.mp ((h z).mp<|Q8 _ hz)with e|e
   .have:=a1 z hz;lia
   .exact e
  .intro hz;rcases Qc.mp ((h z).mpr<|Q8 _ hz)with e|e
   .have:=I z hz;lia
   .exact e
def LV.rise(h:LV K t H a F ks):cX ks:=by
 let{_,_,ls,_,ok,z,_}:=h;rw[<-z];exact ok.up
def Lj.wide(h:Lj K F H a xs)(n:H l=none):Lj K (λb=>F b\/b=l) H a xs:=by
 rcases h with⟨h,z⟩|h
 .refine .inl {h,λy=>?_};rcases y with y|y
  .exact z y
  .rcases h with h|⟨_,h⟩
   .rw[y,n]at h;cases h
   .rw[y,n]at h;cases h
 .exact .inr h
def Lj.frG(h:Lj K (λb=>F b\/b=l) H a xs)(f:Fr F F' H H'):Lj K (λb=>F' b\/b=l) H' a xs:=h.fr λb o n e=>{(f b o (λy=>n<|.inl y) e).1,λy=>by
 rcases y with y|y
 .exact(f b o (λy=>n<|.inl y) e).2 y
 .exact n<|.inr y}
def Lj.updG(h:Lj K (λb=>F b\/b=l) H a xs):Lj K (λb=>F b\/b=l) (upd H l o) a xs:=h.fr λb u n e=>{by rwa[ae (λy=>n<|.inr y)],n}
def d8(Y:L9 K C bm)(k:RsB p H C E){D:iW}{x:Str}:wD K (v9 C<|Ao (tC<|.str x) Bs) E D B H:=by
 refine{(by show 1<=1000;decide),λea G=>{ea,C,none,bm,M,ag,Y,?_}};rw[bU];refine k ea none _ {ag,.inl ⟨M,M⟩} λb o q z=>?_;rw[ae (aj q G)];exact q
def x6:AZ P w K mg base KI 1 t.tM t.m8 ["thing"] xH:=by
 refine T.Af.okl xP λs H vs Q E z h _=>?_;intro X;let{x,rfl,hx,k}:=h;refine{_,(aq<|aw<|pG (ar gN {_} T.bN bn (aa Dm<|aa (qO (v:= .ty nX) {_} T.JA Eu M) af))<|j9<|Im<|ar gN {_} T.bN bn (aa Dm<|aa (qO (v:= .ty "bool") {_} T.Ko Gy M) af))
  ,?_}
 cases x with
 |int i=>
  refine{_,M,_,_,_,_,M,KD.int _,IG,true,M,b9 ?_};exact{_,M,_,_,_,_,M,KD.int _,IH,_,M,k}
 |bl c=>
  refine{_,M,_,_,_,_,M,KD.bl _,II,true,M,b9 ?_};exact{_,M,_,_,_,_,M,KD.bl _,IJ,_,M,k}
 |str c=>exact{_,M,_,_,_,_,M,KD.str _,IE,false,M,bT k}
 |non=>exact{_,M,_,_,_,_,M,KD.non,IF,false,M,bT k}
 |_=>exact hx.elim
def mX:AZ P w K mg base KI 2 t.vU t.pX ["thing","low"] zk:=by
 refine T.fJ.okl zx λs H vs Q E z h _=>?_;intro X;let{x,lo,rfl,hx,k}:=h;refine{_,(aq<|aw<|pG (au (x6 T) z.mo {_} T.IB T.Af.kp T.Jm .nil aA (aa Dm af))<|j9<|c6 vo Dm K3<|aB _)
  ,?_}
 cases x with
 |int i=>exact{_,M,_,M,hx,true,M,b9 {_,M,_,M,_,_,M,M,k}}
 |bl c=>exact{_,M,_,M,hx,false,M,bT k}
 |str c=>exact{_,M,_,M,hx,false,M,bT k}
 |non=>exact{_,M,_,M,hx,false,M,bT k}
 |_=>exact hx.elim
def zF:AZ P w K mg base KI 1 t.vQ t.pT ["bound"] zg:=by
 refine T.vV.okl zq λs H vs Q E z h _=>?_;intro X;let{x,rfl,hx,k}:=h;refine{_,(aq<|aw<|xW (az g7 Dm bS<|aB _) bu<|pF xg {_} T.GT zY (aa Dm af))
  ,?_}
 rcases hx with rfl|⟨i,rfl,hi⟩
 .exact{_,M,M,_,M,b9 k}
 .exact{_,M,M,_,M,bT {_,M,i,M,hi,k}}
def f7:AZ P w K mg base KI 1 t.iE t.ie [cC,"kind",lm,hW] (fN K):=by
 refine T.iF.okl rO λs H vs Q E U h _=>?_;intro X;let{p,C,dx,kd,a,e,rfl,hp,cl,G,I,O,k}:=h;refine ah (cu Dm K3 M)
   (ah (cu Dm K9 M)
   (aD (cu Dm KY M) ?_))
 intros
 refine{_,M,_,M,p,C,dx,[],M,hp,cl,G,(by show 0<1000;decide),_,M,_,M,p,C,dx,_,M,ag,cl,I,(by show 1<1000;decide),_,M,_,M,p,C,dx,_,M,ag,cl,O,?_,?_}
 .have h1:=j6 (f:=lm) (v:=a) (bR "kind" (.str kd) []);have h2:=j6 (f:="kind") (v:= .str kd) [];have Y:([]:Nl).length=0:=M;lia
 rw[bU,bU];refine k _ _ (λb o q z=>by rw[ae z];exact q) ag {?_,?_,?_,?_,?_}
 .rw[aV,Vz ∅,aV,Vz ∅,aV,VA M]
 .rw[aV,Vz ∅,aV,VA M]
 .rw[aV,VA M]
 .rw[aV,Vz ∅,aV,Vz ∅,aV,Vz ∅];rfl
 .rw[aV,Vz ∅,aV,Vz ∅,aV,Vz ∅];rfl
def tkN(T:Txt K mg t){kd:Int}(h:kd=0\/kd=1\/kd=2):Le K (Ma t kd)/\E2 K (Ma t kd) "kind"/\E2 K (Ma t kd) lm/\E2 K (Ma t kd) hW:=by
 rcases h with rfl|rfl|rfl
 .exact⟨T.aZ,T.qG,T.hI,T.bZ⟩
 .exact⟨T.dS,T.zH,T.n8,T.iI⟩
 .exact⟨T.bC,T.wX,T.gd,T.gJ⟩
def Gj{kd:Int}(h:kd=0\/kd=1\/kd=2):(Lg kd).length<=5:=by
 rcases h with rfl|rfl|rfl<;>decide+kernel
def qE:AZ P w K mg base KI 2 t.cI t.gr [cC] (cn t):=by
 refine T.EJ.okl qy λs H vs Q E I h _=>?_;intro X;let{p,dx,kd,fs,a,e,rfl,hp,z,G,Y,Z,q}:=h;refine{_,(aq<|aw<|eU X5 PySem.F.slot_str_join PySem.F.type_str_join FY bu<|@aH _ _ _ _ _ (@de _ _ _ _<|@aH _ _ _ _ _ (aC Dm M) (@aH _ _ _ _ _ (au (zF T) I.mo {_} T.BO T.vV.kp T.Ck .nil aA (aa (aC Dm M) af)) (@aH _ _ _ _ _ (au (zF T) I.mo {_} T.BO T.vV.kp T.Ck .nil aA (aa (aC Dm M) af)) af M) M) M) af M)
  ,?_}
 let{cl,n0,n1,n2}:=tkN T G.kd;let{O,U}:=LM.few G Y Z;have kl:=Gj G.kd;refine{M,_,M,p,_,dx,fs,_,M,hp,cl,n0,z.ki,_,M,p,_,dx,fs,_,M,hp,cl,n1,z.at_,a,M,O.1,_,M,p,_,dx,fs,_,M,hp,cl,n2,z.end_,e,M,U.1,(by show 3<=sizeLine;decide),λl nl=>?_};refine{" ",l,[Lg kd,wr a,wr e],M,M,Do.of ag,∅,?_,q _<|am nl};have:=O.2;have:=U.2;simp only[Qt,Xv,List.sum_cons,List.sum_nil,Ql,Vm];lia
def lI{x:V}(h:isF lo x=true):∃i,x= .int i/\lo<=i:=by
 cases x with
 |int i=>exact{i,M,VF h}
 |_=>cases h
def d9:AZ P w K mg base (LX P w) 3 t.jP t.cq [cC,lm,hW] (pc t):=by
 let{G,z}:=T.g_PLACES;have a0:=Kx.nd;refine T.Cw.okX Kx (λvs H Q E h=>?_)<|λa1 A outer s H vs Q E U h=>?_
 .let{p,dx,a,e,rfl,_}:=h;rfl
 .let{p,dx,a,e,rfl,hp,sa,se,k1,k2}:=h;refine ah (aT (jj<|PW.pt<|fV (bF<|au (mX T) U.mo {_} T.iM T.fJ.kp T.iR .nil aA (aa K3<|aa ak af))<|fV (bF<|au (mX T) U.mo {_} T.iM T.fJ.kp T.iR .nil aA (aa K9<|aa K3 af))<|eI<|az nZ K9 (bK (v:= .int 65536) {_} z {_,M})<|aB _)
   (aq<|iH M lh<|cK T.aS T.dA {_} T.dh (aa bu af))
   aE)
     (aD (bf<|wO {_} T.yg T.lZ T.iF.kp (f7 T) U.mo T.mf .nil aA (@aH _ _ _ _ _ Dm (@aH _ _ _ _ _ bu (@aH _ _ _ _ _ K3 (@aH _ _ _ _ _ K9 af M) M) M) M)) ?_)
  intros
  refine{_,M,a,0,M,sa,_,M,dY (λc=>?_)<|λc=>?_}
  .let{i,rfl,i0}:=lI c;refine{_,M,_,M,e,i,M,se,_,M,dY (λc=>?_)<|λc=>?_}
   .let{j,rfl,ij}:=lI c;refine{_,M,_,_,M,M,_,M,?_};by_cases I:j<=65536
    .rw[VI I];exact bT {_,M,_,M,_,M,p,_,dx,_,.int i,.int j,M,hp,T.aZ,T.qG,T.hI,T.bZ,λH' fs k h f=>k1 ⟨i,j,M,M,i0,ij,I⟩ H' fs k h f}
    .rw[VM I];exact b9<|d8 T.aS (k2 λzz=>by let{Z,j',O,e2,_,_,h}:=zz;cases e2;exact I h)
   .exact b9<|d8 T.aS (k2 λY=>by let{Z,j',O,e2,_,h,_}:=Y;exact c<|by cases O;rw[e2];exact VI h)
  .exact b9<|d8 T.aS (k2 λY=>by let{Z,j',O,_,h,_}:=Y;exact c<|by rw[O];exact VI h)
def kr:AZ P w K mg base (LX P w) 3 t.tN t.gl [cC,lm,hW] (xI t):=by
 have Y:=LU.nd;refine T.Jv.okX LU (λvs H Q E h=>?_)<|λZ A outer s H vs Q E G h=>?_
 .let{p,dx,a,e,rfl,_}:=h;rfl
 .let{p,dx,a,e,rfl,hp,sa,se,k1,k2}:=h;refine ah (aT (jj<|PW.pt<|fV (bF<|au (mX T) G.mo {_} T.iM T.fJ.kp T.iR .nil aA (aa K3<|aa ak af))<|eI<|PW.pt<|qf (az g7 K9 bS<|aB _)<|mV<|bF<|au (mX T) G.mo {_} T.iM T.fJ.kp T.iR .nil aA (aa K9<|aa K3 af))
   (aq<|iH M lh<|cK T.aS T.dA {_} T.dh (aa bu af))
   aE)
     (aD (bf<|wO {_} T.yg T.lZ T.iF.kp (f7 T) G.mo T.mf .nil aA (@aH _ _ _ _ _ Dm (@aH _ _ _ _ _ bu (@aH _ _ _ _ _ K3 (@aH _ _ _ _ _ K9 af M) M) M) M)) ?_)
  intros
  refine{_,M,a,0,M,sa,_,M,dY (λc=>?_)<|λc=>?_}
  .let{i,rfl,i0}:=lI c;have fin:Lm (.int i) e->fN K [.ref p,.str "up",.int i,e] H (λ_ H'=>Q .non H') E0:=λok=>{p,_,dx,"up",.int i,e,M,hp,T.dS,T.zH,T.n8,T.iI,λH' fs k h f=>k1 ok H' fs k h f};by_cases z:e= .non
   .exact{_,M,M,_,M,iO z<|bT {_,M,_,M,_,M,fin {i,M,i0,.inl z}}}
   .refine{_,M,M,_,M,br z {_,M,_,M,e,i,M,se,_,M,?_}};cases I:isF i e with
    |true=>
     let{j,rfl,ij}:=lI I;exact bT {_,M,_,M,_,M,fin {i,M,i0,.inr ⟨j,M,ij⟩}}
    |false=>
     refine b9<|d8 T.aS (k2 λO=>?_);let{i',U,_,e2}:=O;cases U;rcases e2 with e2|⟨j',e2,h⟩
     .exact z e2
     .rw[e2]at I;exact VS I h
  .exact b9<|d8 T.aS (k2 λO=>by let{i',U,h,_}:=O;exact c<|by rw[U];exact VI h)
def g9:AZ P w K mg base (LX P w) 3 t.oR t.dR [cC,lm,hW] (uh t):=by
 have Z:=LI.nd;refine T.GR.okX LI (λvs H Q E h=>?_)<|λa0 A outer s H vs Q E G h=>?_
 .let{p,dx,a,e,rfl,_}:=h;rfl
 .let{p,dx,a,e,rfl,hp,sa,se,k1,k2}:=h;refine ah (aT (jj<|PW.pt<|fV (bF<|au (mX T) G.mo {_} T.iM T.fJ.kp T.iR .nil aA (aa K9<|aa ak af))<|eI<|PW.pt<|qf (az g7 K3 bS<|aB _)<|mV<|bF<|au (mX T) G.mo {_} T.iM T.fJ.kp T.iR .nil aA (aa K3<|aa K9 af))
   (aq<|iH M lh<|cK T.aS T.dA {_} T.dh (aa bu af))
   aE)
     (aD (bf<|wO {_} T.yg T.lZ T.iF.kp (f7 T) G.mo T.mf .nil aA (@aH _ _ _ _ _ Dm (@aH _ _ _ _ _ bu (@aH _ _ _ _ _ K3 (@aH _ _ _ _ _ K9 af M) M) M) M)) ?_)
  intros
  refine{_,M,e,0,M,se,_,M,dY (λc=>?_)<|λc=>?_}
  .let{j,rfl,Y}:=lI c;have fin:Li a (.int j)->fN K [.ref p,.str "down",a,.int j] H (λ_ H'=>Q .non H') E0:=λok=>{p,_,dx,"down",a,.int j,M,hp,T.bC,T.wX,T.gd,T.gJ,λH' fs k h f=>k1 ok H' fs k h f};by_cases z:a= .non
   .exact{_,M,M,_,M,iO z<|bT {_,M,_,M,_,M,fin {j,M,Y,.inl z}}}
   .refine{_,M,M,_,M,br z {_,M,_,M,a,j,M,sa,_,M,?_}};cases I:isF j a with
    |true=>
     let{i,rfl,ij}:=lI I;exact bT {_,M,_,M,_,M,fin {j,M,Y,.inr ⟨i,M,ij⟩}}
    |false=>
     refine b9<|d8 T.aS (k2 λO=>?_);let{j',U,_,e2}:=O;cases U;rcases e2 with e2|⟨i',e2,h⟩
     .exact z e2
     .rw[e2]at I;exact VS I h
  .exact b9<|d8 T.aS (k2 λO=>by let{j',U,h,_}:=O;exact c<|by rw[U];exact VI h)
def gI:AZ P w K mg base KI 3 t.iV t.eC [cC,eN] (dD t):=by
 refine T.Cs.okl nR λs H vs Q E G h _=>?_;intro X;let{p,dx,fs,a,e,k,rfl,hp,z,{i,j,rfl,rfl,i0,I,O},U,q}:=h;refine{_,(aq<|aw<|Dl nZ fY (aC Dm M) (au (ko T) G.mo {_} T.sU T.nG.kp T.tL .nil aA (aa K3 af))<|aC Dm M)
  ,?_}
 have q:Q (.bl<|decide (i<=tz (k%65536))&&decide (tz (k%65536)<j)) H:=q H (Cp.refl H);refine{_,M,p,_,dx,fs,_,M,hp,T.aZ,T.hI,z.at_,_,M,k,M,_,_,M,M,_,M,dY (λc=>?_)<|λc=>?_}
 .refine{_,M,p,_,dx,fs,_,M,hp,T.aZ,T.bZ,z.end_,_,_,M,M,?_};rw[c,Zx]at q;exact q
 .rw[Zu.mpr c,ZZ]at q;exact q
def jp:AZ P w K mg base KI 1 t.qq t.kM [cC,eN] (cJ t):=by
 refine T.HB.okl wB λs H vs Q E I h _=>?_;intro X;let{p,dx,fs,a,e,k,rfl,hp,G,{i,rfl,i0,he},O,q}:=h;refine{_,(aq<|aw<|pG (c6 nZ (aC Dm M) K3<|aB _)<|j9<|Hg (c6 g7 (aC Dm M) bS<|aB _)<|j9<|c6 fY K3 (aC Dm M)<|aB _)
  ,?_}
 have q:=q H (Cp.refl H);rcases he with rfl|⟨j,rfl,U⟩
 .have q:Q (.bl<|decide (i<=k)) H:=q;refine{_,M,p,_,dx,fs,_,M,hp,T.dS,T.n8,G.at_,_,M,_,_,M,M,_,M,dY (λc=>{_,M,p,_,dx,fs,_,M,hp,T.dS,T.iI,G.end_,M,_,M,iO M ?_})<|λc=>?_}
  .rw[c]at q;exact q
  .rw[Zu.mpr c]at q;exact q
 .have q:Q (.bl<|decide (i<=k)&&decide (k<j)) H:=q;refine{_,M,p,_,dx,fs,_,M,hp,T.dS,T.n8,G.at_,_,M,_,_,M,M,_,M,dY (λc=>{_,M,p,_,dx,fs,_,M,hp,T.dS,T.iI,G.end_,M,_,M,br (λz=>by cases z) {_,M,_,M,p,_,dx,fs,_,M,hp,T.dS,T.iI,G.end_,_,_,M,M,?_}})<|λc=>?_}
  .rw[c,Zx]at q;exact q
  .rw[Zu.mpr c,ZZ]at q;exact q
def f8:AZ P w K mg base KI 1 t.mG t.iC [cC,eN] (bW t):=by
 refine T.Fg.okl r6 λs H vs Q E I h _=>?_;intro X;let{p,dx,fs,a,e,k,rfl,hp,G,{j,rfl,O,ha},U,q}:=h;refine{_,(aq<|aw<|pG (c6 nZ (aC Dm M) K3<|aB _)<|j9<|Hg (c6 g7 (aC Dm M) bS<|aB _)<|j9<|c6 nZ K3 (aC Dm M)<|aB _)
  ,?_}
 have q:=q H (Cp.refl H);rcases ha with rfl|⟨i,rfl,Y⟩
 .have q:Q (.bl<|decide (j<=k)) H:=q;refine{_,M,p,_,dx,fs,_,M,hp,T.bC,T.gJ,G.end_,_,M,_,_,M,M,_,M,dY (λc=>{_,M,p,_,dx,fs,_,M,hp,T.bC,T.gd,G.at_,M,_,M,iO M ?_})<|λc=>?_}
  .rw[c]at q;exact q
  .rw[Zu.mpr c]at q;exact q
 .have q:Q (.bl<|decide (j<=k)&&decide (k<=i)) H:=q;refine{_,M,p,_,dx,fs,_,M,hp,T.bC,T.gJ,G.end_,_,M,_,_,M,M,_,M,dY (λc=>{_,M,p,_,dx,fs,_,M,hp,T.bC,T.gd,G.at_,M,_,M,br (λz=>by cases z) {_,M,_,M,p,_,dx,fs,_,M,hp,T.bC,T.gd,G.at_,_,_,M,M,?_}})<|λc=>?_}
  .rw[c,Zx]at q;exact q
  .rw[Zu.mpr c,ZZ]at q;exact q
set_option genInjectivity false in
structure MT where
 p:Addr
 mo:Int
 v:V
structure MM(t:KF)(H:Hp)(m l:G')(es:List MT):Prop where
 ob:∃dx,H m=some (.ins t.eO dx [("made",.ref l)])
 li:H l=some (.lst<|es.map λe=>V.ref e.p)
 tu:∀e∈es,H e.p=some (.tup [.int e.mo,e.v])
def MM.keep{m:G'}{es:List MT}(h:MM t H m l es)(z:H' m=H m)(e2:H' l=H l)(G:∀b xs,H b=some (.tup xs)->H' b=some (.tup xs)):MM t H' m l es:={h.ob.imp λ_ e=>z.trans e,e2.trans h.li,λe he=>G _ _<|h.tu e he}
def rE(t:KF):Sp:=λvs H Q _=>∃(a dx:G'),vs=[.ref a]/\H a=some (.ins t.eO dx [])/\∀(H':Hp)(l:G'),MM t H' a l []->H l=none->(∀b o,b≠a->H b=some o->H' b=some o)->Q .non H'
def sI:AZ P w K mg base KI 1 t.mB t.iw [cC] (rE t):=by
 refine T.E9.okl rV λs H vs Q E I h _=>?_;intro X;let{a,dx,rfl,ha,q}:=h;refine{_,(aq<|cu Dm (de af) M)
  ,?_}
 refine{Qh _,λl z=>{_,M,a,_,dx,[],M,(by rwa[ae (aj ha z)]),T.yJ,T.uF,(by show 0<1000;decide),?_}};have G:a≠l:=aj ha z;exact q _ l {⟨dx,ag⟩,by rw[ae G.symm];exact ag,λe he=>by cases he} z λb o n e=>by rwa[ae n,ae (aj e z)]
def rD(t:KF):Sp:=λvs H Q _=>∃(m l:G')(es:List MT)(mo:Int)(v:V),vs=[.ref m,.int mo,v]/\MM t H m l es/\es.length<100000/\
 ∀(H':Hp)(p:G'),MM t H' m l (es++ [⟨p,mo,v⟩])->H p=none->(∀b o,b≠l->H b=some o->H' b=some o)->Q .non H'
def sH:AZ P w K mg base KI 1 t.my t.iu [cC,"moment",kj] (rD t):=by
 refine T.E8.okl rT λs H vs Q E O h _=>?_;intro X;let{m,l,es,mo,v,rfl,M',le,q}:=h;refine{_,(aq<|bf<|eU QD Zd Ze eh (aC Dm M)<|aa (db<|aa K3<|aa K9 af) af)
  ,?_}
 let{dx,G}:=M'.ob;refine{_,M,m,_,dx,_,_,M,G,T.yJ,T.uF,M,.inl {M,_,Do.of M'.li},_,M,_,M,(by show 2<=sizeLine;decide),λp np=>?_};have s1:=am (o:= .tup [.int mo,v]) np;have pl:p≠l:=λz=>by rw[z,M'.li]at np;cases np
 have I:m≠l:=λz=>by have:=M'.li;rw[<-z,G]at this;cases this
 refine{l,_,_,M,M,s1 _ _ M'.li,bi (by rw[Q0];lia),?_};refine q _ p {{dx,by rw[ae I];exact s1 _ _ G},by rw[ag,Qb];rfl,λe he=>?_} np λb o n e=>by rw[ae n];exact s1 _ _ e
 rcases Q6.mp he with he|he
 .have te:=s1 _ _ (M'.tu e he);rwa[ae (λz=>by rw[z,s1 _ _ M'.li]at te;cases te)]
 .rw[Qf.mp he];rw[ae pl];exact ag
def Ku.notup(h:Ku K t H a F st)(e:H b=some (.tup xs)):¬F b:=λhb=>by
 let{d,h1,h2,_}:=h;let{dx,O}:=h1.obj;have G:∀o,H b=some o->(∀ys,o≠ .tup ys)->False:=λo q n=>by rw[e]at q;exact n _ (VG q).symm
 rcases(h2 b).mp hb with rfl|rfl|rfl|hb|⟨hs,rfl⟩|hb
 .exact G _ O<|λ_ z=>by cases z
 .exact G _ h1.tbl<|λ_ z=>by cases z
 .exact G _ h1.row0.lst<|λ_ z=>by cases z
 .let{_,_,_,_,q}:=h1.row0.has hb;exact G _ q<|λ_ z=>by cases z
 .have r1:=h1.row1;cases I:st.nxt with
  |none=>rw[I]at hs;cases hs
  |some m=>rw[I]at r1;exact G _ r1.lst<|λ_ z=>by cases z
 .have r1:=h1.row1;cases I:st.nxt with
  |none=>rw[I]at r1;rw[r1.1]at hb;cases hb
  |some m=>
   rw[I]at r1;let{_,_,_,_,q}:=r1.has hb;exact G _ q<|λ_ z=>by cases z
def LV.notup(h:LV K t H a F ks)(e:H b=some (.tup xs)):¬F b:=λhb=>by
 let{L,A,ls,h1,_,_,h2}:=h;let{dx,I}:=h1.obj;have G:∀o,H b=some o->(∀ys,o≠ .tup ys)->False:=λo q n=>by rw[e]at q;exact n _ (VG q).symm
 rcases(h2 b).mp hb with rfl|rfl|hb
 .exact G _ I<|λ_ z=>by cases z
 .exact G _ h1.lst<|λ_ z=>by cases z
 .let{_,_,_,_,q}:=h1.has hb;exact G _ q<|λ_ z=>by cases z
set_option genInjectivity false in
structure Pk where
 k:Int
 m:Addr
 l:Addr
 es:List MT
set_option genInjectivity false in
structure L3 where
 now:Int
 fl:Int
 ma:Int
 st:K4
 ks:List Int
 di:List (Addr×List V)
 pa:List Pk
 ho:List (Int×V)
noncomputable def dX:List Pk->Int->List MT
 | [],_=> []
 |e::r,k=>if e.k=k then e.es else dX r k
noncomputable def Lq(pa:List Pk):List (Int×V):=pa.map λe=>(e.k,V.ref e.m)
def Lk(now fl:Int)(s l w:G')(mk:Int)(p h:G'):List (Str×V):=[("now",.int now),("floor",.int fl),(nz,.ref s),(ge,.ref l),("written",.ref w),("marks",.int mk),("past",.ref p),("holders",.ref h)]
def NoH(m:Str):Prop:=m≠("now":Str)/\m≠("floor":Str)/\m≠(nz:Str)/\m≠(ge:Str)/\m≠("written":Str)/\m≠("marks":Str)/\m≠("past":Str)/\m≠("holders":Str)
instance {m:Str}:Decidable (NoH m):=by unfold NoH;infer_instance
section
variable{now now' fl mk mk':Int}{s w h:G'}{m:Str}
def qS:(Lk now fl s l w mk p h).lookup ("now":Str)=some (.int now):=fB
def IY:(Lk now fl s l w mk p h).lookup ("floor":Str)=some (.int fl):=by unfold Lk;rw[bH ∅,fB]
def w9:(Lk now fl s l w mk p h).lookup (nz:Str)=some (.ref s):=by unfold Lk;rw[bH ∅,bH ∅,fB]
def D6:(Lk now fl s l w mk p h).lookup (ge:Str)=some (.ref l):=by unfold Lk;rw[bH ∅,bH ∅,bH ∅,fB]
def IV:(Lk now fl s l w mk p h).lookup ("written":Str)=some (.ref w):=by unfold Lk;rw[bH ∅,bH ∅,bH ∅,bH ∅,fB]
def IW:(Lk now fl s l w mk p h).lookup ("past":Str)=some (.ref p):=by unfold Lk;rw[bH ∅,bH ∅,bH ∅,bH ∅,bH ∅,bH ∅,fB]
def Ho(n:NoH m):(Lk now fl s l w mk p h).lookup m=none:=by
 let{h1,h2,z,G,I,O,U,Y}:=n;unfold Lk;rw[bH h1,bH h2,bH z,bH G,bH I,bH O,bH U,bH Y];rfl
def FK:bR ("now":Str) (.int now') (Lk now fl s l w mk p h)=Lk now' fl s l w mk p h:=by unfold Lk;rw[bR,VA M]
def Gp:(Lk now fl s l w mk p h).length<1000:=by show 8<1000;decide
end
def Ow(a w p h:G')(pa:List Pk):Addr->Prop:=λb=>b=a\/b=w\/b=p\/b=h\/∃e∈pa,b=e.m\/b=e.l
structure LS(t:KF)(H:Hp)(a s l w p h:G')(x:L3):Prop where
 ob:∃dx,H a=some (.ins t.a8 dx<|Lk x.now x.fl s l w x.ma p h)
 wr:H w=some (.lst<|x.di.map λe=>V.ref e.1)
 dr:∀e∈x.di,H e.1=some (.tup e.2)
 pa:H p=some (.dK<|aN<|Lq x.pa)
 ho:H h=some (.dK<|aN x.ho)
 mx:∀e∈x.pa,MM t H e.m e.l e.es
 ph:p≠h
 wl:∀e∈x.pa,e.l≠w
 kd:(x.pa.map (·.k)).Nodup
 md:(x.pa.map (·.m)).Nodup
 ld:(x.pa.map (·.l)).Nodup
def Ar{t u:TS}{D:iW}(M':Nx)(h1:∀nx,(∀z H',M' z H'->nx z H')->t {D with nx:=nx} B H)(h2:∀z H',M' z H'->u D z H'):xF t u D B H:=h1 (u D) h2
def cc(s:Cp H H2)(n:H2 p=none):H p=none:=by
 cases e:H p with
 |none=>rfl
 |some o=>rw[s _ _ e]at n;cases n
def DB{f:α->β}{l:List α}(n:(l.map f).Nodup){x y:α}(hx:x∈l)(hy:y∈l)(e:f x=f y):x=y:=by
 induction l with
 |nil=>cases hx
 |cons z r I=>
  let{G,O}:=Z9.mp n;rcases Qc.mp hx with rfl|hx'<;>rcases Qc.mp hy with rfl|hy'
  .rfl
  .exact VE (Qk.mpr ⟨y,hy',e.symm⟩) G
  .exact VE (Qk.mpr ⟨x,hx',e⟩) G
  .exact I O hx' hy'
section
variable{s w h:G'}{x:L3}{pa:List Pk}{y:MT}
def LS.dom(A:LS t H a s l w p h x)(hb:Ow a w p h x.pa b):∃o,H b=some o/\∀ys,o≠ .tup ys:=by
 let{dx,G}:=A.ob;rcases hb with rfl|rfl|rfl|rfl|⟨e,he,rfl|rfl⟩
 .exact{_,G,λ_ z=>by cases z}
 .exact{_,A.wr,λ_ z=>by cases z}
 .exact{_,A.pa,λ_ z=>by cases z}
 .exact{_,A.ho,λ_ z=>by cases z}
 .let{O,I}:=(A.mx e he).ob;exact{_,I,λ_ z=>by cases z}
 .exact{_,(A.mx e he).li,λ_ z=>by cases z}
def LS.keep(A:LS t H a s l w p h x)(g:∀b,Ow a w p h x.pa b->H' b=H b)(z:∀b xs,H b=some (.tup xs)->H' b=some (.tup xs)):LS t H' a s l w p h x:=
 {A.ob.imp λ_ e=>(g a<|.inl M).trans e,(g w<|.inr<|.inl M).trans A.wr,λe he=>z _ _<|A.dr e he,(g p<|.inr<|.inr<|.inl M).trans A.pa,(g h<|.inr<|.inr<|.inr<|.inl M).trans A.ho,
  λe he=>(A.mx e he).keep (g _<|.inr<|.inr<|.inr<|.inr {e,he,.inl M}) (g _<|.inr<|.inr<|.inr<|.inr {e,he,.inr M}) z,A.ph,A.wl,A.kd,A.md,A.ld}
def LS.same(A:LS t H a s l w p h x)(m:Cp H H'):LS t H' a s l w p h x:=A.keep (λb hb=>by
 let{o,e,_}:=A.dom hb;rw[e];exact m _ _ e) λb xs e=>m _ _ e
def LS.set(A:LS t H a s l w p h x){now mk:Int}{fl:Int}:LS t (upd H a<|.ins t.a8 dx<|Lk now fl s l w mk p h) a s l w p h {x with now:=now,fl:=fl,ma:=mk}:=by
 let{U,I}:=A.ob;have n:∀{b:G'}{o:HO},H b=some o->(∀c d fs,o= .ins c d fs->fs.length=1)->b≠a:=λe i z=>by
  rw[z,I]at e;have:=i _ _ _ (VG e).symm;cases this
 have G:∀{b:G'}{o:HO},H b=some o->(∀c d fs,o≠ .ins c d fs)->b≠a:=λe i=>n e λc d fs z=>VE z (i c d fs);refine{⟨dx,ag⟩,by rw[ae (G A.wr λ_ _ _ z=>by cases z)];exact A.wr,λe he=>by rw[ae (G (A.dr e he) λ_ _ _ z=>by cases z)];exact A.dr e he,by rw[ae (G A.pa λ_ _ _ z=>by cases z)];exact A.pa,
  by rw[ae (G A.ho λ_ _ _ z=>by cases z)];exact A.ho,λe he=>?_,A.ph,A.wl,A.kd,A.md,A.ld}
 have M':=A.mx e he;let{Y,O}:=M'.ob;exact M'.keep (ae<|n O λ_ _ _ z=>by cases z;rfl) (ae<|G M'.li λ_ _ _ z=>by cases z) λb xs e=>by rwa[ae (G e λ_ _ _ z=>by cases z)]
def LS.row(A:LS t H a s l w p h x)(I:H r=some (.tup xs)):LS t (upd H w<|.lst<|x.di.map (λe=>V.ref e.1)++ [.ref r]) a s l w p h {x with di:=x.di++ [(r,xs)]}:=by
 let{U,O}:=A.ob;have G:∀{b:G'}{o:HO},H b=some o->(∀ys,o≠ .lst ys)->b≠w:=λe i z=>by
  rw[z,A.wr]at e;exact i _ (VG e).symm
 refine{{U,by rwa[ae (G O λ_ z=>by cases z)]},by rw[ag,Qb];rfl,λe he=>?_,by rw[ae (G A.pa λ_ z=>by cases z)];exact A.pa,by rw[ae (G A.ho λ_ z=>by cases z)];exact A.ho,λe he=>?_,A.ph,A.wl,A.kd,A.md,A.ld}
 .rcases Q6.mp he with he|he
  .rw[ae (G (A.dr e he) λ_ z=>by cases z)];exact A.dr e he
  .rw[Qf.mp he,ae (G I λ_ z=>by cases z)];exact I
 .have M':=A.mx e he;let{Z,Y}:=M'.ob;exact M'.keep (ae<|G Y λ_ z=>by cases z) (ae<|A.wl e he) λb xs e=>by rwa[ae (G e λ_ z=>by cases z)]
noncomputable def M7(pa:List Pk)(k:Int)(y:MT):List Pk:=pa.map λe=>if e.k=k then{e with es:=e.es++ [y]}else e
def vn{f:Pk->β}(hf:∀e es,f {e with es:=es}=f e):(M7 pa k y).map f=pa.map f:=by
 unfold M7;rw[QL];refine Zj λe _=>?_;show f (if e.k=k then _ else e)=_;split
 .exact hf _ _
 .rfl
set_option tactic.hygienic true in
def wP{e:Pk}(h:e∈M7 pa k y):∃g∈pa,e.k=g.k/\e.m=g.m/\e.l=g.l/\((g.k=k/\e.es=g.es++ [y])\/(g.k≠k/\e.es=g.es)):=by
 let{g,z,rfl}:=Qk.mp h;refine{g,z,?_};split
 .rename_i c;exact{M,M,M,.inl ⟨c,M⟩}
 .rename_i c;exact{M,M,M,.inr ⟨c,M⟩}
def Iu(hb:Ow a w p h (M7 pa k y) b):Ow a w p h pa b:=by
 rcases hb with z|z|z|z|⟨e,he,z⟩
 .exact .inl z
 .exact .inr<|.inl z
 .exact .inr<|.inr (.inl z)
 .exact .inr<|.inr (.inr<|.inl z)
 .let{g,G,_,e2,I,_}:=wP he;rw[e2,I]at z;exact .inr<|.inr (.inr<|.inr ⟨g,G,z⟩)
def LS.noted(A:LS t H a s l w p h x){e:Pk}(he:e∈x.pa)(Z:e.k=k)(M':MM t H' e.m e.l (e.es++ [y]))(kp:∀b o,b≠e.l->H b=some o->H' b=some o):LS t H' a s l w p h {x with pa:=M7 x.pa k y}:=by
 let{dy,ho}:=A.ob;have hl:=(A.mx e he).li;have G:∀{b:G'}{o:HO},H b=some o->(∀ys,o≠ .lst ys)->H' b=some o:=λe i=>kp _ _ (λz=>by
  rw[z,hl]at e;exact i _ (VG e).symm) e
 refine{{dy,G ho<|λ_ z=>by cases z},kp _ _ (A.wl e he).symm A.wr,λe he=>G (A.dr e he) (λ_ z=>by cases z),?_,G A.ho (λ_ z=>by cases z),λf hf=>?_,A.ph,λf hf=>?_,?_,?_,?_}
 .show H' p=some (.dK<|aN<|Lq<|M7 x.pa k y);unfold Lq;rw[vn λ_ _=>rfl];exact G A.pa λ_ z=>by cases z
 .obtain⟨g,I,e1,e2,O,⟨c,Y⟩|⟨c,Y⟩⟩:=wP hf
  .have:g=e:=DB A.kd I he (c.trans Z.symm);subst this;rw[e2,O,Y];exact M'
  .have U:=A.mx g I;let{dm,hm}:=U.ob;rw[e2,O,Y];exact U.keep ((G hm λ_ z=>by cases z).trans hm.symm) ((kp _ _ (λz=>c<|by rwa[DB A.ld I he z]) U.li).trans U.li.symm) λb xs e=>G e λ_ z=>by cases z
 .let{g,I,_,_,O,_}:=wP hf;rw[O];exact A.wl g I
 .show((M7 x.pa k y).map (·.k)).Nodup;rw[vn λ_ _=>rfl];exact A.kd
 .show((M7 x.pa k y).map (·.m)).Nodup;rw[vn λ_ _=>rfl];exact A.md
 .show((M7 x.pa k y).map (·.l)).Nodup;rw[vn λ_ _=>rfl];exact A.ld
def Az(pa:List Pk)(k:Int):(aP (Lq pa) k=none/\k∉pa.map (·.k))\/∃e∈pa,e.k=k/\aP (Lq pa) k=some (.ref e.m)/\dX pa k=e.es:=by
 induction pa with
 |nil=>exact .inl {nN,λz=>by cases z}
 |cons e r O=>
  show(aP ((e.k,V.ref e.m)::Lq r) k=none/\_)\/∃g∈e::r,g.k=k/\aP ((e.k,V.ref e.m)::Lq r) k=_/\(if e.k=k then e.es else dX r k)=_;by_cases c:e.k=k
  .exact .inr {e,Q7,c,bg c,VA c}
  .rw[bh c,Vz c];rcases O with⟨G,I⟩|⟨g,U,G,I,Y⟩
   .refine .inl {G,λz=>?_};rw[Qt]at z;rcases Qc.mp z with z|z
    .exact c z.symm
    .exact I z
   .exact .inr {g,Q8 _ U,G,I,Y}
theorem vv:∀{pa:List Pk},k∉pa.map (·.k)->dX pa k=[]
 | [],_=>rfl
 |e::r,n=>by
  rw[Qt]at n;show(if e.k=k then e.es else dX r k)=[];rw[Vz λz=>n (by rw[z];exact Q7)];exact vv λz=>n (Q8 _ z)
theorem oe{j:Int}:∀{pa:List Pk},k∈pa.map (·.k)->dX (M7 pa k y) j=if j=k then dX pa k++ [y]else dX pa j
 |e::r,n=>by
  show(if(if e.k=k then{e with es:=e.es++ [y]}else e:Pk).k=j then(if e.k=k then{e with es:=e.es++ [y]}else e:Pk).es else dX (M7 r k y) j)=if j=k then(if e.k=k then e.es else dX r k)++ [y]else(if e.k=j then e.es else dX r j)
  by_cases c:e.k=k
  .rw[VA c,VA c];show(if e.k=j then e.es++ [y]else dX (M7 r k y) j)=_;by_cases d:j=k
   .rw[VA d,VA (c.trans d.symm)]
   .rw[Vz d,Vz λz=>d (z.symm.trans c),Vz λz=>d (z.symm.trans c)];by_cases m:k∈r.map (·.k)
    .rw[oe m,Vz d]
    .have:M7 r k y=r:=by
      unfold M7
      conv=>rhs;rw[<-Vl r]
      refine Zj λg G=>Vz λz=>m ?_;rw[<-z];exact Qk.mpr ⟨g,G,M⟩
     rw[this]
  .rw[Vz c,Vz c];have m:k∈r.map (·.k):=by
    rw[Qt]at n;rcases Qc.mp n with z|z
    .exact VE z.symm c
    .exact z
   rw[oe m];by_cases d:j=k
   .rw[VA d,VA d,Vz λz=>c (z.trans d)]
   .rw[Vz d,Vz d]
theorem sR{e:Pk}{j:Int}:∀{pa:List Pk},e.k∉pa.map (·.k)->dX (pa++ [e]) j=if j=e.k then e.es else dX pa j
 | [],_=>by
  show(if e.k=j then e.es else[])=if j=e.k then e.es else[]
  by_cases c:e.k=j
  .rw[VA c,VA c.symm]
  .rw[Vz c,Vz (Ne.symm c)]
 |g::r,n=>by
  rw[Qt]at n;show(if g.k=j then g.es else dX (r++ [e]) j)=if j=e.k then e.es else(if g.k=j then g.es else dX r j)
  rw[sR λz=>n (Q8 _ z)];by_cases c:g.k=j
  .rw[VA c,VA c,Vz λz=>n (by rw[<-z,<-c];exact Q7)]
  .rw[Vz c,Vz c]
def LS.newk(A:LS t H a s l w p h x){m g:G'}(nk:k∉x.pa.map (·.k))(M':MM t H m g [])(n1:¬Ow a w p h x.pa m)(U:¬Ow a w p h x.pa g):LS t (upd H p<|.dK<|aN<|Lq x.pa++ [(k,.ref m)]) a s l w p h {x with pa:=x.pa++ [⟨k,m,g,[]⟩]}:=by
 let{dy,Y}:=A.ob;have G:∀{b:G'}{o:HO},H b=some o->(∀ys,o≠ .dK ys)->b≠p:=λe i z=>by
  rw[z,A.pa]at e;exact i _ (VG e).symm
 have kp:∀{m' Z:G'}{es:List MT}{o:HO},MM t H m' Z es->MM t (upd H p o) m' Z es:=λM'=>by
  let{dm,hm}:=M'.ob;exact M'.keep (ae<|G hm λ_ z=>by cases z) (ae<|G M'.li λ_ z=>by cases z) λb xs e=>by rwa[ae (G e λ_ z=>by cases z)]
 refine{{dy,by rwa[ae (G Y λ_ z=>by cases z)]},by rw[ae (G A.wr λ_ z=>by cases z)];exact A.wr,λe he=>by rw[ae (G (A.dr e he) λ_ z=>by cases z)];exact A.dr e he,?_,by rw[ae A.ph.symm];exact A.ho,λe he=>?_,A.ph,λe he=>?_,?_,?_,?_}
 .rw[ag];show _=some (HO.dK<|aN<|Lq<|x.pa++ [{k,m,g,[]}]);unfold Lq;rw[Qb];rfl
 .rcases Q6.mp he with he|he
  .exact kp<|A.mx e he
  .rw[Qf.mp he];exact kp M'
 .rcases Q6.mp he with he|he
  .exact A.wl e he
  .rw[Qf.mp he];exact λz=>U (.inr<|.inl z)
 all_goals
  rw[Qb];refine V8.mpr {?_,by simp,λu hu v I z=>?_}
 .exact A.kd
 .cases Qf.mp I;rw[z]at hu;exact nk hu
 .exact A.md
 .cases Qf.mp I;let{e,he,O}:=Qk.mp hu;exact n1<|.inr (.inr<|.inr<|.inr {e,he,.inl<|z.symm.trans O.symm})
 .exact A.ld
 .cases Qf.mp I;let{e,he,O}:=Qk.mp hu;exact U<|.inr (.inr<|.inr<|.inr {e,he,.inr<|z.symm.trans O.symm})
end
structure KW(pa pa':List Pk)(k:Int)(y:MT):Prop where
 of:∀j,dX pa' j=if j=k then dX pa k++ [y]else dX pa j
 ky:pa'.map (·.k)=if k∈pa.map (·.k)then pa.map (·.k)else pa.map (·.k)++ [k]
structure Lr(K:Wi)(t:KF)(H:Hp)(a s l w p h:G')(Fs Fl:Mw)(x:L3):Prop where
 o:LS t H a s l w p h x
 sl:Ku K t H s Fs x.st
 lv:LV K t H l Fl x.ks
 a1:∀b,Fs b->¬Fl b
 a2:∀b,Ow a w p h x.pa b->¬Fs b
 a3:∀b,Ow a w p h x.pa b->¬Fl b
def Lz(a w p h:G')(Fs Fl:Mw)(pa:List Pk):Addr->Prop:=λb=>Fs b\/Fl b\/Ow a w p h pa b
section
variable{s w h:G'}{Fs Fs' Fl Fl':Mw}{x:L3}
def Lr.slots(Wh:Lr K t H a s l w p h Fs Fl x)(S:Ku K t H' s Fs' st)(f:Fr Fs Fs' H H'):Lr K t H' a s l w p h Fs' Fl {x with st:=st}/\Fr (Lz a w p h Fs Fl x.pa) (Lz a w p h Fs' Fl x.pa) H H':=by
 have k1:∀b,Fl b->H' b=H b/\¬Fs' b:=λb hb=>by
  let{o,e}:=Wh.lv.dom hb;have:=f b o (λz=>Wh.a1 b z hb) e;exact{this.1.trans e.symm,this.2}
 have k2:∀b,Ow a w p h x.pa b->H' b=H b/\¬Fs' b:=λb hb=>by
  let{o,e,_}:=Wh.o.dom hb;have:=f b o (Wh.a2 b hb) e;exact{this.1.trans e.symm,this.2}
 have O:=Wh.o.keep (H':=H') (λb hb=>(k2 b hb).1) λb xs e=>(f b _ (Wh.sl.notup e) e).1;exact{{⟨O.ob,O.wr,O.dr,O.pa,O.ho,O.mx,O.ph,O.wl,O.kd,O.md,O.ld⟩,S,Wh.lv.frame λb hb=>(k1 b hb).1,λb h1 h2=>(k1 b h2).2 h1,λb hb=>(k2 b hb).2,Wh.a3},λb o n e=>{(f b o (λz=>n<|.inl z) e).1,λz=>z.elim (f b o (λz=>n<|.inl z) e).2 λz=>n<|.inr z}}
def Lr.leaves(Wh:Lr K t H a s l w p h Fs Fl x)(S:LV K t H' l Fl' ks)(f:Fr Fl Fl' H H'):Lr K t H' a s l w p h Fs Fl' {x with ks:=ks}/\Fr (Lz a w p h Fs Fl x.pa) (Lz a w p h Fs Fl' x.pa) H H':=by
 have k1:∀b,Fs b->H' b=H b/\¬Fl' b:=λb hb=>by
  let{o,e}:=Wh.sl.dom hb;have:=f b o (Wh.a1 b hb) e;exact{this.1.trans e.symm,this.2}
 have k2:∀b,Ow a w p h x.pa b->H' b=H b/\¬Fl' b:=λb hb=>by
  let{o,e,_}:=Wh.o.dom hb;have:=f b o (Wh.a3 b hb) e;exact{this.1.trans e.symm,this.2}
 have O:=Wh.o.keep (H':=H') (λb hb=>(k2 b hb).1) λb xs e=>(f b _ (Wh.lv.notup e) e).1;exact{{⟨O.ob,O.wr,O.dr,O.pa,O.ho,O.mx,O.ph,O.wl,O.kd,O.md,O.ld⟩,Wh.sl.frame λb hb=>(k1 b hb).1,S,λb h1=>(k1 b h1).2,Wh.a2,λb hb=>(k2 b hb).2},λb o n e=>{(f b o (λz=>n<|.inr<|.inl z) e).1,λz=>z.elim (λz=>n<|.inl z) λz=>z.elim (f b o (λz=>n<|.inr<|.inl z) e).2 λz=>n<|.inr (.inr z)}}
def Lr.own(Wh:Lr K t H a s l w p h Fs Fl x)(O:LS t H' a s l w p h x')(G:x'.st=x.st)(e2:x'.ks=x.ks)(f:Fr (Ow a w p h x.pa) (Ow a w p h x'.pa) H H'):Lr K t H' a s l w p h Fs Fl x'/\Fr (Lz a w p h Fs Fl x.pa) (Lz a w p h Fs Fl x'.pa) H H':=by
 have k1:∀b,Fs b->H' b=H b/\¬Ow a w p h x'.pa b:=λb hb=>by
  let{o,e}:=Wh.sl.dom hb;have:=f b o (λz=>Wh.a2 b z hb) e;exact{this.1.trans e.symm,this.2}
 have k2:∀b,Fl b->H' b=H b/\¬Ow a w p h x'.pa b:=λb hb=>by
  let{o,e}:=Wh.lv.dom hb;have:=f b o (λz=>Wh.a3 b z hb) e;exact{this.1.trans e.symm,this.2}
 exact{{O,by rw[G];exact Wh.sl.frame λb hb=>(k1 b hb).1,by rw[e2];exact Wh.lv.frame λb hb=>(k2 b hb).1,Wh.a1,λb h1 h2=>(k1 b h2).2 h1,λb h1 h2=>(k2 b h2).2 h1},λb o n e=>{(f b o (λz=>n<|.inr<|.inr z) e).1,λz=>z.elim (λz=>n<|.inl z) λz=>z.elim (λz=>n<|.inr<|.inl z) (f b o (λz=>n<|.inr<|.inr z) e).2}}
def Lr.dom(Wh:Lr K t H a s l w p h Fs Fl x)(hb:Lz a w p h Fs Fl x.pa b):∃o,H b=some o/\∀ys,o≠ .tup ys:=by
 have G:∀F:Addr->Prop,F b->(∀xs,H b=some (.tup xs)->¬F b)->∀o,H b=some o->∃o,H b=some o/\∀ys,o≠ .tup ys:=λF I n o e=>{o,e,λys z=>n ys (by rw[e,z]) I};rcases hb with hb|hb|hb
 .let{o,e}:=Wh.sl.dom hb;exact G Fs hb (λxs e=>Wh.sl.notup e) o e
 .let{o,e}:=Wh.lv.dom hb;exact G Fl hb (λxs e=>Wh.lv.notup e) o e
 .exact Wh.o.dom hb
def Lr.keep(Wh:Lr K t H a s l w p h Fs Fl x)(g:∀b,Lz a w p h Fs Fl x.pa b->H' b=H b)(z:∀b xs,H b=some (.tup xs)->H' b=some (.tup xs)):Lr K t H' a s l w p h Fs Fl x:=
 {Wh.o.keep (λb hb=>g b<|.inr<|.inr hb) z,Wh.sl.frame λb hb=>g b<|.inl hb,Wh.lv.frame λb hb=>g b<|.inr<|.inl hb,Wh.a1,Wh.a2,Wh.a3}
end
structure KN(x:L3):Prop where
 ks:∀z,z∈x.ks↔(aP x.st.kv z).isSome=true
 n0:0<=x.now
 m0:0<=x.ma
 dl:(x.di.length:Int)=x.now+x.ma
 pl:(x.pa.length:Int)<=x.now
 el:∀j,((dX x.pa j).length:Int)<=x.now
 sl:(x.st.kv.length:Int)<=x.now
 hn:(x.ho.map (·.1)).Nodup
 hv:∀p∈x.ho,x.fl<=p.1/\p.1<=x.now/\∃n:Int,p.2= .int n/\0<n
 fb:0<=x.fl/\x.fl<=x.now
 up:∀j,(dX x.pa j).Pairwise (λa b=>a.mo<b.mo)/\∀y∈dX x.pa j,y.mo<=x.now
def Kv(K:Wi)(t:KF)(H:Hp)(a:G')(F:Mw)(x:L3):Prop:=∃s l w p h Fs Fl,Lr K t H a s l w p h Fs Fl x/\KN x/\∀b,F b↔Lz a w p h Fs Fl x.pa b
section
variable{x:L3}
def Kv.ins(A:Kv K t H a F x):∃dx fs,H a=some (.ins t.a8 dx fs)/\(∀m,NoH m->fs.lookup m=none)/\fs.lookup ("now":Str)=some (.int x.now)/\fs.lookup ("floor":Str)=some (.int x.fl):=by
 let{s,l,w,p,h,Fs,Fl,Wh,_}:=A;let{dx,e}:=Wh.o.ob;exact{dx,_,e,λm z=>Ho z,qS,IY}
def Kv.ok(A:Kv K t H a F x):KN x:=by
 let{s,l,w,p,h,Fs,Fl,Wh,O,_}:=A;exact O
def Kv.dom(A:Kv K t H a F x)(hb:F b):∃o,H b=some o/\∀ys,o≠ .tup ys:=by
 let{s,l,w,p,h,Fs,Fl,Wh,_,g}:=A;exact Wh.dom<|(g b).mp hb
def Kv.out(A:Kv K t H a F x)(e:H b=none):¬F b:=λz=>by
 let{o,q,_}:=A.dom z;rw[q]at e;cases e
def Kv.keep(A:Kv K t H a F x)(g:∀b,F b->H' b=H b)(z:∀b xs,H b=some (.tup xs)->H' b=some (.tup xs)):Kv K t H' a F x:=by
 let{s,l,w,p,h,Fs,Fl,Wh,O,f}:=A;exact{s,l,w,p,h,Fs,Fl,Wh.keep (λb hb=>g b<|(f b).mpr hb) z,O,f}
def Kv.same(A:Kv K t H a F x)(m:Cp H H'):Kv K t H' a F x:=A.keep (λb hb=>by
 let{o,e,_}:=A.dom hb;rw[e];exact m _ _ e) λb xs e=>m _ _ e
def Kv.upd(A:Kv K t H a F x)(n:¬F q)(G:∀xs,H q≠some (.tup xs)):Kv K t (L2.upd H q o) a F x:=A.keep (λb hb=>ae λz=>n<|z▸hb) λb xs e=>by rwa[ae λz=>G xs (by rw[<-z];exact e)]
end
def rJ(t:KF):Sp:=λvs H Q _=>∃(a s l w p h r:G')(k:Int)(x:L3)(v:V)(xs:K'),vs=[.ref a,.ref r,v]/\LS t H a s l w p h x/\H r=some (.tup xs)/\Lv xs 1=some (.int k)/\x.di.length<50000/\x.pa.length<50000/\(dX x.pa k).length<50000/\
 ∀(H':Hp)(pa':List Pk)(q:G'),LS t H' a s l w p h {x with now:=x.now+1,di:=x.di++ [(r,xs)],pa:=pa'}->KW x.pa pa' k {q,x.now+1,v}->Fr (Ow a w p h x.pa) (Ow a w p h pa') H H'->Q (.int<|x.now+1) H'
def sM:AZ P w K mg base KI 3 t.mF t.iB [cC,"row",kj] (rJ t):=by
 refine T.Ff.okl rZ λs H vs Q E hr h _=>?_;intro X;let{a,s,l,wr,p,h,r,k,x,v,xs,rfl,A,ht,hk,l1,l2,l3,q}:=h;refine ah (KB 3<|aY fk K3 ak<|λ_ _=>M)
   (ah (pE Dm ak zQ)
   (ah (bf<|eU QD Zd Ze eh (aC Dm M)<|aa K3 af)
   (ah (bf<|a9 (eU Xr Vo PySem.F.type_dict_setdefault BN (aC Dm M)<|aa KY<|aa (fW T.J4 (sI T) hr.mo {_} T.J8 T.EW .nil aA) af) T.yJ T.EM (sH T) hr.mo T.EV .nil aA<|aa (aC Dm M)<|aa K9 af)
   (aD (aw<|aC Dm M) ?_))))
 intros
 let{dx,ho}:=A.ob;refine{_,M,r,_,_,_,M,M,LB.of ht,hk,?_};refine{_,M,a,_,dx,_,_,M,ho,T.aX,T.jr,qS,_,_,M,M,dx,_,ho,Gp,?_};rw[FK];have A1:=A.set (now:=x.now+1) (mk:=x.ma) (fl:=x.fl) (dx:=dx);have o1:∀b o,b≠a->H b=some o->upd H a (.ins t.a8 dx<|Lk (x.now+1) x.fl s l wr x.ma p h) b=some o:=λb o n e=>by rwa[ae n]
 have ra:r≠a:=λz=>by rw[z,ho]at ht;cases ht
 have O:=o1 _ _ ra ht;generalize upd H a (.ins t.a8 dx<|Lk (x.now+1) x.fl s l wr x.ma p h)=H1 at A1 o1 O⊢;let{a3,a0}:=A1.ob;refine{_,M,a,_,a3,_,_,M,a0,T.aX,T.pL,IV,.inl {M,_,Do.of A1.wr},_,M,wr,_,_,M,M,A1.wr,bi (by rw[Q0];show x.di.length<=_;lia),?_};have U:=A1.row O;have o2:∀b o,¬Ow a wr p h x.pa b->H b=some o->upd H1 wr (.lst<|x.di.map (λe=>V.ref e.1)++ [.ref r]) b=some o:=λb o n e=>by rw[ae λz=>n (.inr<|.inl z)];exact o1 _ _ (λz=>n<|.inl z) e
 generalize upd H1 wr (.lst<|x.di.map (λe=>V.ref e.1)++ [.ref r])=H2 at U o2⊢;let{a4,a1}:=U.ob;refine{_,M,a,_,a4,_,_,M,a1,T.aX,T.uG,IW,.inr<|.inr<|.inl {M,.inl {_,U.pa}},_,M,λm dm nm nd a5=>{m,dm,M,ag,λH4 g M4 ng o4=>{M,?_}}};have s3:Cp H2 (upd (upd H2 dm<|.own m) m<|.ins t.eO dm []):=cE (am nd) nm;have s4:Cp H2 H4:=λb o e=>o4 b o (λz=>by rw[z,nm]at e;cases e) (s3 b o e);have Y:=cc s3 ng;have A4:=U.same s4;have om:¬Ow a wr p h x.pa m:=λz=>by let{o,e,_}:=U.dom z;rw[nm]at e;cases e
 have og:¬Ow a wr p h x.pa g:=λz=>by let{o,e,_}:=U.dom z;rw[Y]at e;cases e
 have o5:∀b o,¬Ow a wr p h x.pa b->H b=some o->H4 b=some o/\b≠m/\b≠g:=λb o n e=>{s4 _ _<|o2 b o n e,λz=>(by have:=o2 b o n e;rw[z,nm]at this;cases this),λz=>(by have:=o2 b o n e;rw[z,Y]at this;cases this)};clear s3 s4 o4 o2 o1 A1 U a1 a0 ho A ng nm nd a5 Y O ht;refine{p,_,Sum.inl k,.ref m,M,M,A4.pa,(by rw[cP];exact bi<|by show(Lq x.pa).length<=_;unfold Lq;rw[Q0];lia),λu hu=>?A,λZ=>?Wh}
 case' A=>
  have hu:aP (aN<|Lq x.pa) (Sum.inl k:Key)=some u:=hu;rw[cO]at hu;obtain⟨e,he,I,ev,em⟩:∃e∈x.pa,e.k=k/\aP (Lq x.pa) k=some (.ref e.m)/\dX x.pa k=e.es:=by
   rcases Az x.pa k with⟨z,_⟩|z
   .rw[z]at hu;cases hu
   .exact z
  rw[ev]at hu;cases hu;obtain⟨G,A5,he,N,f5⟩:∃G,LS t H4 a s l wr p h {x with now:=x.now+1,di:=x.di++ [(r,xs)],pa:=G}/\e∈G/\(∀y,KW x.pa (M7 G k y) k y)/\Fr (Ow a wr p h x.pa) (Ow a wr p h G) H H4:=
   {x.pa,A4,he,λy=>{λj=>oe<|Qk.mpr ⟨e,he,I⟩,by rw[vn λ_ _=>M,VA (Qk.mpr ⟨e,he,I⟩)]},λb o n e=>{(o5 b o n e).1,n}}
  have le:e.es.length<50000:=by rwa[<-em]
  clear A4 em ev o5
 case' Wh=>
  have Z:aP (aN<|Lq x.pa) (Sum.inl k:Key)=none:=Z;rw[cO]at Z;have nk:k∉x.pa.map (·.k):=by
   rcases Az x.pa k with⟨_,z⟩|⟨e,_,_,z,_⟩
   .exact z
   .rw[z]at Z;cases Z
  have ep:bj (aN<|Lq x.pa) (Sum.inl k:Key) (.ref m)=aN (Lq x.pa++ [(k,.ref m)]):=by
   rw[iN];unfold bj;rw[cz,Z];rfl
  rw[ep];obtain⟨e,ee,I,le⟩:∃e:Pk,e={k,m,g,[]}/\e.k=k/\e.es.length<50000:={_,M,M,by show 0<50000;decide};obtain⟨G,A5,he,N,f5⟩:∃G,LS t (upd H4 p<|.dK<|aN<|Lq x.pa++ [(k,.ref m)]) a s l wr p h {x with now:=x.now+1,di:=x.di++ [(r,xs)],pa:=G}/\e∈G/\(∀y,KW x.pa (M7 G k y) k y)/\Fr (Ow a wr p h x.pa) (Ow a wr p h G) H (upd H4 p<|.dK<|aN<|Lq x.pa++ [(k,.ref m)]):=by
   refine{x.pa++ [e],ee▸A4.newk nk M4 om og,Qp _ Q7,λy=>{λj=>?_,?_},λb o n eb=>{?_,λz=>?_}}
   .have a2:e.k∉x.pa.map (·.k):=by rwa[I]
    rw[oe (by rw[Qb];exact Qp _<|Qf.mpr I.symm),sR a2,sR a2,VA I.symm,vv nk,ee];by_cases c:j=k
    .rw[VA c,VA c]
    .rw[Vz c,Vz c,Vz c]
   .rw[vn λ_ _=>M,Vz nk,Qb,<-I];rfl
   .rw[ae λz=>n (.inr<|.inr<|.inl z)];exact(o5 b o n eb).1
   .rcases z with z|z|z|z|⟨e',a7,z⟩
    .exact n<|.inl z
    .exact n<|.inr (.inl z)
    .exact n<|.inr (.inr<|.inl z)
    .exact n<|.inr (.inr<|.inr<|.inl z)
    .rcases Q6.mp a7 with y|y
     .exact n<|.inr (.inr<|.inr<|.inr ⟨e',y,z⟩)
     .rw[Qf.mp y,ee]at z;exact z.elim (o5 b o n eb).2.1 (o5 b o n eb).2.2
  have em:V.ref m=V.ref e.m:=by rw[ee]
  clear A4 M4 o5 om og Z nk ep;generalize upd H4 p (.dK<|aN<|Lq x.pa++ [(k,.ref m)])=H5 at A5 f5⊢;rw[em]
 all_goals
  have M5:=A5.mx e he;let{dy,hm}:=M5.ob;let{ac,al}:=A5.ob;refine{e.m,dy,_,M,hm,bH ∅,_,M,a,_,ac,_,_,M,al,T.aX,T.jr,qS,_,M,e.m,e.l,e.es,_,v,M,M5,(),λH6 y M6 ny o6=>?_};have A6:=A5.noted he I M6 o6;let{an,ap}:=A6.ob;refine{_,M,a,_,an,_,_,M,ap,T.aX,T.jr,qS,q _ _ y A6 (N _)<|f5.trans λb o n eb=>{o6 b o (λz=>n<|.inr<|.inr<|.inr<|.inr {e,he,.inr z}) eb,λz=>n<|Iu z}}
def L3.new:L3:={0,0,0,K4.new,[],[],[],[]}
def L3.new_ok:KN L3.new:={λz=>{(λy=>by cases y),(λy=>by cases y)},(_),(_),M,(_),λ_=>by show((0:Nat):Int)<=0;decide,(_),ZB,(λ_ z=>by cases z),(_),λ_=>{VY,(λy z=>by cases z)}}
def kG{f:Str}{nx:Hp->Prop}(k:∀H',H' a=some (.ins C dx<|bR f v fs)->(∀b,b≠a->H' b=H b)->nx H'):nx (upd H a<|.ins C dx<|bR f v fs):=k _ ag λ_ n=>ae n
def ym{n m:Nat}(h:Nat.ble (n+1) m=true):n<m:=Nat.le_of_ble_eq_true h
def rH(K:Wi)(t:KF):Sp:=λvs H Q _=>∃(a dx:G'),vs=[.ref a]/\H a=some (.ins t.a8 dx [])/\∀H' F,Kv K t H' a F L3.new->Fr (λb=>b=a) F H H'->Q .non H'
def sL:AZ P w K mg base KI 4 t.mE t.iA [cC] (rH K t):=by
 refine T.Fe.okl rY λs H vs Q E hr h _=>?_;intro X;let{a,dx,rfl,ha,q}:=h;refine ah (cu Dm ak M)
   (ah (cu Dm ak M)
   (ah (cu Dm (fW T.J3 (sG T) hr.mo {_} T.J7 T.EU .nil aA) M)
   (ah (cu Dm (fW T.Jx (qF T) hr.mo {_} T.Jy T.EB .nil aA) M)
   (ah (cu Dm (de af) M)
   (ah (cu Dm ak M)
   (ah (cu Dm kf M)
   (aD (cu Dm kf M) ?_)))))))
 intros
 refine{_,M,a,_,dx,[],M,ha,T.aX,T.jr,ym (by kernel_rfl),kG λH1 h1 o1=>?_};refine{_,M,a,_,dx,_,M,h1,T.aX,T.DE,ym (by kernel_rfl),kG λH2 h2 o2=>?_};refine λs ds ns I a1=>{s,ds,M,ag,by rw[ae a1];exact ag,λH3 Fs S3 f3=>{M,?_}};have k3:∀b o,H2 b=some o->H3 b=some o/\¬Fs b:=λb o e=>f3 b o (λz=>z.elim (λz=>by rw[z,ns]at e;cases e) λz=>by rw[z,I]at e;cases e) (cE (am I) ns _ _ e);let{h3,na}:=k3 _ _ h2;refine{_,M,a,_,dx,_,M,h3,T.aX,T.dL,ym (by kernel_rfl),kG λH4 h4 o4=>?_};have S4:=S3.frame (H':=H4) λb hb=>o4 b λz=>na (z▸hb);refine λl dl nl U a2=>{l,dl,M,ag,by rw[ae a2];exact ag,λH5 Fl L5 f5=>{M,?_}};have k5:∀b o,H4 b=some o->H5 b=some o/\¬Fl b:=λb o e=>f5 b o (λz=>z.elim (λz=>by rw[z,nl]at e;cases e) λz=>by rw[z,U]at e;cases e) (cE (am U) nl _ _ e);let{h5,nb}:=k5 _ _ h4;refine{_,M,a,_,dx,_,M,h5,T.aX,T.jN,ym (by kernel_rfl),kG λG h6 o6=>?_};have L6:=L5.frame (H':=G) λb hb=>o6 b λz=>nb (z▸hb);have S6:=(S4.same λb o e=>(k5 b o e).1).frame (H':=G) λb hb=>o6 b λz=>na (z▸hb);have ap:∀b,Fs b->¬Fl b:=λb hb=>by
  let{o,e}:=S4.dom hb;exact(k5 b o e).2
 have k6:∀b o,b≠a->H b=some o->G b=some o/\¬Fs b/\¬Fl b:=λb o n e=>by
  let{e3,n3}:=k3 b o (by rwa[o2 b n,o1 b n]);let{e5,n5}:=k5 b o (by rwa[o4 b n]);exact{by rwa[o6 b n],n3,n5}
 clear f3 k3 f5 k5 S4 L5 S3 ns I a1 nl U a2 h1 h2 h3 h4 h5 o1 o2 o4 o6;refine{Qh _,λwr nw=>{_,M,a,_,dx,_,M,am nw _ _ h6,T.aX,T.pL,ym (by kernel_rfl),kG λH7 h7 o7=>?_}};refine{_,M,a,_,dx,_,M,h7,T.aX,T.DD,ym (by kernel_rfl),kG λH8 h8 o8=>?_};refine λp np=>{_,M,a,_,dx,_,M,am np _ _ h8,T.aX,T.uG,ym (by kernel_rfl),kG λH9 h9 o9=>?_};refine λh nh=>{_,M,a,_,dx,_,M,am nh _ _ h9,T.aX,T.BM,ym (by kernel_rfl),kG λa3 a5 a4=>?_};have kk:∀{A Wh:Hp}{q:G'}{u:HO},A q=none->(∀b,b≠a->Wh b=upd A q u b)->∀b o,b≠a->A b=some o->Wh b=some o:=λnq e b o n h=>by rwa[e b n,ae (aj h nq)]
 have wa:=(aj h6 nw).symm;have pa':=(aj h8 np).symm;have Y:=(aj h9 nh).symm;have e8:∀b o,b≠a->G b=some o->H8 b=some o:=λb o n e=>by rw[o8 b n];exact kk nw o7 b o n e
 have e9:=kk np o9;have Z:=kk nh a4;have w8:H8 wr=some (.lst []):=by rw[o8 _ wa,o7 _ wa];exact ag
 have p9:H9 p=some (.dK []):=by rw[o9 _ pa'];exact ag
 have a0:∀b o,b≠a->G b=some o->a3 b=some o:=λb o n e=>Z b o n (e9 b o n<|e8 b o n e);have O:LS t a3 a s l wr p h L3.new:={{dx,a5.trans<|by kernel_rfl},Z _ _ wa<|e9 _ _ wa w8,(λe he=>by cases he),Z _ _ pa' p9,by rw[a4 _ Y];exact ag,(λe he=>by cases he),aj p9 nh,(λe he=>by cases he),ZB,ZB,ZB};have fresh:∀b,(b=wr\/b=p\/b=h)->G b=none:=λb hb=>by
  cases e:G b with
  |none=>rfl
  |some o=>
   rcases hb with rfl|rfl|rfl
   .rw[nw]at e;cases e
   .rw[e8 _ _ pa' e]at np;cases np
   .rw[e9 _ _ Y (e8 _ _ Y e)]at nh;cases nh
 have ow:∀b,Ow a wr p h [] b->b=a\/G b=none:=λb hb=>by
  rcases hb with z|z|z|z|⟨e,he,_⟩
  .exact .inl z
  .exact .inr<|fresh b (.inl z)
  .exact .inr<|fresh b (.inr<|.inl z)
  .exact .inr<|fresh b (.inr<|.inr z)
  .cases he
 refine q _ (Lz a wr p h Fs Fl []) {s,l,wr,p,h,Fs,Fl,{O,S6.frame λb hb=>?_,L6.frame λb hb=>?_,ap,λb hb z=>?_,λb hb z=>?_},L3.new_ok,λ_=>Iff.rfl} λb o n e=>?_
 .let{o,e}:=S6.dom hb;rw[e];exact a0 b o (λz=>na<|z▸hb) e
 .let{o,e}:=L6.dom hb;rw[e];exact a0 b o (λz=>nb<|z▸hb) e
 .rcases ow b hb with y|y
  .exact na<|y▸z
  .exact S6.out y z
 .rcases ow b hb with y|y
  .exact nb<|y▸z
  .exact L6.out y z
 .let{c1,c2,c3}:=k6 b o n e;refine{a0 b o n c1,λz=>?_};rcases z with z|z|z
  .exact c2 z
  .exact c3 z
  .rcases ow b z with y|y
   .exact n y
   .rw[c1]at y;cases y
def Kv.klen{x:L3}(A:Kv K t H a F x):(x.ks.length:Int)<=x.now:=by
 let{s,l,w,p,h,Fs,Fl,Wh,O,_}:=A;let{L,A,ls,_,ok,e,_}:=Wh.lv;have nd:x.ks.Nodup:=by
  rw[<-e];exact List.Pairwise.imp (λh z=>()) ok.up
 have:=gc (S:=x.st.kv.map (·.1)) nd λz hz=>mem_keys.mpr ((O.ks z).mp hz);rw[Q0]at this;have:=O.sl;lia
def KN.noted{x:L3}{y:MT}(O:KN x)(N:KW x.pa pa' k y):(pa'.length:Int)<=x.now+1/\∀j,((dX pa' j).length:Int)<=x.now+1:=by
 constructor
 .have h1:=O.pl;have h2:=VT List.length N.ky;rw[Q0]at h2;split at h2
  .rw[Q0]at h2;lia
  .rw[Qd,Q0,Zr]at h2;lia
 .intro j;rw[N.of];split
  .have:=O.el k;rw[Qd,Zr];lia
  .have:=O.el j;lia
def KN.hv1{x:L3}(O:KN x):∀p∈x.ho,x.fl<=p.1/\p.1<=x.now+1/\∃n:Int,p.2= .int n/\0<n:=λp hp=>{(O.hv p hp).1,by have:=(O.hv p hp).2.1;lia,(O.hv p hp).2.2}
def KN.fb1{x:L3}(O:KN x):0<=x.fl/\x.fl<=x.now+1:={O.fb.1,by have:=O.fb.2;lia}
def KN.up1{x:L3}{y:MT}(O:KN x)(N:KW x.pa pa' k y)(e:y.mo=x.now+1):∀j,(dX pa' j).Pairwise (λa b=>a.mo<b.mo)/\∀z∈dX pa' j,z.mo<=x.now+1:=λj=>by
 rw[N.of];let{I,G}:=O.up k;split
 .refine{Qi.mpr {I,Z6 _ _,λa ha b hb=>?_},λz hz=>?_}
  .rw[Qf.mp hb,e];have:=G a ha;lia
  .rcases Q6.mp hz with hz|hz
   .have:=G z hz;lia
   .rw[Qf.mp hz,e];exact ZY _
 .let{U,Y}:=O.up j;exact{U,λz hz=>by have:=Y z hz;lia}
def uf(K:Wi)(t:KF):Sp:=λvs H Q _=>∃(a:G')(k i:Int)(F:Mw)(x:L3),vs=[.ref a,.int k,.int i]/\Kv K t H a F x/\0<=k/\x.now+x.ma<4000/\
 ∀(H':Hp)(F':Mw)(ks':Mu)(r q:G')(pa':List Pk),Kv K t H' a F' {x with now:=x.now+1,st:=x.st.put k (.int i),ks:=ks',di:=x.di++ [(r,[.str "put",.int k,.int i])],pa:=pa'}->KW x.pa pa' k {q,x.now+1,.int i}->Fr F F' H H'->Q (.int<|x.now+1) H'
set_option tactic.hygienic true in
def uC:AZ P w K mg base KI 5 t.oP t.jH [cC,eN,kj] (uf K t):=by
 refine T.GP.okl ut λs H vs Q E hr h _=>?_;intro X;let{a,k,i,F,x,rfl,A,k0,l1,q}:=h;refine ah (aT (jj<|bF<|a9 (aC Dm M) T.ay T.Gc (uA T) hr.mo T.GD .nil aA<|aa K3 af)
    (aq<|bf<|a9 (aC Dm M) T.aO T.EO (sK T) hr.mo T.EY .nil aA<|aa K3 af)
    aE)
   (ah (bf<|a9 (aC Dm M) T.ay T.Gb (uz T) hr.mo T.GC .nil aA<|aa K3<|aa K9 af)
   (aD (aw<|a9 Dm T.aX T.EQ (sM T) hr.mo T.E1 .nil aA<|@aH _ _ _ _ _ (db<|@aH _ _ _ _ _ bu (@aH _ _ _ _ _ K3 (@aH _ _ _ _ _ K9 af M) M) M) (aa K9 af) M) ?_))
 intros
 have kl:=A.klen;let{s,l,wr,p,h,Fs,Fl,Wh,O,g}:=A;have n0:=O.n0;have m0:=O.m0;have sl:=O.sl;let{dx,ho}:=Wh.o.ob;let{ds,fs,hs,hm}:=Wh.sl.ins
 (try dsimp only)
 refine Ar (λB H2=>∃(U G:Mw)(I:Mu),B=[some (.ref a),some (.int k),some (.int i)]/\Lr K t H2 a s l wr p h U G {x with ks:=I}/\(∀z,z∈I↔z=k\/z∈x.ks)/\Fr (Lz a wr p h Fs Fl x.pa) (Lz a wr p h U G x.pa) H H2) (λnx go=>?_)<|λB H2 w=>?_
 .refine{_,M,a,_,dx,_,_,M,ho,T.aX,T.dL,w9,s,ds,fs,M,hs,hm _ ∅,_,M,s,k,Fs,x.st,M,Wh.sl,k0,λH1 a0 S1 f1=>?_};let{B1,g1}:=Wh.slots S1 f1;let{a1,a2}:=B1.o.ob;let{dl,fl,hl,a3}:=B1.lv.ins;cases ev:(aP x.st.kv k).isSome with
  |true=>
   refine{_,M,dY (λc=>?_)<|λ_=>?_}
   .cases c
   .exact go _ _ {a0,Fl,x.ks,M,B1,λz=>{.inr,λy=>y.elim (λy=>by rw[y];exact(O.ks k).mpr ev) id},g1}
  |false=>
   have nk:k∉x.ks:=λz=>by have:=(O.ks k).mp z;rw[ev]at this;cases this
   refine{_,M,dY (λ_=>?_)<|λc=>?_}
   .refine{_,M,a,_,a1,_,_,M,a2,T.aX,T.jN,D6,l,dl,fl,M,hl,a3 _ ∅,_,M,l,k,Fl,x.ks,M,B1.lv,(),λ_ H2 G I L2 mem f2=>?_,λz=>VE z nk};let{Z,g2}:=B1.leaves L2 f2;exact go _ _ {a0,G,I,M,Z,mem,g1.trans g2}
   .exact VE M c
 .let{U,G,I,rfl,Z,mem,g2}:=w;let{a4,a5}:=Z.o.ob;let{a7,a8,ac,al}:=Z.sl.ins;refine{_,M,a,_,a4,_,_,M,a5,T.aX,T.dL,w9,s,a7,a8,M,ac,al _ ∅,_,M,_,M,s,k,i,U,x.st,M,Z.sl,k0,(),λH3 Y S3 f3=>?_};let{B3,g3}:=Z.slots S3 f3;let{an,ap}:=B3.o.ob;refine{_,M,a,an,_,M,ap,Ho ∅,_,M,_,M,(by show 3<=sizeLine;decide),λr nr=>?_};have s4:=am (o:= .tup [.str "put",.int k,.int i]) nr;have ht:upd H3 r (.tup [.str "put",.int k,.int i]) r=some (.tup [.str "put",.int k,.int i]):=ag;have B4:Lr K t (upd H3 r<|.tup [.str "put",.int k,.int i]) a s l wr p h Y G _:=B3.keep (λb hb=>by
   let{o,e,_}:=B3.dom hb;rw[e];exact s4 _ _ e) λb xs e=>s4 _ _ e
  have g4:=(g2.trans g3).trans (Fr.of_same s4);generalize upd H3 r (.tup [.str "put",.int k,.int i])=H4 at B4 ht g4⊢;have dl:=O.dl;have pl:=O.pl;have el:=O.el k;refine{_,M,a,s,l,wr,p,h,r,k,_,.int i,_,M,B4.o,ht,M,by show x.di.length<50000;lia,by show x.pa.length<50000;lia,by show(dX x.pa k).length<50000;lia,λH5 pa' y O5 N f5=>?_};let{B5,g5}:=B4.own O5 M M f5;let{N1,N2}:=O.noted N;have ek:(x.st.put k<|.int i).kv=bj x.st.kv k (.int i):=K4.three_kv;refine q H5 (Lz a wr p h Y G pa') I r y pa' {s,l,wr,p,h,Y,G,B5,{λz=>?_,by show 0<=x.now+1;lia,m0,?_,N1,N2,?_,O.hn,O.hv1,O.fb1,O.up1 N M},λ_=>Iff.rfl} N ?_
  .show z∈I↔(aP (x.st.put k<|.int i).kv z).isSome=true;rw[mem,ek,<-mem_keys,oj,O.ks];split
   .rename_i c
    rw[mem_keys];exact{λy=>y.elim (λy=>y▸c) id,.inr}
   .rw[Q6,Qf,mem_keys];exact{λy=>y.elim .inr .inl,λy=>y.elim .inr .inl}
  .show((x.di++ [(r,_)]).length:Int)=x.now+1+x.ma;rw[Qd,Zr];lia
  .show((x.st.put k<|.int i).kv.length:Int)<=x.now+1;rw[ek];have:=cG x.st.kv k (.int i);lia
  .exact λb o n e=>(g4.trans g5) b o (λz=>n<|(g b).mpr z) e
def MH(t:KF)(H:Hp)(p:G')(up:Bool)(a e:V):Prop:=∃dx fs,H p=some (.ins (if up=true then t.cQ else t.bI) dx fs)/\uW (if up=true then "up" else "down") fs a e/\if up=true then Lm a e else Li a e
def qg(up:Bool)(a:V)(ks:Mu):List Int:=match up,a with
 |true,.int i=>ks.filter λz=>decide (i<=z)
 |false,.int i=>ks.reverse.filter (dB<|some i)
 |_,_=>ks.reverse.filter (dB none)
def wc(K:Wi)(t:KF):Sp:=λvs H Q _=>∃(l p:G')(n:Int)(up:Bool)(a e:V)(F:Mw)(ks:Mu),vs=[.ref l,.ref p,.int n]/\LV K t H l F ks/\MH t H p up a e/\ks.length<4096/\0<=n/\
 ∀(H':Hp)(r:G'),Cp H H'->H r=none->H' r=some (.lst<|((qg up a ks).take n.toNat).map V.int)->Q (.ref r) H'
def wS:AZ P w K mg base KI 3 t.qk t.kH [ge,gp,ms] (wc K t):=by
 refine T.yS.okl ww λs H vs Q E G h _=>?_;intro X;let{l,p,n,up,a,e,F,ks,rfl,L,U,l1,z,q}:=h;refine eX (λx=>aT (bF<|ar (dU K M) {_} T.bN bn (aa K3<|aa (bK (v:= .ref t.cQ) {_} T.yf M) af)) x aE) ?_;refine aD (aw<|a9 Dm T.aO T.AH (mZ T) G.mo T.Ba .nil aA<|aa (aC K3 M)<|aa K9 af) ?_
 intros
 refine aD (aw<|a9 Dm T.aO T.yX (kA T) G.mo T.yZ .nil aA<|aa (aC K3 M)<|aa K9 af) ?_
 intros
 let{dx,fs,hp,I,ok}:=U;let{dl,fl,hl,O}:=L.ins;cases up with
 |true=>
  have hp:H p=some (.ins t.cQ dx fs):=hp;let{i,rfl,i0,_}:=(show Lm a e from ok);exact{_,M,_,_,_,_,M,KD.ins hp T.dS T.dC.1 T.dC.2 T.dC.3 T.dC.4,T.yr,_,M,b9 {_,M,l,dl,fl,M,hl,O _ ∅,_,M,p,_,dx,fs,_,M,hp,T.dS,T.n8,I.at_,_,M,l,i,n,F,ks,M,L,l1,z,q}}
 |false=>
  have hp:H p=some (.ins t.bI dx fs):=hp;let{j,rfl,Y,ha}:=(show Li a e from ok);refine{_,M,_,_,_,_,M,KD.ins hp T.bC T.bx.1 T.bx.2 T.bx.3 T.bx.4,T.sV,_,M,bT {_,M,l,dl,fl,M,hl,O _ ∅,_,M,p,_,dx,fs,_,M,hp,T.bC,T.gd,I.at_,_,M,?_}};rcases ha with rfl|⟨i,rfl,_⟩
  .exact⟨l,none,n,F,ks,M,L,l1,z,q⟩
  .exact{l,some i,n,F,ks,M,L,l1,z,q}
def qt(t:KF):Sp:=λvs H Q _=>∃(p:G')(up:Bool)(a e:V)(k:Int),vs=[.ref p,.int k]/\MH t H p up a e/\(if up=true then Lm (.int<|k+1) e else Li (.int<|k-1) e)/\
 ∀(H':Hp)(r:G'),Cp H H'->H r=none->MH t H' r up (.int<|if up=true then k+1 else k-1) e->Q (.ref r) H'
def qA:AZ P w K mg base (LX P w) 5 t.kT t.gh [gp,eN] (qt t):=by
 have a1:=L4.nd;refine T.tS.okX L4 (λvs H Q E h=>?_)<|λa2 A outer s H vs Q E hr h=>?_
 .let{p,up,a,e,k,rfl,_}:=h;rfl
 .let{p,up,a,e,k,rfl,TK,G,q}:=h;refine eX (λx=>aT (bF<|ar (dU K M) {_} T.bN bn (aa Dm<|aa (bK (v:= .ref t.cQ) {_} T.yf M) af)) x aE) ?_;refine aD (aw<|lC T.Hh (kr T) hr.mo {_} T.yf T.zZ .nil jM (aa (aF bY K3 ak)<|aa (aC Dm M) af)) ?_
  intros
  refine aD (aw<|lC T.AD (g9 T) hr.mo {_} T.AE T.xk .nil jM (aa (aF su K3 ak)<|aa (aC Dm M) af)) ?_
  intros
  let{dx,fs,hp,tf,ok}:=TK;have kp:∀{H1 H':Hp}{r:G'},Cp H H1->H r=none->LW r H1 H'->Cp H H':=λs n k b o e=>k b o (s b o e) λz=>by rw[z,n]at e;cases e
  cases up with
  |true=>
   have hp:H p=some (.ins t.cQ dx fs):=hp;have G:Lm (.int<|k+1) e:=G;have Z:Sc e:=by
    obtain⟨_,_,_,he|⟨j,he,_⟩⟩:=G
    .rw[he];exact VU
    .rw[he];exact T0 _
   refine{_,M,_,_,_,_,M,KD.ins hp T.dS T.dC.1 T.dC.2 T.dC.3 T.dC.4,T.yr,_,M,b9 {_,M,_,_,M,M,_,M,p,_,dx,fs,_,M,hp,T.dS,T.iI,tf.end_,λr Y I nd a0=>{r,Y,_,_,M,ag,T0 _,Z,λ_ H' fs' O h' U=>{M,?_},λz=>VE G z}}};exact q H' r (kp (cE (am nd) I) I O) I ⟨Y,fs',h',U,G⟩
  |false=>
   have hp:H p=some (.ins t.bI dx fs):=hp;have G:Li (.int<|k-1) e:=G;have Z:Sc e:=by
    let{_,he,_}:=G;rw[he];exact T0 _
   refine{_,M,_,_,_,_,M,KD.ins hp T.bC T.bx.1 T.bx.2 T.bx.3 T.bx.4,T.sV,_,M,bT {_,M,_,_,M,M,_,M,p,_,dx,fs,_,M,hp,T.bC,T.gJ,tf.end_,λr Y I nd a0=>{r,Y,_,_,M,ag,T0 _,Z,λ_ H' fs' O h' U=>{M,?_},λz=>VE G z}}};exact q H' r (kp (cE (am nd) I) I O) I ⟨Y,fs',h',U,G⟩
def hK(up:Bool):V->V->Int->Bool:=if up=true then hU else hD
def bP(up:Bool)(a e:V)(ks:Mu):List Int:=(if up=true then ks else ks.reverse).filter (hK up a e)
theorem gy{α:Type}{h:α->Bool}:∀{xs:List α}{n:Nat},xs.Pairwise (λx y=>h y=true->h x=true)->(xs.take n).filter h=(xs.filter h).take n
 | [],n,_=>by rw[V0,List.filter_nil,V0]
 |x::r,0,_=>rfl
 |x::r,n+1,w=>by
  let{I,G}:=Z0.mp w;rw[XY];by_cases c:h x=true
  .rw[List.filter_cons_of_pos c,List.filter_cons_of_pos c,XY,gy G]
  .have z:r.filter h=[]:=ZD.mpr λy hy O=>c (I y hy O);rw[List.filter_cons_of_neg c,List.filter_cons_of_neg c,gy G,z,V0,V0]
def BL{a e:V}{n:Nat}(ok:if up=true then Lm a e else Li a e)(r:cX ks):((qg up a ks).take n).filter (hK up a e)=(bP up a e ks).take n:=by
 cases up with
 |true=>
  let{i,rfl,i0,he}:=(show Lm a e from ok);have q:∀z,hU (.int i) e z=true->decide (i<=z)=true:=λz hz=>by
   rcases he with rfl|⟨j,rfl,_⟩
   .exact hz
   .exact(Qv.mp hz).1
  show((ks.filter λz=>decide (i<=z)).take n).filter (hU (.int i) e)=(ks.filter<|hU (.int i) e).take n;rw[gy,List.filter_filter]
  .congr 1;refine List.filter_congr λz _=>?_;cases c:hU (.int i) e z with
   |true=>rw[q z c];rfl
   |false=>rfl
  .have I:(ks.filter λz=>decide (i<=z)).Pairwise (· < ·):=List.Pairwise.filter _ r;refine List.Pairwise.imp_of_mem (λ{x y} hx hy lt G=>?_) I;have hx:=(Qy.mp hx).2;rcases he with rfl|⟨j,rfl,_⟩
   .exact hx
   .refine Qv.mpr {hx,VI ?_};have:=VF (Qv.mp G).2;lia
 |false=>
  let{j,rfl,Y,ha}:=(show Li a e from ok);have O:ks.reverse.Pairwise (λx y=>y<x):=X7.mpr r;obtain⟨k,U,ea⟩:∃k,qg false a ks=ks.reverse.filter (dB k)/\∀z,hD a (.int j) z=(decide (j<=z)&&dB k z):=by
   rcases ha with rfl|⟨i,rfl,_⟩
   .exact{none,M,λz=>(Bool.and_true _).symm}
   .exact{some i,M,λz=>M}
  rw[U];show((ks.reverse.filter<|dB k).take n).filter (hD a<|.int j)=(ks.reverse.filter<|hD a<|.int j).take n;rw[gy,List.filter_filter]
  .congr 1;refine List.filter_congr λz _=>?_;rw[ea];cases dB k z<;>cases decide (j<=z)<;>rfl
  .have I:(ks.reverse.filter<|dB k).Pairwise (λx y=>y<x):=List.Pairwise.filter _ O;refine List.Pairwise.imp_of_mem (λ{x y} hx hy lt G=>?_) I;have hx:=(Qy.mp hx).2;rw[ea]at G⊢;refine Qv.mpr {VI ?_,hx};have:=VF (Qv.mp G).1;lia
def BH{a e:V}{k':Int}(ok:if up=true then Lm a e else Li a e)(r:cX ks)(h:(bP up a e ks)[i]?=some k)(h':(bP up a e ks)[i+1]?=some k'):if up=true then Lm (.int<|k+1) e else Li (.int<|k-1) e:=by
 let{hi,G}:=Q3.mp h;let{hi',z}:=Q3.mp h';have m:=(Qy.mp (G▸X8 hi:k∈bP up a e ks)).2;have m':=(Qy.mp (z▸X8 hi':k'∈bP up a e ks)).2;cases up with
 |true=>
  let{i,rfl,i0,he}:=(show Lm a e from ok);have lt:k<k':=by
   have:=(Z2.mp<|List.Pairwise.filter (hU (.int i) e) r) _ _ hi hi' (ZM _);rwa[<-G,<-z]
  have m:hU (.int i) e k=true:=m;have m':hU (.int i) e k'=true:=m';rcases he with rfl|⟨j,rfl,_⟩
  .have:=VF m;exact{k+1,M,(),.inl M}
  .have:=VF (Qv.mp m).1;have:=VF (Qv.mp m').2;exact{k+1,M,(),.inr {j,M,()}}
 |false=>
  let{j,rfl,I,ha}:=(show Li a e from ok);have O:ks.reverse.Pairwise (λx y=>y<x):=X7.mpr r;have lt:k'<k:=by
   have:=(Z2.mp<|List.Pairwise.filter (hD a<|.int j) O) _ _ hi hi' (ZM _);rwa[<-G,<-z]
  have m':hD a (.int j) k'=true:=m';have:j<=k':=by
   rcases ha with rfl|⟨i,rfl,_⟩
   .exact VF m'
   .exact VF (Qv.mp m').1
  exact{j,M,I,.inr {k-1,M,()}}
def NxK(t:KF)(H H':Hp)(p:G')(up:Bool)(e:V)(hs:Mu)(m:Nat)(v:V):Prop:=if hs.length<=m then v= .non else if m=0 then v= .ref p else ∃(q:G')(k:Int),hs[m-1]?=some k/\v= .ref q/\H q=none/\MH t H' q up (.int<|if up=true then k+1 else k-1) e
def AO{xs:Mu}{x:V}(h:(xs.map V.int)[i]?=some x):∃k:Int,x= .int k/\xs[i]?=some k:=by
 rw[Qu]at h;cases e:xs[i]? with
 |none=>rw[e]at h;cases h
 |some k=>rw[e]at h;cases h;exact⟨k,M,M⟩
def vG{P:Nt}{xs:Mu}(e:xs[i]?=some k):(xs.take<|i+1).filter P=(xs.take i).filter P++(if P k=true then[k]else[]):=by
 rw[Qo,e,QF];by_cases c:P k=true
 .rw[VA c];simp[c]
 .rw[Vz c];simp[c]
def Ef(P:Nt)(xs:Mu)(i:Nat):((xs.take i).filter P).length<=xs.length:=by
 have h1:=Qq P (xs.take i);have h2:(xs.take i).length<=xs.length:=by rw[Qe];lia
 lia
def MH.same{a e:V}(h:MH t H p up a e)(s:Cp H H'):MH t H' p up a e:=by
 let{dx,fs,hp,r}:=h;exact{dx,fs,s _ _ hp,r}
def MH.ok{a e:V}(h:MH t H p up a e):if up=true then Lm a e else Li a e:=by
 let{dx,fs,hp,z,ok}:=h;exact ok
def Dz{a:V}{z:Int}(h:z∈qg up a ks):z∈ks:=by
 unfold qg at h;split at h
 .exact(Qy.mp h).1
 .exact Zm.mp (Qy.mp h).1
 .exact Zm.mp (Qy.mp h).1
def DA{a:V}:(qg up a ks).length<=ks.length:=by
 unfold qg;split
 .exact Qq _ _
 .exact Qr (Qq _ _)<|QO Z8
 .exact Qr (Qq _ _)<|QO Z8
def dHK:Mm (D1 t.cQ<|cJ t) (D1 t.bI<|bW t) (if up=true then t.cQ else t.bI) (if up=true then cJ t else bW t):=by
 cases up
 .exact .inr ⟨M,M⟩
 .exact .inl ⟨M,M⟩
def Go{a e:V}(h:H p=some (.ins (if up=true then t.cQ else t.bI) dx fs))(f:uW (if up=true then "up" else "down") fs a e)(ok:if up=true then Lm a e else Li a e)(z:0<=k)
  (q:∀H',Cp H H'->Q (.bl<|hK up a e k) H'):(if up=true then cJ t else bW t) [.ref p,.int k] H Q E:=by
 cases up
 .exact⟨p,dx,fs,a,e,k,M,h,f,ok,z,q⟩
 .exact⟨p,dx,fs,a,e,k,M,h,f,ok,z,q⟩
def qu(K:Wi)(t:KF):Sp:=λvs H Q _=>∃(l p:G')(n:Int)(up:Bool)(a e:V)(F:Mw)(ks:Mu),vs=[.ref l,.ref p,.int n]/\LV K t H l F ks/\MH t H p up a e/\ks.length<4096/\(∀k∈ks,0<=k)/\
 ∀(H':Hp)(r g:G')(v:V),Cp H H'->H r=none->H g=none->H' r=some (.tup [.ref g,v])->H' g=some (.lst<|((bP up a e ks).take n.toNat).map V.int)->NxK t H H' p up e (bP up a e ks) n.toNat v->Q (.ref r) H'
def qC:AZ P w K mg base (LX P w) 6 t.kW t.gj [ge,gp,l9] (qu K t):=by
 have a4:=KU.nd;refine T.tU.okX KU (λvs H Q E h=>?_)<|λa5 A outer s H vs Q E hr h=>?_
 .let{l,p,n,up,a,e,F,ks,rfl,_}:=h;rfl
 .let{l,p,n,up,a,e,F,ks,rfl,L,TK,l1,k0,q}:=h;refine ah (KB 3<|ar (vK M) {_} T.Jz Et (aa K9<|aa ak af))
    (ah (Dg (i:=4) M (K5.of (M':=[eN]) (N:=[ge,gp,l9,ms,"held","page"]) (N':=[ge,gp,l9,ms,"held","page"]) (dsc:=ai dF) M M ∅) (dI<|au (wS T) hr.mo {_} T.Hj T.yS.kp T.Ht .nil aA (@aH _ _ _ _ _ Dm (@aH _ _ _ _ _ K3 (@aH _ _ _ _ _ (aF bY KY ak) af M) M) M)) (λ_ _ _ _ _=>(bF<|nW (kk:=1) (dN (bp T.dS T.kC (jp T) T.kR (_))<|bp T.bC T.hJ (f8 T) T.iD (_)) hr.mo K9<|aa Dm af)) (λ_ _ _ _ _=>Dm) KU.nd M M)
    (ah (KB 5<|bX lu Kt cx<|b7 KY)
    (ah (aT (az eV (ar ax {_} T.bM a6 (aa Kt af)) (ar ax {_} T.bM a6 (aa Lx af))<|aB _)
   (aq<|aw<|db<|aa Lx<|aa bS af)
   aE)
     (ah (aT (az eV (ar ax {_} T.bM a6 (aa Lx af)) ak<|aB _)
   (aq<|aw<|db<|aa Lx<|aa K3 af)
   aE)
     (aD (aw<|db<|aa Lx<|aa (au (qA T) hr.mo {_} T.DN T.tS.kp T.Ey .nil jM (aa K3<|aa (aY aW Lx (Dj y9 ak)<|λ_ _=>M) af)) af) ?_)))))
  intros
  have RK:=L.rise;refine{_,M,n,0,M,?_};obtain⟨m,em⟩:∃m:Nat,n.toNat=m:={_,M};have e0:(if(0:Int)>n then(0:Int)else n)=(m:Int):=by
   rw[<-em];split<;>lia
  rw[e0];rw[em]at q;have ok:=TK.ok;refine{_,M,_,M,_,M,_,_,M,M,l,p,(m:Int)+1,up,a,e,F,ks,M,L,TK,l1,(),λH1 g1 s1 a7 h1=>?_};rw[show((m:Int)+1).toNat=m+1 by lia]at h1;obtain⟨ns,U⟩:∃ns,(qg up a ks).take (m+1)=ns:={_,M};have fl:=BL (n:=m+1) ok RK;rw[U]at h1 fl;have nl:ns.length<=4096:=by
   rw[<-U];have h1:=DA (up:=up) (a:=a) (ks:=ks);rw[Qe];lia
  have n0:∀z∈ns,0<=z:=λz hz=>k0 z (Dz<|Zg<|U▸hz);refine{g1,M,{_,Do.of h1},λD hD=>?_};refine jJ (K:=K) (a:=g1) (xs:=ns.map V.int) (λi ys H2=>Cp H1 H2/\ys=((ns.take i).filter<|hK up a e).map V.int) {am hD,M} (λi ys H2 _ w=>Do.of<|w.1 _ _ h1) (λi x ys H2 hx w G=>?_)<|λys H2 w G=>?_
  .let{s2,ey}:=w;have hi:i<(ns.map V.int).length:=(Q3.mp hx).1;let{g,rfl,eg}:=AO hx;let{dx,fs,hp,tf,_}:=TK.same (s1.trans s2);have a8:=Ef (hK up a e) ns i;refine{_,M,p,_,dx,fs,_,M,hp,tf.ho,dHK,_,M,Go hp tf ok (n0 g<|Q2 eg) λH3 s3=>{_,M,?_}};by_cases c:hK up a e g=true
   .rw[c];refine b9 {_,M,KL.mk hi (s3 _ _ G) (bi<|by rw[ey,Q0];lia) {cE (s2.trans s3) hD,?_}};rw[ey,vG eg,VA c,Qb];rfl
   .rw[Zu.mpr c];refine bT<|Kz.mk hi (s3 _ _ G) {s2.trans s3,?_};rw[ey,vG eg,Vz c,ZE]
  let{s2,ey}:=w;rw[ey,Q0,QG,fl]at G;clear ey h1 U fl nl n0;have Y:=s1.trans s2;obtain⟨hs,Z⟩:∃hs,bP up a e ks=hs:={_,M};rw[Z]at G q;refine{_,M,_,M,(m:Int),M,D,_,M,Do.of G,λg ng=>?_};rw[tH (ZX m),<-ZV,show((m:Int)).toNat=m by lia,List.take_take,XF (QX m)];have a0:H g=none:=cc Y ng;have O:upd H2 g (.lst<|(hs.take m).map V.int) g=some (.lst<|(hs.take m).map V.int):=ag;have a1:upd H2 g (.lst<|(hs.take m).map V.int) D=some (.lst<|(hs.take<|m+1).map V.int):=by rwa[ae (aj G ng)]
  have s3:=Y.trans (am (o:= .lst<|(hs.take m).map V.int) ng);generalize upd H2 g (.lst<|(hs.take m).map V.int)=H3 at O a1 s3⊢;clear G ng s2 Y s1 hD;refine{_,M,D,_,M,.inl<|Do.of a1,_,M,g,_,M,.inl<|Do.of O,M,_,M,?_};by_cases c:hs.length<=m
  .refine iO ?_ {_,M,(by show 2<=sizeLine;decide),λr I=>?_}
   .rw[QB (),QB c]
   .refine q _ r g .non (s3.trans<|am I) (cc s3 I) a0 ag (by rwa[ae (aj O I)]) ?_;unfold NxK;rw[VA c]
  refine br ?_ ?_
  .intro z;have z:=V.int.inj z;rw[Q0,Q0,Qe,Qe]at z;lia
  refine{_,M,g,_,M,.inl<|Do.of O,M,_,M,?_};by_cases d:m=0
  .refine iO ?_ {_,M,_,M,(by show 2<=sizeLine;decide),λr I=>?_}
   .rw[d];rfl
   .refine q _ r g (.ref p) (s3.trans<|am I) (cc s3 I) a0 ag (by rwa[ae (aj O I)]) ?_;unfold NxK;rw[Vz c,VA d]
  refine br ?_ ?_
  .intro z;have z:=V.int.inj z;rw[Q0,Qe]at z;lia
  obtain⟨k,ek⟩:∃k,hs[m-1]?=some k:={_,Q4 ()};obtain⟨k',a2⟩:∃k',hs[m-1+1]?=some k':={_,Q4 ()};have ob:=BH ok RK (Z▸ek) (Z▸a2);refine{_,M,_,M,_,M,_,M,g,_,_,.int k,M,M,Do.of O,?_,p,up,a,e,k,M,TK.same s3,ob,λH4 b s4 nb a3=>{(by show 2<=sizeLine;decide),λr I=>?_}}
  .refine Bb (λz=>?_) ?_
   .have:=VT List.length z;rw[Qe]at this;have:([]:Mu).length=0:=M;lia
   .rwa[Qe,XF (),Xp ()]
  refine q _ r g (.ref b) ((s3.trans s4).trans<|am I) (cc (s3.trans s4) I) a0 ag (by rw[ae (aj (s4 _ _ O) I)];exact s4 _ _ O) ?_;unfold NxK;rw[Vz c,Vz d];exact{b,k,ek,M,cc s3 nb,a3.same<|am I}
def ug(K:Wi)(t:KF):Sp:=λvs H Q _=>∃(a:G')(k:Int)(v:V)(F:Mw)(x:L3),vs=[.ref a,.int k]/\Kv K t H a F x/\0<=k/\aP x.st.kv k=some v/\∀H' F',Kv K t H' a F' x->Fr F F' H H'->Q v H'
def uE:AZ P w K mg base KI 5 t.oQ t.jI [cC,eN] (ug K t):=by
 refine T.GQ.okl uu λs H vs Q E Y h _=>?_;intro X;let{a,k,v,F,x,rfl,A,k0,U,q}:=h;refine{_,(aq<|aw<|a9 (aC Dm M) T.ay T.Gd (uB T) Y.mo T.GE .nil aA<|aa K3 af)
  ,?_}
 let{s,l,wr,p,h,Fs,Fl,Wh,O,g}:=A;let{dx,Z}:=Wh.o.ob;let{ds,fs,hs,hm}:=Wh.sl.ins;refine{_,M,a,_,dx,_,_,M,Z,T.aX,T.dL,w9,s,ds,fs,M,hs,hm _ ∅,_,M,s,k,Fs,x.st,M,Wh.sl,k0,λv' G H1 I S1 f1=>?_,λz=>by rw[U]at z;cases z};rw[U]at G;cases G;let{B1,g1}:=Wh.slots S1 f1;exact q H1 (Lz a wr p h I Fl x.pa) {s,l,wr,p,h,I,Fl,B1,O,λ_=>Iff.rfl} λb o n e=>g1 b o (λz=>n<|(g b).mpr z) e
def NxH(t:KF)(H H':Hp)(F':Mw)(p:G')(up:Bool)(e:V)(hs:Mu)(m:Nat)(v:V):Prop:=if hs.length<=m then v= .non else if m=0 then v= .ref p else ∃(q:G')(k:Int),hs[m-1]?=some k/\v= .ref q/\H q=none/\¬F' q/\MH t H' q up (.int<|if up=true then k+1 else k-1) e
def HV(K:Wi)(t:KF)(more:K'):Sp:=λvs H Q _=>∃(a p:G')(n:Int)(up:Bool)(av e:V)(F:Mw)(x:L3),vs=[.ref a,.ref p,.int n]++more/\Kv K t H a F x/\MH t H p up av e/\¬F p/\x.ks.length<4096/\(∀k∈x.ks,0<=k)/\
 ∀(H':Hp)(F':Mw)(r g:G')(v:V)(ts:List Tp),Kv K t H' a F' x->Fr F F' H H'->PgA H H' F F' r g v ts->ts.map (·.k)=(bP up av e x.ks).take n.toNat->(∀e∈ts,aP x.st.kv e.k=some e.v)->NxH t H H' F' p up e (bP up av e x.ks) n.toNat v->Q (.ref r) H'
def jL(K:Wi)(t:KF):Sp:=HV K t []
def Kv.lvs{x:L3}(A:Kv K t H a F x):∃(dx:G')(fs:Nl)(l:G')(Fl:Mw),H a=some (.ins t.a8 dx fs)/\fs.lookup (ge:Str)=some (.ref l)/\LV K t H l Fl x.ks:=by
 let{s,l,wr,p,h,Fs,Fl,Wh,O,g}:=A;let{dx,z}:=Wh.o.ob;exact{dx,_,l,Fl,z,D6,Wh.lv}
def D8{a e:V}{z:Int}(h:z∈bP up a e ks):z∈ks:=by
 have h:=(Qy.mp h).1;cases up
 .exact Zm.mp h
 .exact h
def D9{a e:V}:(bP up a e ks).length<=ks.length:=by
 refine Qr (Qq _ _) ?_;cases up
 .exact QO Z8
 .exact Q5 _
def qB:AZ P w K mg base (LX P w) 7 t.kU t.gi ["house",gp,l9] (jL K t):=by
 have ay:=L7.nd;refine T.tT.okX L7 (λvs H Q E h=>?_)<|λb1 A outer s H vs Q E hr h=>?_
 .let{a,p,n,up,av,e,F,x,rfl,_}:=h;rfl
 .let{a,p,n,up,av,e,F,x,rfl,A,TK,np,l1,k0,q}:=h;refine ah (KB 3<|au (qC T) hr.mo {_} T.DP T.tU.kp T.EA .nil jM (@aH _ _ _ _ _ (aC Dm M) (@aH _ _ _ _ _ K3 (@aH _ _ _ _ _ K9 af M) M) M))
    (aD (aw<|db<|aa (lD M (K5.of (M':=[eN]) (N:=["house",gp,l9,"page"]) (N':=["house",gp,l9,"page"]) (dsc:=ai dE) M M ∅) (dI<|aY fk KY ak<|λ_ _=>M)<|λ_ _ _ _ _=>(db<|aa Dm<|aa (a9 K3 T.aX T.Gf (uE T) hr.mo T.GG .nil aA<|aa Dm af) af))<|aa (aY fk KY ak<|λ_ _=>M) af) ?_)
  intros
  let{dx,fs,l,Fl,ho,hl,L}:=A.lvs;refine{_,M,a,_,dx,fs,_,M,ho,T.aX,T.jN,hl,_,M,_,M,l,p,n,up,av,e,Fl,x.ks,M,L,TK,l1,k0,λH1 r1 g1 v s1 a4 a5 a1 U nx=>?_};have A1:=A.same s1;have f1:Fr F F H H1:=Fr.of_same s1;clear TK;obtain⟨pk,Y⟩:∃pk,(bP up av e x.ks).take n.toNat=pk:={_,M};have pm:∀z∈pk,z∈x.ks:=λz hz=>D8 (Zg<|Y▸hz);have pl:pk.length<=4096:=by
   have:=D9 (up:=up) (a:=av) (e:=e) (ks:=x.ks);rw[<-Y,Qe];lia
  rw[Y]at U q;refine{_,M,r1,_,_,_,M,M,LB.of a1,M,g1,M,{_,Do.of U},λD hD=>?_};refine lK (K:=K) (a:=g1) (xs:=pk.map V.int) (λi ys H2=>∃(G:Mw)(ts:List Tp),Kv K t H2 a G x/\Fr F G H1 H2/\¬G D/\ys=ts.map (λe=>V.ref e.p)/\ts.map (·.k)=pk.take i/\∀e∈ts,H2 e.p=some (.tup [.int e.k,e.v])/\¬G e.p/\aP x.st.kv e.k=some e.v) {F,[],A1.same<|am hD,Fr.of_same<|am hD,A1.out hD,M,M,λe he=>VE he QU} (λi ys H2 _ w=>?_) (λi y ys H2 hy w I=>?_)<|λys H2 w I=>?_
  .let{G,ts,A2,O,_}:=w;exact Do.of (O _ _ (A.out a5) U).1
  .let{G,ts,A2,O,nD,ey,Z,tu}:=w;have hi:i<(pk.map V.int).length:=(Q3.mp hy).1;let{k,rfl,hk}:=AO hy;have km:=pm k (Q2 hk);let{v2,a2}:=Xo.mp ((A1.ok.ks k).mp km);let{d2,a7,a8,ac,_}:=A2.ins;refine{_,M,_,M,a,d2,a7,M,a8,ac _ ∅,_,M,a,k,v2,G,x,M,A2,k0 k km,a2,λH3 F3 A3 f3=>{(by show 2<=sizeLine;decide),λb nb=>?_}};let{al,a3}:=f3 _ _ nD I;have sb:Cp H3 (upd H3 b<|.tup [.int k,v2]):=am nb;have hb:upd H3 b (.tup [.int k,v2]) b=some (.tup [.int k,v2]):=ag;generalize upd H3 b (.tup [.int k,v2])=H4 at sb hb⊢;have A4:=A3.same sb;have an:=A3.out nb;have f4:Fr F F3 H1 H4:=O.trans (f3.trans<|Fr.of_same sb);have a0:=sb _ _ al;have tl:ts.length<=4096:=by
    have:=VT List.length Z;rw[Q0,Qe]at this;lia
   refine KL.mk hi a0 (bi<|by rw[ey,Q0];lia) {F3,ts++ [⟨b,k,v2⟩],A4.upd a3 (λxs z=>by rw[a0]at z;cases z),λc o n e=>{by rw[ae (aj e hD)];exact(f4 c o n e).1,(f4 c o n e).2},a3,by rw[ey,Qb];rfl,by rw[Qb,Z,Qo,hk];rfl,λe he=>?_};have key:H4 e.p=some (.tup [.int e.k,e.v])/\¬F3 e.p/\aP x.st.kv e.k=some e.v:=by
    rcases Q6.mp he with he|he
    .let{t1,t2,t3}:=tu e he;let{t4,t5}:=f3 _ _ t2 t1;exact{sb _ _ t4,t5,t3}
    .rw[Qf.mp he];exact⟨hb,an,a2⟩
   refine{?_,key.2};rw[ae (λz=>by rw[z,a0]at key;cases key.1)];exact key.1
  let{G,ts,A2,O,nD,ey,Z,tu}:=w;rw[ey]at I;rw[Q0,QG]at Z;have ap:=O _ _ (A.out a4) a1;refine{_,M,r1,_,_,_,M,M,LB.of ap.1,M,(by show 2<=sizeLine;decide),λr nr=>?_};have s3:Cp H2 (upd H2 r<|.tup [.ref D,v]):=am nr;have hr:upd H2 r (.tup [.ref D,v]) r=some (.tup [.ref D,v]):=ag;have nF:=A2.out nr;generalize upd H2 r (.tup [.ref D,v])=H3 at s3 hr⊢;have f3:Fr F G H H3:=f1.trans (O.trans<|Fr.of_same s3);refine q H3 G r D v ts (A2.same s3) f3 {hr,s3 _ _ I,λe he=>{s3 _ _ (tu e he).1,(tu e he).2.1},{λz=>?_,nF},{λ_=>cc s1 hD,nD}} Z (λe he=>(tu e he).2.2) ?_
  .cases eo:H r with
   |none=>rfl
   |some o=>rw[((f1.trans O) _ _ z eo).1]at nr;cases nr
  .unfold NxK at nx;unfold NxH;by_cases c:(bP up av e x.ks).length<=n.toNat
   .rw[VA c]at nx⊢;exact nx
   .rw[Vz c]at nx⊢;by_cases d:n.toNat=0
    .rw[VA d]at nx⊢;exact nx
    .rw[Vz d]at nx⊢;let{b,k,Z,ev,nb,dy,fy,hy,ry}:=nx;let{h2,n2}:=O _ _ (A.out nb) hy;exact{b,k,Z,ev,nb,n2,dy,fy,s3 _ _ h2,ry}
noncomputable def tV(J2 j r:Int):Int:=if j<(r/J2+1)*J2 then j else(r/J2+1)*J2
def aR(J2 j i:Int):Nat->Int
 |0=>i
 |n+1=>tV J2 j (aR J2 j i n)
def CW{J2 j r:Int}(z:0<J2)(h:r<j):r<tV J2 j r/\tV J2 j r<=j:=by
 have:=Xf r z;unfold tV;split<;>lia
theorem nV{J2 j i:Int}(G:0<J2)(h:i<=j):∀n:Nat,(∀x<n,aR J2 j i x<j)->i<=aR J2 j i n/\aR J2 j i n<=j/\(0<n->tV J2 j i<=aR J2 j i n)
 |0,_=>{ZY _,h,λz=>VE z (_)}
 |n+1,w=>by
  let{a,b,c}:=nV G h n λx hx=>w x ();let{d,e}:=CW G (w n ());refine{show i<=tV J2 j (aR J2 j i n) by lia,e,λ_=>?_};cases n with
  |zero=>exact ZY _
  |succ m=>exact Int.le_trans (c ()) (Xx d)
structure M9(st:K4)(lo hi:Int)(ps:My):Prop where
 so:ps.Pairwise mW
 me:∀k v,(k,v)∈ps↔(k,v)∈st.kv/\lo<=KG k/\KG k<hi
def M9.app(h:M9 st lo m ps)(g:M9 st m hi qs)(l1:lo<=m)(G:m<=hi):M9 st lo hi (ps++qs):=by
 refine{Qi.mpr {h.so,g.so,λx hx y hy=> .inl ?_},λk v=>?_}
 .have a:=((h.me x.1 x.2).mp hx).2;have b:=((g.me y.1 y.2).mp hy).2;lia
 .rw[Q6,h.me,g.me];constructor
  .rintro (⟨x,y,z⟩|⟨x,y,z⟩)
   .exact{x,y,()}
   .exact{x,(),z}
  .rintro ⟨x,y,z⟩;by_cases d:KG k<m
   .exact .inl ⟨x,y,d⟩
   .exact .inr {x,(),z}
def M9.uniq(h:M9 st lo hi ps)(g:M9 st lo hi qs):ps=qs:=by
 have nd:∀{l:My},l.Pairwise mW->l.Nodup:=λw=>w.imp λ{a b} z e=>by
  rw[e]at z;unfold mW at z;lia
 refine List.Perm.eq_of_pairwise (λx y _ _ h1 h2=>?_) h.so g.so<|(Vy (nd h.so)<|nd g.so).mpr λx=>(h.me x.1 x.2).trans (g.me x.1 x.2).symm;unfold mW at h1 h2;lia
def M9.len(h:M9 st lo hi ps):ps.length<=st.kv.length:=by
 refine gc (h.so.imp λ{a b} z e=>?_) λx hx=>((h.me x.1 x.2).mp hx).1;rw[e]at z;unfold mW at z;lia
structure Mg(st:K4)(i j n:Int)(m:Nat)(ps:My):Prop where
 rw:M9 st i (aR (65536/st.low) j i m) ps
 go:∀x<m,aR (65536/st.low) j i x<j
 le:∀x,0<x->x<m->∀qs,M9 st i (aR (65536/st.low) j i x) qs->(qs.length:Int)<n/\(x:Int)<4*n
 st:aR (65536/st.low) j i m=j\/(0<m/\(n<=ps.length\/4*n<=m))
def Mn(t:KF)(H:Hp)(p:G')(i j:Int):Prop:=∃(dx:G')(fs:Nl),H p=some (.ins t.aJ dx fs)/\uW nz fs (.int i) (.int j)/\0<=i/\i<=j/\j<=65536
def Mn.fr{i j:Int}(h:Mn t H p i j)(n:¬F p)(f:Fr F F' H H'):Mn t H' p i j/\¬F' p:=by
 let{dx,fs,hp,r}:=h;exact{{dx,fs,(f _ _ n hp).1,r},(f _ _ n hp).2}
def Md(t:KF)(H H':Hp)(F F':Mw)(r j:Int)(v:V):Prop:=if r=j then v= .non else ∃q:Addr,v= .ref q/\(¬F q->H q=none)/\¬F' q/\Mn t H' q r j
def oZ(K:Wi)(t:KF):Sp:=λvs H Q _=>∃(a p:G')(n i j:Int)(F:Mw)(st:K4),vs=[.ref a,.ref p,.int n]/\Ku K t H a F st/\Mn t H p i j/\¬F p/\1<=n/\n<=1000/\st.kv.length<4096/\(∀p∈st.kv,∃i:Int,p.2= .int i)/\
 ∀(H':Hp)(F':Mw)(r g:G')(v:V)(ts:List Tp)(m:Nat),Ku K t H' a F' st->Fr F F' H H'->PgA H H' F F' r g v ts->Mg st i j n m (ts.map Tp.kv)->Md t H H' F F' (aR (65536/st.low) j i m) j v->Q (.ref r) H'
structure Mb(K:Wi)(t:KF)(H H':Hp)(a p l:G')(F F':Mw)(st:K4)(i j:Int)(m:Nat)(ts:List Tp):Prop where
 sl:Ku K t H' a F' st
 fr:Fr F F' H H'
 tk:Mn t H' p i j
 np:¬F' p
 ol:¬F' l
 li:H' l=some (.lst<|ts.map λe=>V.ref e.p)
 tu:∀e∈ts,H' e.p=some (.tup [.int e.k,e.v])/\¬F' e.p
 rw:M9 st i (aR (65536/st.low) j i m) (ts.map Tp.kv)
 go:∀x<m,aR (65536/st.low) j i x<j
def Mb.move{F1:Mw}{i j:Int}{m:Nat}(h:Mb K t H H' a p l F F' st i j m ts)(s1:Ku K t H1 a F1 st)(z:Fr F' F1 H' H1):Mb K t H H1 a p l F F1 st i j m ts:=
 {s1,h.fr.trans z,(h.tk.fr h.np z).1,(h.tk.fr h.np z).2,(z _ _ h.ol h.li).2,(z _ _ h.ol h.li).1,λe he=>z _ _ (h.tu e he).2 (h.tu e he).1,h.rw,h.go}
def pJ:AZ P w K mg base (LX P w) 5 t.jO t.fo [nz,gp,l9] (oZ K t):=by
 let{I,G}:=T.g_STRETCHES_A_KEY;have bo:=KP.nd;refine T.qK.okX KP (λvs H Q E h=>?_)<|λbt A outer s H vs Q E hr h=>?_
 .let{a,p,n,i,j,F,st,rfl,_}:=h;rfl
 .let{a,p,n,i,j,F,st,rfl,hA,TK,np,n1,n2,l4,iv,q}:=h;refine ah (KB 3<|de af)
    (ah (KB 4<|aC K3 M)
    (ah (KB 5 ak)
    (eX (λx=>(j8 PassesOwn.leaving (az fY Kt (aC K3 M)<|aB _)
     x)) ?_)))
  refine ah (KB 6<|ar (lL M) {_} T.xy pY (aa (a9 Dm T.ay T.uH (kt T) hr.mo T.uT .nil aA<|aa Kt af)<|aa (aC K3 M) af))
    (ah (bf<|eU QD ZT ZU lE KY<|aa (a9 Dm T.ay T.EL (sF T) hr.mo T.ET .nil aA<|aa Kt<|aa MF af) af)
    (ah (KB 4 MF)
    (ah (zB (i:=5) KP.nd M (Or.inl M) ak D4)
    (aD (aT (PW.pt<|qf (az vo (ar ax {_} T.bM a6 (aa KY af)) K9<|aB _)<|mV<|az vo Lx (aF fX (bK (v:= .int 4) {_} G {_,M}) K9)<|aB _)
   (aq Dh)
   aE) ?_))))
  intros
  refine ah (aT (az eV Kt (aC K3 M)<|aB _)
   (aq<|aw<|db<|aa KY<|aa bS af)
   aE)
     (aD (aw<|db<|aa KY<|aa (lC T.sQ (d9 T) hr.mo {_} T.js T.qJ .nil jM (aa Kt<|aa (aC K3 M) af)) af) ?_)
  intros
  have z:KA st:=let⟨_,_,_,_,_,z⟩:=hA;z
  let{s4,Y}:=bB (fj z);let{_,_,R}:=sj (fj z);have W0:=R.wpos';let{dx,fs,hp,tf,i0,ij,j1}:=id TK;refine{Qh _,λl nl=>?_};have W1:Mb K t H (upd H l<|.lst []) a p l F F st i j 0 []:={hA.new nl,Fr.of_same<|am nl,{dx,fs,by rwa[ae (aj hp nl)],tf,i0,ij,j1},np,hA.out nl,ag,(λe he=>by cases he),{VY,λk v=>{λh=>by(cases h),λh=>by have:=h.2;simp only[aR]at this;lia}},λx hx=>VE hx<|Nat.not_lt_zero x};refine{_,M,p,_,dx,fs,_,M,by rwa[ae (aj hp nl)],T.aZ,T.hI,tf.at_,?_}
  (try dsimp only)
  generalize upd H l (.lst [])=H1 at W1⊢;clear hp tf dx fs;show xF (CO _ _) _ _ _ H1;refine Ar (λB H'=>∃(F':Mw)(m:Nat)(ts:List Tp)(U:Nm),B=[some (.ref a),some (.ref p),some (.int n),some (.ref l),some (.int<|aR (65536/st.low) j i m),some (.int m),U]/\Mb K t H H' a p l F F' st i j m ts/\Mg st i j n m (ts.map Tp.kv)) (λnx go=>?_)<|λB H2 w=>?_
  .refine{λmm B H'=>∃(F':Mw)(m:Nat)(ts:List Tp)(U:Nm),mm=(j-aR (65536/st.low) j i m).toNat/\B=[some (.ref a),some (.ref p),some (.int n),some (.ref l),some (.int<|aR (65536/st.low) j i m),some (.int m),U]/\Mb K t H H' a p l F F' st i j m ts/\(∀x,0<x->x<=m->∀qs,M9 st i (aR (65536/st.low) j i x) qs->(qs.length:Int)<n/\(x:Int)<4*n),{_,F,0,[],none,M,M,W1,λx x0 xm=>VE x0 ()},λmm B H' w=>?_};let{F',m,ts,U,rfl,a5,w,lt}:=w;subst a5;let{dx,fs,hp,tf,_}:=id w.tk;let{r0,r1,_}:=nV W0 ij m w.go;refine{_,M,_,M,p,_,dx,fs,_,M,hp,T.aZ,T.bZ,tf.end_,_,_,M,M,_,M,dY (λc=>?_)<|λc=>?_}
   .have c:=VF c;let{r2,r3}:=CW W0 c;refine{λa1 H2=>∃(F2:Mw)(Z:List Tp)(U:Nm),a1=[some (.ref a),some (.ref p),some (.int n),some (.ref l),some (.int<|aR (65536/st.low) j i<|m+1),some (.int (m+1:Nat)),U]/\Mb K t H H2 a p l F F2 st i j (m+1) Z/\(Z.length:Int)<n/\((m+1:Nat):Int)<4*n,λa1 H2 g=>?_,?_}
    .let{F2,Z,U,e,w2,b1,b2}:=g;refine{_,?_,F2,m+1,Z,U,M,e,w2,λx x0 xm qs hq=>?_}
     .show(j-tV (65536/st.low) j (aR (65536/st.low) j i m)).toNat<_;lia
     .rcases V2 xm with xm|rfl
      .exact lt x x0 () qs hq
      .rw[hq.uniq w2.rw,Q0];exact⟨b1,b2⟩
    let{a7,a8,ac,al}:=w.sl.ins;refine{_,M,a,a7,a8,M,ac,al _ ∅,_,M,a,_,F',st,M,w.sl,(),(),λH2 F2 s2 f2=>?_};have w2:=w.move s2 f2;let{an,ap,b3,b4,_}:=id w2.tk;refine{_,M,p,_,an,ap,_,M,b3,T.aZ,T.bZ,b4.end_,_,_,M,?_}
    (try dsimp only)
    change kF 6 (V.int<|aR (65536/st.low) j i<|m+1) _ _ _;let{b5,b6,ba,bb}:=w2.sl.ins;refine{_,M,.inl {M,_,Do.of w2.li},_,M,a,b5,b6,M,ba,bb _ ∅,_,M,_,M,a,_,_,F2,st,M,w2.sl,l4,iv,λH3 F3 l1 ts1 s3 f3 o3 n3 e3 u3 bc be=>?_};have O:=w2.move s3 f3;have a0:M9 st i (aR (65536/st.low) j i<|m+1) ((ts++ts1).map Tp.kv):=by
     rw[Qb];exact O.rw.app ⟨bc,be⟩ r0<|Xx r2
    have ln:=a0.len;rw[Q0,Qd]at ln;have a2:∀{p:G'}{xs:K'},H3 p=some (.tup xs)->p≠l:=λ{p xs} e z=>by rw[z,O.li]at e;cases e
    have w4:Mb K t H (upd H3 l<|.lst<|ts.map (λe=>V.ref e.p)++ts1.map (λe=>V.ref e.p)) a p l F F3 st i j (m+1) (ts++ts1):=by
     refine{O.sl.upd O.ol,O.fr.upd_new λ_=>nl,?_,O.np,O.ol,by rw[ag,Qb],λe he=>?_,a0,λx hx=>?_}
     .let{dx,fs,hp,r}:=O.tk;exact{dx,fs,by rwa[ae λz=>by rw[z,O.li]at hp;cases hp],r}
     .rcases Q6.mp he with he|he
      .exact{by rw[ae (a2 (O.tu e he).1)];exact(O.tu e he).1,(O.tu e he).2}
      .exact{by rw[ae (a2 (u3 e he).1)];exact(u3 e he).1,(u3 e he).2}
     .rcases V2 (Nat.le_of_lt_succ hx)with hx|rfl
      .exact w.go x hx
      .exact c
    refine{l,l1,_,_,M,M,O.li,e3,by rw[Q0,Q0];exact Z1<|bi (),?_}
    (try dsimp only)
    generalize upd H3 l (.lst<|ts.map (λe=>V.ref e.p)++ts1.map (λe=>V.ref e.p))=H4 at w4⊢;have pg:(n<=((ts++ts1).length:Int)\/4*n<=((m+1:Nat):Int))->Mg st i j n (m+1) ((ts++ts1).map Tp.kv):=λo=>{a0,w4.go,λx x0 xm=>lt x x0 (),.inr {Nat.succ_pos m,by rw[Q0];exact o}};refine{_,M,_,M,_,_,M,M,?_}
    (try dsimp only)
    have em:((m:Int)+1)=((m+1:Nat):Int):=();rw[em];refine{_,M,l,_,M,.inl<|Do.of w4.li,_,M,_,_,M,M,_,M,dY (λc1=>?_)<|λc1=>?_}
    .have c1:=VF c1;rw[Q0]at c1;exact b9<|go _ _ {F3,m+1,ts++ts1,_,M,w4,pg<|.inl c1}
    refine{_,M,_,M,_,_,M,M,.inl {(_),(_)},_,_,M,M,_,M,dY (λc2=>?_)<|λc2=>?_}
    .exact go _ _ {F3,m+1,ts++ts1,_,M,w4,pg<|.inr (VF c2)}
    .have c1:¬n<=(((ts++ts1).map λe=>V.ref e.p).length:Int):=λy=>c1 (VI y);have c2:¬4*n<=((m+1:Nat):Int):=λy=>c2 (VI y);rw[Q0]at c1;exact{F3,ts++ts1,_,M,w4,(),()}
   .have c:¬aR (65536/st.low) j i m<j:=λy=>c (VI y);exact go _ _ {F',m,ts,U,M,w,w.rw,w.go,λx x0 xm=>lt x x0 (),.inl ()}
  let{F2,m,ts,U,rfl,w,pg}:=w;let{r0,r1,_}:=nV W0 ij m w.go;let{dx,fs,hp,tf,_}:=id w.tk;refine{_,M,_,M,p,_,dx,fs,_,M,hp,T.aZ,T.bZ,tf.end_,M,_,M,dY (λc=>?_)<|λc=>?_}
  .have c:aR (65536/st.low) j i m=j:=V.int.inj (VF c);refine{_,M,(by show 2<=sizeLine;decide),λr nr=>?_};have Y:=am (o:= .tup [.ref l,.non]) nr;refine q _ F2 r l .non ts m (w.sl.new nr) (w.fr.trans<|Fr.of_same Y) {ag,Y _ _ w.li,λe he=>{Y _ _ (w.tu e he).1,(w.tu e he).2},{λnF=>oq w.fr nF nr,w.sl.out nr},{λ_=>nl,w.ol}} pg ?_;unfold Md;rw[VA c]
  .have c:¬aR (65536/st.low) j i m=j:=λz=>c (VI<|by rw[z]);have ok:Mq (.int<|aR (65536/st.low) j i m) (.int j):={_,_,M,M,(),(),j1};refine{_,M,_,M,_,M,p,_,dx,fs,_,M,hp,T.aZ,T.bZ,tf.end_,λx dr nx nd bv=>?_};refine{x,dr,_,_,M,ag,T0 _,T0 _,λ_ H' fs' a3 h' bl=>{M,(by show 2<=sizeLine;decide),λr nr=>?_},λz=>VE ok z};have Y:Cp H2 (upd H' r<|.tup [.ref l,.ref x]):=(lw nx nd a3).trans (am nr);have a4:H2 r=none:=cc (lw nx nd a3) nr;have xr:x≠r:=λz=>by rw[z,nr]at h';cases h'
   refine q _ F2 r l (.ref x) ts m (w.sl.same Y) (w.fr.trans<|Fr.of_same Y) {ag,Y _ _ w.li,λe he=>{Y _ _ (w.tu e he).1,(w.tu e he).2},{λnF=>oq w.fr nF a4,w.sl.out a4},{λ_=>nl,w.ol}} pg ?_;unfold Md;rw[Vz c];exact{x,M,λnF=>oq w.fr nF nx,w.sl.out nx,dr,fs',by rwa[ae xr],bl,(),(),j1}
def Lr.newb{s w h:G'}{Fs Fs' Fl:Mw}{x:L3}(Wh:Lr K t H a s l w p h Fs Fl x)(n:¬Fs b->H b=none)(n':¬Fs' b):¬Lz a w p h Fs' Fl x.pa b:=λz=>by
 rcases z with z|z|z
 .exact n' z
 .let{o,e}:=Wh.lv.dom z;rw[n λy=>Wh.a1 b y z]at e;cases e
 .let{o,e,_}:=Wh.o.dom z;rw[n (Wh.a2 b z)]at e;cases e
noncomputable def Lh:V->Int
 | .int i=>i|_=>0
def Lu(st:K4)(ks:Mu)(kd n:Int)(av e:V)(ps:My)(r:Nm):Prop:=
 (kd=0/\∃m,Mg st (Lh av) (Lh e) n m ps/\r=if aR (65536/st.low) (Lh e) (Lh av) m=Lh e then none else some (.int<|aR (65536/st.low) (Lh e) (Lh av) m))\/
 ∃up:Bool,kd=(if up=true then 1 else 2)/\ps.map (·.1)=(bP up av e ks).take n.toNat/\(∀p∈ps,aP st.kv p.1=some p.2)/\r=if(bP up av e ks).length<=n.toNat then none else((bP up av e ks)[n.toNat-1]?).map λk=> .int (if up=true then k+1 else k-1)
def C7{i r:Int}(h:M9 st i r ps)(h':M9 st i r qs):ps=qs:=by
 have as:∀a b,mW a b->¬mW b a:=λa b x y=>by
  unfold mW at x y;lia
 have sub:∀{l m:My},l.Pairwise mW->m.Pairwise mW->(∀x,x∈l↔x∈m)->l=m:=by
  intro l
  induction l with
  |nil=>
   intro m _ _ h;cases m with
   |nil=>rfl
   |cons b m=>exact VE ((h b).mpr Q7) QU
  |cons a l O=>
   intro m h1 h2 h;cases m with
   |nil=>exact VE ((h a).mp Q7) QU
   |cons b m=>
    let{G,U}:=Z0.mp h1;let{p2,Y}:=Z0.mp h2;have e:a=b:=by
     rcases Qc.mp ((h a).mp Q7)with c|c
     .exact c
     .rcases Qc.mp ((h b).mpr Q7)with c2|c2
      .exact c2.symm
      .exact VE (G b c2)<|as _ _ (p2 a c)
    subst e;have I:∀{x:Int×V},¬mW x x:=λ{x} y=>as x x y y;rw[O U Y λx=>{λhx=>((Qc.mp<|(h x).mp<|Q8 _ hx).resolve_left λz=>I<|z▸G x hx),λhx=>((Qc.mp<|(h x).mpr<|Q8 _ hx).resolve_left λz=>I<|z▸p2 x hx)}]
 exact sub h.so h'.so λx=>(h.me x.1 x.2).trans (h'.me x.1 x.2).symm
def Lu.uniq{kd:Int}{e:V}{r r':Nm}(h:Lu st ks kd n av e ps r)(h':Lu st ks kd n av e qs r'):ps=qs/\r=r':=by
 rcases h with⟨k0,m,g,O⟩|⟨up,k1,e1,v1,O⟩<;>rcases h' with⟨k0',m',g',I⟩|⟨up',k1',U,Y,I⟩
 .have lt:∀{m m':Nat}{ps qs:My},Mg st (Lh av) (Lh e) n m ps->Mg st (Lh av) (Lh e) n m' qs->¬m<m':=λ{m m' ps qs} g g' l=>by
   have h1:=g'.go m l;rcases g.st with z|⟨z,y⟩
   .lia
   .have:=g'.le m z l ps g.rw;lia
  have em:m=m':=by
   have h1:=lt g g';have h2:=lt g' g;lia
  subst em;exact{C7 g.rw g'.rw,O.trans I.symm}
 .rw[k0]at k1';cases up'<;>cases k1'
 .rw[k0']at k1;cases up<;>cases k1
 .have eu:up=up':=by
   rw[k1]at k1';cases up<;>cases up'<;>first|rfl|cases k1'
  subst eu;refine{?_,O.trans I.symm};have ek:=e1.trans U.symm;refine List.ext_getElem? λj=>?_;have G:=VT (λl:List Int=>l[j]?) ek;rw[Qu,Qu]at G;cases Z:ps[j]? with
  |none=>rw[Z]at G;cases c2:qs[j]? with
   |none=>rfl
   |some y=>rw[c2]at G;cases G
  |some x=>
   rw[Z]at G;cases c2:qs[j]? with
   |none=>rw[c2]at G;cases G
   |some y=>
    rw[c2]at G;have G:x.1=y.1:=VG G;have h1:=v1 x (Q2 Z);have h2:=Y y (Q2 c2);rw[G,h2]at h1;rw[show x=y from Prod.ext G (VG h1).symm]
structure LY(t:KF)(H':Hp)(F':Mw)(st:K4)(kd n:Int)(av e v:V)(ts:List Tp)(a':V)(R:Nt):Prop where
 rest:(v= .non/\R=λ_=>false)\/∃q:Addr,v= .ref q/\L8 t H' q kd a' e/\LM kd a' e/\¬F' q/\R=hN kd a' e/\(kd=0->Lh av<=Lh a')
 less:∀k,0<=k->R k=true->hN kd av e k=true
 nd:(ts.map (·.k)).Nodup
 me:∀k v,(k,v)∈ts.map Tp.kv↔(k,v)∈st.kv/\hN kd av e k=true/\R k=false
 tell:∀ks,cX ks->(∀z,z∈ks↔(aP st.kv z).isSome=true)->Lu st ks kd n av e (ts.map Tp.kv) (if v= .non then none else some a')
 far:v= .non\/n<=ts.length\/(kd=0/\Lh av/(65536/st.low)+4*n<=Lh a'/(65536/st.low))
theorem vf{J2 j i:Int}(z:0<J2):∀m:Nat,(∀x≤m,aR J2 j i x≠j)->aR J2 j i m/J2=i/J2+m
 |0,_=>(Int.add_zero _).symm
 |m+1,h=>by
  have G:=vf z m λx hx=>h x ();have e:aR J2 j i (m+1)=(aR J2 j i m/J2+1)*J2:=by
   have:=h (m+1) (Q5 _);show tV J2 j (aR J2 j i m)=_;change tV J2 j (aR J2 j i m)≠j at this;unfold tV at this⊢;split
   .rw[VA (by assumption)]at this;exact VE M this
   .rfl
  rw[e,Int.mul_ediv_cancel _ (Zc z),G];lia
def pQ{i j:Int}:hN 0 (.int i) (.int j) k=true↔i<=KG k/\KG k<j:=by
 show(decide (i<=tz (k%65536))&&decide (tz (k%65536)<j))=true↔_;rw[Qj,VR,VR];exact Iff.rfl
def Aa{i j:Int}{m:Nat}(G:0<65536/st.low)(i0:0<=i)(O:i<=j)(g:Mg st i j n m (ts.map Tp.kv))(x:Md t H H' F F' (aR (65536/st.low) j i m) j v):∃a' R,LY t H' F' st 0 n (.int i) (.int j) v ts a' R:=by
 let{r1,r2,_}:=nV G O m g.go;have nd:(ts.map (·.k)).Nodup:=by
  refine Qw.mpr<|(Qw.mp g.rw.so).imp λ{a b} h e=>?_;have h:KG a.k<KG b.k\/(KG a.k=KG b.k/\a.k<b.k):=h;rw[e]at h;lia
 unfold Md at x;by_cases ej:aR (65536/st.low) j i m=j
 .rw[VA ej]at x;refine{.non,λ_=>false,.inl ⟨x,M⟩,λk _ h=>VE h Qa,nd,λk v=>?_,(λks _ _=> .inl {M,m,g,by rw[VA x];exact(VA ej).symm}),.inl x};rw[g.rw.me,ej,pQ];exact{λh=>⟨h.1,h.2,M⟩,λh=>⟨h.1,h.2.1⟩}
 .rw[Vz ej]at x;let{q,I,_,U,dx,fs,hq,Y,Z,q1,q2}:=x;refine{_,hN 0 (.int<|aR (65536/st.low) j i m)<|.int j,.inr {q,I,⟨dx,fs,hq,Y⟩,.inl {M,_,_,M,M,Z,q1,q2},U,M,λ_=>r1},λk _ h=>?_,nd,λk v=>?_,(λks _ _=> .inl {M,m,g,by rw[Vz λz=>by rw[I]at z;cases z];exact(Vz ej).symm}),?_}
  .rw[pQ]at h⊢;lia
  .rw[g.rw.me,pQ,<-Vi,pQ];constructor
   .rintro ⟨h1,h2,h3⟩;exact{h1,{h2,()},()}
   .rintro ⟨h1,⟨h2,h3⟩,h4⟩;exact{h1,h2,()}
  .rcases g.st with z|⟨_,z|z⟩
   .exact VE z ej
   .rw[Q0]at z;exact .inr<|.inl z
   .refine .inr<|.inr {M,?_};have ne:∀x≤m,aR (65536/st.low) j i x≠j:=λx hx=>by
     rcases V2 hx with h|rfl
     .have:=g.go x h;lia
     .exact ej
    show i/(65536/st.low)+4*n<=aR (65536/st.low) j i m/(65536/st.low);rw[vf G m ne];lia
def ss(up:Bool)(x y:Int):Prop:=if up=true then x<y else y<x
def yu{a e:V}(r:cX ks):(bP up a e ks).Pairwise (ss up):=by
 unfold bP ss;cases up
 .exact List.Pairwise.filter _<|X7.mpr r
 .exact List.Pairwise.filter _ r
def LZ{a e:V}{z:Int}:z∈bP up a e ks↔z∈ks/\hK up a e z=true:=by
 unfold bP;rw[Qy];cases up
 .rw[Vz Qa,Zm]
 .rw[VA M]
def CL{l:Mu}{m:Nat}{z:Int}(r:l.Pairwise (ss up))(h:l[m-1]?=some k)(I:1<=m):z∈l.take m↔z∈l/\(z=k\/ss up z k):=by
 have w:=Z2.mp r;let{hk,G}:=Q3.mp h;have as:∀{x y:Int},ss up x y->¬(y=x\/ss up y x):=λ{x y} h1 h2=>by
  unfold ss at h1 h2;cases up
  .rw[Vz Qa]at h1 h2;lia
  .rw[VA M]at h1 h2;lia
 constructor
 .intro hz;let{i,hi,e}:=QI hz;rw[Qe]at hi;rw[ZH]at e;refine{Zg hz,?_};rcases Xz i (m-1)with c|c
  .have:=w i (m-1) () hk c;rw[e,G]at this;exact .inr this
  .have:i=m-1:=();subst this;exact .inl<|e.symm.trans G
 .rintro ⟨hz,o⟩;let{i,hi,rfl}:=QI hz;rcases Xz i m with c|c
  .exact List.mem_take_iff_getElem.mpr {i,(),M}
  .have:=w (m-1) i hk hi ();rw[G]at this;exact VE o<|as this
def HI{a e:V}(h:MH t H p up a e):L8 t H p (if up=true then 1 else 2) a e/\LM (if up=true then 1 else 2) a e:=by
 let{dx,fs,hp,z,ok}:=h;cases up
 .exact{⟨dx,fs,hp,z⟩,.inr<|.inr ⟨M,ok⟩}
 .exact{⟨dx,fs,hp,z⟩,.inr<|.inl ⟨M,ok⟩}
def Ja:hN (if up=true then 1 else 2)=hK up:=by cases up<;>rfl
def tK{a e:V}{z:Int}(ok:if up=true then Lm a e else Li a e)(hk:hK up a e k=true):hK up (.int<|if up=true then k+1 else k-1) e z=true↔hK up a e z=true/\¬(z=k\/ss up z k):=by
 unfold ss;cases up with
 |true=>
  rw[VA M,VA M];let{i,rfl,i0,he}:=(show Lm a e from ok);rcases he with rfl|⟨j,rfl,_⟩
  .have h1:=VF (show decide (i<=k)=true from hk);show decide (k+1<=z)=true↔decide (i<=z)=true/\_;rw[VR,VR];lia
  .have h1:=VF (Qv.mp<|show(decide (i<=k)&&decide (k<j))=true from hk).1;show(decide (k+1<=z)&&decide (z<j))=true↔(decide (i<=z)&&decide (z<j))=true/\_;rw[Qj,Qj,VR,VR,VR];lia
 |false=>
  rw[Vz Qa,Vz Qa];let{j,rfl,G,ha}:=(show Li a e from ok);rcases ha with rfl|⟨i,rfl,_⟩
  .show(decide (j<=z)&&decide (z<=k-1))=true↔decide (j<=z)=true/\_;rw[Qj,VR,VR];lia
  .have h1:=VF (Qv.mp<|show(decide (j<=k)&&decide (k<=i))=true from hk).2;show(decide (j<=z)&&decide (z<=k-1))=true↔(decide (j<=z)&&decide (z<=i))=true/\_;rw[Qj,Qj,VR,VR,VR];lia
def Cn{e:V}(nd:(st.kv.map (·.1)).Nodup)(r:cX ks)(mk:∀z,z∈ks↔(aP st.kv z).isSome=true)(n1:1<=n)(ok:if up=true then Lm av e else Li av e)
  (Y:ts.map (·.k)=(bP up av e ks).take n.toNat) (Z:∀e∈ts,aP st.kv e.k=some e.v) (x:NxH t H H' F' p up e (bP up av e ks) n.toNat v):∃a' R,LY t H' F' st (if up=true then 1 else 2) n av e v ts a' R:=by
 have ho:=yu (up:=up) (a:=av) (e:=e) r;have I:(ts.map (·.k)).Nodup:=by
  rw[Y];refine(ho.sublist<|X0 _ _).imp λ{a b} h e=>?_;unfold ss at h;rw[e]at h;split at h<;>lia
 have me:∀(k:Int)(v:V),(k,v)∈ts.map Tp.kv↔(k,v)∈st.kv/\k∈(bP up av e ks).take n.toNat:=λk v=>by
  rw[<-Y,Qk,Qk];constructor
  .rintro ⟨d,hd,h1⟩;have h2:d.k=k:=VT Prod.fst h1;have O:d.v=v:=VT Prod.snd h1;have:=kB (Z d hd);rw[h2,O]at this;exact⟨this,d,hd,h2⟩
  .rintro ⟨h1,d,hd,rfl⟩;have:=Z d hd;rw[du nd h1]at this;exact{d,hd,by unfold Tp.kv;rw[VG this]}
 have ik:∀{k:Int}{v:V},(k,v)∈st.kv->k∈ks:=λh=>(mk _).mpr (by rw[du nd h];rfl);have tl:∀{r:Nm},(r=if(bP up av e ks).length<=n.toNat then none else((bP up av e ks)[n.toNat-1]?).map λk=> .int<|if up=true then k+1 else k-1)->∀G,cX G->(∀z,z∈G↔(aP st.kv z).isSome=true)->Lu st G (if up=true then 1 else 2) n av e (ts.map Tp.kv) r:=λ{q} hq G r' mk'=>by
  have e1:G=ks:=xR r' r λz=>(mk' z).trans (mk z).symm;subst e1;refine .inr {up,M,by rwa[QL],λp hp=>?_,hq};let{d,hd,rfl}:=Qk.mp hp;exact Z d hd
 unfold NxH at x;split at x
 .refine{.non,λ_=>false,.inl ⟨x,M⟩,λk _ h=>VE h Qa,I,λk v=>?_,tl (by rw[VA x,VA (by assumption)]),.inl x};rw[me,QB (by assumption),LZ,Ja];exact{λh=>⟨h.1,h.2.2,M⟩,λh=>{h.1,ik h.1,h.2.1}}
 .rw[Vz ()]at x;let{q,k0,h0,U,_,nq,TQ}:=x;have hk:=(LZ.mp<|Q2 h0).2;let{t1,t2}:=HI TQ;refine{_,hN (if up=true then 1 else 2) (.int<|if up=true then k0+1 else k0-1) e,.inr {q,U,t1,t2,nq,M,λz=>by cases up<;>cases z},λk _ h=>?_,I,λk v=>?_,tl (by rw[Vz (show ¬v= .non from λz=>by rw[U]at z;cases z),Vz (show ¬(bP up av e ks).length<=n.toNat by assumption),h0];rfl),.inr<|.inl ?_}
  .rw[Ja]at h⊢;exact((tK ok hk).mp h).1
  .rw[me,CL ho h0 (),LZ,Ja,<-Vi,tK ok hk];constructor
   .rintro ⟨h1,⟨_,h2⟩,O⟩;exact{h1,h2,λz=>z.2 O}
   .rintro ⟨h1,h2,O⟩;exact{h1,{ik h1,h2},Classical.byContradiction λz=>O ⟨h2,z⟩}
  .have:=VT List.length Y;rw[Q0,Qe]at this;lia
def HU(K:Wi)(t:KF):Sp:=λvs H Q _=>∃(a p:G')(n kd:Int)(av e:V)(F:Mw)(x:L3),vs=[.ref a,.ref p,.int n,.non]/\Kv K t H a F x/\L8 t H p kd av e/\LM kd av e/\¬F p/\1<=n/\n<=1000/\x.st.kv.length<4096/\x.ks.length<4096/\(∀k∈x.ks,0<=k)/\(∀p∈x.st.kv,∃i:Int,p.2= .int i)/\
 ∀(H':Hp)(F':Mw)(r g:G')(v:V)(ts:List Tp)(a':V)(R:Nt),Kv K t H' a F' x->Fr F F' H H'->PgA H H' F F' r g v ts->LY t H' F' x.st kd n av e v ts a' R->Q (.ref r) H'
def Ds:AZ P w K mg base (LX P w) 8 t.Hx t.yG ["house",gp,l9,"sieve"] (HU K t):=by
 have a2:=ML.nd;refine T.Bf.okX ML (λvs H Q E h=>?_)<|λa3 A outer s H vs Q E hr h=>?_
 .let{a,p,n,kd,av,e,F,x,rfl,_}:=h;rfl
 .let{a,p,n,kd,av,e,F,x,rfl,A,TK,on,np,n1,n2,l4,lk,k0,iv,q}:=h;refine J1 (λx y=>aT (bF<|ar (dU K M) {_} T.bN bn (aa K3<|aa (bK (v:= .ref t.aJ) {_} T.js M) af)) x y) ?_;refine aD (KB 4<|au (pJ T) hr.mo {_} T.Cu T.qK.kp T.Cv .nil jM (@aH _ _ _ _ _ (aC Dm M) (@aH _ _ _ _ _ K3 (@aH _ _ _ _ _ K9 af M) M) M)) ?_
  intros
  refine aD (KB 4<|au (qB T) hr.mo {_} T.DO T.tT.kp T.Ez .nil jM (@aH _ _ _ _ _ Dm (@aH _ _ _ _ _ K3 (@aH _ _ _ _ _ K9 af M) M) M)) ?_
  intros
  refine ah (aT (az g7 KY bS<|aB _)
   (aq<|aw Kt)
   aE)
     (aD wK ?_)
  intros
  let{dx,fs,hp,tf}:=id TK;have nd:(x.st.kv.map (·.1)).Nodup:=by
   let{s,l,wr,p,h,Fs,Fl,Wh,O,g}:=A;let{_,_,_,_,nd,_}:=Wh.sl;exact nd
  have ri:cX x.ks:=by
   let{_,_,_,_,_,_,L}:=A.lvs;exact L.rise
  have G:∀(up:Bool){Q':VK}{E':XK},kd=(if up=true then 1 else 2)->(∀v H',Q v H'->Q' v H')->jL K t [.ref a,.ref p,.int n] H Q' E':=λup Q' E' I hQ=>by
   have ok:if up=true then Lm av e else Li av e:=by
    subst I;cases up
    .exact on.d
    .exact on.u
   refine{a,p,n,up,av,e,F,x,M,A,{dx,fs,?_,?_,ok},np,lk,k0,λH' F' r g v ts Y Z pg ek ev nx=>?_}
   .subst I;cases up<;>exact hp
   .subst I;cases up<;>exact tf
   .let{a',R,U}:=Cn nd ri A.ok.ks n1 ok ek ev nx;rw[<-I]at U;exact hQ _ _<|q H' F' r g v ts a' R Y Z pg U
  rcases on.kd with rfl|rfl|rfl
  .have hp:H p=some (.ins t.aJ dx fs):=hp;let{i,j,rfl,rfl,i0,ij,j1}:=on.s;let{s,l,wr,pp,h,Fs,Fl,Wh,O,g}:=A;let{a0,ho}:=Wh.o.ob;have W0:0<65536/x.st.low:=by
    have z:KA x.st:=let⟨_,_,_,_,_,z⟩:=Wh.sl;z
    let{_,_,R}:=sj (fj z);exact R.wpos'
   refine{_,M,_,_,_,_,M,KD.ins hp T.aZ T.c7.1 T.c7.2 T.c7.3 T.c7.4,T.m6,_,M,b9 {_,M,a,_,a0,_,_,M,ho,T.aX,T.dL,w9,_,M,_,M,s,p,n,i,j,Fs,x.st,M,Wh.sl,⟨dx,fs,hp,tf,i0,ij,j1⟩,λz=>np<|(g p).mpr<|.inl z,n1,n2,l4,iv,λH' Fs' r gg v ts m S' Z pg ps nx=>{_,M,M,_,M,iO M {_,M,?_}}}};let{B1,g1}:=Wh.slots S' Z;have up:∀{b:G'},¬F b->¬Fs b:=λn z=>n ((g _).mpr<|.inl z);have Y:Kv K t H' a (Lz a wr pp h Fs' Fl x.pa) x:={s,l,wr,pp,h,Fs',Fl,B1,O,λ_=>Iff.rfl};have a1:Md t H H' F (Lz a wr pp h Fs' Fl x.pa) (aR (65536/x.st.low) j i m) j v:=by
    unfold Md at nx⊢;split
    .rw[VA (by assumption)]at nx;exact nx
    .rw[Vz (by assumption)]at nx;let{y,e1,e2,e3,e4}:=nx;exact{y,e1,λn=>e2<|up n,Wh.newb e2 e3,e4}
   let{a',R,U}:=Aa W0 i0 ij ps a1;refine q H' _ r gg v ts a' R Y (λb o n e=>g1 b o (λz=>n<|(g b).mpr z) e) {pg.tu,pg.li,λe he=>{(pg.rw e he).1,λz=>?_},{λn=>pg.nr.1<|up n,Wh.newb pg.nr.1 pg.nr.2},λn=>pg.ng.1<|up n,Wh.newb pg.ng.1 pg.ng.2} U;let{o,e',n}:=Y.dom z;rw[(pg.rw e he).1]at e';exact n _ (VG e').symm
  .have hp:H p=some (.ins t.cQ dx fs):=hp;refine{_,M,_,_,_,_,M,KD.ins hp T.dS T.dC.1 T.dC.2 T.dC.3 T.dC.4,T.uM,_,M,bT {_,M,_,M,_,M,G true M λv H' h=>{_,M,M,_,M,iO M {_,M,h}}}}
  .have hp:H p=some (.ins t.bI dx fs):=hp;refine{_,M,_,_,_,_,M,KD.ins hp T.bC T.bx.1 T.bx.2 T.bx.3 T.bx.4,T.qH,_,M,bT {_,M,_,M,_,M,G false M λv H' h=>{_,M,M,_,M,iO M {_,M,h}}}}
def MK(H:Hp)(C:G')(E:XK):Prop:=∀(ea:G')(od:Nf)(H':Hp),HC H' ea od C []->Cp H H'->E (.ref ea) od H'
def fI{H0:Hp}(Y:L9 K C bm)(s:Cp H H0)(k:MK H C E){D:iW}{x:Str}:wD K (v9 C<|Ao (tC<|.str x) Bs) E D B H0:=by
 refine{(by show 1<=1000;decide),λea z=>{ea,C,none,bm,M,ag,Y,?_}};rw[bU];refine k ea none _ {ag,.inl ⟨M,M⟩} λb o q=>?_;have q:=s b o q;rw[ae (aj q z)];exact q
def dg(c:Nat):Bool:=decide (c∈sg (nj:Str))
def Eo{c:Nat}(h:dg c=true):48<=c/\c<=57:=by
 have h:c∈[48,49,50,51,52,53,54,55,56,57]:=VF h;simp at h;omega (config:={})
def Gm(c:Nat):(!(Builtin.Str.occurrences (nj:Str) {#[c]} 0 (nj:Str).length 1).isEmpty)=dg c:=StrLaws.found_one _ c
def nC(z:Str):Bool:=(decide (1<=(z.length:Int))&&decide ((z.length:Int)<=60))&&(!(decide ((sg z).head?=some 48)&&decide (z≠("0":Str))))&&(sg z).all dg
def rf:Sp:=λvs H Q _=>∃z:Str,vs=[.str z]/\z.length<=100000/\∀H',Cp H H'->Q (.bl<|nC z) H'
def Mj:("0":Str)={#[48]}:=by decide+kernel
def strM:("-":Str)={#[45]}:=by decide+kernel
def DY:PySem.W.kitOne K (.type "str") (.type "str")=some true/\PySem.W.kitOne K (.type nX) (.type "str")=some false/\PySem.W.kitOne K (.type "NoneType") (.type "str")=some false/\PySem.W.kitOne K (.type "bool") (.type "str")=some false/\PySem.W.kitOne K (.type eR) (.type "str")=some false/\PySem.W.kitOne K (.type i3) (.type "str")=some false:=
 {by kernel_rfl,by kernel_rfl,by kernel_rfl,by kernel_rfl,by kernel_rfl,by kernel_rfl}
def sD:AZ P w K mg base KI 1 t.mh t.hV ["text"] rf:=by
 let{Y,I}:=T.g_FIGURES;let{O,G}:=T.g_MOST_FIGURES;refine T.uY.okl rM λs H vs Q E hr h _=>?_;intro X;let{z,rfl,zl,q}:=h;refine ah (aT (jj<|xT nZ nZ ak (ar jK {_} T.bM a6 (aa Dm af))<|bK (v:= .int 60) {_} G {_,M})
    (aq<|aw xZ)
    aE)
   (ah (aT (PW.pt<|fV (bF<|eU X5 Vq Vr vq Dm<|aa bu af)<|eI<|az AA Dm bu<|aB _)
    (aq<|aw xZ)
    aE)
   (aD (aw<|ar (Cj M) {_} T.Kq Jk (aa (lD M (K5.of (M':=["sign"]) (N:=["text"]) (N':=["text"]) (dsc:=ai eD) M M ∅) (Ij Dm)<|λ_ _ _ _ _=>(c6 BF Dm (bK (v:= .str nj) {_} I {_,M}) M)) af)) ?_))
 intros
 have big:100000<=sizeLine:=by decide
 unfold nC at q;have last:(decide (1<=(z.length:Int))&&decide ((z.length:Int)<=60))=true->(!(decide ((sg z).head?=some 48)&&decide (z≠("0":Str))))=true->∀H',Cp H H'->Q (.bl<|((sg z).map dg).all id) H':=λh1 h2 H' s=>by
  have:=q H' s;rw[h1,h2,Zx,Zx]at this;rwa[List.all_map]
 have Z:(decide (1<=(z.length:Int))&&decide ((z.length:Int)<=60))=true->(!(decide ((sg z).head?=some 48)&&decide (z≠("0":Str))))=true->∀D,H D=none->∀ys,ys=((sg z).map dg).map V.bl->∀H2,H2=upd H D (.lst ys)->H2 D=some (.lst ys)->∃(p:G')(bs:List Bool),[V.ref D]=[.ref p]/\Do K H2 p (bs.map V.bl)/\Q (.bl<|bs.all id) H2:=λh1 h2 D hD ys ey H2 e2 U=>
  {D,(sg z).map dg,M,Do.of (by rw[U,ey]),last h1 h2 H2<|by rw[e2];exact am hD}
 refine{_,M,z,M,(),_,_,M,M,_,M,?_};by_cases c1:(1:Int)<=(z.length:Int)
 .refine kE c1 {_,_,M,M,_,M,?_};by_cases c2:(z.length:Int)<=60
  .rw[VI c1,VI c2]at q last Z;rw[VI c2];refine bT ?_;refine{_,M,M,z,_,M,M,_,M,?_};rw[show(Str.ofString "0")={#[48]} from Mj,rc];have fin:(!(decide ((sg z).head?=some 48)&&decide (z≠("0":Str))))=true->∀D,H D=none->∃J2:Nat->Nat->List V->Hp->Prop,(∃m,J2 0 m [] (upd H D<|.lst []))/\∀i m ys H2,J2 i m ys H2->H2 D=some (.lst ys)->
     ((MV z).stop i H2/\∃(p:G')(bs:List Bool),[V.ref D]=[.ref p]/\Do K H2 p (bs.map V.bl)/\Q (.bl<|bs.all id) H2)\/((MV z).go i H2/\∀x H3,(MV z).yld i H2 x H3->tOp (λx y H Q=>∃i j,x= .str i/\y= .str j/\Q (.bl<|!(Builtin.Str.occurrences j i 0 j.length 1).isEmpty) H) (Fm 0) (tC<|.str nj) (some x::[some (V.str z)]) H3 λy H4=>H4 D=some (.lst ys)/\ys.length<sizeLine/\∃m',m'<m/\J2 (i+1) m' (ys++ [y]) (upd H4 D<|.lst<|ys++ [y])):=λh2 D hD=>by
    refine Er (z:=z) (λi ys H2=>H2=upd H D (.lst ys)/\ys=(((sg z).take i).map dg).map V.bl) ⟨M,M⟩ (λi c ys H2 hc w U=>?_)<|λys H2 w U=>?_
    .have hi:i<z.cps.size:=by
      rcases Xz i z.cps.size with g|g
      .exact g
      .rw[Array.getElem?_eq_none g]at hc;cases hc
     have a0:(sg z)[i]?=some c:=by rw[<-hc];simp[sg]
     have l1:ys.length<=100000:=by
      rw[w.2,Q0,Q0,Qe];have:=fO z;lia
     refine{_,M,_,_,M,M,?_};rw[Gm];refine KL.mk hi U (bi ()) {by rw[w.1,bU],?_};rw[w.2,Qo,a0,Qb,Qb];rfl
    .refine Z M h2 D hD ys ?_ H2 w.1 U;rw[w.2,QB];have:=fO z;have:z.length=z.cps.size:=M;lia
   by_cases c3:(sg z).head?=some 48
   .rw[VI c3];refine b9 {_,M,M,_,M,?_};by_cases c4:z=("0":Str)
    .refine D3 (by rw[c4,Mj]) ?_;exact{_,M,z,M,λD hD=>fin (by simp[c4]) D hD}
    .refine Hn (λy=>c4<|(V.str.inj y).trans Mj.symm) ?_;have:=q H (Cp.refl _);rw[VI c3,VI c4]at this;exact this
   .rw[VM c3];refine bT ?_;exact{_,M,z,M,λD hD=>fin (by simp[c3]) D hD}
  .rw[VM c2];refine b9 ?_;rw[VM c2,XJ]at q;exact q H<|Cp.refl _
 .refine br c1 ?_;rw[VM c1]at q;exact{_,M,b9<|q H (Cp.refl _)}
noncomputable def MN(z:Str):Bool:=decide ((sg z).head?=some 45)
def LP(z:Str):Str:=if MN z=true then Txt.slice z (some 1) none else z
def MA(z:Str):Bool:=nC (LP z)&&!(MN z&&decide (LP z=("0":Str)))
def Gs(z:Str):(LP z).length<=z.length:=by
 unfold LP;split
 .exact Txt.slice_le _ _ _
 .exact Q5 _
def zU(z:Str):sg z=if MN z=true then 45::sg (LP z)else sg (LP z):=by
 unfold LP;by_cases c:MN z=true
 .rw[VA c,VA c,xK];have h:(sg z).head?=some 45:=VF c;cases e:sg z with
  |nil=>rw[e]at h;cases h
  |cons a r=>rw[e]at h;cases h;rfl
 .rw[Vz c,Vz c]
def Co{z:Str}(h:MA z=true)(hl:z.length<=640):∃n,PySem.intText? z=some n:=by
 unfold MA nC at h;rw[Qj,Qj,Qj,Qj]at h;let{{{{h1,_},_},I},_}:=h;have ad:PySem.NumText.AllDigits (sg<|LP z):=λc hc=>Eo (QE.mp I c hc);have G:sg (LP z)≠[]:=λe=>by
  have h1:=VF h1;rw[fO,e]at h1;simp at h1
 have fs:=zU z;by_cases c:MN z=true
 .rw[VA c]at fs;exact{_,PySem.intText_neg fs ad G ()}
 .rw[Vz c]at fs;exact{_,PySem.intText_digits (by show PySem.NumText.AllDigits (sg z);rwa[fs]) (by show sg z≠[];rwa[fs]) ()}
def Jd{z:Str}(h:nC (LP z)=true):z.length<=640:=by
 unfold nC at h;rw[Qj,Qj,Qj]at h;have h2:=VF h.1.1.2;have fs:=zU z;have l1:=fO z;have G:=fO (LP z);rw[fs]at l1;split at l1
 .rw[Ql]at l1;lia
 .lia
def tX(K:Wi)(t:KF):Sp:=λvs H Q E=>(∃z:Str,vs=[.str z]/\z.length<=100000/\(MA z=true->∀n H',PySem.intText? z=some n->Cp H H'->Q (.int n) H')/\(MA z=false->MK H t.cZ E))\/
 (∃(x:V)(ty:J'),vs=[x]/\KD K H x ty/\PySem.W.kitOne K ty (.type "str")=some false/\MK H t.cZ E)
def As{t u:TS}{D:iW}(M':Nx)(h1:∀nx,(∀z H',M' z H'->nx z H')->t {D with nx:=nx} B H)(h2:∀z H',M' z H'->u D z H'):xF t u D B H:=h1 (u D) h2
def uw:AZ P w K mg base (CXc P w) 2 t.oE t.jy ["text"] (tX K t):=by
 have a0:=LG.nd;refine T.xu.okC LG (λvs H Q E h=>?_)<|λa1 A outer s H vs Q E hr h=>?_
 .rcases h with⟨z,rfl,_⟩|⟨x,ty,rfl,_⟩<;>rfl
 .refine ah (aT (jj<|bF<|ar gN {_} T.bN bn (aa Dm<|aa (qO (v:= .ty "str") {_} T.GT zY M) af))
   (aq<|vj M An<|cK T.fF T.zP {_} T.vx (aa bu af))
   aE)
     (ah (KB 1<|eU X5 Vq Vr vq Dm<|aa bu af)
     (ah (KB 2<|xW (bF K3) (bX mN Dm (b7 ak) cx) Dm)
     (ah (aT (PW.pt<|qf (jj<|bF<|au (sD T) hr.mo {_} T.ER T.uY.kp T.ES .nil aA (aa K9 af))<|mV<|PW.pt<|fV (bF K3)<|eI<|az eV K9 bu<|aB _)
   (aq<|vj M An<|cK T.fF T.zP {_} T.vx (aa bu af))
   aE)
     (aD (aw<|pF uQ {_} T.JA Eu (aa Dm af)) ?_))))
  intros
  have big:100000<=sizeLine:=by decide
  rcases h with⟨z,rfl,U,q1,Y⟩|⟨x,ty,rfl,ht,hk,q⟩
  .refine{_,M,_,_,_,_,M,KD.str _,DY.1,true,M,bT ?_};refine{_,M,M,z,_,M,M,?_};rw[show(Str.ofString "-")={#[45]} from strM,rc,show decide ((sg z).head?=some 45)=MN z from rfl];have fl:=Gs z
   (try dsimp only)
   refine As (λI H'=>I=[some (.str z),some (.bl<|MN z),some (.str<|LP z)]/\H'=H) (λnx go=>?_)<|λI H' w=>?_
   .refine{_,M,_,M,dY (λc=>?_)<|λc=>?_}
    .refine{_,M,_,M,z,M,(),go _ _ {?_,M}};unfold LP;rw[VA c];rfl
    .refine{_,M,go _ _ {?_,M}};unfold LP;rw[Vz c];rfl
   let{O,eH}:=w;rw[O,eH];clear O eH;refine{_,M,LP z,M,(),λH1 s1=>{_,M,?_}};unfold MA at q1 Y;cases ea:nC (LP z)with
   |false=>
    refine b9 ?_;refine b9 ?_;exact fI T.fF s1<|Y (by rw[ea];rfl)
   |true=>
    refine bT {_,M,_,M,?_};have U:=Jd ea;have ok:(!(MN z&&decide (LP z=("0":Str))))=true->∃n,PySem.intText? z=some n/\∀H',Cp H' H'->Cp H H'->Q (.int n) H':=λh=>by
     have ac:MA z=true:=by unfold MA;rw[ea,h];rfl
     let{n,G}:=Co ac U;exact{n,G,λH' _ s=>q1 (by rw[ea,h];rfl) n H' G s}
    cases Z:MN z with
    |true=>
     refine b9 {_,M,M,_,M,?_};by_cases c:LP z=("0":Str)
     .refine iO (by rw[c]) ?_;exact fI T.fF s1<|Y (by rw[ea,Z,VI c];rfl)
     .refine br (λy=>c<|V.str.inj y) ?_;let{n,G,k}:=ok (by rw[Z,VM c];rfl);exact{_,M,z,n,M,G,U,k H1 (Cp.refl _) s1}
    |false=>
     refine bT ?_;refine bT ?_;let{n,G,k}:=ok (by rw[Z];rfl);exact{_,M,z,n,M,G,U,k H1 (Cp.refl _) s1}
  .refine{_,M,_,_,_,_,M,ht,hk,false,M,b9 ?_};exact fI T.fF (Cp.refl _) q
def Jg{c:Nat}(z:48<=c)(h1:c<=57):dg c=true:=by
 have e:sg (nj:Str)=[48,49,50,51,52,53,54,55,56,57]:=by decide+kernel
 unfold dg;rw[e];refine VI ?_;simp;lia
def IA{i:Int}(z:0<=i):sg (Str.ofString<|toString i)=(Nat.toDigits 10 i.toNat).map Char.toNat:=by
 let{m,rfl}:=Zh z;exact PySem.W.KIN.signs_num m
def FW(m:Nat):∀c∈(Nat.toDigits 10 m).map Char.toNat,48<=c/\c<=57:=λc hc=>by
 let{ch,z,e}:=Qk.mp hc;rw[<-e];exact PyProof.Rows.digit_range<|Nat.isDigit_of_mem_toDigits (_) (_) z
def Dt(m:Nat):(Nat.toDigits 10 m).map Char.toNat≠[]:=λe=>by
 have h:0<(Nat.toDigits 10 m).length:=Nat.length_toDigits_pos;rw[XW.mp e]at h;exact VE h (_)
def Du(m:Nat):0<m->((Nat.toDigits 10 m).map Char.toNat).head?≠some 48:=by
 induction m using Nat.strongRecOn with
 |_ m z=>
  intro h;by_cases c:m<10
  .rw[Xs c];have d:∀d:Nat,d<10->0<d->(Nat.digitChar d).toNat≠48:=by decide
   intro e;exact d m c h<|VG e
  .have G:m%10<10:=Nat.mod_lt m (_);have t:Nat.toDigits 10 (m/10)++Nat.toDigits 10 (m%10)=Nat.toDigits 10 (10*(m/10)+m%10):=Vp (_) () G;rw[Nat.div_add_mod]at t;rw[<-t,Qb];have:=z (m/10) () ();cases q:(Nat.toDigits 10<|m/10).map Char.toNat with
   |nil=>exact VE q<|Dt _
   |cons a r=>rw[q]at this;exact this
def rb(a:V):Prop:=a= .non\/∃i:Int,a= .int i/\0<=i/\i<10^39
def CB{i:Int}(U:0<=i)(h1:i<10^39):MA (wr<|.int i)=true/\PySem.intText? (wr<|.int i)=some i/\wr (.int i)≠("-":Str)/\32∉sg (wr<|.int i)/\(wr<|.int i).length<=40:=by
 have Y:(wr<|.int i).length<=40:=by
  have h:(toString i).length<=39+1:=PySem.int_text_length_le10 (_) ();show(Str.ofString<|toString i).length<=40;rw[Str.ofString_eq_toList];show((toString i).toList.map Char.toNat).toArray.size<=40;rwa[Q9,Q0]
 have e:sg (wr<|.int i)=(Nat.toDigits 10 i.toNat).map Char.toNat:=IA U;have ad:=FW i.toNat;have G:=Dt i.toNat;have I:=Du i.toNat;rw[<-e]at ad G I;have Z:PySem.NumText.digitsVal (sg<|wr<|.int i)=i.toNat:=by rw[e];exact PySem.W.KIN.val_back _
 have hd:(sg<|wr<|.int i).head?≠some 45:=λq=>by
  have:=ad 45 (List.mem_of_mem_head? q);lia
 have z0:(sg<|wr<|.int i).head?=some 48->wr (.int i)=("0":Str):=λq=>by
  rcases QZ i.toNat with z|z
  .obtain rfl:i=0:=();show Str.ofString (toString (0:Int))=_;decide+kernel
  .exact VE q<|I z
 generalize wr (.int i)=z at*;have O:MN z=false:=VM hd;have fz:LP z=z:=by unfold LP;rw[O];rfl
 have l1:1<=z.length:=by
  rw[fO];cases q:sg z with
  |nil=>exact VE q G
  |cons a r=>simp
 refine{?_,?_,?_,?_,Y}
 .unfold MA nC;rw[O,fz,ZZ,Bool.not_false,Bool.and_true,VI (show(1:Int)<=(z.length:Int) by lia),VI (show(z.length:Int)<=60 by lia)];have a1:(sg z).all dg=true:=QE.mpr λc hc=>Jg (ad c hc).1 (ad c hc).2;rw[a1];by_cases c:(sg z).head?=some 48
  .rw[VM (show ¬z≠("0":Str) from λq=>q<|z0 c),XJ];rfl
  .rw[VM c];rfl
 .have r:=PySem.intText_digits (x:=z) ad G ();rw[r];show some ((PySem.NumText.digitsVal (sg z):Nat):Int)=some i;rw[Z];congr 1;lia
 .intro q;exact hd<|by rw[q];decide+kernel
 .intro q;have:=ad 32 q;lia
def rb.free{a:V}(h:rb a):32∉sg (wr a)/\(wr a).length<=40:=by
 rcases h with rfl|⟨i,rfl,z,h1⟩
 .exact{∅,∅}
 .exact{(CB z h1).2.2.2.1,(CB z h1).2.2.2.2}
def rb.bd{a:V}(h:rb a):MW a:=by
 rcases h with rfl|⟨i,rfl,z,h1⟩
 .exact VU
 .exact Int.lt_trans h1 (_)
def strB:(" ":Str)={#[32]}:=by decide+kernel
def Bq{kd:Int}{a e:V}(hk:kd=0\/kd=1\/kd=2)(ha:rb a)(he:rb e):Txt.split (iX (Lg kd) a e) (" ":Str)=[Lg kd,wr a,wr e]/\(iX (Lg kd) a e).length<=100:=by
 have k1:32∉sg (Lg kd)/\(Lg kd).length<=5:=by rcases hk with rfl|rfl|rfl<;>exact{∅,∅}
 constructor
 .unfold iX;rw[strB];refine zf (by simp) λx hx=>?_;rcases Qc.mp hx with rfl|hx
  .exact k1.1
  rcases Qc.mp hx with rfl|hx
  .exact ha.free.1
  .rw[Qf.mp hx];exact he.free.1
 .unfold iX;rw[w6];have:=ha.free.2;have:=he.free.2;have:=k1.2;have s1:(" ":Str).length=1:=by decide+kernel
  show(Lg kd++(" ":Str)++(wr a++(" ":Str)++wr e)).length<=100;rw[Str.length_append,Str.length_append,Str.length_append,Str.length_append,s1];lia
def yD:∀c:Nat,48<=c->c<=57->(Nat.digitChar<|c-48).toNat=c:=by
 intro c z h1;obtain⟨d,rfl⟩:∃d,c=48+d:={c-48,()};have h:∀d:Nat,d<10->(Nat.digitChar<|48+d-48).toNat=48+d:=by decide
 exact h d ()
def yE(n:Nat):∀L:List Nat,L.length=n->(∀c∈L,48<=c/\c<=57)->L≠[]->(L.head?=some 48->L=[48])->(Nat.toDigits 10<|PySem.NumText.digitsVal L).map Char.toNat=L/\PySem.NumText.digitsVal L<10^n:=by
 induction n with
 |zero=>intro L hl _ G;exact VE (Xc hl) G
 |succ n Z=>
  intro L hl ad G hd;obtain⟨M',c,rfl⟩:∃M' c,L=M'++ [c]:={L.dropLast,L.getLast G,(List.dropLast_concat_getLast G).symm};let{c0,O}:=ad c (by simp);have U:M'.length=n:=by simpa using hl
  rw[PySem.NumText.digitsVal_snoc];by_cases I:M'=[]
  .subst I;have e0:PySem.NumText.digitsVal []=0:=M;rw[e0,Nat.zero_mul,ZO];constructor
   .rw[Xs ()];show[(Nat.digitChar<|c-48).toNat]=[]++ [c];rw[yD c c0 O];rfl
   .have:n=0:=by simpa using U.symm
    subst this;show c-48<10^1;lia
  .have Y:M'.head?≠some 48:=λz=>by
    have z':(M'++ [c]).head?=some 48:=by rw[List.head?_append,z];rfl
    have:=hd z';cases M' with
    |nil=>exact I M
    |cons a r=>simp at this
   let{h1,h2}:=Z M' U (λx hx=>ad x<|by simp[hx]) I (λz=>VE z Y);have pos:0<PySem.NumText.digitsVal M':=by
    rcases QZ (PySem.NumText.digitsVal M')with z|z
    .rw[z]at h1;refine VE ?_ Y;rw[<-h1];decide
    .exact z
   have t:Nat.toDigits 10 (PySem.NumText.digitsVal M')++Nat.toDigits 10 (c-48)=Nat.toDigits 10 (10*PySem.NumText.digitsVal M'+(c-48)):=Vp (_) pos ();constructor
   .rw[X1,<-t,Qb,h1,Xs ()];show M'++ [(Nat.digitChar<|c-48).toNat]=M'++ [c];rw[yD c c0 O]
   .rw[ZN];lia
def GJ{z:Str}(h:nC z=true):1<=z.length/\z.length<=60/\((sg z).head?=some 48->z=("0":Str))/\∀c∈sg z,48<=c/\c<=57:=by
 unfold nC at h;rw[Qj,Qj,Qj]at h;let{{{h1,h2},G},I}:=h;have h1:=VF h1;have h2:=VF h2;refine{(),(),λO=>?_,λc hc=>Eo<|QE.mp I c hc};rw[VI O,Zx,V9]at G;exact Classical.not_not.mp<|VS G
def Ad{z:Str}(h:nC z=true):∃n:Int,PySem.intText? z=some n/\0<=n/\n<10^60/\wr (.int n)=z:=by
 let{l1,U,I,ad}:=GJ h;have G:sg z≠[]:=λe=>by
  rw[fO,e]at l1;exact VE l1 (_)
 have Y:=fO z;let{O,Z}:=yE (sg z).length (sg z) M ad G λq=>by
  have:=I q;rw[this];decide+kernel
 have r:PySem.intText? z=some ((PySem.NumText.digitsVal (sg z):Nat):Int):=PySem.intText_digits ad G ();refine{_,r,ZX _,?_,wv ?_}
 .have:=Nat.pow_le_pow_right (show 0<10 by decide) (show(sg z).length<=60 by lia);have:PySem.NumText.digitsVal (sg z)<10^60:=()
  exact_mod_cast this
 .rwa[show sg (wr<|.int ((PySem.NumText.digitsVal (sg z):Nat):Int))=(Nat.toDigits 10<|PySem.NumText.digitsVal<|sg z).map Char.toNat from PySem.W.KIN.signs_num _]
def GK{z:Str}(h:MA z=true)(h':nC z=false)(hl:z.length<=640):∃n:Int,PySem.intText? z=some n/\n<0:=by
 have ac:=h;unfold MA nC at h;rw[Qj,Qj,Qj,Qj]at h;let{{{{h1,h2},hd},G},I}:=h;have ad:∀c∈sg (LP z),48<=c/\c<=57:=λc hc=>Eo (QE.mp G c hc);have O:sg (LP z)≠[]:=λe=>by
  have h1:=VF h1;rw[fO,e]at h1;simp at h1
 have fs:=zU z;cases c:MN z with
 |true=>
  rw[c,VA M]at fs;refine{_,PySem.intText_neg fs ad O (),?_};rw[c,Zx,V9]at I;have U:=VS I;have Z:(sg<|LP z).head?=some 48->sg (LP z)=[48]:=λq=>by
   rw[VI q,Zx,V9]at hd;exact VE (Classical.not_not.mp<|VS hd) U
  let{Y,_}:=yE _ (sg<|LP z) M ad O Z;have pos:0<PySem.NumText.digitsVal (sg<|LP z):=by
   rcases QZ (PySem.NumText.digitsVal<|sg<|LP z)with q|q
   .rw[q]at Y;refine VE (wv ?_) U;rw[<-Y];decide+kernel
   .exact q
  lia
 |false=>
  have fz:LP z=z:=by unfold LP;rw[c];rfl
  rw[fz]at h1 h2 hd G;unfold nC at h';rw[h1,h2,hd,G]at h';cases h'
def M3(x:Str):Option V:=if x=("-":Str)then some .non else if MA x=true then(PySem.intText? x).map V.int else none
def tZ(t:KF):Sp:=λvs H Q E=>∃x:Str,vs=[.str x]/\x.length<=640/\(∀a,M3 x=some a->∀H',Cp H H'->Q a H')/\(M3 x=none->MK H t.a7 E)
def ux:AZ P w K mg base (LX P w) 3 t.oH t.jA ["word"] (tZ t):=by
 have Z:=LF.nd;refine T.oU.okX LF (λvs H Q E h=>?_)<|λa0 A outer s H vs Q E hr h=>?_
 .let{x,rfl,_}:=h;rfl
 .let{z,rfl,zl,I,O}:=h;refine ah (aT (az eV Dm bu<|aB _)
   (aq<|aw bS)
   aE)
     (aD (FM M M (λpn E=>(aq<|aw<|xY (uw T) hr.mo {_} T.Gh T.xu.kp T.GA .nil Ir (aa Dm af))) {_} T.vx T.fF Fk (λea=>(cK T.aS T.dA {_} T.dh (aa bu af)))) ?_)
  intros
  unfold M3 at I O;by_cases c:z=("-":Str)
  .refine{_,M,M,_,M,iO (by rw[c]) ?_};rw[VA c]at I;exact I .non M H<|Cp.refl _
  .rw[Vz c]at I O;refine{_,M,M,_,M,br (λy=>c<|V.str.inj y) ?_};refine{_,M,.inl {z,M,Qr zl (_),λU n H' G s=>?_,λU ea od H' hx hs=>?_}}
   .rw[VA U,G]at I;exact I _ M H' s
   .refine{ea,t.cZ,_,M,hx.1,T.fF,T.Bt,(by show 1<=1000;decide),λe2 G=>?_};have Y:e2≠ea:=λy=>by rw[y,ag]at G;cases G
    rw[ae Y]at G;refine{e2,t.a7,none,_,M,Y,ag,(by rw[ae (Ne.symm Y)];exact ag),T.aS,?_};refine O (by rw[Vz (by rw[U];exact Qa)]) e2 none _ {ag,.inl ⟨M,M⟩} λb o q=>?_;have q:=hs b o q;rw[ae (aj q G)];by_cases y:b=ea
    .subst y;rw[ag,<-hx.1];exact q
    .rw[ae y,ae (aj q G),ae y];exact q
def MK.on(k:MK H C E)(s:Cp H H'):MK H' C E:=λea od H2 hx hs=>k ea od H2 hx (s.trans hs)
def Tk(z:Str)(kd:Int)(a e:V):Prop:=∃wa we:Str,Txt.split z (" ":Str)=[Lg kd,wa,we]/\M3 wa=some a/\M3 we=some e/\LM kd a e
def NoTk(z:Str):Prop:=∀kd a e,¬Tk z kd a e
def Db{x:Str}{a:V}(h:M3 x=some a):Sc a:=by
 unfold M3 at h;split at h
 .cases h;exact VU
 .split at h
  .cases e:PySem.intText? x with
   |none=>rw[e]at h;cases h
   |some n=>rw[e]at h;cases h;exact VU
  .cases h
def qQ{kd kd':Int}(h:kd=0\/kd=1\/kd=2)(h':kd'=0\/kd'=1\/kd'=2)(e:Lg kd=Lg kd'):kd=kd':=by
 rcases h with rfl|rfl|rfl<;>rcases h' with rfl|rfl|rfl<;>first|rfl|exact VE e ∅
def Tk.is{z U Y Z:Str}{kd:Int}{a e e':V}(es:Txt.split z (" ":Str)=[U,Y,Z])(ra:M3 Y=some a)(re:M3 Z=some e)(h:Tk z kd a' e'):U=Lg kd/\a'=a/\e'=e/\LM kd a e:=by
 let{wa,we,G,I,O,ok}:=h;rw[es]at G;let{rfl,h2}:=List.cons.inj G;let{rfl,h3}:=List.cons.inj h2;let{rfl,_}:=List.cons.inj h3;rw[ra]at I;rw[re]at O;cases I;cases O;exact⟨M,M,M,ok⟩
def tY(K:Wi)(t:KF):Sp:=λvs H Q E=>(∃z:Str,vs=[.str z]/\z.length<=600/\(∀kd a e,Tk z kd a e->∀H' p,H p=none->Cp H H'->L8 t H' p kd a e->Q (.ref p) H')/\(NoTk z->MK H t.a7 E))\/
 (∃(x:V)(ty:J'),vs=[x]/\KD K H x ty/\PySem.W.kitOne K ty (.type "str")=some false/\MK H t.a7 E)
def lF{N:G'}{kd:Str}{ok:V->V->Prop}{a e:V}(G:Sc a)(I:Sc e)(x dx:G')(nx:H x=none)(nd:H dx=none)
  (q:ok a e->∀H' fs,Cp H H'->H' x=some (.ins C dx fs)->uW kd fs a e->Q .non H') (r:¬ok a e->MK H N E):Ap C N kd ok [.ref x,a,e] (upd (upd H dx<|.own x) x<|.ins C dx []) Q E:=
 {x,dx,a,e,M,ag,G,I,λO H' fs k h f=>q O H' fs (lw nx nd k) h f,λz ea od H' hx k=>r z ea od H' hx<|lw nx nd k}
def lY:AZ P w K mg base (LX P w) 5 t.oG t.jz ["text"] (tY K t):=by
 let{O,G}:=T.g_WORDS_OF_TOKEN;have a3:=LH.nd;refine T.oS.okX LH (λvs H Q E h=>?_)<|λa4 A outer s H vs Q E hr h=>?_
 .rcases h with⟨z,rfl,_⟩|⟨x,ty,rfl,_⟩<;>rfl
 .refine ah (aT (jj<|bF<|ar gN {_} T.bN bn (aa Dm<|aa (qO (v:= .ty "str") {_} T.GT zY M) af))
   (aq<|iH M lh<|cK T.aS T.dA {_} T.dh (aa bu af))
   aE)
     (ah (KB 1<|eU X5 PySem.F.slot_str_split PySem.F.type_str_split DF Dm<|aa bu af)
     (ah (aT (az AA (ar ax {_} T.bM a6 (aa K3 af)) (bK (v:= .int 3) {_} G {_,M})<|aB _)
   (aq<|iH M lh<|cK T.aS T.dA {_} T.dh (aa bu af))
   aE)
     (ah (KB 2<|au (ux T) hr.mo {_} T.w5 T.oU.kp T.xj .nil jM (aa (aY aW K3 ak<|λ_ _=>M) af))
     (ah (KB 3<|au (ux T) hr.mo {_} T.w5 T.oU.kp T.xj .nil jM (aa (aY aW K3 ak<|λ_ _=>M) af))
     (ah (aT (az eV (aY aW K3 ak<|λ_ _=>M) bu<|aB _)
   (aq<|aw<|lC T.sQ (d9 T) hr.mo {_} T.js T.qJ .nil jM (aa K9<|aa KY af))
   aE)
     (ah (aT (az eV (aY aW K3 ak<|λ_ _=>M) bu<|aB _)
   (aq<|aw<|lC T.Hh (kr T) hr.mo {_} T.yf T.zZ .nil jM (aa K9<|aa KY af))
   aE)
     (ah (aT (az eV (aY aW K3 ak<|λ_ _=>M) bu<|aB _)
   (aq<|aw<|lC T.AD (g9 T) hr.mo {_} T.AE T.xk .nil jM (aa K9<|aa KY af))
   aE)
     (aD (iH M lh<|cK T.aS T.dA {_} T.dh (aa bu af)) ?_))))))))
  intros
  rcases h with⟨z,rfl,zl,q1,q2⟩|⟨x,ty,rfl,ht,hk,q⟩
  .refine{_,M,_,_,_,_,M,KD.str _,DY.1,true,M,bT ?_};refine{_,M,M,_,_,M,M,∅,(),λl nl=>?_};have wt:=PyProof.Rows.split_weight z (" ":Str) ∅;rw[show(Str.ofString " ")=(" ":Str) from rfl];generalize es:Txt.split z (" ":Str)=Y at wt⊢;have s1:=am (o:= .lst<|Y.map V.str) nl;have e1:upd H l (.lst<|Y.map V.str) l=some (.lst<|Y.map V.str):=ag;generalize upd H l (.lst<|Y.map V.str)=H1 at s1 e1⊢;refine{_,M,l,_,M,.inl<|Do.of e1,M,_,M,?_};by_cases c3:Y.length=3
   .refine D3 (by rw[Q0,c3];rfl) ?_;obtain⟨Z,w1,w2,rfl⟩:∃Z w1 w2,Y=[Z,w1,w2]:=by
     match Y,c3 with
     | [a,b,c],_=>exact⟨a,b,c,M⟩
    have l1:w1.length<=640/\w2.length<=640:=by simp at wt;lia
    refine{_,M,l,_,_,_,M,M,Do.of e1,M,w1,M,l1.1,λa ra H2 s2=>?_,λrn=>(q2 λkd a e zz=>by let{wa,we,I,a1,_}:=zz;exact (by rw[es]at I;cases I;rw[rn]at a1;cases a1)).on s1};have e2:=s2 _ _ e1;refine{_,M,l,_,_,_,M,M,Do.of e2,M,w2,M,l1.2,λe re H3 s3=>?_,λrn=>(q2 λkd a e zz=>by let{wa,we,I,_,a2,_}:=zz;exact (by rw[es]at I;cases I;rw[rn]at a2;cases a2)).on<|s1.trans s2};have e3:=s3 _ _ e2;have s:=(s1.trans s2).trans s3;have sa:=Db ra;have se:=Db re;have no:(∀kd,Z=Lg kd->¬LM kd a e)->MK H3 t.a7 E:=λk=>(q2 λkd a' e' h=>by
     let{h1,_,_,h4}:=Tk.is es ra re h;exact k kd h1 h4).on s
    have a0:∀kd,Z=Lg kd->LM kd a e->Tk z kd a e:=λkd h ok=>{w1,w2,by rw[es,h],ra,re,ok};by_cases c0:Z=(nz:Str)
    .refine{_,M,l,_,_,_,M,M,Do.of e3,M,M,_,M,iO (by rw[c0]) {_,M,_,M,λx dx nx nd ne=>?_}};exact lF sa se x dx nx nd (λok H' fs s' h f=>{M,q1 0 a e (a0 0 c0<|.inl ⟨M,ok⟩) H' x (cc s nx) (s.trans s') ⟨dx,fs,h,f⟩}) λU=>no λkd h ok=>U (by
      obtain rfl:kd=0:=qQ ok.kd (.inl M) (h.symm.trans c0);exact ok.s)
    refine{_,M,l,_,_,_,M,M,Do.of e3,M,M,_,M,br (λy=>c0<|V.str.inj y) ?_};by_cases c1:Z=("up":Str)
    .refine{_,M,l,_,_,_,M,M,Do.of e3,M,M,_,M,iO (by rw[c1]) {_,M,_,M,λx dx nx nd ne=>?_}};exact lF sa se x dx nx nd (λok H' fs s' h f=>{M,q1 1 a e (a0 1 c1<|.inr<|.inl ⟨M,ok⟩) H' x (cc s nx) (s.trans s') ⟨dx,fs,h,f⟩}) λU=>no λkd h ok=>U (by
      obtain rfl:kd=1:=qQ ok.kd (.inr<|.inl M) (h.symm.trans c1);exact ok.u)
    refine{_,M,l,_,_,_,M,M,Do.of e3,M,M,_,M,br (λy=>c1<|V.str.inj y) ?_};by_cases c2:Z=("down":Str)
    .refine{_,M,l,_,_,_,M,M,Do.of e3,M,M,_,M,iO (by rw[c2]) {_,M,_,M,λx dx nx nd ne=>?_}};exact lF sa se x dx nx nd (λok H' fs s' h f=>{M,q1 2 a e (a0 2 c2<|.inr<|.inr ⟨M,ok⟩) H' x (cc s nx) (s.trans s') ⟨dx,fs,h,f⟩}) λU=>no λkd h ok=>U (by
      obtain rfl:kd=2:=qQ ok.kd (.inr<|.inr M) (h.symm.trans c2);exact ok.d)
    refine{_,M,l,_,_,_,M,M,Do.of e3,M,M,_,M,br (λy=>c2<|V.str.inj y) ?_};have nn:MK H3 t.a7 E:=no λkd h ok=>by
     rcases ok.kd with rfl|rfl|rfl
     .exact c0 h
     .exact c1 h
     .exact c2 h
    exact fI (D:={λ_ _=>False,λ_ _=>False,λ_ _=>False,λ_ _=>False}) (B:=[]) T.aS (Cp.refl _) nn
   .refine Hn (λy=>c3<|by have:=V.int.inj y;rw[Q0]at this;lia) ?_;exact fI T.aS s1<|q2 λkd a e zz=>by let{wa,we,I,_}:=zz;exact c3 (by rw[es]at I;rw[I];rfl)
  .refine{_,M,_,_,_,_,M,ht,hk,false,M,b9 ?_};exact fI T.aS (Cp.refl _) q
set_option tactic.hygienic true in
def FC{x:Str}(hl:x.length<=640)(h:M3 x=some (.int n))(G:0<=n):wr (.int n)=x/\n<10^60:=by
 unfold M3 at h;split at h
 .cases h
 .split at h
  .rename_i c z
   cases e:PySem.intText? x with
   |none=>rw[e]at h;cases h
   |some m=>
    rw[e]at h;cases h;cases ea:nC x with
    |true=>
     let{k,hk,_,k1,hw}:=Ad ea;rw[e]at hk;cases hk;exact⟨hw,k1⟩
    |false=>
     let{k,hk,I}:=GK z ea hl;rw[e]at hk;cases hk;lia
  .cases h
def FD{x:Str}(h:M3 x=some .non):x=("-":Str):=by
 unfold M3 at h;split at h
 .assumption
 .split at h
  .cases e:PySem.intText? x with
   |none=>rw[e]at h;cases h
   |some m=>rw[e]at h;cases h
  .cases h
def Tk.back{z:Str}{kd:Int}{a e:V}(hl:z.length<=600)(h:Tk z kd a e):iX (Lg kd) a e=z/\LM kd a e/\MW a/\MW e:=by
 let{wa,we,es,ra,U,ok}:=h;have I:=PyProof.Rows.split_weight z (" ":Str) ∅;rw[es]at I;simp at I;have one:∀{x:Str}{v:V},x.length<=640->M3 x=some v->(v= .non\/∃i:Int,v= .int i/\0<=i)->wr v=x/\MW v:=λ{x v} Y O Z=>by
  rcases Z with rfl|⟨i,rfl,i0⟩
  .exact{(FD O).symm,VU}
  .let{h2,h3}:=FC Y O i0;exact{h2,Int.lt_trans h3 (_)}
 have pos:(a= .non\/∃i:Int,a= .int i/\0<=i)/\(e= .non\/∃i:Int,e= .int i/\0<=i):=by
  rcases ok with⟨_,i,j,rfl,rfl,G,h1,_⟩|⟨_,i,rfl,G,rfl|⟨j,rfl,h1⟩⟩|⟨_,j,rfl,G,rfl|⟨i,rfl,h1⟩⟩
  .exact{.inr ⟨i,M,G⟩,.inr {j,M,()}}
  .exact{.inr ⟨i,M,G⟩,.inl M}
  .exact{.inr ⟨i,M,G⟩,.inr {j,M,()}}
  .exact{.inl M,.inr ⟨j,M,G⟩}
  .exact{.inr {i,M,()},.inr ⟨j,M,G⟩}
 let{ea,ba}:=one () ra pos.1;let{ee,be}:=one () U pos.2;refine{?_,ok,ba,be};unfold iX;rw[ea,ee,<-es,w6];exact StrLaws.join_split z (" ":Str)
def qv(K:Wi):Sp:=λvs H Q _=>∃(a:G')(ns:Mu)(k:Int),vs=[.ref a,.int k]/\Do K H a (ns.map V.int)/\0<=k/\Q (.int<|ns.getD k.toNat 0) H
def qD:AZ P w K mg base KI 1 t.kX t.gk [kz,mu] (qv K):=by
 refine T.bJ.okl qx λs H vs Q E I h _=>?_;intro X;let{a,ns,i,rfl,hS,G,k}:=h;refine ah (aT (az fY K3 (ar ax {_} T.bM a6 (aa Dm af))<|aB _)
    (aq<|aw<|aY aW Dm K3<|λ_ _=>M)
    aE)
   (aD (aw ak) ?_)
 intros
 refine{_,M,_,M,a,_,M,.inl hS,_,_,M,M,_,M,?_};refine dY (λc=>?_)<|λc=>?_
 .have c:=VF c;rw[Q0]at c;exact{_,M,_,M,a,_,_,_,M,M,hS,yL G c,k}
 .have c:¬i<((ns.map V.int).length:Int):=λz=>c (VI z);rw[Q0]at c;rw[Es c]at k;exact k
def zT{kv:My}{z:Nt}(nd:(kv.map (·.1)).Nodup)(O:(ts.map (·.k)).Nodup)(G:∀k v,(k,v)∈ts.map Tp.kv↔(k,v)∈kv/\R k=true/\z k=false)(le:∀p∈kv,z p.1=true->R p.1=true):(kv.filter λp=>R p.1).length=(kv.filter λp=>z p.1).length+ts.length:=by
 have I:kv.Nodup:=(Qw.mp nd).imp λh e=>h (VT Prod.fst e);have U:(ts.map Tp.kv).Nodup:=Qw.mpr ((Qw.mp O).imp λh e=>h<|VT Prod.fst e);have Y:(kv.filter λp=>R p.1).Perm ((kv.filter λp=>z p.1)++ts.map Tp.kv):=by
  refine(Vy (List.Pairwise.filter _ I)<|V8.mpr {List.Pairwise.filter _ I,U,λx hx y hy e=>?_}).mpr λx=>?_
  .have h1:=(Qy.mp hx).2;have h2:=((G y.1 y.2).mp hy).2.2;rw[e,h2]at h1;cases h1
  .rw[Q6,Qy,Qy,G x.1 x.2];constructor
   .rintro ⟨h1,h2⟩;cases c:z x.1 with
    |true=>exact .inl ⟨h1,M⟩
    |false=>exact .inr ⟨h1,h2,M⟩
   .rintro (⟨h1,h2⟩|⟨h1,h2,_⟩)
    .exact{h1,le x h1 h2}
    .exact⟨h1,h2⟩
 have:=Y.length_eq;rwa [Qd,Q0]at this
def MU(kd:Int)(st:K4)(a:V):Int:=if kd=0 then st.low-Lh a/(65536/st.low)else 0
def Mp(st:K4)(R:Nt):Nat:=(st.kv.filter λp=>R p.1).length
def Hf{kd:Int}{a e:V}(z:KA st)(ok:LM kd a e):0<=MU kd st a/\MU kd st a<=256:=by
 unfold MU;split
 .have l:=fj z;have p:=bB l;have w:∀x∈([4,8,16,32,64,128,256]:Mu),65536/(65536/x)=x/\0<65536/x:=by decide
  let{I,G}:=w _ l;subst kd;let{i,j,rfl,rfl,i0,O,U}:=ok.s;have h1:=XE i0 (Xx G);have h2:=Vg G (show i<=65536 by lia);rw[I]at h2;show 0<=st.low-i/(65536/st.low)/\st.low-i/(65536/st.low)<=256;lia
 .lia
def Kv.nd{x:L3}(A:Kv K t H a F x):(x.st.kv.map (·.1)).Nodup:=by
 let{s,l,wr,p,h,Fs,Fl,Wh,O,g}:=A;let{_,_,_,_,nd,_}:=Wh.sl;exact nd
def Kv.rise{x:L3}(A:Kv K t H a F x):cX x.ks:=by
 let{_,_,_,_,_,_,L}:=A.lvs;exact L.rise
def Kv.notup{x:L3}(A:Kv K t H a F x)(e:H b=some (.tup xs)):¬F b:=λz=>by
 let{o,G,n}:=A.dom z;rw[e]at G;exact n _ (VG G).symm
def LY.same{kd:Int}{e:V}(U:LY t H F st kd n av e v ts a' R)(s:Cp H H'):LY t H' F st kd n av e v ts a' R:=
 ⟨by rcases U.rest with h|h;exact .inl h;let{q,h1,h2,z}:=h;exact .inr {q,h1,h2.same s,z},U.less,U.nd,U.me,U.tell,U.far⟩
def dw(c k:Int):Int:=if c%2=1 then c/2^(20*k+1).toNat%1048576 else
 let n:=(c+7919*k+1)*48271%2147483647*((c+7919*k+1)*48271%2147483647/1009+69621)%2147483647
 (n+31*k+1)*(n/757+16807)%2147483629
def dw0(c k:Int):0<=dw c k:=by
 unfold dw;split
 .exact Qx _ (_)
 .exact Qx _ (_)
def t9:Sp:=λvs H Q _=>∃c k:Int,vs=[.int c,.int k]/\0<=k/\k<=100/\Q (.int<|dw c k) H
def g8:AZ P w K mg base KI 1 t.oJ t.jD [lz,mu] t9:=by
 refine T.cm.okl uk λs H vs Q E hr h _=>?_;intro X;let{c,k,rfl,k0,k1,q}:=h;refine ah (aT (az eV (aF bG Dm ak) ak<|aB _)
    (aq<|aw<|aF bG (aF Iv Dm<|aF bY (aF fX ak K3) ak) ak)
    aE)
   (ah (KB 2<|aF bG (aF fX (aF bY (aF bY Dm<|aF fX ak K3) ak) ak) ak)
   (ah (KB 2<|aF bG (aF fX K9<|aF bY (aF eJ K9 ak) ak) ak)
   (aD (aw<|aF bG (aF fX (aF bY (aF bY K9<|aF fX ak K3) ak)<|aF bY (aF eJ K9 ak) ak) ak) ?_)))
 intros
 have two:(0:Int)<2:=by decide
 have G:(0:Int)<2147483647:=by decide
 have I:∀z:Int,0<=z%2147483647/\z%2147483647<2147483647:=λz=>{Qx _ (_),QA _ (_)};unfold dw at q;refine{_,M,_,_,M,M,two,M,_,M,dY (λz=>?_)<|λz=>?_}
 .have z:c%2=1:=by have:=VF z;injection this
  rw[VA z]at q;exact{_,M,_,M,_,_,M,M,.inl {(_),(_)},_,_,M,M,_,_,M,M,(by show(0:Int)<=20*k+1;lia),_,_,M,M,(by show(0:Int)<1048576;decide),q}
 .have z:¬c%2=1:=λy=>z (VI<|by rw[y]);rw[Vz z]at q;refine{_,M,_,M,_,_,M,M,.inl {(_),(_)},_,_,M,M,_,_,M,M,_,_,M,M,.inr {(_),(_)},_,_,M,M,G,?_};dsimp only at q⊢;generalize ((c+7919*k+1)*48271)=O at q⊢;let{Z,a1}:=I O;generalize O%2147483647=U at Z a1 q⊢;refine{_,M,_,M,_,_,M,M,{(_),(_)},_,_,M,M,_,_,M,M,.inl {(),()},_,_,M,M,G,?_};dsimp only;generalize U*(U/1009+69621)=Y at q⊢;let{b0,b1}:=I Y;generalize Y%2147483647=z3 at b0 b1 q⊢;exact{_,M,_,M,_,_,M,M,.inl {(_),(_)},_,_,M,M,_,_,M,M,_,M,_,_,M,M,{(_),(_)},_,_,M,M,_,_,M,M,.inl {(),()},_,_,M,M,(by show(0:Int)<2147483629;decide),q}
structure J6(K:Wi)(t:KF)(H:Hp)(a d:G')(F:Mw)(x:L3):Prop where
 A:Kv K t H a F x
 di:H d=some (.dK<|aN x.st.kv)
 nd:¬F d
 kb:∀k∈x.st.kv.map (·.1),0<=k/\k<10^38
 iv:∀p∈x.st.kv,∃i:Int,p.2= .int i
 le:x.st.kv.length<=40
 ma:x.ma=0
def Ie{kv:My}{i:Int}(h:∀p∈kv,∃i:Int,p.2= .int i):∀p∈bj kv k (.int i),∃i:Int,p.2= .int i:=λp hp=>by
 unfold bj at hp;split at hp
 .let{q,hq,rfl}:=Qk.mp hp;by_cases c:q.1=k
  .exact{i,by rw[VA c]}
  .rw[Vz c];exact h q hq
 .rcases Q6.mp hp with y|y
  .exact h p y
  .rw[Qf.mp y];exact⟨i,M⟩
section
variable{d:G'}{x:L3}{i:Int}
def J6.fr(J:J6 K t H a d F x)(A:Kv K t H' a F' x)(f:Fr F F' H H'):J6 K t H' a d F' x:={A,(f _ _ J.nd J.di).1,(f _ _ J.nd J.di).2,J.kb,J.iv,J.le,J.ma}
def J6.same(J:J6 K t H a d F x)(s:Cp H H'):J6 K t H' a d F x:=J.fr (J.A.same s) (Fr.of_same s)
def J6.but(J:J6 K t H a d F x)(np:¬F q)(G:∀xs,H q≠some (.tup xs))(nd:d≠q)(k:∀b o,b≠q->H b=some o->H' b=some o):J6 K t H' a d F x:={J.A.keep (λb hb=>by
 let{o,e,_}:=J.A.dom hb;rw[e];exact k b o (λz=>np<|z▸hb) e) λb xs e=>k b _ (λz=>G xs<|z▸e) e,k d _ nd J.di,J.nd,J.kb,J.iv,J.le,J.ma}
def J6.put(J:J6 K t H a d F x)(A:Kv K t H' a F' x')(f:Fr F F' H H')(e:x'.st=x.st.put k (.int i))(m:x'.ma=x.ma)(k0:0<=k/\k<10^38)(l:x.st.kv.length<40):J6 K t (L2.upd H' d<|.dK<|aN<|bj x.st.kv k<|.int i) a d F' x':=by
 let{O,I}:=f _ _ J.nd J.di;have G:x'.st.kv=bj x.st.kv k (.int i):=by rw[e];exact K4.three_kv
 refine{A.upd I (λxs z=>by rw[O]at z;cases z),by rw[G];exact ag,I,λz hz=>?_,by rw[G];exact Ie J.iv,?_,m.trans J.ma}
 .rw[G,oj]at hz;split at hz
  .exact J.kb z hz
  .rcases Q6.mp hz with y|y
   .exact J.kb z y
   .rwa[Qf.mp y]
 .rw[G];have:=cG x.st.kv k (.int i);lia
end
def t7(K:Wi)(t:KF):Sp:=λvs H Q _=>∃(l d:G')(cs:Mu),vs=[.ref l,.ref d]/\H l=some (.lst<|cs.map V.int)/\cs.length<=40/\H d=some (.dK [])/\
 ∀(H':Hp)(a:G')(F:Mw)(x:L3),J6 K t H' a d F x->x.now<=40->(∀b o,b≠d->H b=some o->H' b=some o/\¬F b)->Q (.ref a) H'
def uy:AZ P w K mg base KI 6 t.oI t.jC ["_law_cells",ff] (t7 K t):=by
 refine T.xv.okl LJ λs H vs Q E O h _=>?_;intro X;let{l,d,cs,rfl,hl,ll,hd,q}:=h;refine ah (KB 2<|fW T.J5 (sL T) O.mo {_} T.J9 T.EZ .nil aA)
   (eX (λx=>(jo VW M (dI Dm) (MC 3)
    x)) ?_)
 refine ah (KB 4<|au (g8 T) O.mo {_} T.cN T.cm.kp T.cR .nil aA (aa KY<|aa ak af))
   (ah (@wH _ _ 5 _ _ _ _ LJ.nd M (Or.inl M) (@de _ _ _ _<|@aH _ _ _ _ _ (aF bG Kt ak) (@aH _ _ _ _ _ (aF bG Kt ak) (@aH _ _ _ _ _ (aF bY (aF bG Kt ak)<|aF fX ak<|aF bG (aF eJ Kt ak) ak) (@aH _ _ _ _ _ (aF bG KY<|aF zE ak ak) af M) M) M) M) {_} (by first|exact .inl M|exact .inr M))
   (ah (KB 6<|aY aW Lx (aF bG (aF eJ Kt ak) ak)<|λ_ _=>M)
   (ah (bf<|a9 K9 T.aX T.Ge (uC T) O.mo T.GF .nil aA<|aa MF<|aa (aF su (au (g8 T) O.mo {_} T.cN T.cm.kp T.cR .nil aA (aa KY<|aa ak af))<|aF zE ak ak) af)
   (aD (wJ (l5 O) K3 MF (aF su (au (g8 T) O.mo {_} T.cN T.cm.kp T.cR .nil aA (aa KY<|aa ak af))<|aF zE ak ak) M) ?_))))
 intros
 refine aD (aw K9) ?_
 intros
 have ld:l≠d:=λz=>by rw[z,hd]at hl;cases hl
 refine λa dx na nd a5=>{a,dx,M,ag,λH1 F1 A1 f1=>?_};have Y:∀b o,H b=some o->H1 b=some o/\¬F1 b:=λb o e=>f1 b o (aj e na) (by rwa[ae (aj e na),ae (aj e nd)]);have G:J6 K t H1 a d F1 L3.new:={A1,(Y _ _ hd).1,(Y _ _ hd).2,(λ_ z=>by cases z),(λ_ z=>by cases z),(_),M};clear A1 f1;have I:(0:Int)<10^(37:Int).toNat:=by decide
 refine{M,?_};show xF _ _ _ _ H1;refine{_,M,l,M,{_,Do.of (Y _ _ hl).1},pR (K:=K) (a:=l) (xs:=cs.map V.int) (λi B H'=>∃(F':Mw)(x':L3)(Z v4 v5 v6:Nm),B=[some (.ref l),some (.ref d),some (.ref a),Z,v4,v5,v6]/\J6 K t H' a d F' x'/\x'.now<=i/\x'.st.kv.length<=i/\∀b o,b≠d->H b=some o->H' b=some o/\¬F' b) {F1,_,none,none,none,none,M,G,(_),(_),λb o _ e=>Y b o e} (λi B H' _ w=>?_) (λi z B H' hz w=>?_)<|λB H' w=>?_}
 .let{F',x',Z,v4,v5,v6,rfl,U,l',e',o'}:=w;exact Do.of (o' _ _ ld hl).1
 .let{F',x',Z,v4,v5,v6,rfl,U,l',e',o'}:=w;have hi:=(Q3.mp hz).1;rw[Q0]at hi;let{c,hc,rfl}:=Qk.mp (Q2 hz);refine{_,M,c,1,M,(_),(_),?_};have n0:=dw0 c 1;have v0:=dw0 c 2
  (try dsimp only)
  generalize dw c 1=n at n0⊢;have a0:(10:Int)^(37:Int).toNat=10^37:=M;have c0:=Qx c (Zc I);have c1:=QA c I;let{m,hm,m0,m1}:=JY (c:=n/30) (n:=4) (L:=[.int (n%20),.int (n%200),.int (n%6+65536*(n/6%5)),.int (c%10^(37:Int).toNat)]) (P:=λm=>0<=m/\m<10^38) {{(),()},{(),()},{(),()},{c0,by rw[a0]at c1⊢;lia},trivial} M (_);refine{_,M,_,_,M,M,(by show(0:Int)<20;decide),_,M,_,_,M,M,(by show(0:Int)<200;decide),_,M,_,_,M,M,(by show(0:Int)<6;decide),_,M,_,_,M,M,{(_),(_)},_,_,M,M,(by show(0:Int)<5;decide),_,_,M,M,.inl {(_),(_)},_,_,M,M,_,M,_,_,M,M,{(_),(_),(_)},_,_,M,M,I,(by show 4<=sizeLine;decide),λp np=>?_};have s2:=am (o:= .lst [.int (n%20),.int (n%200),.int (n%6+65536*(n/6%5)),.int (c%10^(37:Int).toNat)]) np;have e2:upd H' p (.lst [.int (n%20),.int (n%200),.int (n%6+65536*(n/6%5)),.int (c%10^(37:Int).toNat)]) p=some (.lst _):=ag
  (try dsimp only)
  generalize upd H' p (.lst [.int (n%20),.int (n%200),.int (n%6+65536*(n/6%5)),.int (c%10^(37:Int).toNat)])=H2 at s2 e2⊢;refine{_,M,_,M,_,_,M,M,{(_),(_)},_,_,M,M,(by show(0:Int)<4;decide),p,_,_,_,M,M,Do.of e2,hm,?_};have G:=U.same s2;have o2:∀b o,b≠d->H b=some o->H2 b=some o/\¬F' b:=λb o n e=>{s2 _ _ (o' b o n e).1,(o' b o n e).2};clear U o' s2 e2 c0 c1 n0 hm np;let{a1,a2,a3,a4,_}:=G.A.ins;have m2:=G.ma;refine{_,M,a,a1,a2,M,a3,a4 _ ∅,_,M,_,M,c,2,M,(_),(_),?_};refine{_,_,M,M,{(_),(_),(_)},_,_,M,M,a,m,_,F',x',M,G.A,m0,(),λH5 F5 a7 r5 q5 a8 A5 N5 f5=>?_};let{d5,n5}:=f5 _ _ G.nd G.di;refine{_,M,c,2,M,(_),(_),_,_,M,M,{(_),(_),(_)},_,_,M,M,_,M,_,M,d,_,M,M1.k (k:=Sum.inl m) d5 (by rw[cP];exact bi ()),?_};rw[iN];have lp:=cG x'.st.kv m (.int<|dw c 2-10^(9:Int).toNat);exact{F5,_,_,_,_,_,M,G.put A5 f5 M M ⟨m0,m1⟩ (),by show x'.now+1<=_;lia,by rw[show(x'.st.put m<|.int<|dw c 2-10^(9:Int).toNat).kv=bj x'.st.kv m (.int<|dw c 2-10^(9:Int).toNat) from K4.three_kv];lia,λb o n e=>by
   let{g1,g2}:=f5 _ _ (o2 b o n e).2 (o2 b o n e).1;exact{by rwa[ae n],g2}}
 .let{F',x',Z,v4,v5,v6,rfl,U,l',e',o'}:=w;rw[Q0]at l';exact{_,M,q _ a F' x' U () o'}
def Ld(H:Hp):V->Tp
 | .ref a=>match H a with
  |some (.tup [.int k,v])=>⟨a,k,v⟩
  |_=>{a,0,.non}
 |_=>{0,0,.non}
def jR{e:Tp}(h:H e.p=some (.tup [.int e.k,e.v])):Ld H (.ref e.p)=e:=by
 unfold Ld;dsimp only;rw[h]
def xV{ys:K'}(z:∀e∈ts,H e.p=some (.tup [.int e.k,e.v]))(G:ys.Perm (ts.map λe=>V.ref e.p)):∃us:List Tp,us.Perm ts/\ys=us.map λe=>V.ref e.p:=by
 have I:(ts.map λe=>V.ref e.p).map (Ld H)=ts:=by
  rw[QL];exact(Zj (g:=id) λe he=>jR<|z e he).trans<|Vl _
 refine{ys.map<|Ld H,?_,?_}
 .have:=G.map (Ld H);rwa [I]at this
 .rw[QL];refine((Zj (f:=id) λy hy=>?_).symm.trans<|Vl _).symm;let{e,he,rfl}:=Qk.mp (G.mem_iff.mp hy);show V.ref e.p=V.ref (Ld H<|.ref e.p).p;rw[jR (z e he)]
def LC(kd:Int)(x y:Int×V):Prop:=if kd=0 then mW x y else if kd=1 then x.1<y.1 else y.1<x.1
def LC.as{kd:Int}{x y:Int×V}(h:LC kd x y):¬LC kd y x:=by
 unfold LC mW at*;split at h
 .rw[VA (by assumption)];lia
 .rw[Vz (by assumption)];split at h
  .rw[VA (by assumption)];lia
  .rw[Vz (by assumption)];lia
def x5{kd:Int}:∀{l m:My},l.Pairwise (LC kd)->m.Pairwise (LC kd)->(∀x,x∈l↔x∈m)->l=m:=by
 intro l
 induction l with
 |nil=>
  intro m _ _ h;cases m with
  |nil=>rfl
  |cons b m=>exact VE ((h b).mpr Q7) QU
 |cons a l O=>
  intro m h1 h2 h;cases m with
  |nil=>exact VE ((h a).mp Q7) QU
  |cons b m=>
   let{G,U}:=Z0.mp h1;let{p2,Y}:=Z0.mp h2;have e:a=b:=by
    rcases Qc.mp ((h a).mp Q7)with c|c
    .exact c
    .rcases Qc.mp ((h b).mpr Q7)with c2|c2
     .exact c2.symm
     .exact VE (G b c2) (p2 a c).as
   subst e;have I:∀{x:Int×V},¬LC kd x x:=λ{x} y=>y.as y;rw[O U Y λx=>{λhx=>((Qc.mp<|(h x).mp<|Q8 _ hx).resolve_left λz=>I<|z▸G x hx),λhx=>((Qc.mp<|(h x).mpr<|Q8 _ hx).resolve_left λz=>I<|z▸p2 x hx)}]
def vi{ky:Tp->List Int}{R:Tp->Tp->Prop}(nd:(ts.map (·.k)).Nodup)(pw:ts.Pairwise λa b=>HT.lexLt (ky b) (ky a)=false)(h:∀a b,a.k≠b.k->HT.lexLt (ky b) (ky a)=false->R a b):ts.Pairwise R:=by
 have nd:=Qw.mp nd;exact(nd.and pw).imp λ{a b} z=>h a b z.1 z.2
def lex2{a b c d:Int}(h:HT.lexLt [c,d] [a,b]=false):a<c\/(a=c/\b<=d):=by
 rw[HT.lexLt_cons]at h;by_cases e:c=a
 .rw[VA e,HT.lexLt_cons]at h;by_cases e2:d=b
  .lia
  .rw[Vz e2]at h;have:=VS h;lia
 .rw[Vz e]at h;have:=VS h;lia
def lp:Pos:={482,37,482,90}
noncomputable def lq:Str:="_law_sorted.<locals>.<lambda>"
def Tb(t:KF)(F:Mw)(H:Hp):Prop:=¬F t.aL/\(H t.aL=some (.tbl #[])\/∃c',H t.aL=some (.tbl #[rawInt lp.line,rawInt lp.col,.ref c'])/\H c'=some (nI c' lq)/\¬F c')
def Tb.fr(h:Tb t F H)(f:Fr F F' H H'):Tb t F' H':=by
 obtain⟨n,h|⟨c,h1,h2,I⟩⟩:=h
 .let{z,G}:=f _ _ n h;exact{G,.inl z}
 .let{z,G}:=f _ _ n h1;let{O,U}:=f _ _ I h2;exact{G,.inr ⟨c,z,O,U⟩}
def Tb.same(h:Tb t F H)(s:Cp H H'):Tb t F H':=h.fr (Fr.of_same s)
def Tb.at(h:Tb t F H):∃ps,H t.aL=some (.tbl ps):=by
 obtain⟨_,h|⟨_,h,_⟩⟩:=h<;>exact{_,h}
def MG(q:G')(H H':Hp):Prop:=∀b o,b≠q->H b=some o->H' b=some o
abbrev Ih(q1:Pos):Arguments:={posonlyargs:=[],args:=[{arg:=kN,annotation:=none,pos:=q1}],vararg:=none,kwonlyargs:=[],kw_defaults:=[],kwarg:=none,defaults:=[]}
def Ex{body:Expr}{scope:Scope}{cl:NB}{z cd ct:J'}{G:Pos}:Binds K (PySem.W.kla_fn gb qual (Ih G) body scope cl z cd ct) [kN] []:= .all λus hl=>by
 rcases us with _|⟨a,_|⟨b,r⟩⟩<;>first|rfl|simp at hl
abbrev scK:Scope:={kind:= .function,names:=[(kN,.local),("place_of",.globalImplicit)],isGenerator:=false,isCoroutine:=false,more:=[]}
abbrev bdK(p0 p1 p2 p3 p4 p5 p6 p7 p8:Pos)(n0 n1 n2:Nat):Expr:= .Tuple [.Call (.Name "place_of" p0) [.Subscript (.Name kN p1) (.Constant (.int 0) n0 p2) p3] [] p4,.Subscript (.Name kN p5) (.Constant (.int 0) n1 p6) p7] n2 p8
def CZ(f c':G')(qual:Str)(ob:Obj):Sp:=λvs H Q _=>∃(q:G')(k:Int)(v:V),vs=[.ref q]/\H f=some (xo f ob)/\H c'=some (nI c' qual)/\H q=some (.tup [.int k,v])/\∀p,H p=none->Q (.ref p) (upd H p<|.tup [.int (KG k),.int k])
def Da(T:Txt K mg t)(G:AZ P w K mg base KI 2 t.nE t.jB [eN] qd){f:G'}{z ct:J'}{I O U p2 Y Z p5 p6 p7 p8:Pos}{n0 n1 n2:Nat}:
  AZ P w K mg base KI (2+1) f (PySem.W.kla_fn gb qual (Ih I) (bdK O U p2 Y Z p5 p6 p7 p8 n0 n1 n2) scK [] z (.ref c') ct) [kN] (CZ f c' qual<|PySem.W.kla_obj gb qual (Ih I) (bdK O U p2 Y Z p5 p6 p7 p8 n0 n1 n2) scK [] z c' ct):=by
 refine ID (fr:=[]) {M,M,M,∅,M,∅,∅} (λvs H Q E h=>?_)<|λA outer s H vs Q E hr h=>?_
 .let{q,k,v,rfl,_}:=h;rfl
 .let{q,k,v,rfl,hf,hc,hq,fin}:=h;refine{hf,hc,[],[],Ls.none ∅,_,db<|aa (au G hr.mo {_} T.sU T.nG.kp T.tL .nil aA (aa (aY fk Dm ak<|λ_ _=>M) af))<|aa (aY fk Dm ak<|λ_ _=>M) af,?_};exact{_,M,q,_,_,_,M,M,LB.of hq,M,k,M,_,M,q,_,_,_,M,M,LB.of hq,M,(by show 2<=sizeLine;decide),λp np _=>fin p np}
def C3{f:G'}{fd:Nj}{ob:Obj}{m:Nat}(Y:AZ P w K mg base KI m f fd [kN] (CZ f c' qual ob))(Wh:Binds K fd [kN] [])(hf:H1 f=some (xo f ob))(hc:H1 c'=some (nI c' qual))(hl:H1 l=some (.lst<|ts.map λe=>V.ref e.p))(G:∀e∈ts,H1 e.p=some (.tup [.int e.k,e.v]))(nd:(ts.map (·.k)).Nodup)
  (q:∀(H':Hp)(r:Addr)(us:List Tp),us.Perm ts->(us.map Tp.kv).Pairwise (LC 0)->H1 r=none->H' r=some (.lst<|us.map λe=>V.ref e.p)->Cp H1 H'->Q (.ref r) H'):tQ P w K mg base m Q H1 (.ref l) (.ref f):=by
 refine .mk f l _ _ _ (ts.map λe=>V.ref e.p) (λx=> [KG (Ld H1 x).k,(Ld H1 x).k]) (λkv H'=>∃as:List Addr,kv=as.map V.ref/\Cp H1 H'/\∀(i:Nat)(a:G'),as[i]?=some a->∃e:Tp,ts[i]?=some e/\H' a=some (.tup [.int (KG e.k),.int e.k])) Y Wh (Do.of hl) {[],M,Cp.refl _,λi a h=>by cases h} (λkv x H' hx j=>?_) (λkv H' j i x y hx hy=>?_)<|λr kv H' ys lk j U Z pw=>?_
 .let{as,rfl,s,ha}:=j;rw[Q0,Qu]at hx;let{e,he,rfl}:=QJ.mp hx;refine{e.p,e.k,e.v,M,s _ _ hf,s _ _ hc,s _ _<|G e<|Q2 he,λp np=>{as++ [p],by rw[Qb];rfl,s.trans<|am np,λi a h=>?_}};rcases Xz i as.length with c|c
  .rw[QV c]at h;let{u,h1,h2}:=ha i a h;exact{u,h1,am np _ _ h2}
  .rw[QS c]at h;have hi:i-as.length=0:=by
    let{z,_}:=Q3.mp h;simp only[Zr]at z;lia
   rw[hi]at h;cases h;have:i=as.length:=();rw[this];exact⟨e,he,ag⟩
 .let{as,rfl,s,ha}:=j;rw[Qu]at hx hy;let{e,he,rfl}:=QJ.mp hx;let{a,O,rfl}:=QJ.mp hy;let{u,h1,h2}:=ha i a O;rw[he]at h1;cases h1;refine{a,M,_,_,h2,?_};show[KG (Ld H1<|.ref e.p).k,(Ld H1<|.ref e.p).k]=_;rw[jR (G e<|Q2 he)]
 .let{as,rfl,s,ha}:=j;let{us,I,rfl}:=xV G Z;refine q _ r us I ?_ (cc s U) ag<|s.trans (am U);refine Qw.mpr<|vi (ky:=λe=> [KG e.k,e.k]) ((I.map _).nodup_iff.mpr nd) ((Qw.mp pw).imp_of_mem λ{a b} ha hb h=>?_) λa b n h=>?_
  .have h:HT.lexLt [KG (Ld H1<|.ref b.p).k,(Ld H1<|.ref b.p).k] [KG (Ld H1<|.ref a.p).k,(Ld H1<|.ref a.p).k]=false:=h;rw[jR (G a<|I.mem_iff.mp ha),jR (G b<|I.mem_iff.mp hb)]at h;exact h
  .have:=lex2 h;show KG a.k<KG b.k\/_;have n:¬a.k=b.k:=n;show KG a.k<KG b.k\/(KG a.k=KG b.k/\a.k<b.k);lia
def vd(O:∀e∈ts,H e.p=some (.tup [.int e.k,e.v])/\∃i:Int,e.v= .int i)(nd:(ts.map (·.k)).Nodup):∃ky:Addr->List Int,(∀a∈ts.map (·.p),K2 H a (ky a))/\∀bs:List Addr,bs.Perm (ts.map (·.p))->bs.Pairwise (λa b=>HT.lexLt (ky b) (ky a)=false)->∃us:List Tp,us.Perm ts/\bs.map V.ref=(us.map λe=>V.ref e.p)/\(us.map Tp.kv).Pairwise (LC 1):=by
 have z:∀e∈ts,H e.p=some (.tup [.int e.k,e.v]):=λe he=>(O e he).1;refine{λa=> [(Ld H<|.ref a).k,Lh (Ld H<|.ref a).v],λa ha=>?_,λbs Y pw=>?_}
 .let{e,he,rfl}:=Qk.mp ha;let{h1,i,h2}:=O e he;refine{e.k,i,by rwa[<-h2],?_};show[(Ld H<|.ref e.p).k,Lh (Ld H<|.ref e.p).v]=_;rw[jR h1,h2];rfl
 .have I:(bs.map V.ref).Perm (ts.map λe=>V.ref e.p):=by
   have:=Y.map V.ref;rwa [QL]at this
  let{us,G,U}:=xV z I;refine{us,G,U,?_};have Z:bs=us.map (·.p):=by
   have:=VT (λl:List V=>l.map λv=>match v with| .ref a=>a|_=>0) U;rw[QL,QL]at this;exact(Vl bs).symm.trans this
  rw[Z]at pw;refine Qw.mpr<|vi (ky:=λe=> [e.k,Lh e.v]) ((G.map _).nodup_iff.mpr nd) ((Qw.mp pw).imp_of_mem λ{a b} ha hb h=>?_) λa b n h=>?_
  .have h:HT.lexLt [(Ld H<|.ref b.p).k,Lh (Ld H<|.ref b.p).v] [(Ld H<|.ref a.p).k,Lh (Ld H<|.ref a.p).v]=false:=h;rw[jR (z a<|G.mem_iff.mp ha),jR (z b<|G.mem_iff.mp hb)]at h;exact h
  .have:=lex2 h;have n:¬a.k=b.k:=n;show a.k<b.k;lia
def rj(K:Wi)(t:KF):Sp:=λvs H Q _=>∃(p l:G')(kd:Int)(av e:V)(ts:List Tp)(F:Mw),vs=[.ref p,.ref l]/\L8 t H p kd av e/\(kd=0\/kd=1\/kd=2)/\H l=some (.lst<|ts.map λe=>V.ref e.p)/\(∀e∈ts,H e.p=some (.tup [.int e.k,e.v])/\∃i:Int,e.v= .int i)/\(ts.map (·.k)).Nodup/\Tb t F H/\(∀b,H b=none->¬F b)/\
 ∀(H':Hp)(r:G')(us:List Tp),us.Perm ts->(us.map Tp.kv).Pairwise (LC kd)->H r=none->H' r=some (.lst<|us.map λe=>V.ref e.p)->MG t.aL H H'->Tb t F H'->Q (.ref r) H'
def kq:AZ P w K mg base KI 6 t.mj t.eK [fe,"_law_rows"] (rj K t):=by
 refine T.mI.okm rN λ_ _ _ s H vs Q E hr h _ a1=>?_;intro X;let{p,l,kd,av,e,ts,F,rfl,{dx,fs,hp,tf},hk,hl,tu,nd,tb,ou,q}:=h;refine ah (aT (bF<|ar (dU K M) {_} T.bN bn (aa Dm<|aa (bK (v:= .ref t.aJ) {_} T.js M) af))
    (aq<|aw<|zD P w K mg base (2+1) M M M M M hr.mo {_} T.qX K3 (Dk M Kl T.Fh a1))
    aE)
   (ah (aT (bF<|ar (dU K M) {_} T.bN bn (aa Dm<|aa (bK (v:= .ref t.cQ) {_} T.yf M) af))
    (aq<|aw<|ar oB {_} T.qX lM (aa K3 af))
    aE)
   (aD (aw<|FR (ar oB {_} T.qX lM (aa K3 af)) cx cx<|Dj y9 ak) ?_))
 intros
 have a0:∀e∈ts,H e.p=some (.tup [.int e.k,e.v]):=λe he=>(tu e he).1;rcases hk with rfl|rfl|rfl
 .have hp:H p=some (.ins t.aJ dx fs):=hp;refine{_,M,_,_,_,_,M,KD.ins hp T.aZ T.c7.1 T.c7.2 T.c7.3 T.c7.4,T.m6,_,M,b9 {_,M,?_}};have fin:∀(H1:Hp)(f c':G')(ob:Obj)(fd:Nj),MG t.aL H H1->¬F c'->H1 t.aL=some (.tbl #[rawInt lp.line,rawInt lp.col,.ref c'])->H1 c'=some (nI c' lq)->H1 f=some (xo f ob)->AZ P w K mg base KI (2+1) f fd [kN] (CZ f c' lq ob)->Binds K fd [kN] []->tQ P w K mg base (2+1) Q H1 (.ref l) (.ref f):=λH1 f c' ob fd b1 I ht hc hf RF Wh=>by
   have nP:∀{b:G'}{o:HO},H b=some o->(∀ps,o≠ .tbl ps)->b≠t.aL:=λ{b o} e n z=>by
    rw[z]at e;let{_,y}:=tb.at;rw[y]at e;cases e;exact n _ M
   refine C3 RF Wh hf hc (b1 _ _ (nP hl λ_ z=>nomatch z) hl) (λe he=>b1 _ _ (nP (a0 e he) λ_ z=>nomatch z)<|a0 e he) nd λH' r us pu po G hr s=>q H' r us pu po ?_ hr (λb o n e=>s _ _<|b1 b o n e) {tb.1,.inr {c',s _ _ ht,s _ _ hc,I}};cases e:H r with
   |none=>rfl
   |some o=>
    by_cases z:r=t.aL
    .rw[z,ht]at G;cases G
    .rw[b1 _ _ z e]at G;cases G
  rcases tb.2 with Z|⟨c',Z,hc,I⟩
  .refine .inl {_,Z,trivial,M,λcl c' a2 pm f O nf I ne=>?_};obtain rfl:=Hq O;refine fin _ f c' _ _ (λb o n e=>by rwa[ae (aj e nf),ae (aj e I),ae n]) (ou _ I) ?_ ?_ ag (Da T<|ko T) Ex
   .rw[ae (aj Z nf),ae (aj Z I),ag];rfl
   .rw[ae (Ne.symm ne),ag];rfl
  .refine .inr {_,c',Z,trivial,M,λcl a2 pm f O nf=>?_};obtain rfl:=Hq O;exact fin _ f c' _ _ (λb o _ e=>am nf b o e) I (am nf _ _ Z) (am nf _ _ hc) ag (Da T<|ko T) Ex
 .have hp:H p=some (.ins t.cQ dx fs):=hp;refine{_,M,_,_,_,_,M,KD.ins hp T.dS T.dC.1 T.dC.2 T.dC.3 T.dC.4,T.uM,_,M,bT ?_};refine{_,M,_,_,_,_,M,KD.ins hp T.dS T.dC.1 T.dC.2 T.dC.3 T.dC.4,T.yr,_,M,b9 ?_};let{ky,U,mk}:=vd tu nd;refine{_,M,l,ts.map (·.p),ky,M,Do.of (by rwa[QL]),U,λr bs G pe pw=>?_};let{us,pu,eu,po}:=mk bs pe pw;exact q _ r us pu po G (by rw[ag,eu]) (λb o _ e=>am G b o e)<|tb.same (am G)
 .have hp:H p=some (.ins t.bI dx fs):=hp;refine{_,M,_,_,_,_,M,KD.ins hp T.bC T.bx.1 T.bx.2 T.bx.3 T.bx.4,T.qH,_,M,bT ?_};refine{_,M,_,_,_,_,M,KD.ins hp T.bC T.bx.1 T.bx.2 T.bx.3 T.bx.4,T.sV,_,M,bT ?_};let{ky,U,mk}:=vd tu nd;refine{_,M,l,ts.map (·.p),ky,M,Do.of (by rwa[QL]),U,λr bs G pe pw=>?_};let{us,pu,eu,po}:=mk bs pe pw;have s1:=am (o:= .lst<|bs.map V.ref) G;have e1:upd H r (.lst<|bs.map V.ref) r=some (.lst<|bs.map V.ref):=ag
  (try dsimp only)
  generalize upd H r (.lst<|bs.map V.ref)=H1 at s1 e1⊢;refine{_,M,_,M,r,_,-1,M,M,(_),Do.of e1,λr2 Y=>?_};rw[Bv,eu,<-Vh];refine q _ r2 us.reverse (us.reverse_perm.trans pu) ?_ (cc s1 Y) ag (λb o _ e=>(s1.trans<|am Y) b o e) ?_
  .rw[Vh];exact X7.mpr po
  .exact(tb.same s1).same<|am Y
def Lu.ord{kd:Int}{e:V}{r:Nm}(h:Lu st ks kd n av e ps r)(G:cX ks):ps.Pairwise (LC kd):=by
 rcases h with⟨k0,m,g,_⟩|⟨up,k1,I,_,_⟩
 .refine g.rw.so.imp λ{a b} h=>?_;unfold LC;rwa[VA k0]
 .have z:=(yu (up:=up) (a:=av) (e:=e) G).sublist (X0 n.toNat _);rw[<-I]at z;refine(Qw.mp z).imp λ{a b} h=>?_;unfold ss at h;unfold LC;cases up
  .rw[Vz Qa]at k1;rwa[Vz (),Vz ()]
  .rw[VA M]at k1;rwa[Vz (),VA k1]
def GI{kd:Int}{e:V}(U:LY t H' F' st kd n av e v ts a' R)(on:LM kd av e){x y:Int×V}(hx:x∈ts.map Tp.kv)(hy:R y.1=true):LC kd x y:=by
 let{_,h1,h2}:=(U.me x.1 x.2).mp hx;rcases U.rest with⟨_,z⟩|⟨q,_,_,I,_,Y,_⟩
 .rw[z]at hy;cases hy
 rw[Y]at h2 hy;unfold LC;rcases on.kd with rfl|rfl|rfl
 .let{i,j,rfl,rfl,_}:=on.s;let{G,Z,rfl,ej,_}:=I.s;cases ej;rw[<-Vi,pQ]at h2;rw[pQ]at h1 hy;rw[VA M];exact .inl ()
 .let{i,rfl,_,he}:=on.u;let{G,rfl,_,_}:=I.u;rw[Vz (_),VA M];rcases he with rfl|⟨j,rfl,_⟩
  .have h2:=VS (show decide (G<=x.1)=false from h2);have hy:=VF (show decide (G<=y.1)=true from hy);lia
  .have h1:=(Qv.mp<|show(decide (i<=x.1)&&decide (x.1<j))=true from h1).2;have hy:=(Qv.mp<|show(decide (G<=y.1)&&decide (y.1<j))=true from hy).1;have h2:(decide (G<=x.1)&&decide (x.1<j))=false:=h2;rw[h1,Bool.and_true]at h2;have h2:=VS h2;have hy:=VF hy;lia
 .let{j,rfl,_,ha}:=on.d;let{Z,ej,_,O}:=I.d;cases ej;rw[Vz (_),Vz (_)];rcases O with rfl|⟨G,rfl,_⟩
  .have h2:decide (j<=x.1)=false:=h2;rcases ha with rfl|⟨i,rfl,_⟩
   .have h1:decide (j<=x.1)=true:=h1;rw[h1]at h2;cases h2
   .have h1:=(Qv.mp<|show(decide (j<=x.1)&&decide (x.1<=i))=true from h1).1;rw[h1]at h2;cases h2
  .have h1:decide (j<=x.1)=true:=by
    rcases ha with rfl|⟨i,rfl,_⟩
    .exact h1
    .exact(Qv.mp<|show(decide (j<=x.1)&&decide (x.1<=i))=true from h1).1
   have h2:(decide (j<=x.1)&&decide (x.1<=G))=false:=h2;rw[h1,Zx]at h2;have h2:=VS h2;have hy:=VF (Qv.mp<|show(decide (j<=y.1)&&decide (y.1<=G))=true from hy).2;lia
structure S6(K:Wi)(t:KF)(H:Hp)(a d:G')(F:Mw)(x:L3):Prop where
 J:J6 K t H a d F x
 tb:Tb t F H
section
variable{d:G'}{x:L3}
def S6.fr(S:S6 K t H a d F x)(A:Kv K t H' a F' x)(f:Fr F F' H H'):S6 K t H' a d F' x:={S.J.fr A f,S.tb.fr f}
def S6.same(S:S6 K t H a d F x)(s:Cp H H'):S6 K t H' a d F x:={S.J.same s,S.tb.same s}
def S6.but(S:S6 K t H a d F x)(k:MG t.aL H H')(tb:Tb t F H'):S6 K t H' a d F x:=by
 let{ps,G}:=S.tb.at;exact{S.J.but S.tb.1 (λxs z=>by rw[G]at z;cases z) (λz=>by have:=S.J.di;rw[z,G]at this;cases this) k,tb}
def Mt(t:KF)(F F':Mw)(H H':Hp):Prop:=∀b o,¬F b->b≠t.aL->H b=some o->H' b=some o/\¬F' b
def Mt.of(f:Fr F F' H H'):Mt t F F' H H':=λb o n _ e=>f b o n e
def Mt.trans{z:Mw}(f:Mt t F F' H H')(g:Mt t F' z H' H2):Mt t F z H H2:=λb o n m e=>g b o (f b o n m e).2 m (f b o n m e).1
def Mt.but(k:MG t.aL H H'):Mt t F F H H':=λb o n m e=>{k b o m e,n}
def J6.kl(J:J6 K t H a d F x):x.ks.length<=40:=by
 have G:x.ks.Nodup:=J.A.rise.imp λh=>Int.ne_of_lt h;have:=gc G (S:=x.st.kv.map (·.1)) λz hz=>mem_keys.mpr ((J.A.ok.ks z).mp hz);rw[Q0]at this;exact Qr this J.le
def J6.k0(J:J6 K t H a d F x):∀k∈x.ks,0<=k/\k<10^38:=λk hk=>J.kb k (mem_keys.mpr<|(J.A.ok.ks k).mp hk)
end
def pC{z:List Tp}(iv:∀e∈ts,∃i:Int,e.v= .int i)(O:ts.map Tp.kv=z.map Tp.kv):(ts.map λe=>V.ref e.p).length=(z.map λe=>V.ref e.p).length/\∀{H:Hp},(∀e∈ts,H e.p=some (.tup [.int e.k,e.v]))->(∀e∈z,H e.p=some (.tup [.int e.k,e.v]))->∀(j:Nat)(u v:V),(ts.map λe=>V.ref e.p)[j]?=some u->(z.map λe=>V.ref e.p)[j]?=some v->Alk K H 4 u v:=by
 refine{by have:=VT List.length O;simpa using this,λ{H} h1 h2 j u v hu G=>?_};rw[Qu]at hu G;let{x,U,rfl}:=QJ.mp hu;let{y,Y,rfl}:=QJ.mp G;have Z:=VT (λl:List (Int×V)=>l[j]?) O;rw[Qu,Qu,U,Y]at Z;have e3:x.kv=y.kv:=VG Z;have e4:x.k=y.k:=VT Prod.fst e3;have e5:x.v=y.v:=VT Prod.snd e3;have hx:=Q2 U;let{i,ei}:=iv x hx;have t1:=h1 x hx;have I:=h2 y (Q2 Y);rw[<-e4,<-e5]at I;rw[ei]at t1 I;refine .inr {_,_,_,_,M,M,.inr {LB.of t1,LB.of I},M,λj u v hu G=>?_};rcases j with _|_|j
 .cases hu;cases G;exact .inl ⟨VU,M⟩
 .cases hu;cases G;exact .inl ⟨VU,M⟩
 .cases hu
def Jn{l:List α}{r:Int}(G:(l.length:Int)=n)(z:0<n):∃c,Lv l (r%n)=some c:=by
 have I:=Qx r (Zc z);have a1:=QA r z;obtain⟨k,hk⟩:∃k:Nat,r%n=k:={(r%n).toNat,()};rw[hk]at a1⊢;exact{l[k]'(),qU<|Q4 ()}
def wj:Sp:=λvs H Q _=>∃(z:Str)(c:Int),vs=[.str z,.int c]/\z.length<=250/\∀z':Str,z'.length<=2*z.length+1->Q (.str z') H
def wV:AZ P w K mg base KI 2 t.qp t.kL [l7,lz] wj:=by
 refine T.qr.okl wA λs H vs Q E O h _=>?_;intro X;let{z,c,rfl,Z,q}:=h;refine ah (KB 2 bu)
   (ah (KB 3<|aY IP K9 (aF bG (au (g8 T) O.mo {_} T.cN T.cm.kp T.cR .nil aA (aa K3<|aa ak af))<|ar jK {_} T.bM a6 (aa K9 af))<|λ_ _=>M)
   (ah (KB 4<|aF bG (au (g8 T) O.mo {_} T.cN T.cm.kp T.cR .nil aA (aa K3<|aa ak af))<|aF bY (ar jK {_} T.bM a6 (aa Dm af)) ak)
   (ah (KB 5<|aF bG (au (g8 T) O.mo {_} T.cN T.cm.kp T.cR .nil aA (aa K3<|aa ak af)) ak)
   (ah (aT (az eV Lx ak<|aB _)
    (aq<|aw<|aF fZ (aF fZ (bX mN Dm cx<|b7 Kt) KY)<|bX mN Dm (b7 Kt) cx)
    aE)
   (ah (aT (az eV Lx ak<|aB _)
    (aq<|aw<|aF fZ (bX mN Dm cx<|b7 Kt)<|bX mN Dm (b7<|aF bY Kt ak) cx)
    aE)
   (aD (aw<|aF fZ (aF fZ (bX mN Dm cx<|b7 Kt) KY)<|bX mN Dm (b7<|aF bY Kt ak) cx) ?_))))))
 intros
 have G:(kY:Str).length=21:=by decide+kernel
 have big:1000<=sizeLine:=by decide
 let{s,hs}:=Jn (l:=(kY:Str).cps.toList) (r:=dw c 3) (n:=21) ∅ (_);have Y:=Qx (dw c 4) (show((z.length:Int)+1)≠0 by lia);have U:=QA (dw c 4) (show(0:Int)<(z.length:Int)+1 by lia);refine{_,M,_,M,c,3,M,(_),(_),_,M,_,M,Qr (QO G) (_),_,_,M,M,(by show(0:Int)<((kY:Str).length:Int);rw[G];decide),_,_,s,M,M,Qr (QO G) (_),(by show Lv _ (dw c 3%((kY:Str).length:Int))=_;rwa[G]),?_};refine{_,M,c,4,M,(_),(_),_,M,z,M,(),_,_,M,M,_,_,M,M,(by show(0:Int)<(z.length:Int)+1;lia),?_}
 (try dsimp only)
 generalize dw c 4%((z.length:Int)+1)=pl at Y U⊢;refine{_,M,c,5,M,(_),(_),_,_,M,M,(by show(0:Int)<3;decide),?_}
 (try dsimp only)
 generalize dw c 5%3=way;have s1:({#[s]}:Str).length=1:=M;generalize ({#[s]}:Str)=sg at s1⊢;have I:=Txt.slice_le z;refine{_,M,M,_,M,dY (λ_=>?_)<|λ_=>{_,M,M,_,M,dY (λ_=>?_)<|λ_=>?_}}
 .have h1:=I none (some pl);have h2:=I (some pl) none;exact{_,M,_,M,_,M,z,M,(),_,M,_,_,M,M,(),_,M,_,M,_,M,z,M,(),_,_,M,M,by rw[Str.length_append];lia,q _<|by rw[Str.length_append,Str.length_append];lia}
 .have h1:=I none (some pl);have h2:=I (some<|pl+1) none;exact{_,M,_,M,_,M,z,M,(),_,M,_,M,_,_,M,M,_,M,z,M,(),_,_,M,M,(),q _<|by rw[Str.length_append];lia}
 .have h1:=I none (some pl);have h2:=I (some<|pl+1) none;exact{_,M,_,M,_,M,z,M,(),_,M,_,_,M,M,(),_,M,_,M,_,_,M,M,_,M,z,M,(),_,_,M,M,by rw[Str.length_append];lia,q _<|by rw[Str.length_append,Str.length_append];lia}
def wf(t:KF):Sp:=λvs H Q _=>∃z:Str,vs=[.str z]/\z.length<=600/\(∀kd a e,Tk z kd a e->∀H' p,H p=none->Cp H H'->L8 t H' p kd a e->Q (.ref p) H')/\(∀H',Cp H H'->Q .non H')
def wT:AZ P w K mg base KI 6 t.qm t.kJ [l7] (wf t):=by
 refine T.yT.okl wy λs H vs Q E G h _=>?_;intro X;let{z,rfl,I,O,U}:=h;refine ah (KB 1 bS)
   (ah (Ig M M (λpn E=>(aq<|KB 1<|xY (lY T) G.mo {_} T.wZ T.oS.kp T.xi .nil JZ (aa Dm af)))
    (FP {_} T.dh T.aS (λea=>(aq<|KB 1 bS)) FO))
   (aD (aw K3) ?_))
 intros
 refine{_,M,.inl {z,M,I,λkd a e h H' p np s tk=>?_,λ_ ea od H' hx hs=>?_}}
 .exact{_,M,O kd a e h H' p np s tk}
 .refine{ea,t.a7,M,hx.1,_,true,T.aS,T.ze,b9 ?_};exact{_,M,U H' hs}
def wg(K:Wi)(t:KF):Sp:=λvs H Q _=>∃(a d p:G')(n kd:Int)(av e:V)(F:Mw)(x:L3),vs=[.ref a,.ref d,.ref p,.int n]/\S6 K t H a d F x/\L8 t H p kd av e/\LM kd av e/\¬F p/\1<=n/\n<=12/\
 ∀(H':Hp)(F':Mw)(r g:G')(v:V)(ts:List Tp)(a':V)(R:Nt),S6 K t H' a d F' x->Mt t F F' H H'->H' r=some (.tup [.ref g,v])->H' g=some (.lst<|ts.map λe=>V.ref e.p)->¬F' g->(∀e∈ts,H' e.p=some (.tup [.int e.k,e.v])/\¬F' e.p)->LY t H' F' x.st kd n av e v ts a' R->Q (.ref r) H'
def wU:AZ P w K mg base KI 9 t.qo t.kK [eZ,ff,fe,gM] (wg K t):=by
 refine T.yU.okl wz λs H vs Q E Z h _=>?_;intro X;let{a,d,p,n,kd,av,e,F,x,rfl,S,TK,on,np,n1,n2,q}:=h;refine ah (zC (au (Ds T) Z.mo {_} T.DQ T.Bf.kp T.nB.choose_spec.1 T.nB.choose_spec.2 kh (@aH _ _ _ _ _ Dm (@aH _ _ _ _ _ K9 (@aH _ _ _ _ _ KY af M) M) M))<|wL M<|eT (MC 4)<|eT (MC 5) qN)
   (eX (λx=>(jo VW M (dI Kt) (wL M<|eT (MC 6)<|eT (MC 7) qN)
    x)) ?_)
 refine ah (aT (PW.pt<|qf (zA<|pH (l5 Z) MF K3)<|qf (az AA (wN (l5 Z) K3 MF<|λ_ _=>M) Mh<|aB _)<|mV<|jj<|bF<|nW (kk:=3) (dN (bp T.aZ T.iK (gI T) T.iT (_))<|dN (bp T.dS T.kC (jp T) T.kR (_))<|bp T.bC T.hJ (f8 T) T.iD (_)) Z.mo K9<|aa MF af)
    (aq<|aw bS)
    aE)
   (aD (aT (PW.pt<|fV (az wQ Lx bS<|aB _)<|eI<|bF<|nW (kk:=3) (dN (bp T.aZ T.iK (gI T) T.iT (_))<|dN (bp T.dS T.kC (jp T) T.kR (_))<|bp T.bC T.hJ (f8 T) T.iD (_)) Z.mo Lx<|aa MF af)
    (aq<|aw bS)
    aE) ?_)
 intros
 refine ah (aT (PW.pt<|qf (az (Dp K M Z.u20) Kt (au (kq T) Z.mo {_} T.uL T.mI.kp T.uS .nil aA (aa K9<|aa Kt af))<|aB _)<|mV<|az AA (ar Ci {_} T.bM a6 (aa (pF (Cg Z.hd) {_} T.Kp Jj (aa (lD M (K5.of (M':=[kN]) (N:=[eZ,ff,fe,gM,"_law_rows","_law_after","_law_one","_law_value"]) (N':=[eZ,ff,fe,gM,"_law_rows","_law_after","_law_one","_law_value"]) (dsc:=ai gG) M M ∅) (dI Kt)<|λ_ _ _ _ _=>(aY (qR K M) Dm ak<|λ_ _=>M)) af)) af)) (ar ax {_} T.bM a6 (aa Kt af))<|aB _)
    (aq<|aw bS)
    aE)
   (aD (aw<|db<|aa Kt<|aa Lx af) ?_)
 intros
 have kl:=S.J.kl;have le:=S.J.le;refine{_,M,_,M,_,M,a,p,n,kd,av,e,F,x,M,S.J.A,TK,on,np,n1,(),(),(),λk hk=>(S.J.k0 k hk).1,S.J.iv,λH1 F1 r0 g v ts a' R A1 f1 pg U=>{r0,_,M,LB.of pg.tu,M,_,_,M,_,_,M,M,?_}};have I:=S.fr A1 f1;let{dx,fs,hp,tf}:=TK;let{hp,an}:=f1 _ _ np hp;have mt:=Mt.of (t:=t) f1;have hg:=pg.li;have ng:=pg.ng.2;have tu:=λe he=>(pg.rw e he).1;have tn:=λe he=>(pg.rw e he).2;have iv:∀e∈ts,∃i:Int,e.v= .int i:=λe he=>I.J.iv _ ((U.me e.k e.v).mp<|QC (f:=Tp.kv) he).1;have al:ts.length<=40:=by
  have:=gc U.nd (S:=x.st.kv.map (·.1)) λz hz=>by
   let{u,hu,rfl}:=Qk.mp hz;exact QC (f:=Prod.fst) ((U.me u.k u.v).mp<|QC (f:=Tp.kv) hu).1
  rw[Q0,Q0]at this;lia
 clear S f1 pg A1 np kl;refine{_,M,g,M,{_,Do.of hg},pR (K:=K) (a:=g) (xs:=ts.map λe=>V.ref e.p) (λi B H'=>∃(v6 v7:Nm),B=[some (.ref a),some (.ref d),some (.ref p),some (.int n),some (.ref g),some v,v6,v7]/\Cp H1 H') {none,none,M,Cp.refl _} (λi B H' _ w=>by let{_,_,rfl,s}:=w;exact Do.of<|s _ _ hg) (λi z B H' hz w=>?_)<|λB H' w=>?_}
 .let{v6,v7,rfl,s}:=w;let{u,rfl,eu}:=wF hz;have hu:=Q2 eu;have a0:=s _ _ (tu u hu);let{j,ej}:=iv u hu;let{m1,m2,m3}:=(U.me u.k u.v).mp (QC (f:=Tp.kv) hu);have u0:=(I.J.kb u.k<|QC (f:=Prod.fst) m1).1;have a1:=du I.J.A.nd m1;rw[ej]at a0 a1;have g2:=LQ.k (k:=Sum.inl u.k) (s _ _ I.J.di);rw[cO,a1]at g2;refine{u.p,_,M,LB.of a0,M,_,_,M,_,_,M,M,?_};refine{_,M,_,M,d,_,M,g2,_,M,bT {_,M,_,M,d,_,M,g2,_,M,M,_,M,Kb M {_,M,p,_,dx,fs,_,M,s _ _ hp,tf.ho,dHN on.kd,_,M,wn on (s _ _ hp) tf u0 λH2 s2=>{_,M,?_}}}};rw[m2];rcases U.rest with⟨rfl,_⟩|⟨q',rfl,⟨dq,fq,hq,tq⟩,a2,_,hR,_⟩
  .exact bT {_,M,M,_,M,bT {_,_,M,s.trans s2}}
  .refine bT {_,M,M,_,M,b9 {_,M,q',_,dq,fq,_,M,s2 _ _<|s _ _ hq,tq.ho,dHN a2.kd,_,M,wn a2 (s2 _ _<|s _ _ hq) tq u0 λH3 s3=>{_,M,?_}}};rw[<-hR,m3];exact bT {_,_,M,(s.trans s2).trans s3}
 .let{v6,v7,rfl,s}:=w;have ri:=I.J.A.rise;have a3:=(U.tell x.ks ri I.J.A.ok.ks).ord ri;refine{_,M,_,M,_,M,p,g,kd,av,e,ts,F1,M,{dx,fs,s _ _ hp,tf},on.kd,s _ _ hg,λe he=>{s _ _<|tu e he,iv e he},U.nd,I.tb.same s,λb nb=>(I.J.same s).A.out nb,λH2 r2 us pu po a8 a4 b2 a5=>?_};have et:ts.map Tp.kv=us.map Tp.kv:=x5 a3 po λy=>(pu.map Tp.kv).mem_iff.symm;let{len,a7}:=pC (K:=K) iv et;have S2:=(I.same s).but b2 a5;have nP:∀{b:G'}{o:HO},H1 b=some o->(∀ps,o≠ .tbl ps)->H2 b=some o:=λ{b o} e n=>b2 b o (λz=>by
   let{ps,y}:=I.tb.at;rw[z,y]at e;cases e;exact n _ M) (s _ _ e)
  have G:=nP hg λ_ z=>nomatch z
  have O:∀e∈ts,H2 e.p=some (.tup [.int e.k,e.v]):=λe he=>nP (tu e he) λ_ z=>nomatch z
  have U2:LY t H2 F1 x.st kd n av e v ts a' R:={U.rest.imp id λzz=>by let{q',h1,{dq,fq,hq,tq},h3}:=zz;exact{q',h1,{dq,fq,nP hq (λ_ z=>nomatch z),tq},h3},U.less,U.nd,U.me,U.tell,U.far};have ac:=(mt.trans<|Mt.of (t:=t)<|Fr.of_same s).trans (Mt.but (F:=F1) b2);refine{g,r2,_,_,M,M,.inl {Do.of G,Do.of a4},len,a7 O<|λe he=>O e (pu.mem_iff.mp he),?_};clear a7 len a4 pu po et a3 a5 b2 a8;refine{_,M,bT {_,M,g,M,{_,Do.of G},λD hD=>?_}};refine lK (K:=K) (a:=g) (xs:=ts.map λe=>V.ref e.p) (λi ys H3=>Cp H2 H3/\ys=((ts.take i).map (·.k)).map V.int) {am hD,M} (λi ys H2 _ w=>Do.of<|w.1 _ _ G) (λi y ys H3 hy w Y=>?_)<|λys H3 w Y=>?_
  .let{s3,rfl}:=w;let{u,rfl,eu}:=wF hy;have hi:=(Q3.mp hy).1;refine{_,M,u.p,_,_,_,M,M,LB.of<|s3 _ _<|O u<|Q2 eu,M,KL.mk hi Y (cr<|by rw[Q0,Q0,Qe];lia) {cE s3 hD,?_}};rw[Qo,eu,Qb,Qb];rfl
  .let{s3,rfl}:=w;rw[Q0,QG]at Y;refine{D,ts.map (·.k),M,Do.of Y,by rw[Q0];lia,λs ns=>{s,_,_,M,ag,?_}};have sn:=s3.trans (am (o:= .set (λk'=>(PyProof.Rows.firstMet (λi=>(ts.map (·.k)).getD i 0) (ts.map (·.k)).length).any (· ==k')) (PyProof.Rows.firstMet (λi=>(ts.map (·.k)).getD i 0) (ts.map (·.k)).length).length) ns);have nf:=tD U.nd;rw[Q0]at nf;refine{_,M,g,ts.map λe=>V.ref e.p,M,.inl<|Do.of<|sn _ _ G,M,_,M,D3 (by rw[Q0,nf,Q0]) {_,M,_,M,(by show 2<=sizeLine;decide),λr nr=>?_}};have sr:=sn.trans (am (o:= .tup [.ref g,v]) nr);exact q _ F1 r g v ts a' R (S2.same sr) (ac.trans<|Mt.of<|Fr.of_same sr) ag (sr _ _ G) ng (λe he=>{sr _ _<|O e he,tn e he})<|U2.same sr
def pot4{kd:Int}{e:V}(U:LY t H' F' st kd n av e v ts a' R)(z:KA st)(nd:(st.kv.map (·.1)).Nodup)(k0:∀k∈st.kv.map (·.1),0<=k)(O:1<=n)(G:v≠ .non):4+4*(Mp st R:Int)+MU kd st a'<=4*(Mp st (hN kd av e):Int)+MU kd st av:=by
 have sp:=zT nd U.nd U.me λp hp=>U.less p.1 (k0 _<|QC hp);have I:0<65536/st.low:=by
  let{_,_,R}:=sj (fj z);exact R.wpos'
 have ps:MU kd st a'<=MU kd st av:=by
  rcases U.rest with⟨y,_⟩|⟨q,_,_,_,_,_,m⟩
  .exact VE y G
  .unfold MU;split
   .have:=Vg I (m<|by assumption);lia
   .exact ZY _
 unfold Mp;rcases U.far with y|y|⟨y,w⟩
 .exact VE y G
 .lia
 .unfold MU;rw[VA y,VA y];lia
def Ek{kd:Int}{e:V}{I:Nt}(U:LY t H' F' st kd n av e v ts a' R)(on:LM kd av e)(O:cX ks)(mk:∀z,z∈ks↔(aP st.kv z).isSome=true){D:My}(Y:D.Pairwise (LC kd))(Z:∀y,y∈D↔y∈st.kv/\I y.1=true)(le:∀y∈st.kv,hN kd av e y.1=true->I y.1=true)(k0:∀k∈st.kv.map (·.1),0<=k):
  D.filter (λy=>hN kd av e y.1)=ts.map Tp.kv++D.filter λy=>R y.1:=by
 refine x5 (Y.filter _) (Qi.mpr {(U.tell ks O mk).ord O,Y.filter _,λx hx y hy=>GI U on hx (Qy.mp hy).2}) λx=>?_;rw[Q6,Qy,Qy,U.me x.1 x.2,Z];constructor
 .rintro ⟨⟨h1,h2⟩,G⟩;cases c:R x.1 with
  |true=>exact .inr {⟨h1,h2⟩,M}
  |false=>exact .inl ⟨h1,G,M⟩
 .rintro (⟨h1,h2,_⟩|⟨⟨h1,h2⟩,G⟩)
  .exact{{h1,le _ h1 h2},h2}
  .exact{⟨h1,h2⟩,U.less _ (k0 _<|QC (f:=Prod.fst) h1) G}
def DS{k:Key}(h:(aN kvs)[i]?=some (k,v)):∃g:Int,k=Sum.inl g/\kvs[i]?=some (g,v):=by
 unfold aN at h;rw[Qu]at h;cases e:kvs[i]? with
 |none=>rw[e]at h;cases h
 |some p=>rw[e]at h;cases h;exact⟨p.1,M,M⟩
def tE{P:Int×V->Bool}{l:My}{x:Int×V}(e:l[i]?=some x):(l.take<|i+1).filter P=(l.take i).filter P++if P x=true then[x]else[]:=by
 rw[Qo,e,QF];show _++ [x].filter P=_;rw[List.filter_cons];rfl
def rh(K:Wi)(t:KF):Sp:=λvs H Q _=>∃(a d p:G')(n kd:Int)(av e:V)(F:Mw)(x:L3),vs=[.ref a,.ref d,.ref p,.int n]/\S6 K t H a d F x/\L8 t H p kd av e/\LM kd av e/\¬F p/\1<=n/\n<=12/\∀H',Q (.bl true) H'
def sE:AZ P w K mg base KI 10 t.mi t.hZ [eZ,ff,fe,gM] (rh K t):=by
 refine T.mH.okl LA λs H vs Q E hr h _=>?_;intro X;let{a,d,p,n,kd,av,e,F,x,rfl,S,TK,on,np,n1,n2,q}:=h;refine ah (KB 4<|au (kq T) hr.mo {_} T.uL T.mI.kp T.uS .nil aA (aa K9<|aa (FQ<|kg M (K5.of (M':=["_law_one"]) (N:=[eZ,ff,fe,gM,"_law_due","_law_found",mu,"_law_page_here"]) (N':=[eZ,ff,fe,gM,"_law_due","_law_found",mu,"_law_page_here"]) (dsc:=ai eE) M M ∅) (FN K3) (λ_ _ _ _ _=>(bF<|nW (kk:=3) (dN (bp T.aZ T.iK (gI T) T.iT (_))<|dN (bp T.dS T.kC (jp T) T.kR (_))<|bp T.bC T.hJ (f8 T) T.iD (_)) hr.mo KY<|aa Dm af))<|λ_ _ _ _ _=>(db<|aa Dm<|aa (wN (l5 hr) K9 Dm<|λ_ _=>M) af)) af))
   (ah (KB 5<|de af)
   (eX (λx=>(jo VW M (lB {_} T.qL (aa ak af)) (MC 6)
    x)) ?_))
 refine ah (KB 7<|au (wU T) hr.mo {_} T.Hl T.yU.kp T.Hv .nil aA (@aH _ _ _ _ _ Dm (@aH _ _ _ _ _ K3 (@aH _ _ _ _ _ K9 (@aH _ _ _ _ _ KY af M) M) M) M))
   (ah (aT (az g7 Mh bS<|aB _)
    (aq<|aw xZ)
    aE)
   (ah (KB 5<|aF Ix Lx<|aY fk Mh ak<|λ_ _=>M)
   (ah (wH (i:=2) LA.nd M (Or.inr M)<|aY fk Mh ak<|λ_ _=>M)
   (aD (aT (az g7 K9 bS<|aB _)
    (aq<|aw<|c6 (Iw K M hr.u20) Lx Kt<|aB _)
    aE) ?_))))
 intros
 refine aD (aw xZ) ?_
 intros
 have hd:=S.J.di;have le:=S.J.le;let{dx,fs,hp,tf}:=id TK;have pd:p≠d:=λz=>by rw[z,hd]at hp;cases hp
 refine{_,M,d,aN x.st.kv,hd,_,M,d,_,M,hd,λob D hD=>?_};have a4:D≠d:=λz=>by rw[z,ag]at hD;cases hD
 have nD:H D=none:=by rw[ae a4]at hD;exact hD
 refine zW (ob:=ob) (d:=d) (kvs:=aN x.st.kv) (λi ys H2=>MG d H H2/\H2 d=some (.frz ob<|.dK<|aN x.st.kv)/\∃us:List Tp,ys=(us.map λe=>V.ref e.p)/\us.map Tp.kv=(x.st.kv.take i).filter (λy=>hN kd av e y.1)/\∀u∈us,u.p≠D/\H2 u.p=some (.tup [.int u.k,u.v])) {λb o n e=>by rwa[ae (aj e nD),ae n],by rw[ae (Ne.symm a4),ag],[],M,M,λ_ z=>VE z QU} (λi ys H2 _ w=>w.2.1) (λi k v ys H2 hk w Y=>?_)<|λys H2 w Y=>?_
 .let{bt,hf,us,rfl,eu,tu}:=w;let{g,rfl,eg}:=DS hk;have hi:i<(aN x.st.kv).length:=(Q3.mp hk).1;have hi':=hi;rw[cP]at hi';have gm:=Q2 eg;have g0:=(S.J.kb g<|QC (f:=Prod.fst) gm).1;have ul:us.length<=i:=by
   have h1:=VT List.length eu;have h2:=Qq (λy:Int×V=>hN kd av e y.1) (x.st.kv.take i);rw[Q0]at h1;rw[Qe]at h2;lia
  refine{_,M,p,_,dx,fs,_,M,bt _ _ pd hp,tf.ho,dHN on.kd,_,M,wn on (bt _ _ pd hp) tf g0 λH3 s3=>{_,M,?_}};have be:MG d H H3:=λb o n e=>s3 _ _ (bt b o n e);have a5:∀u∈us,u.p≠D/\H3 u.p=some (.tup [.int u.k,u.v]):=λu hu=>{(tu u hu).1,s3 _ _ (tu u hu).2};have al:=s3 _ _ hf;have Z:=s3 _ _ Y;clear s3 bt tu hf Y;by_cases c:hN kd av e g=true
  .rw[c];refine b9 {_,M,_,M,_,M,d,_,M,.inl {aN x.st.kv,Sum.inl g,.inr ⟨ob,al⟩,M,by rw[cO,du S.J.A.nd gm]},(by show 2<=sizeLine;decide),λu nu=>?_};have s4:=am (o:= .tup [kV (Sum.inl g),v]) nu;have e4:upd H3 u (.tup [kV (Sum.inl g),v]) u=some (.tup [kV (Sum.inl g),v]):=ag;have uD:u≠D:=λz=>by rw[z,Z]at nu;cases nu
   (try dsimp only)
   generalize upd H3 u (.tup [kV (Sum.inl g),v])=H4 at s4 e4⊢;refine KL.mk hi (s4 _ _ Z) (cr<|by rw[Q0];lia) {λb o n e=>by rw[ae (aj e nD)];exact s4 _ _<|be b o n e,by rw[ae (Ne.symm a4)];exact s4 _ _ al,us++ [⟨u,g,v⟩],by rw[Qb];rfl,by rw[tE eg,VA c,Qb,eu];rfl,λw hw=>?_};rcases Q6.mp hw with hw|hw
   .exact{(a5 w hw).1,by rw[ae (a5 w hw).1];exact s4 _ _ (a5 w hw).2}
   .rw[Qf.mp hw];exact{uD,by rwa[ae uD]}
  .rw[Zu.mpr c];exact bT<|Kz.mk hi Z {be,al,us,M,by rwa[tE eg,Vz c,ZE],a5}
 .let{bt,hf,us,rfl,eu,tu}:=w;rw[cP,QG]at eu;refine{ob,hf,?_};have s1:Cp H (upd H2 d<|.dK<|aN x.st.kv):=λb o e=>by
   by_cases z:b=d
   .rwa[z,ag,<-hd,<-z]
   .rw[ae z];exact bt b o z e
  have ud:∀u∈us,u.p≠d:=λu hu z=>by have:=(tu u hu).2;rw[z,hf]at this;cases this
  have a7:∀u∈us,upd H2 d (.dK<|aN x.st.kv) u.p=some (.tup [.int u.k,u.v]):=λu hu=>by rw[ae (ud u hu)];exact(tu u hu).2
  have an:upd H2 d (.dK<|aN x.st.kv) D=some (.lst<|us.map λe=>V.ref e.p):=by rwa[ae a4]
  generalize upd H2 d (.dK<|aN x.st.kv)=H3 at s1 a7 an⊢;have S3:=S.same s1;have um:∀y,y∈us.map Tp.kv↔y∈x.st.kv/\hN kd av e y.1=true:=λy=>by rw[eu,Qy]
  have nd:(us.map (·.k)).Nodup:=by
   have h:(us.map (·.k))=(us.map Tp.kv).map (·.1):=by rw[QL];rfl
   rw[h,eu];exact S.J.A.nd.sublist<|(List.filter_sublist).map _
  have ap:=TK.same s1;refine{p,D,kd,av,e,us,F,M,ap,on.kd,an,λu hu=>{a7 u hu,S.J.iv _ ((um u.kv).mp<|QC (f:=Tp.kv) hu).1},nd,S3.tb,λb nb=>S3.J.A.out nb,λH4 due I pw po nr hr b4 bl=>?_};have S4:=S3.but b4 bl;have nP:∀{b:G'}{o:HO},H3 b=some o->(∀ps,o≠ .tbl ps)->H4 b=some o:=λ{b o} e n=>b4 b o (λz=>by
   let{ps,y}:=S3.tb.at;rw[z,y]at e;cases e;exact n _ M) e
  have bo:L8 t H4 p kd av e:=by
   let{dx,fs,h1,h2}:=ap;exact{dx,fs,nP h1 (λ_ z=>nomatch z),h2}
  have tw:∀u∈I,H4 u.p=some (.tup [.int u.k,u.v]):=λu hu=>nP (a7 u<|pw.mem_iff.mp hu) λ_ z=>nomatch z
  have bv:¬F due:=S3.J.A.out nr;have wm:∀y,y∈I.map Tp.kv↔y∈x.st.kv/\hN kd av e y.1=true:=λy=>((pw.map Tp.kv).mem_iff).trans (um y);have wl:I.length<=40:=by
   have h1:=VT List.length eu;have h2:=Qq (λy:Int×V=>hN kd av e y.1) x.st.kv;rw[Q0]at h1;rw[pw.length_eq];lia
  have ri:=S4.J.A.rise;have ay:∀k∈x.st.kv.map (·.1),0<=k:=λk hk=>(S4.J.kb k hk).1;have sz:KA x.st:=by
   let{s,l,wr,p,h,Fs,Fl,Wh,O,g}:=S4.J.A;let{_,_,_,_,_,z}:=Wh.sl;exact z
  have bw:¬F p:=np;clear nP a7 an um nd ap b4 bl S3 s1 TK S tu bt hf Y eu hp tf hd pw np;refine{Qh _,λf0 b1=>?_};have s5:=am (o:= .lst []) b1;have e5:upd H4 f0 (.lst []) f0=some (.lst []):=ag;have bx:=S4.J.A.out b1;generalize upd H4 f0 (.lst [])=H5 at s5 e5⊢;have S5:=S4.same s5;have bz:=bo.same s5;have c0:=s5 _ _ hr;have c1:∀u∈I,H5 u.p=some (.tup [.int u.k,u.v]):=λu hu=>s5 _ _ (tw u hu);clear S4 bo hr tw s5 b1;have lk:∀(R:Nt),(Mp x.st R:Int)<=40:=λR=>by
   have:=Qq (λp:Int×V=>R p.1) x.st.kv;unfold Mp;lia
  refine{300,M,(_),(_),tm (n:=(300:Int).toNat) (λk B H'=>∃(F':Mw)(p a':V)(f:G')(fs:List Tp)(v6 v7:Nm)(pa:G'),B=[some (.ref a),some (.ref d),some p,some (.int n),some (.ref due),some (.ref f),v6,v7]/\S6 K t H' a d F' x/\H' due=some (.lst<|I.map λe=>V.ref e.p)/\¬F' due/\(∀u∈I,H' u.p=some (.tup [.int u.k,u.v]))/\H' f=some (.lst<|fs.map λe=>V.ref e.p)/\¬F' f/\(∀u∈fs,H' u.p=some (.tup [.int u.k,u.v]))/\fs.map Tp.kv++(I.map Tp.kv).filter (λy=>hN kd a' e y.1)=I.map Tp.kv/\(∀y∈x.st.kv,hN kd a' e y.1=true->hN kd av e y.1=true)/\p= .ref pa/\L8 t H' pa kd a' e/\LM kd a' e/\¬F' pa/\4*(k:Int)+4*(Mp x.st (hN kd a' e):Int)+MU kd x.st a'<=416) {F,.ref p,av,f0,[],none,none,p,M,S5,c0,bv,c1,e5,bx,(λ_ z=>VE z QU),List.filter_eq_self.mpr λy hy=>((wm y).mp hy).2,(λ_ _ h=>h),M,bz,on,bw,by have:=lk (hN kd av e);have:=(Hf sz on).2;lia} (λk B H6 hk w=>?_)<|λB H6 w=>?_}
  .clear S5 bz c0 c1 e5 bx bw;let{F6,_,a1,f,fs,v6,v7,pa,rfl,S6,G,a8,b2,a0,b3,b5,b6,ba,rfl,bb,ac,c2,c3}:=w;refine{_,M,_,M,_,M,_,M,a,d,pa,n,kd,a1,e,F6,x,M,S6,bb,ac,c2,n1,n2,λH7 F7 r g v ts a2 R2 S7 m7 c4 c7 co c9 U=>?_};have mv:∀{b:G'}{o:HO},¬F6 b->H6 b=some o->(∀ps,o≠ .tbl ps)->H7 b=some o/\¬F7 b:=λ{b o} nb e n=>m7 b o nb (λz=>by
    let{ps,y}:=S6.tb.at;rw[z,y]at e;cases e;exact n _ M) e
   have tup:∀{b:G'}{xs:K'},H6 b=some (.tup xs)->H7 b=some (.tup xs):=λ{b xs} e=>(mv (S6.J.A.notup e) e λ_ z=>nomatch z).1;let{G,a8}:=mv a8 G λ_ z=>nomatch z
   let{a0,b3}:=mv b3 a0 λ_ z=>nomatch z
   have ca:∀u∈I,H7 u.p=some (.tup [.int u.k,u.v]):=λu hu=>tup (b2 u hu);have cb:∀u∈fs++ts,H7 u.p=some (.tup [.int u.k,u.v]):=λu hu=>(Q6.mp hu).elim (λh=>tup<|b5 u h) λh=>(c9 u h).1;have ds:=Ek U ac ri S6.J.A.ok.ks po wm ba ay;have a3:(fs++ts).map Tp.kv++(I.map Tp.kv).filter (λy=>R2 y.1)=I.map Tp.kv:=by
    rw[Qb,Qn,<-ds,b6]
   have ce:=pot4 U sz S6.J.A.nd ay n1;have cg:=U.less;have rest:=U.rest;have fl:(fs++ts).length<=40:=by
    have h1:=VT List.length a3;rw[Qd,Q0,Q0]at h1;lia
   rw[Qd]at fl;refine{_,M,M,_,M,br (λz=>by cases z) {_,M,_,M,r,_,_,_,M,M,LB.of c4,M,f,g,_,_,M,M,a0,c7,by rw[Q0,Q0];exact Qr fl (_),λf2 bc=>?_}};rw[<-Qb];have s8:=am (o:= .lst<|(fs++ts).map λe=>V.ref e.p) bc;have e8:upd H7 f2 (.lst<|(fs++ts).map λe=>V.ref e.p) f2=some (.lst<|(fs++ts).map λe=>V.ref e.p):=ag;have ci:=S7.J.A.out bc
   (try dsimp only)
   generalize upd H7 f2 (.lst<|(fs++ts).map λe=>V.ref e.p)=H8 at s8 e8⊢;clear mv tup ds U m7 S6 bb b2 b5 c9 c7 b6 bc a0;have S8:=S7.same s8;refine{_,M,r,_,_,_,M,M,LB.of<|s8 _ _ c4,M,?_};rcases rest with⟨rfl,rfl⟩|⟨q',rfl,cj,ck,nq,rfl,_⟩
   .have ek:(fs++ts).map Tp.kv=I.map Tp.kv:=by
     rw[<-a3,ZD.mpr (λ_ _ z=>by cases z),ZE]
    let{len,cm}:=pC (K:=K) (ts:=fs++ts) (λu hu=>S8.J.iv _ ((wm u.kv).mp<|ek▸QC (f:=Tp.kv) hu).1) ek;exact{_,M,M,_,M,iO M {_,M,_,M,f2,due,_,_,M,M,.inl {Do.of e8,Do.of<|s8 _ _ G},len,cm (λu hu=>s8 _ _<|cb u hu)<|λu hu=>s8 _ _ (ca u hu),q _}}
   .have ce:=ce λz=>by cases z
    exact{_,M,M,_,M,br (λz=>by cases z) {F7,_,a2,f2,fs++ts,_,_,q',M,S8,s8 _ _ G,a8,λu hu=>s8 _ _<|ca u hu,e8,ci,λu hu=>s8 _ _<|cb u hu,a3,λy hy h=>ba y hy<|cg _ (ay _<|QC (f:=Prod.fst) hy) h,M,cj.same s8,ck,nq,()}}
  .let{F6,_,a1,f,fs,v6,v7,pa,rfl,S6,G,a8,b2,a0,b3,b5,b6,ba,rfl,bb,ac,c2,c3}:=w;exfalso;have:=(Hf sz ac).1;have e3:((300:Int).toNat:Int)=300:=M;rw[e3]at c3;lia
def L8.fr{kd:Int}{e:V}(h:L8 t H p kd av e)(n:¬F p)(f:Fr F F' H H'):L8 t H' p kd av e/\¬F' p:=by
 let{dx,fs,hp,r}:=h;exact{{dx,fs,(f _ _ n hp).1,r},(f _ _ n hp).2}
def Ji(z:Mu):∃cs:List Int,oA (z.map V.int) (some 4) (some 44)=cs.map V.int/\cs.length<=40:=by
 refine{(z.drop<|HT.sIx (z.map V.int).length 0<|some 4).take<|HT.sIx (z.map V.int).length (z.map V.int).length (some 44)-HT.sIx (z.map V.int).length 0 (some 4),?_,?_}
 .unfold oA;rw[ZV,XZ]
 .have h:∀(n d:Nat)(p:Nat),HT.sIx n d (some (p:Int))=min p n:=λn d p=>by
   show(if(p:Int)<0 then((p:Int)+(n:Int)).toNat else min (p:Int).toNat n)=_;rw[Vz ()];rfl
  have h1:=h (z.map V.int).length 0 4;have h2:=h (z.map V.int).length (z.map V.int).length 44;rw[Qe];refine Qr (Nat.min_le_left _ _) ?_;change HT.sIx _ _ (some ((44:Nat):Int))-HT.sIx _ _ (some ((4:Nat):Int))<=40;rw[h1,h2];lia
def rb.rd{a:V}(h:rb a):M3 (wr a)=some a:=by
 rcases h with rfl|⟨i,rfl,z,h1⟩
 .exact VA M
 .let{G,I,O,_}:=CB z h1;unfold M3;rw[Vz O,VA G,I];rfl
def Lu.rb{kd:Int}{e:V}(h:Lu st ks kd n av e ps (some a'))(hk:∀k∈ks,k<10^38)(on:LM kd a' e):rb a':=by
 have U:a'= .non\/∃i:Int,a'= .int i/\0<=i/\(kd=0->i<=65536):=by
  rcases on with⟨_,i,j,rfl,rfl,O,h1,h2⟩|⟨z,i,rfl,O,_⟩|⟨z,j,rfl,O,rfl|⟨i,rfl,h1⟩⟩
  .exact .inr {i,M,O,λ_=>()}
  .exact .inr {i,M,O,λY=>()}
  .exact .inl M
  .exact .inr {i,M,(),λY=>()}
 rcases U with h1|⟨i,rfl,i0,Z⟩
 .exact .inl h1
 refine .inr {i,M,i0,?_};rcases h with⟨k0,_⟩|⟨up,k1,e1,v1,G⟩
 .have:=Z k0;lia
 .split at G
  .cases G
  .cases c:(bP up av e ks)[n.toNat-1]? with
   |none=>rw[c]at G;cases G
   |some k=>
    rw[c]at G;have I:=Q2 c;unfold bP at I;have I:=(Qy.mp I).1;have a0:k<10^38:=hk k (by split at I;exact I;exact Zm.mp I);have G:i=(if up=true then k+1 else k-1):=by injection G with G;injection G
    split at G<;>lia
def CY(K:Wi)(Pt:G'):Sp:=λvs H Q _=>∃(a:G')(ns:Mu),vs=[.ref a]/\Do K H a (ns.map V.int)/\ns.length<=63/\H Pt=some (.tbl #[])/\∀H',Q (.bl true) H'
def Iz:AZ P w K mg base KI 11 t.Hw t.AY [kz] (CY K t.aL):=by
 have Y0:=qE (P:=P) (w:=w) (base:=base) T;have Y1:=qD (P:=P) (w:=w) (base:=base) T;refine T.Kn.okl MS λs H vs Q E G h _=>?_;intro X;let{sc,ns,rfl,hS,dh,hP,q}:=h;refine ah (KB 1 kf)
   (ah (KB 2<|au (uy T) G.mo {_} T.Gi T.xv.kp T.GB .nil aA (aa (bX lu Dm (b7 ak)<|b7 ak)<|aa K3 af))
   (ah (@wH _ _ 3 _ _ _ _ MS.nd M (Or.inl M) (@aY _ _ _ _ _ _ _ aW (@de _ _ _ _<|@aH _ _ _ _ _ (fW T.sQ (d9 T) G.mo {_} T.js T.pZ.choose_spec.1 T.pZ.choose_spec.2 kh) (@aH _ _ _ _ _ (fW T.Hh (kr T) G.mo {_} T.yf T.yQ.choose_spec.1 T.yQ.choose_spec.2 kh) (@aH _ _ _ _ _ (fW T.AD (g9 T) G.mo {_} T.AE T.uV.choose_spec.1 T.uV.choose_spec.2 kh) af M) M) M) (aF bG (au Y1 G.mo {_} T.b5 T.bJ.kp T.b6 .nil aA (aa Dm<|aa ak af)) ak)<|λ_ _=>M) {_} (by first|exact .inl M|exact .inr M))
   (ah (KB 4<|aF bY ak<|aF bG (au Y1 G.mo {_} T.b5 T.bJ.kp T.b6 .nil aA (aa Dm<|aa ak af)) ak)
   (eX (λx=>(jo VW M (lB {_} T.qL (aa (aF bG (aF eJ (au Y1 G.mo {_} T.b5 T.bJ.kp T.b6 .nil aA (aa Dm<|aa ak af)) ak) ak) af)) (MC 5)
    x)) ?_))))
 refine ah (KB 6<|aY fk (au (Ds T) G.mo {_} T.DQ T.Bf.kp T.nB.choose_spec.1 T.nB.choose_spec.2 kh (@aH _ _ _ _ _ K9 (@aH _ _ _ _ _ KY (@aH _ _ _ _ _ (aF bY ak<|aF bG (au (g8 T) G.mo {_} T.cN T.cm.kp T.cR .nil aA (aa (au Y1 G.mo {_} T.b5 T.bJ.kp T.b6 .nil aA (aa Dm<|aa ak af))<|aa Lx af)) ak) af M) M) M)) ak<|λ_ _=>M)
   (aD (aT (az wQ MF bS<|aB _)
    (aq<|KB 3 MF)
    aE) ?_)
 intros
 refine ah (KB 7<|vm (kk:=2) (dN (bp T.aZ T.pO Y0 T.cH (_))<|dN (bp T.dS T.yi Y0 T.cH (_))<|bp T.bC T.uJ Y0 T.cH (_)) G.mo KY)
   (ah (KB 8<|au (lY T) G.mo {_} T.wZ T.oS.kp T.xi .nil kh (aa Mh af))
   (ah (aT (az (Dp K M G.u20) (aY fk (au (Ds T) G.mo {_} T.DQ T.Bf.kp T.nB.choose_spec.1 T.nB.choose_spec.2 kh (@aH _ _ _ _ _ K9 (@aH _ _ _ _ _ pv8 (@aH _ _ _ _ _ Kt af M) M) M)) ak<|λ_ _=>M) (aY fk (au (Ds T) G.mo {_} T.DQ T.Bf.kp T.nB.choose_spec.1 T.nB.choose_spec.2 kh (@aH _ _ _ _ _ K9 (@aH _ _ _ _ _ KY (@aH _ _ _ _ _ Kt af M) M) M)) ak<|λ_ _=>M)<|aB _)
    (aq<|aw xZ)
    aE)
   (ah (KB 9<|au (wV T) G.mo {_} T.yk T.qr.kp T.yP .nil aA (aa Mh<|aa (au Y1 G.mo {_} T.b5 T.bJ.kp T.b6 .nil aA (aa Dm<|aa ak af)) af))
   (eX (λx=>aT (az eV (aF bG (au Y1 G.mo {_} T.b5 T.bJ.kp T.b6 .nil aA (aa Dm<|aa ak af)) ak) ak<|aB _) x aE) ?_))))
 refine aD (KB 9<|au (wV T) G.mo {_} T.yk T.qr.kp T.yP .nil aA (aa pv9<|aa (au Y1 G.mo {_} T.b5 T.bJ.kp T.b6 .nil aA (aa Dm<|aa ak af)) af)) ?_
 intros
 refine ah (KB 10<|au (wT T) G.mo {_} T.Hk T.yT.kp T.Hu .nil aA (aa pv9 af))
   (eX (λx=>aT (az g7 Ic bS<|aB _) x aE) ?_)
 refine aD (aw<|au (sE T) G.mo {_} T.uK T.mH.kp T.uR .nil aA (@aH _ _ _ _ _ K9 (@aH _ _ _ _ _ K3 (@aH _ _ _ _ _ pv8 (@aH _ _ _ _ _ Kt af M) M) M) M)) ?_
 intros
 refine aD (aw<|pG (c6 eV (vm (kk:=2) (dN (bp T.aZ T.pO Y0 T.cH (_))<|dN (bp T.dS T.yi Y0 T.cH (_))<|bp T.bC T.uJ Y0 T.cH (_)) G.mo Ic) pv9<|aB _)<|j9<|au (sE T) G.mo {_} T.uK T.mH.kp T.uR .nil aA (@aH _ _ _ _ _ K9 (@aH _ _ _ _ _ K3 (@aH _ _ _ _ _ Ic (@aH _ _ _ _ _ Kt af M) M) M) M)) ?_
 intros
 let{cs,bb,cq}:=Ji ns;refine λd nd=>?_;have s0:=am (o:= .dK []) nd;have hd:upd H d (.dK []) d=some (.dK []):=ag;have cS:=((Lj.of (F:=λ_=>False) hS λ_ _ z=>z).wide nd).updG (o:= .dK []);have an:=s0 _ _ hP;have Pd:t.aL≠d:=λz=>by rw[z,nd]at hP;cases hP
 (try dsimp only)
 generalize upd H d (.dK [])=H1 at s0 hd cS an⊢;refine{_,M,_,M,_,M,sc,_,M,cS.sq,λp1 ap=>?_};rw[bb];have s2:=am (o:= .lst<|cs.map V.int) ap;have h1:upd H1 p1 (.lst<|cs.map V.int) p1=some (.lst<|cs.map V.int):=ag;have hd:=s2 _ _ hd;have cS:=cS.new (o:= .lst<|cs.map V.int) ap;have hP:=s2 _ _ an
 (try dsimp only)
 generalize upd H1 p1 (.lst<|cs.map V.int)=H2 at h1 hd cS hP⊢;refine{_,M,p1,d,cs,M,h1,cq,hd,λH3 a F x J l3 o3=>?_};have cS:=cS.fr (F':=λb=>F b\/b=d) (H':=H3) λb o n e=>{(o3 b o (λz=>n<|.inr z) e).1,λz=>z.elim (o3 b o (λz=>n<|.inr z) e).2 λz=>n<|.inr z};let{hP,nP}:=o3 _ _ Pd hP;have S:S6 K t H3 a d F x:={J,nP,.inl hP};clear J o3 hP nP h1 hd s0 s2 hS an ap bb;have bc:Mq (.int 0) (.int 65536):={0,65536,M,M,(_),(_),(_)};have bl:Lm (.int 0) .non:={0,M,(_),.inl M};have bo:Li .non (.int 0):={0,M,(_),.inl M};have si:∀i:Int,Sc (.int i):=λ_=>VU;have sn:Sc .non:=VU;refine λx0 bt n0 m0 e0=>lF (si 0) (si 65536) x0 bt n0 m0 (λ_ H4 ct s4 h4 f4=>{M,λx1 bv n1 m1 e1=>lF (si 0) sn x1 bv n1 m1 (λ_ H5 d0 s5 h5 f5=>{M,λx2 bw n2 m2 e2=>lF sn (si 0) x2 bw n2 m2 (λ_ H6 d1 s6 h6 f6=>{M,(by show 3<=sizeLine;decide),λpl ay=>?_}) λz=>VE bo z}) λz=>VE bl z}) λz=>VE bc z;have s7:=((s4.trans s5).trans s6).trans (am (o:= .lst [.ref x0,.ref x1,.ref x2]) ay);have h7:upd H6 pl (.lst [.ref x0,.ref x1,.ref x2]) pl=some (.lst [.ref x0,.ref x1,.ref x2]):=ag;have I:=cS.fr (Fr.of_same s7);have S7:=S.same s7;obtain⟨c0,bx⟩:∃c:Int,ns.getD (0:Int).toNat 0=c:={_,M};obtain⟨c1,bz⟩:∃c:Int,ns.getD (1:Int).toNat 0=c:={_,M};obtain⟨kd,p,av,e,hp,TK,on,ra,re,np⟩:∃(kd:Int)(p:G')(av e:V),Lv [V.ref x0,.ref x1,.ref x2] (c0%3)=some (.ref p)/\L8 t (upd H6 pl<|.lst [.ref x0,.ref x1,.ref x2]) p kd av e/\LM kd av e/\rb av/\rb e/\¬F p:=by
  have a0:=Qx c0 (show(3:Int)≠0 by decide);have a1:=QA c0 (show(0:Int)<3 by decide);have r0:rb (.int 0):= .inr {0,M,(_),(_)};have sl:=am (o:= .lst [.ref x0,.ref x1,.ref x2]) ay;generalize c0%3=k at a0 a1;rcases(show k=0\/k=1\/k=2 by lia)with rfl|rfl|rfl
  .exact{0,x0,.int 0,.int 65536,M,{bt,ct,sl _ _<|s6 _ _<|s5 _ _ h4,f4},.inl ⟨M,bc⟩,r0,.inr {65536,M,(_),(_)},S.J.A.out n0}
  .exact{1,x1,.int 0,.non,M,{bv,d0,sl _ _<|s6 _ _ h5,f5},.inr<|.inl ⟨M,bl⟩,r0,.inl M,S.J.A.out<|cc s4 n1}
  .exact{2,x2,.non,.int 0,M,{bw,d1,sl _ _ h6,f6},.inr<|.inr ⟨M,bo⟩,.inl M,r0,S.J.A.out<|cc (s4.trans s5) n2}
 clear s4 s5 s6 s7 h4 h5 h6 f4 f5 f6 n0 n1 n2 m0 m1 m2 e0 e1 e2 S cS ay
 (try dsimp only)
 generalize upd H6 pl (.lst [.ref x0,.ref x1,.ref x2])=H7 at h7 I S7 TK⊢;refine{_,M,sc,ns,0,M,I.sq,(_),?_};rw[bx];refine{_,_,M,M,(by show(0:Int)<3;decide),pl,_,_,_,M,M,Do.of h7,hp,?_};refine{_,M,sc,ns,1,M,I.sq,(_),?_};rw[bz];have m0:=Qx c1 (show(12:Int)≠0 by decide);have m1:=QA c1 (show(0:Int)<12 by decide);refine{_,_,M,M,(by show(0:Int)<12;decide),_,_,M,M,?_};obtain⟨n,en⟩:∃n:Int,1+c1%12=n:={_,M};rw[en];have n1:1<=n:=();have n2:n<=12:=();clear m0 m1 hp h7 en;refine{_,M,sc,ns,0,M,I.sq,(_),?_};rw[bx];have q0:=Qx (c0/3) (show(4:Int)≠0 by decide);have q1:=QA (c0/3) (show(0:Int)<4 by decide);refine{_,_,M,M,{(_),(_)},_,_,M,M,(by show(0:Int)<4;decide),?_}
 (try dsimp only)
 generalize c0/3%4=m at q0 q1⊢;have kl:=S7.J.kl;have le:=S7.J.le;refine{m,M,(),(),tm (n:=m.toNat) (λk B H'=>∃(F':Mw)(p:G')(av:V)(v5 v6:Nm),B=[some (.ref sc),some (.ref d),some (.ref a),some (.ref p),some (.int n),v5,v6,none,none,none,none]/\S6 K t H' a d F' x/\Lj K (λb=>F' b\/b=d) H' sc (ns.map V.int)/\L8 t H' p kd av e/\LM kd av e/\rb av/\¬F' p) ⟨F,p,av,none,none,M,S7,I,TK,on,ra,np⟩ (λk B H8 hk w=>?_)<|λB H8 w=>?_}
 .clear S7 I TK on ra np;let{F8,p,av,v5,v6,rfl,S8,a2,TK,on,ra,np}:=w;refine{_,M,_,M,_,M,sc,ns,1,M,a2.sq,(_),?_};rw[bz];have w0:=Qx (dw c1<|0+(k:Int)) (show(5:Int)≠0 by decide);have w1:=QA (dw c1<|0+(k:Int)) (show(0:Int)<5 by decide);refine{_,M,c1,_,M,(),(),_,_,M,M,(by show(0:Int)<5;decide),_,_,M,M,?_}
  (try dsimp only)
  generalize dw c1 (0+(k:Int))%5=w at w0 w1⊢;refine{a,p,1+w,kd,av,e,F8,x,M,S8.J.A,TK,on,np,(),(),(),(),λk hk=>(S8.J.k0 k hk).1,S8.J.iv,λH9 F9 r g v ts a' R A9 f9 pg U=>{r,_,_,_,M,M,LB.of pg.tu,M,?_}};have S9:=S8.fr A9 f9;have a5:=a2.frG f9;have bd:∀q',v= .ref q'->rb a':=λq' z=>by
   have h:=U.tell x.ks S9.J.A.rise S9.J.A.ok.ks;rw[Vz (λy=>by rw[z]at y;cases y)]at h;rcases U.rest with⟨y,_⟩|⟨_,_,_,Y,_⟩
   .rw[z]at y;cases y
   .exact h.rb (λk hk=>(S9.J.k0 k hk).2) Y
  let{dx,fs,hp,tf}:=TK;let{d2,d3}:=f9 _ _ np hp;rcases U.rest with⟨rfl,_⟩|⟨q',rfl,d4,Y,nq,_⟩
  .exact{_,M,M,_,M,bT {F9,p,av,_,_,M,S9,a5,⟨dx,fs,d2,tf⟩,on,ra,d3}}
  .exact{_,M,M,_,M,b9 {_,M,F9,q',a',_,_,M,S9,a5,d4,Y,bd _ M,nq}}
 .clear S7 I TK on ra np;let{F8,p,av,v5,v6,rfl,S8,a2,TK,on,ra,np}:=w;let{dx,fs,hp,tf}:=id TK;refine{_,M,p,_,dx,fs,_,M,hp,tf.wo,dWN on.kd,p,dx,kd,fs,av,e,M,hp,tf,on,ra.bd,re.bd,λH9 s9=>?_};let{zs,zl}:=Bq on.kd ra re;have tk:Tk (iX (Lg kd) av e) kd av e:={wr av,wr e,zs,ra.rd,re.rd,on}
  (try dsimp only)
  generalize iX (Lg kd) av e=z at zs zl tk⊢;have S9:=S8.same s9;have a5:=a2.fr (Fr.of_same s9);have c2:=TK.same s9;clear S8 a2 TK hp tf s9;refine{_,M,.inl {z,M,(),λkd' a' e' h Ha pa Z sa O=>?_,λno=>VE tk<|no kd av e}};let{hk,ea,ee,Y}:=Tk.is zs ra.rd re.rd h;have ek:=qQ Y.kd on.kd hk.symm;rw[ek,ea,ee]at O;have Sa:=S9.same sa;have c4:=a5.fr (Fr.of_same sa);have ac:=c2.same sa;have a7:=S9.J.A.out Z;clear S9 a5 c2 Z h hk Y;have k0:∀k∈x.ks,0<=k:=λk hk=>(Sa.J.k0 k hk).1;have ri:=Sa.J.A.rise;have iv:=Sa.J.iv;have mk:=Sa.J.A.ok.ks;refine{_,M,_,M,_,M,a,pa,n,kd,av,e,F8,x,M,Sa.J.A,O,on,a7,n1,(),(),(),k0,iv,λHb Fb r3 g3 v3 d5 a3 R3 Ab fb a8 U3=>{r3,_,_,_,M,M,LB.of a8.tu,M,?_}};have Sb:=Sa.fr Ab fb;have c7:=c4.frG fb;let{O,Z}:=O.fr a7 fb;let{ac,c9}:=ac.fr np fb;have ca:=a8.li;have cb:=a8.ng.2;have b1:∀u∈d5,Hb u.p=some (.tup [.int u.k,u.v])/\¬Fb u.p:=λu hu=>a8.rw u hu;clear Sa c4 a7 np a8 fb Ab;refine{_,M,_,M,_,M,a,p,n,kd,av,e,Fb,x,M,Sb.J.A,ac,on,c9,n1,(),(),(),k0,iv,λHc Fc r4 g4 v4 di a4 R4 Ac fc al U4=>{r4,_,_,_,M,M,LB.of al.tu,M,?_}};have Sc:=Sb.fr Ac fc;have b2:=c7.frG fc;let{O,Z}:=O.fr Z fc;have et:=((U3.tell x.ks ri mk).uniq<|U4.tell x.ks ri mk).1;let{len,ce}:=pC (K:=K) (λu hu=>iv _ ((U3.me u.k u.v).mp<|QC (f:=Tp.kv) hu).1) et;refine{g3,g4,_,_,M,M,.inl {Do.of (fc _ _ cb ca).1,Do.of al.li},len,ce (λu hu=>(fc _ _ (b1 u hu).2 (b1 u hu).1).1)<|λu hu=>(al.rw u hu).1,_,M,bT ?_};clear Sb c7 ac c9 ca cb b1 Ac fc al U3 U4 et len ce;unfold CQ
  (try dsimp only)
  refine{_,M,_,M,sc,ns,2,M,b2.sq,(_),z,_,M,(),λz1 l1=>?_};obtain⟨c3,dc⟩:∃c:Int,ns.getD (3:Int).toNat 0=c:={_,M};unfold kF
  (try dsimp only)
  refine As (λb3 H'=>∃z2:Str,z2.length<=600/\H'=Hc/\b3=[some (.ref sc),some (.ref d),some (.ref a),some (.ref p),some (.int n),v5,v6,some (.str z),some (.ref pa),some (.str z2),none]) (λnx go=>?_)<|λb3 H' w=>?_
  .refine{_,M,sc,ns,3,M,b2.sq,(_),?_};rw[dc];refine{_,_,M,M,(by show(0:Int)<2;decide),M,_,M,dY (λ_=>?_)<|λ_=>go _ _ {z1,(),M,M}};refine{_,M,_,M,sc,ns,3,M,b2.sq,(_),z1,_,M,(),λz2 l2=>go _ _ {z2,(),M,M}}
  .let{z2,l2,eH,cg}:=w;rw[eH,cg];clear eH cg H' b3;refine{_,M,z2,M,l2,λkd' a' e' h Hd po df sd ci=>?_,λHd sd=>?_}
   .let{ew,b4,ba,be}:=Tk.back l2 h;let{cj,fs',ck,co}:=id ci;refine{_,M,M,_,M,br (λz=>by cases z) {_,M,po,_,cj,fs',_,M,ck,co.wo,dWN b4.kd,po,cj,kd',fs',a',e',M,ck,co,b4,ba,be,λHe se=>{_,M,?_}}};rw[ew];exact{M,_,M,iO M {_,M,_,M,_,M,_,M,a,d,po,n,kd',a',e',Fc,x,M,(Sc.same sd).same se,ci.same se,b4,Sc.J.A.out df,n1,n2,q}}
   .exact{_,M,M,_,M,iO M {_,M,_,M,_,M,_,M,a,d,pa,n,kd,av,e,Fc,x,M,Sc.same sd,O.same sd,on,Z,n1,n2,q}}
end
end SW
namespace ZK
open PySem PySem.W SW L2
def fM{P:Params}{x qual:Str}{st:Stmt}{a:G'}{kV G I z ct:J'}{O:Nf}(l:(K P).lookup a=some (f<|D x qual st N kV G I O z ct):=by kernel_rfl)(c:codeIn (K P) z qual=true:=by kernel_rfl)(k:keepIn (K P) (.ref a)=true:=by kernel_rfl):KH (K P) x qual st a (D x qual st N kV G I O z ct):=Jb l c k
def nA{P:Params}{C:G'}{x:Str}(h:findIn (K P) (.ref C) x=some none:=by kernel_rfl):E2 (K P) C x:=h
def fT{P:Params}{x qual:Str}{st:Stmt}{a b:G'}{kV G I z ct:J'}{O:Nf}(l:(K P).lookup a=some (f<|D x qual st (R b) kV G I O z ct):=by kernel_rfl)(c:codeIn (K P) z qual=true:=by kernel_rfl)(k:keepIn (K P) (.ref a)=true:=by kernel_rfl):Jt (K P) x qual st b a (D x qual st (R b) kV G I O z ct):=AQ l c k
def fU{P:Params}{x qual:Str}{st:Stmt}{a b:G'}{kV G I z ct:J'}{O:Nf}(l:(K P).lookup a=some (f<|D x qual st (R b) kV G I O z ct):=by kernel_rfl)(c:codeIn (K P) z qual=true:=by kernel_rfl)(k:keepIn (K P) (.ref a)=true:=by kernel_rfl):M2 (K P) x qual st a (D x qual st (R b) kV G I O z ct):=(AQ l c k).1
def Js{P:Params}:(K P).lookup 233=some {(T i3),none,.seq #[(.int 0 479),(.int 65536 480)] 0, #[]}:=by kernel_rfl
def Jr{P:Params}:(K P).lookup 260=some {(T i3),none,.seq #[(.int 0 514),N] 0, #[]}:=by kernel_rfl
def Jq{P:Params}:(K P).lookup 287=some {(T i3),none,.seq #[N,(.int 0 548)] 0, #[]}:=by kernel_rfl
def Jp{P:Params}:(K P).lookup 307=some {(T i3),none,.seq #[(.int 10 574),N] 0, #[]}:=by kernel_rfl
def cK_law_sorted{P:Params}:yV (K P) 790 786:=λ_ k=>have e:=k 790 (o "_law_sorted" 1211 "_law_sorted" 1212 1213 480 2 0 0 3 785 181 786 787 788 789 1216 480 1217) (by kernel_rfl);{_,_,_,_,_,_,_,_,_,e,M,M,M,M,M,M,M,M,(_)}
end ZK
namespace SW
open PySem L2
set_option maxHeartbeats 0
variable{α:Type}{YP:World->Heap->Prop}
def us1{us:List α}(hl:us.length=1):∃z,us=[z]:=by rcases us with _|⟨z,_|⟨y,t⟩⟩<;>first|exact{_,M}|simp at hl
def us2{us:List α}(hl:us.length=2):∃z G,us=[z,G]:=by rcases us with _|⟨z,_|⟨G,_|⟨y,t⟩⟩⟩<;>first|exact{_,_,M}|simp at hl
def us3{us:List α}(hl:us.length=3):∃z G I,us=[z,G,I]:=by rcases us with _|⟨z,_|⟨G,_|⟨I,_|⟨y,t⟩⟩⟩⟩<;>first|exact{_,_,_,M}|simp at hl
def us4{us:List α}(hl:us.length=4):∃z G I O,us=[z,G,I,O]:=by rcases us with _|⟨z,_|⟨G,_|⟨I,_|⟨O,_|⟨y,t⟩⟩⟩⟩⟩<;>first|exact{_,_,_,_,M}|simp at hl
open ZK in
def txt{P:Params}{h:Heap}{mg:Nd}(X:(ZK.K P).In h)(G:h.Ns mainGlobals mg):Txt (ZK.K P) mg ZK.t:=by
 constructor
 case g_BITS=>exact{348,Z7 X G<|by kernel_rfl}
 case g_PLACES=>exact{350,Z7 X G<|by kernel_rfl}
 case g_STRETCHES_A_KEY=>exact{572,Z7 X G<|by kernel_rfl}
 case g_MOST_IN_LEAF=>exact{625,Z7 X G<|by kernel_rfl}
 case g_LEAST_SIZE=>exact{801,Z7 X G<|by kernel_rfl}
 case g_GREATEST_SIZE=>exact{803,Z7 X G<|by kernel_rfl}
 case g_FIGURES=>exact{1141,Z7 X G<|by kernel_rfl}
 case g_MOST_FIGURES=>exact{1143,Z7 X G<|by kernel_rfl}
 case g_WORDS_OF_TOKEN=>exact{1145,Z7 X G<|by kernel_rfl}
 all_goals first
  |exact ZK.fM
  |exact Z7 X G<|by kernel_rfl
  |exact{(by kernel_rfl),(by kernel_rfl),(by kernel_rfl)}
  |exact .all λus hl=>by let{_,_,rfl}:=us2 hl;rfl
  |exact ZK.nA
  |exact{(by kernel_rfl),(by kernel_rfl),(by kernel_rfl),(by kernel_rfl)}
  |exact .all λus hl=>by let{_,rfl}:=us1 hl;rfl
  |exact DZ (by kernel_rfl) (by kernel_rfl) (by kernel_rfl)<|λz=>VE z (_)
  |exact PySem.W.mg_none_of X G<|by kernel_rfl
  |exact .all λus hl=>by let{_,_,_,rfl}:=us3 hl;rfl
  |exact{{_,_,_,_,_,_,_,_,_,_,_,_,_,_,{_}},{[ZK.t.bQ],M},(by kernel_rfl),(by kernel_rfl),(by kernel_rfl),(by kernel_rfl)}
  |exact ZK.fU
  |exact .all λus hl=>by let{_,_,_,_,rfl}:=us4 hl;rfl
  |exact DZ (by kernel_rfl) (by kernel_rfl) (by kernel_rfl)<|λ_=>M
  |exact ft (ds:=[]) 3 M (fT (a:=240)) Js λ_ _ _ _ _ _ us hl=>by let{_,_,_,rfl}:=us3 hl;exact{_,M,M}
  |exact ft (ds:=[]) 3 M (fT (a:=267)) Jr λ_ _ _ _ _ _ us hl=>by let{_,_,_,rfl}:=us3 hl;exact{_,M,M}
  |exact ft (ds:=[]) 3 M (fT (a:=294)) Jq λ_ _ _ _ _ _ us hl=>by let{_,_,_,rfl}:=us3 hl;exact{_,M,M}
  |exact ft (ds:=[]) 4 M (fT (a:=312)) Jp λ_ _ _ _ _ _ us hl=>by let{_,_,_,_,rfl}:=us4 hl;exact{_,M,M}
  |exact{_,ft (ds:=[(.int 0 479),(.int 65536 480)]) 1 M (fT (a:=240)) Js λ_ _ _ _ _ _ us hl=>by let{_,rfl}:=us1 hl;exact{_,M,M},(.cons {_,M}<|.cons {_,M} .nil)}
  |exact{_,ft (ds:=[(.int 0 514),N]) 1 M (fT (a:=267)) Jr λ_ _ _ _ _ _ us hl=>by let{_,rfl}:=us1 hl;exact{_,M,M},(.cons {_,M}<|.cons M .nil)}
  |exact{_,ft (ds:=[(.int 0 548)]) 2 M (fT (a:=294)) Jq λ_ _ _ _ _ _ us hl=>by let{_,_,rfl}:=us2 hl;exact{_,M,M},(.cons {_,M} .nil)}
  |exact{_,ft (ds:=[(.int 10 574),N]) 2 M (fT (a:=312)) Jp λ_ _ _ _ _ _ us hl=>by let{_,_,rfl}:=us2 hl;exact{_,M,M},(.cons {_,M}<|.cons M .nil)}
  |exact{_,ft (ds:=[(.int 65536 480)]) 2 M (fT (a:=240)) Js λ_ _ _ _ _ _ us hl=>by let{_,_,rfl}:=us2 hl;exact{_,M,M},(.cons {_,M} .nil)}
  |exact{_,ft (ds:=[N,(.int 0 548)]) 1 M (fT (a:=294)) Jq λ_ _ _ _ _ _ us hl=>by let{_,rfl}:=us1 hl;exact{_,M,M},(.cons M<|.cons {_,M} .nil)}
  |exact{_,ft (ds:=[N]) 2 M (fT (a:=267)) Jr λ_ _ _ _ _ _ us hl=>by let{_,_,rfl}:=us2 hl;exact{_,M,M},(.cons M .nil)}
  |exact{_,ft (ds:=[N]) 3 M (fT (a:=312)) Jp λ_ _ _ _ _ _ us hl=>by let{_,_,_,rfl}:=us3 hl;exact{_,M,M},(.cons M .nil)}
  |exact{{_,_,_,_,_,_,_,_,_,_,_,_,_,_,{_}},{[],M},(by kernel_rfl),(by kernel_rfl),(by kernel_rfl),(by kernel_rfl)}
  |exact{{_,M,ZK.cK_law_sorted},λ_ k=>have e:=k 4 ({(T "module"),(some 0),.plain, #[]}) (by kernel_rfl);{4,_,Z7 X G (by kernel_rfl),(_),(_),(_),e,M,M,M}}
  |exact(by kernel_rfl)
def walk{l:PySem.W.OpenLaw}{q:Mz}{loose:Na}{XP:(Str->Option Value)->Heap->Prop}{d:DefRec}{Pt:G'}{K:Params->Wi}(U:l.most=some 63)(z:d.params.defaults=[])
  (Y:∀(w:World)(h:Heap),YP w h->(K w.params).In h/\h.get? Pt=some (PySem.W.tabObj #[])/\isCodeTable h Pt) (I:∀w:World,(K w.params).lookup Pt=none) (hd:d.name="law")
  (F:∀(w:World)(mg:Str->Option Value)(h:Heap),(K w.params).In h->h.Ns mainGlobals mg->∃t,Txt (K w.params) mg t/\t.aL=Pt):
  PySem.W.WalkO q loose XP YP l.row.toRowW d [] (λf vs=>PySem.call f vs):=by
 refine L2.walk_ofT (n:=63) (k:=11) (x:=kz) (ps:= #[]) (sp:=λw=>CY (K w.params) Pt) U (_) z {M,(_),(_)} Y I (λw mg fa h Z G O=>?_) λ_ _ a ns hl hO hS=>{a,ns,M,hS,hl,hO.1,λ_=>M};let{t,T,eP}:=F w mg h Z G;subst eP;have e:=O.symm.trans ((VT mg hd).trans T.Kr);cases e;let{oc,od,kV,a0,pm,an,a1,ct,a2,e1,lk,a3}:=T.Kn.ex;refine{t.AY,λs u=>?_,λbase _ _=>Iz T};rw[e1];exact .of_eq M
end SW
open PySem PySem.W PyProof.Rows
set_option maxRecDepth 100000 in
set_option maxHeartbeats 0 in
theorem PySem.Challenge.cw_staywalk_k66_whole_bent_tokens_holds : PySem.Challenge.rw_staywalk_k66_whole_bent_tokens.Holds := by
 w_on
 refine holds_law ZK.said λsaid=>?_;refine holds_open (q:=ZK.q) (loose:=ZK.L) (Xt:=λs=>xlAt ZK.q [] s&&recOk (RowW.records<|OpenRow.toRowW<|OpenLaw.row PySem.Challenge.rw_staywalk_k66_whole_bent_tokens) s) (XP:=XL ZK.q []) (Yf:=Hook.obs ZK.H) (Ya:=Hook.val ZK.H) (YP:=Hook.says ZK.H) ZK.left (Hook.of ZK.H) (Hook.keeps ZK.H) (λs e=>xl_of s (Qv.mp e).1) XL.keeps {_} {_} {_} (λs e=>recFacts_of (Qv.mp e).2) {_} (by first|assumption|decide+kernel) ∅ ⟨M,M,M,M,M,∅⟩ ?hw ?hc
 (case hw=>w_witness2)
 exact SW.walk (l:=PySem.Challenge.rw_staywalk_k66_whole_bent_tokens) M M (λw h Y=>L2.kT_of (kIn_of Y) (by kernel_rfl)<|ZK.cK_law_sorted (P:=w.params)) (λw=>by kernel_rfl) M λw mg h KX G=>⟨_,SW.txt KX G,M⟩
#print axioms PySem.Challenge.cw_staywalk_k66_whole_bent_tokens_holds
