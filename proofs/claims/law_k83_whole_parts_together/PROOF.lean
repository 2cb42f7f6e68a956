import PyProof.Rows.All
import PySem.Challenge.RW_staywalk_k83_whole_parts_together
import KE.KFromBytes
import KE.KIntText
import KE.KPairComp
import KE.KSortTup
import KE.KIsAll
import KE.KDictSum
import KE.KRevIter
import KE.KRevSl
import KE.KEqDict
import KE.LcSums
import KE.KDictOf
set_option Elab.async false
set_option linter.all false
set_option maxRecDepth 100000
set_option tactic.hygienic false
noncomputable section
local macro_rules|`(tactic|cbv)=>`(tactic|(try dsimp only))
local macro_rules (kind:=«term{_}»)|`({$x,*})=>`(⟨$x,*⟩)
local macro_rules|`(tactic|let $p:term:=$e)=>do
 let n:=Lean.Syntax.node .none
 let w:=λs=>n ``Lean.Parser.Tactic.rcasesPatLo #[n ``Lean.Parser.Tactic.rcasesPatMed #[Lean.mkNullNode #[s]],Lean.mkNullNode]
 let r←p.raw.rewriteBottomUpM (m:=Lean.MacroM) λs=>pure (if s.isIdent then w (n ``Lean.Parser.Tactic.rcasesPat.one #[s]) else if s.isOfKind ``Lean.Parser.Term.hole then w (n ``Lean.Parser.Tactic.rcasesPat.ignore #[s[0]]) else if s.isOfKind ``«term{_}» then w (n ``Lean.Parser.Tactic.rcasesPat.tuple s.getArgs) else if s.isOfKind Lean.choiceKind then (s.getArgs.find? (·.isOfKind ``Lean.Parser.Tactic.rcasesPatLo)).getD s else s)
 if r.isOfKind ``Lean.Parser.Tactic.rcasesPatLo then `(tactic|obtain $(⟨r[0]⟩):rcasesPatMed:=$e) else Lean.Macro.throwUnsupported
local macro_rules|`(tactic|let $x:ident $[:$t]?:=$e)=>`(tactic|have $x:ident $[:$t]?:=$e)
local macro_rules|`(!$n:num)=>`(nat_lit $n)
local macro_rules | `(()) => `(by lia)
local macro_rules | `((_)) => `(by decide)
local macro_rules | `(∅) => `(by decide+kernel)
local macro_rules | `({_}) => `(by rfl)
abbrev M:=@rfl
set_option genSizeOf false
set_option maxHeartbeats 0
abbrev Q0:=@List.length_map
abbrev Q1:=@List.getElem?_eq_some_iff
abbrev Q2:=@List.mem_of_getElem?
abbrev Q3:=@List.getElem?_eq_getElem
abbrev Q4:=@Nat.le_refl
abbrev Q5:=@List.mem_append
abbrev Q6:=@List.length_append
abbrev Q7:=@List.mem_singleton
abbrev Q8:=@List.length_take
abbrev Q9:=@List.map_append
abbrev Qa:=@List.mem_cons_self
abbrev Qb:=@Array.length_toList
abbrev Qc:=@Bool.false_ne_true
abbrev Qd:=@List.mem_cons_of_mem
abbrev Qe:=@List.mem_map
abbrev Qf:=@Nat.zero_le
abbrev Qg:=@Int.emod_nonneg
abbrev Qh:=@List.size_toArray
abbrev Qi:=@List.append_assoc
abbrev Qj:=@List.mem_cons
abbrev Qk:=@Int.emod_lt_of_pos
abbrev Ql:=@List.pairwise_append
abbrev Qm:=@List.length_filter_le
abbrev Qn:=@List.getD_eq_getElem?_getD
abbrev Qo:=@List.take_add_one
abbrev Qp:=@List.getElem?_map
abbrev Qq:=@PySem.F.plainAttrs_list
abbrev Qr:=@List.length_cons
abbrev Qs:=@List.getElem?_set
abbrev Qt:=@List.mem_filter
abbrev Qu:=@Nat.le_trans
abbrev Qv:=@List.map_cons
abbrev Qw:=@List.take_length
abbrev Qx:=@List.take_of_length_le
abbrev Qy:=@List.mem_append_right
abbrev Qz:=@Nat.lt_of_lt_of_le
abbrev QA:=@Bool.and_eq_true
abbrev QB:=@List.filter_append
abbrev QC:=@List.getElem_of_mem
abbrev QD:=@List.getElem?_append_right
abbrev QE:=@List.take_append_of_le_length
abbrev QF:=@List.length_drop
abbrev QG:=@List.getElem?_append_left
abbrev QH:=@Nat.sub_one_lt_of_le
abbrev QI:=@Bool.and_eq_true_iff
abbrev QJ:=@List.length_set
abbrev QK:=@List.pairwise_map
abbrev QL:=@Nat.lt_of_le_of_ne
abbrev QM:=@Nat.ne_of_lt
abbrev QN:=@Array.getElem?_toList
abbrev QO:=@List.take_append_drop
abbrev QP:=@List.map_map
abbrev QQ:=@Array.toList_append
abbrev QR:=@List.nodup_cons
abbrev QS:=@Int.toNat_natCast
abbrev QT:=@List.length_singleton
abbrev QU:=@Nat.le_of_lt
abbrev QV:=@Nat.max_eq_right
abbrev QW:=@PySem.F.plainAttrs_dict
abbrev QX:=@List.mem_of_mem_take
abbrev QY:=@Int.ne_of_gt
abbrev QZ:=@List.nodup_nil
abbrev Z0:=@Nat.le_of_eq
abbrev Z1:=@List.pairwise_iff_getElem
abbrev Z2:=@List.extract_eq_take_drop
abbrev Z3:=@PySem.F.slot_list_append
abbrev Z4:=@PySem.F.type_list_append
abbrev Z5:=@PySem.W.kia_one
abbrev Z6:=@List.append_nil
abbrev Z7:=@Int.eq_ofNat_of_zero_le
abbrev Z8:=@List.length_pos_iff
abbrev Z9:=@List.length_reverse
abbrev Za:=@List.drop_eq_getElem_cons
abbrev Zb:=@Nat.add_lt_of_lt_sub'
abbrev Zc:=@List.not_mem_nil
abbrev Zd:=@List.mem_of_mem_eraseIdx
abbrev Ze:=@Array.toList_extract
abbrev Zf:=@List.pairwise_singleton
abbrev Zg:=@Nat.le_succ_of_le
abbrev Zh:=@List.flatten_cons
abbrev Zi:=@Bool.eq_false_iff
abbrev Zj:=@List.flatten_append
abbrev Zk:=@Option.map_eq_some_iff
abbrev Zl:=@List.drop_eq_nil_of_le
abbrev Zm:=@Nat.le_succ
abbrev Zn:=@Int.le_refl
abbrev Zo:=@Bool.false_eq_true
abbrev Zp:=@List.drop_zero
abbrev Zq:=@List.length_replicate
abbrev Zr:=@List.getElem?_eq_none_iff
abbrev Zs:=@List.ne_nil_of_length_pos
abbrev Zt:=@Nat.min_eq_left
abbrev Zu:=@List.eq_of_mem_replicate
abbrev Zv:=@List.map_take
abbrev Zw:=@List.map_congr_left
abbrev Zx:=@List.mem_map_of_mem
abbrev Zy:=@List.getElem_mem
abbrev Zz:=@List.all_eq_true
abbrev ZA:=@List.getElem?_drop
abbrev ZB:=@List.pairwise_cons
abbrev ZC:=@Nat.lt_irrefl
abbrev ZD:=@PySem.W.mg_of
abbrev ZE:=@PySem.F.slot_dict_pop
abbrev ZF:=@List.getElem?_eq_none
abbrev ZG:=@List.getElem_take
abbrev ZH:=@List.getElem?_of_mem
abbrev ZI:=@Nat.lt_succ_self
abbrev ZJ:=@List.lookup_cons
abbrev ZL:=@List.mem_flatMap
abbrev ZM:=@Nat.add_le_add_left
abbrev ZN:=@List.filter_sublist
abbrev ZO:=@PySem.F.slot_list_extend
abbrev ZP:=@PySem.F.type_list_extend
abbrev ZQ:=@List.find?_cons
abbrev ZR:=@PySem.W.callWith_K
abbrev ZS:=@Nat.eq_zero_or_pos
abbrev ZT:=@PySem.F.slot_dict_items
abbrev ZU:=@Bool.false_and
abbrev ZV:=@Nat.pow_succ
abbrev ZW:=@Nat.mul_comm
abbrev ZX:=@Nat.add_zero
abbrev ZY:=@List.getElem_drop
abbrev ZZ:=@Nat.zero_lt_of_lt
abbrev X0:=@List.filter_eq_nil_iff
abbrev X1:=@List.foldl_append
abbrev X7:=@List.nodup_append
abbrev X8:=@Int.le_trans
abbrev X9:=@List.getElem?_nil
abbrev Xa:=@PySem.W.methodCall_KW
abbrev Xb:=@List.perm_append_comm
abbrev Xc:=@List.filter_cons
abbrev Xd:=@List.mem_reverse
abbrev Xe:=@List.any_cons
abbrev Xf:=@List.map_drop
abbrev Xg:=@List.mem_append_left
abbrev Xh:=@Int.mul_le_mul_of_nonneg_left
abbrev Xi:=@List.mem_iff_getElem
abbrev Xj:=@Array.push_eq_append
abbrev Xk:=@List.mem_of_mem_drop
abbrev Xl:=@Int.lt_ediv_add_one_mul_self
abbrev Xm:=@Int.toNat_of_nonneg
abbrev Xn:=@Nat.zero_add
abbrev Xo:=@Nat.lt_of_le_of_lt
abbrev Xp:=@Nat.pos_of_ne_zero
abbrev Xq:=@List.getElem?_take
abbrev Xr:=@Int.mul_nonneg
abbrev Xs:=@List.perm_ext_iff_of_nodup
abbrev Xu:=@List.take_sublist
abbrev Xv:=@Nat.le_pred_of_lt
abbrev Xw:=@Option.isSome_iff_exists
abbrev Xx:=@List.getElem?_take_of_lt
abbrev Xy:=@Bool.true_and
abbrev Xz:=@List.take_nil
abbrev XA:=@List.any_eq_true
abbrev XB:=@List.getElem?_cons_succ
abbrev XC:=@PySem.F.type_dict_items
abbrev XD:=@Int.ediv_le_ediv
abbrev XE:=@List.getElem?_set_self
abbrev XF:=@Nat.div_div_eq_div_mul
abbrev XG:=@Int.le_of_lt
abbrev XH:=@Nat.lt_or_ge
abbrev XI:=@Nat.sub_self
abbrev XJ:=@List.drop_of_length_le
abbrev XM:=@Int.zero_add
abbrev XN:=@Bool.eq_iff_iff
abbrev XO:=@Option.map_some
abbrev XQ:=@List.length_nil
abbrev XR:=@Int.ediv_nonneg
abbrev XS:=@Int.mul_ediv_add_emod
abbrev XT:=@Array.getElem_push_lt
abbrev XU:=@PySem.F.type_dict_pop
abbrev XV:=@List.pairwise_reverse
abbrev XW:=@Nat.add_le_add_right
abbrev XX:=@List.getElem?_append
abbrev XY:=@List.length_eraseIdx
abbrev XZ:=@List.filterMap_cons
abbrev V0:=@PySem.W.plainGet_of
abbrev V1:=@List.take_succ_cons
abbrev V2:=@Int.mul_ediv_cancel
abbrev V3:=@Int.natCast_nonneg
abbrev V4:=@Nat.lt_or_eq_of_le
abbrev V5:=@List.eraseIdx_append_of_length_le
abbrev V6:=@Nat.ne_of_gt
abbrev V7:=@Option.isSome_map
abbrev V8:=@Int.mul_comm
abbrev V9:=@Nat.lt_of_succ_lt
abbrev Va:=@Nat.sub_pos_of_lt
abbrev Vb:=@Array.toList_push
abbrev Vc:=@List.filter_congr
abbrev Vd:=@List.map_set
abbrev Ve:=@Bool.not_eq_true'
abbrev Vf:=@List.eraseIdxIfInBounds_toArray
abbrev Vg:=@PySem.W.kat_cons
abbrev Vh:=@List.mem_flatten
abbrev Vi:=@Nat.min_eq_right
abbrev Vj:=@Int.mul_le_mul_of_nonneg_right
abbrev Vk:=@Nat.add_mul
abbrev Vl:=@List.of_mem_zip
abbrev Vm:=@Nat.not_lt_zero
abbrev Vn:=@List.nil_append
abbrev Vo:=@PySem.F.slot_dict_setdefault
abbrev Vp:=@PySem.W.kat_yes
abbrev Vq:=@List.mem_range
abbrev Vr:=@Int.fdiv_eq_ediv_of_nonneg
abbrev Vs:=@List.drop_drop
abbrev Vt:=@Nat.sub_le
abbrev Vu:=@Array.toList_setIfInBounds
abbrev Vv:=@Array.perm_iff_toList_perm
abbrev Vw:=@PySem.W.kat_go
abbrev Vx:=@PySem.W.kat_no
abbrev Vy:=@List.take_take
abbrev Vz:=@if_neg
abbrev VA:=@if_pos
abbrev VB:=@Option.some.inj
abbrev VC:=@PyProof.Rows.wpS_bind
abbrev VD:=@PySem.Heap.get?_push_of_some
abbrev VE:=@absurd
abbrev VF:=@PyProof.Rows.wpS_pure
abbrev VG:=@PySem.wpAny_bind
abbrev VH:=@of_decide_eq_true
abbrev VI:=@PySem.Heap.lt_size
abbrev VJ:=@decide_eq_true
abbrev VL:=@PySem.Heap.get?_push_size
abbrev VM:=@decide_eq_false
abbrev VN:=@beq_iff_eq
abbrev VO:=@decide_eq_true_eq
abbrev VP:=@PySem.PassesOwn.never
abbrev VQ:=@PySem.wpAny_pure
abbrev VR:=@beq_eq_false_iff_ne
abbrev VS:=@congrArg
abbrev VT:=@PyProof.Rows.wpS_forRange
abbrev VU:=@True.intro
abbrev VV:=@List.Pairwise.nil
abbrev VW:=@PySem.wpAny_truthy_bool
abbrev VX:=@of_decide_eq_false
abbrev VY:=@PySem.wpAny_mono
abbrev VZ:=@List.Perm.append_right
abbrev W2:=@List.Perm.trans
abbrev W5:=@PyProof.Rows.wpS_modify
abbrev W8:=@PySem.wpAny_passesOwn
abbrev Wa:=@PySem.Heap.get?_none_of_le
abbrev Wb:=@PySem.wpAny_holding
abbrev Wc:=@PySem.wpAny_Call_Name_kw
abbrev Wd:=@List.Perm.append_left
abbrev We:=@beq_self_eq_true
abbrev Wf:=@PySem.Heap.get?_update_other
abbrev Wg:=@PyProof.Rows.wpS_mono
abbrev Wi:=@PySem.call_meetsIn
abbrev Wj:=@PyProof.Rows.wpS_get
abbrev Wk:=@PySem.wpAny_rule
abbrev Wl:=@List.Perm.of_eq
abbrev Wm:=@Prod.mk.inj
namespace L2
open PySem PySem.Spec PyProof.Rows
noncomputable def aH(s:Stmt)(j:Nat):Stmt:=match s with
 | .ClassDef _ _ _ body _ _ _ _ _ _ _=>body.getD j (.Pass {0,0,0,0})
 |_=> .Pass {0,0,0,0}
noncomputable def gT(s:Stmt):Arguments:=match s with
 | .FunctionDef _ a _ _ _ _ _ _ _ _=>a
 |_=>{posonlyargs:=[],args:=[],vararg:=none,kwonlyargs:=[],kw_defaults:=[],kwarg:=none,defaults:=[]}
noncomputable def d8(s:Stmt):List Stmt:=match s with
 | .FunctionDef _ _ b _ _ _ _ _ _ _=>b
 |_=> []
noncomputable def ak(s:Stmt):Scope:=match s with
 | .FunctionDef _ _ _ _ _ _ sc _ _ _=>sc
 |_=>{kind:= .function,names:=[],isGenerator:=false,isCoroutine:=false}
end L2
namespace HD
open PySem PySem.W
abbrev _root_.RN:=Program
abbrev _root_.RO:=World
noncomputable def Iq(p:RN)(w:RO)(n₀:Nat)(ann:Option Value):Nat->SharedT->Thread->Option SharedT
 |0,_,_=>none
 |n+1,s,t=>match through t with
  |true=>some s
  |false=>match Fast.tw6613529449190102663 n₀ ann t with
   |false=>none
   |true=>match Fast.tw10156331382660048174 (Fast.tw11892475500146522536 Fast.tw14364793385576792824) p w s t with
    |some (s',t')=>Iq p w n₀ ann n s' t'
    |none=>none
def C8{p:RN}{w:RO}{z:Nat}{G:Option Value}:∀{n:Nat}{s s':SharedT}{t:Thread},Iq p w z G n s t=some s'->topRun treeTable p w z G n s.abs t=some s'.abs
 |0,_,_,_,h=>by cases h
 |n+1,s,s',t,h=>by
  unfold Iq at h;rw[<-Fast.te6613529449190102663,<-Fast.te10156331382660048174,<-Fast.te11892475500146522536,<-Fast.te14364793385576792824]at h;unfold topRun;cases I:through t with
  |true=>rw[I]at h;cases h;rfl
  |false=>
   rw[I]at h;cases hk:stepOk z G t with
   |false=>rw[hk]at h;cases h
   |true=>
    rw[hk]at h;cases hs:stepT (denote treeTable) p w s t with
    |none=>rw[hs]at h;cases h
    |some x=>
     let{O,U}:=x;rw[hs]at h;show(match step (denote treeTable) p w s.abs t with| .go s' t'=>topRun treeTable p w z G n s' t'| .halt _ _=>none)=_;rw[stepT_spec hs];exact C8 h
noncomputable def GF:List Obj->BT->Nat->Option (BT×Nat)
 | [],t,n=>some (t,n)
 |o::r,t,n=>match ((t.ins n o).get n).isSome with
  |true=>GF r (t.ins n o) (n+1)
  |false=>none
def Dp{z:Life}:∀{l:List Obj}{t t':BT}{n n':Nat},GF l t n=some (t',n')->absHeap t' n' z={(absHeap t n z).objs++l.toArray,z}
 | [],t,t',n,n',h=>by
  cases h;rw[Array.append_empty];rfl
 |o::r,t,t',n,n',h=>by
  unfold GF at h;cases g:((t.ins n o).get n).isSome with
  |false=>rw[g]at h;cases h
  |true=>
   rw[g]at h;rw[Dp h,absHeap_ins g];show Heap.mk _ _=Heap.mk _ _;congr 1;show(absHeap t n z).objs.push o++r.toArray=_;rw[<-Array.append_singleton,Array.append_assoc];congr 1;simp
abbrev _root_.RD:=Shared
def toT(s:RD):Option SharedT:=match GF s.heap.objs.toList .nil 0 with
 |some (t,n)=>some ⟨t,n,s.heap.life,s.gens,s.drawn,s.toks,s.os⟩
 |none=>none
def Ks{s:RD}{S:SharedT}(h:toT s=some S):S.abs=s:=by
 unfold toT at h;cases e:GF s.heap.objs.toList .nil 0 with
 |none=>rw[e]at h;cases h
 |some x=>
  let{t,n}:=x;rw[e]at h;cases h;let{{G,z},gens,drawn,toks,os}:=s;show Shared.mk (absHeap t n z) _ _ _ _=_;rw[Dp e];show Shared.mk (Heap.mk (#[]++G.toList.toArray) z) _ _ _ _=_;rw[Array.toArray_toList,Array.empty_append]
def LB(p:RN)(w:RO)(N:Nat)(s₀:RD):Option Shared:=match toT s₀ with
 |some S=>(Iq p w S.n (s₀.heap.nsMap mainGlobals "__annotations__") N S<|topStub p).map SharedT.abs
 |none=>none
def Ji{p:RN}{w:RO}{N:Nat}{s₀ s₁:RD}(h:LB p w N s₀=some s₁):topRun treeTable p w s₀.heap.objs.size (s₀.heap.nsMap mainGlobals "__annotations__") N s₀ (topStub p)=some s₁:=by
 unfold LB at h;cases e:toT s₀ with
 |none=>rw[e]at h;cases h
 |some S=>
  rw[e]at h;let{I,h1,rfl}:=Zk.mp h;let z:=Ks e;let G:S.n=s₀.heap.objs.size:=by
   rw[<-z];exact(absHeap_size _ _ _).symm
  rw[G]at h1;have:=C8 h1;rw[z]at this;exact this
def endP(p:RN)(w:RO)(N:Nat):Option Shared:=((Fast.tw10274390034422433532 Fast.tw14364793385576792824 (opening p) w N (start<|opening p).1 (start<|opening p).2).bind<|Fast.tw14289696077712309145 p).bind λs₀=>match s₀.heap.isNs mainGlobals&&s₀.gens.size==0 with
 |true=>(LB p w N s₀).bind λs₁=>match staticsOk (importedModules p.main.body) s₀.heap s₁.heap&&namesBound p s₁.heap&&gensDone s₁&&laidKept s₀.heap s₁.heap with
  |true=>some s₁
  |false=>none
 |false=>none
def lA(p q:RN)(N:Nat)(w:RO):=(endP p w N).map λs=>(Fast.tw5160383126252970620 (R.mapR (λx=>x.name)<|Fast.tw3399658132070893891 q) (Fast.tw5991557255702980513 q) [] {s with gens:= #[]},s.heap.bltView)
abbrev _root_.RS:=List Str
def lB(p q:RN)(loose:RS)(Xt:Shared->Bool)(N:Nat)(w:RO):=(endP p w N).map λs=>(Fast.tw10880121769531294198 s.heap (Fast.tw821141287760084731 q loose) (R.mapR (λx=>x.name)<|Fast.tw3399658132070893891 q) (R.mapR (λx=>x.fst)<|Fast.tw7409074990110511671 q) (R.mapR (λx=>x.name)<|Fast.tw13664370479719496447 q<|Fast.tw821141287760084731 q loose)&&Fast.tw14722251495701143533 s.heap (importedModules p.main.body)&&s.heap.isNs mainGlobals&&s.heap.isNs builtinsNs&&Fast.tw10994771534591457954 q s.heap&&Xt s&&(s.gens.size==0),Fast.tw479339242167458305 q s)
def lC(p q:RN)(loose:RS)(N:Nat)(w:RO):=(endP p w N).map λs=>(Fast.tw16090120013241838585 q (Fast.tw3247288618530077131 q) s,Fast.tw2386780881361962483 q (Fast.tw821141287760084731 q loose) s,Fast.tw11698064438423848299 q loose s,Fast.tw7317090234206586261 q s,Fast.tw7369524293546568484 q loose s)
def left_of{p q:RN}{loose:RS}{Xt:Shared->Bool}{α:Type}{Yf:Shared->α}{Ya:World->α}{N:Nat}(O:∀w,lA p q N w=some ((openGood q loose).1,(openGood q loose).2.1))(U:∀w,lB p q loose Xt N w=some (true,true))(Y:∀w,lC p q loose N w=some (openGood q loose).2.2.2.2)(hD:∀w,(endP p w N).map Yf=some (Ya w)):LeftO p q loose Xt Yf Ya N:=λw=>by
 let{s₁,e,a}:=Zk.mp (O w);let{_,e2,b}:=Zk.mp (U w);rw[e]at e2;cases e2;let{_,z,c}:=Zk.mp (Y w);rw[e]at z;cases z;let{_,G,d}:=Zk.mp (hD w);rw[e]at G;cases G;let{Z,a2}:=Wm a;let{b1,b2}:=Wm b;let g:Fast.tw4187177175401517315 q loose (importedModules p.main.body) Xt true s₁=openGood q loose:=by
  exact Prod.ext Z<|Prod.ext a2 (Prod.ext b1<|Prod.ext b2 c)
 rw[<-Fast.te4187177175401517315]at g;unfold endP at e;rw[<-Fast.te10274390034422433532,<-Fast.te14364793385576792824,<-Fast.te14289696077712309145]at e;let{s₀,h0,e}:=Option.bind_eq_some_iff.mp e;unfold openEnds fencedOpening;rw[h0];show(topFrom treeTable p w N s₀).map _=_;unfold topFrom;cases I:(s₀.heap.isNs mainGlobals&&s₀.gens.size==0)with
 |false=>rw[I]at e;cases e
 |true=>
  rw[I]at e;let{s₂,h1,e}:=Option.bind_eq_some_iff.mp e;show Option.map _ ((topRun treeTable p w s₀.heap.objs.size (s₀.heap.nsMap mainGlobals "__annotations__") N s₀<|topStub p).bind _)=_;rw[Ji h1];cases hs:(staticsOk (importedModules p.main.body) s₀.heap s₂.heap&&namesBound p s₂.heap&&gensDone s₂&&laidKept s₀.heap s₂.heap)with
  |false=>rw[hs]at e;cases e
  |true=>
   rw[hs]at e;cases e;show Option.map _ (match (staticsOk (importedModules p.main.body) s₀.heap s₁.heap&&namesBound p s₁.heap&&gensDone s₁&&laidKept s₀.heap s₁.heap)with|true=>some s₁|false=>none)=_;rw[hs];show some (_,_)=some (_,_);rw[g,d]
end HD
namespace SW
open PySem L2
set_option maxHeartbeats 0
noncomputable def top(i:Nat):Stmt:=PySem.Challenge.pw_staywalk_k83_whole_parts_together.main.body.getD i (.Pass {0,0,0,0})
abbrev oO:=aH (top 6) 0
abbrev oN:=aH (top 7) 0
abbrev mC:=aH (top 8) 0
abbrev jP:=aH (top 9) 0
abbrev vi:=top 13
abbrev sv:=top 14
abbrev pU:=top 15
abbrev sr:=top 16
abbrev kq:=top 17
abbrev ss:=top 18
abbrev pV:=top 20
abbrev sC:=top 22
abbrev jc:=aH (top 23) 0
abbrev gx:=aH (top 24) 0
abbrev fP:=aH (top 24) 1
abbrev pW:=aH (top 25) 0
abbrev mB:=aH (top 25) 1
abbrev kH:=aH (top 26) 0
abbrev jq:=aH (top 26) 1
abbrev FM:=top 29
abbrev gv:=top 30
abbrev eQ:=top 31
abbrev eS:=top 32
abbrev mj:=top 33
abbrev g9:=top 34
abbrev qH:=top 35
abbrev zo:=top 36
abbrev sw:=top 38
abbrev vj:=top 39
abbrev kE:=aH (top 40) 0
abbrev kD:=aH (top 40) 1
abbrev fL:=aH (top 40) 2
abbrev gw:=aH (top 40) 3
abbrev ie:=aH (top 41) 0
abbrev dH:=aH (top 41) 1
abbrev dG:=aH (top 41) 2
abbrev dn:=aH (top 41) 3
abbrev fN:=aH (top 41) 4
abbrev cR:=aH (top 41) 5
abbrev cr:=aH (top 41) 6
abbrev ig:=aH (top 41) 7
abbrev fO:=aH (top 41) 8
abbrev hZ:=aH (top 41) 10
abbrev hV:=aH (top 45) 0
abbrev gf:=aH (top 45) 1
abbrev eV:=aH (top 45) 2
abbrev ji:=aH (top 45) 3
abbrev mE:=aH (top 45) 4
abbrev cW:=aH (top 45) 6
abbrev b9:=aH (top 45) 7
abbrev eU:=aH (top 45) 8
abbrev dF:=aH (top 45) 9
abbrev dj:=aH (top 45) 10
abbrev jh:=aH (top 47) 0
abbrev jg:=aH (top 47) 1
abbrev iR:=top 51
abbrev je:=aH (top 52) 0
abbrev kA:=aH (top 52) 1
abbrev jf:=aH (top 52) 2
abbrev kC:=aH (top 52) 3
abbrev kB:=aH (top 52) 4
abbrev gd:=aH (top 52) 6
abbrev mD:=aH (top 52) 7
abbrev dN:=aH (top 52) 9
abbrev jd:=aH (top 52) 10
abbrev fK:=aH (top 52) 11
abbrev eT:=aH (top 52) 12
abbrev d9:=aH (top 52) 13
abbrev eh:=aH (top 52) 14
abbrev jj:=aH (top 54) 0
abbrev kF:=aH (top 54) 1
abbrev jo:=aH (top 54) 2
abbrev kG:=aH (top 54) 3
abbrev qI:=aH (top 54) 4
abbrev eY:=aH (top 54) 6
abbrev hX:=aH (top 54) 7
abbrev oP:=aH (top 54) 11
abbrev jp:=aH (top 54) 15
abbrev hJ:=top 56
abbrev ku:=top 57
abbrev kt:=top 58
abbrev hI:=top 59
abbrev mw:=top 60
abbrev i9:=top 61
abbrev kr:=top 62
abbrev kx:=top 63
abbrev mq:=top 64
abbrev AC:=top 65
set_option genInjectivity false in
structure N6 where
 Bz:Addr
 wt:FuncData
 yP:Addr
 sX:FuncData
 wB:Addr
 qh:FuncData
 yN:Addr
 sV:FuncData
 rJ:Addr
 kW:FuncData
 yO:Addr
 sW:FuncData
 wC:Addr
 qi:FuncData
 yR:Addr
 sZ:FuncData
 jM:Addr
 jx:FuncData
 lQ:Addr
 cP:FuncData
 kg:Addr
 f9:FuncData
 wE:Addr
 iC:FuncData
 tO:Addr
 nE:FuncData
 rW:Addr
 fF:FuncData
 pK:Addr
 jK:FuncData
 Kh:Addr
 Bk:FuncData
 lO:Addr
 gG:FuncData
 nR:Addr
 iz:FuncData
 nS:Addr
 iA:FuncData
 tK:Addr
 ni:FuncData
 nQ:Addr
 iy:FuncData
 DQ:Addr
 zR:FuncData
 DS:Addr
 zS:FuncData
 yQ:Addr
 sY:FuncData
 BA:Addr
 wu:FuncData
 rS:Addr
 lE:FuncData
 rR:Addr
 lz:FuncData
 j8:Addr
 fZ:FuncData
 lP:Addr
 gH:FuncData
 nY:Addr
 fG:FuncData
 gN:Addr
 dM:FuncData
 gM:Addr
 cn:FuncData
 gu:Addr
 dA:FuncData
 j9:Addr
 f7:FuncData
 fJ:Addr
 cU:FuncData
 eL:Addr
 cy:FuncData
 nZ:Addr
 iF:FuncData
 kf:Addr
 f8:FuncData
 nW:Addr
 iE:FuncData
 nU:Addr
 iD:FuncData
 pG:Addr
 jG:FuncData
 i4:Addr
 fA:FuncData
 pF:Addr
 jF:FuncData
 iZ:Addr
 fw:FuncData
 gL:Addr
 dL:FuncData
 iY:Addr
 fu:FuncData
 gK:Addr
 dJ:FuncData
 gr:Addr
 dz:FuncData
 pE:Addr
 jE:FuncData
 pD:Addr
 jD:FuncData
 tL:Addr
 nu:FuncData
 pB:Addr
 jB:FuncData
 rO:Addr
 lh:FuncData
 pC:Addr
 jC:FuncData
 rQ:Addr
 lw:FuncData
 rP:Addr
 lq:FuncData
 pA:Addr
 jA:FuncData
 pj:Addr
 jz:FuncData
 pf:Addr
 jy:FuncData
 j7:Addr
 fY:FuncData
 iX:Addr
 ft:FuncData
 iJ:Addr
 eD:FuncData
 iK:Addr
 eE:FuncData
 pH:Addr
 jH:FuncData
 rT:Addr
 lF:FuncData
 pI:Addr
 jI:FuncData
 rV:Addr
 lG:FuncData
 i5:Addr
 fB:FuncData
 nV:Addr
 fE:FuncData
 pJ:Addr
 jJ:FuncData
 nT:Addr
 iB:FuncData
 rM:Addr
 kZ:FuncData
 rL:Addr
 kY:FuncData
 wD:Addr
 qj:FuncData
 tN:Addr
 nC:FuncData
 pe:Addr
 jw:FuncData
 rK:Addr
 kX:FuncData
 rN:Addr
 lg:FuncData
 tM:Addr
 nB:FuncData
 Kg:Addr
 DH:FuncData
 bP:Addr
 oE:Addr
 gU:Addr
 aQ:Addr
 dE:Addr
 cz:Addr
 bI:Addr
 aW:Addr
 bB:Addr
 gj:Addr
 aY:Addr
 a6:Addr
end SW
namespace ZK
open PySem PySem.W SW L2
noncomputable abbrev N:Value:= .none
noncomputable abbrev Wn(b:Bool):Value:= .bool b
noncomputable abbrev I(i:Int):Value:= .int i 0
noncomputable abbrev S(x:Str)(t:Nat):Value:= .str x t
noncomputable abbrev F(t:Nat):Value:= .str "/claim/cut.py" t
abbrev _root_.RC:=Addr
noncomputable abbrev R(a:RC):Value:= .ref a
noncomputable abbrev T(n:String):Value:= .type n
abbrev _root_.RI:=Value
noncomputable abbrev E(P:Params)(x:Str)(t:Nat)(v:RI):DictEntry:={PyData.keyHash P x,.str x t,v}
abbrev _root_.RJ:=List Value
noncomputable abbrev c(vs:RJ):Obj:={.type "code",none,.fields vs.toArray, #[]}
abbrev o(n:Str)(a:Nat)(m:Str)(b d:Nat)(e g h i j:Int)(k:RC)(l:Int)(r s t u:RC)(v w:Int)(x:Nat):Obj:=c [S n a,S m b,F d,I e,I g,I h,I i,I j,R k,Wn true,I l,R r,N,R s,R t,R u,I v,I w,F x]
abbrev _root_.R1:=Option Addr
abbrev D(nm qn:Str)(s:Stmt)(df kV dc pm:RI)(an:R1)(cd ct:RI):FuncData:=fnOf nm qn (gT s) (d8 s) (ak s) df kV dc pm an cd ct
abbrev _root_.R5:=FuncData
noncomputable abbrev f(d:R5):Obj:={.type "function",none,.func d, #[]}
abbrev d10:=λx q s r=>D x q s N N N (S "law_staywalk_k83_whole_parts_together" 1374) none (R r) N
abbrev d11:=λx q s r=>D x q s N N N (S "staywalk.asks" 579) none (R r) N
abbrev d12:=λx q s r=>D x q s N N N (S "staywalk.bits" 362) none (R r) N
abbrev d13:=λx q s r=>D x q s N N N (S "staywalk.copier" 647) none (R r) N
abbrev d14:=λx q s r=>D x q s N N N (S "staywalk.house" 1197) none (R r) N
abbrev d15:=λx q s r=>D x q s N N N (S "staywalk.leaves" 858) none (R r) N
abbrev d16:=λx q s r=>D x q s N N N (S "staywalk.makes" 971) none (R r) N
abbrev d17:=λx q s r=>D x q s N N N (S "staywalk.slots" 1034) none (R r) N
abbrev d18:=λx q s r=>D x q s N N N (S "staywalk.tokens" 426) none (R r) N
def t:N6:={153,d12 "turned" "turned" vi 152,160,d12 "mark_of" "mark_of" sv 159,167,d12 "place_of" "place_of" pU 166,174,d12 "slot_of" "slot_of" sr 173,181,d12 "stretch_of" "stretch_of" kq 180,188,d12 "slot_at" "slot_at" ss 187,195,D "is_whole" "is_whole" pV N N N (S "staywalk.wholes" 417) none (R 194) N,202,d18 "is_from" "is_from" sC 201,216,d18 "__init__" "Token.__init__" jc 215,245,D "__init__" "BySlots.__init__" gx (R 238) N N (S "staywalk.tokens" 426) none (R 244) N,252,d18 "holds" "BySlots.holds" fP 251,272,D "__init__" "Up.__init__" pW (R 265) N N (S "staywalk.tokens" 426) none (R 271) N,279,d18 "holds" "Up.holds" mB 278,299,D "__init__" "Down.__init__" kH (R 292) N N (S "staywalk.tokens" 426) none (R 298) N,306,d18 "holds" "Down.holds" jq 305,317,D "ask" "ask" FM (R 312) N N (S "staywalk.asks" 579) none (R 316) N,324,d11 "page_by_slots" "page_by_slots" gv 323,329,d11 "page_by_keys" "page_by_keys" eQ 328,334,d11 "keys_of_page" "keys_of_page" eS 333,341,d11 "keys_near" "keys_near" mj 340,348,d11 "token_behind" "token_behind" g9 347,353,d11 "parts" "parts" qH 352,360,d11 "bound" "bound" zo 359,367,d13 "is_left" "is_left" sw 366,374,d13 "change" "change" vj 373,388,d13 "__init__" "Page.__init__" kE 387,395,d13 "read" "Page.read" kD 394,402,d13 "in_piece" "Page.in_piece" fL 401,409,d13 "outcome" "Page.outcome" gw 408,431,D "__init__" "Copier.__init__" ie (R 424) N N (S "staywalk.copier" 647) none (R 430) N,438,d13 "open_page" "Copier.open_page" dH 437,446,D "read_page" "Copier.read_page" dG (R 439) N N (S "staywalk.copier" 647) none (R 445) N,453,d13 "close_page" "Copier.close_page" dn 452,460,d13 "follow" "Copier.follow" fN 459,467,d13 "follow_mark" "Copier.follow_mark" cR 466,474,d13 "follow_change" "Copier.follow_change" cr 473,481,d13 "copy" "Copier.copy" ig 480,488,d13 "covers" "Copier.covers" fO 487,502,d13 "left" "Copier.left" hZ 501,537,d15 "__init__" "Leaves.__init__" hV 536,542,d15 "add" "Leaves.add" gf 541,549,d15 "discard" "Leaves.discard" eV 548,556,d15 "has" "Leaves.has" ji 555,573,d15 "from_on" "Leaves.from_on" cW 572,578,d15 "down_from" "Leaves.down_from" b9 577,585,d15 "leaf_of" "Leaves.leaf_of" eU 584,592,d15 "part_leaf" "Leaves.part_leaf" dF 591,599,d15 "join_small" "Leaves.join_small" dj 598,620,d16 "__init__" "Makes.__init__" jh 619,627,d16 "note" "Makes.note" jg 626,660,d17 "empty_row" "empty_row" iR 659,674,d17 "__init__" "Slots.__init__" je 673,681,d17 "put" "Slots.put" kA 680,688,d17 "drop" "Slots.drop" jf 687,695,d17 "get" "Slots.get" kC 694,702,d17 "has" "Slots.has" kB 701,714,d17 "rows" "Slots.rows" gd 713,733,d17 "span" "Slots.span" dN 732,740,d17 "stop" "Slots.stop" jd 739,747,d17 "cell_of" "Slots.cell_of" fK 746,754,d17 "lying_at" "Slots.lying_at" eT 753,761,d17 "move_slot" "Slots.move_slot" d9 760,768,d17 "begin_row" "Slots.begin_row" eh 767,789,d14 "__init__" "House.__init__" jj 788,796,d14 "put" "House.put" kF 795,803,d14 "drop" "House.drop" jo 802,810,d14 "get" "House.get" kG 809,831,d14 "lay_mark" "House.lay_mark" eY 830,839,D "diary" "House.diary" hX (R 832) N N (S "staywalk.house" 1197) none (R 838) N,896,d14 "done" "House.done" jp 895,924,d10 "_law_cell_at" "_law_cell_at" hJ 923,931,d10 "_law_mixed" "_law_mixed" ku 930,938,d10 "_law_place" "_law_place" kt 937,943,d10 "_law_run" "_law_run" hI 942,950,d10 "_law_deed" "_law_deed" mw 949,957,d10 "_law_bounds" "_law_bounds" i9 956,964,d10 "_law_token" "_law_token" kr 963,971,d10 "_law_holds" "_law_holds" kx 970,978,d10 "_law_page" "_law_page" mq 977,983,d10 "law" "law" AC 982,31,44,226,255,282,309,412,519,602,651,771,913}
abbrev ob(n m:Str)(a:Nat)(e g:Int)(k:RC)(v:Nat):=o n a m (a+1) (a+2) e g 0 0 3 k 181 (k+1) (k+2) (k+3) (k+4) v e (v+1)
abbrev oa(n:Str):=ob n n
abbrev ea(P:Params)(x:Str)(t:Nat)(a:RC):=E P x t (R a)
def K:Params->Frag:=λP=>(!2,{N,none,.dict #[] 0, #[]})::
(!3,{(T "dict"),none,.dict #[E P "__name__" 165 (S "law_staywalk_k83_whole_parts_together" 1374),E P "__doc__" 166 N,E P "__package__" 167 N,E P "__loader__" 168 (.builtin "__main__.__loader__#opaque"),E P "__spec__" 169 N,ea P "__annotations__" 170 6,ea P "__builtins__" 171 4,E P "__file__" 173 (S "/claim/cut.py" 172),E P "__cached__" 174 N,ea P "_wall" 193 21,ea P "WalkError" 213 31,ea P "NoToken" 229 44,ea P "NoPart" 245 56,ea P "OutOfTurn" 261 68,ea P "NoKey" 286 87,ea P "Twice" 311 106,ea P "TooOld" 336 125,ea P "NoMoment" 361 144,E P "BITS" 365 (.int 16 364),E P "PLACES" 367 (.int 65536 366),ea P "turned" 377 153,ea P "mark_of" 384 160,ea P "place_of" 391 167,ea P "slot_of" 399 174,ea P "stretch_of" 408 181,ea P "slot_at" 416 188,ea P "is_whole" 425 195,ea P "is_from" 435 202,ea P "Token" 475 226,ea P "BySlots" 510 255,ea P "Up" 544 282,ea P "Down" 578 309,E P "STRETCHES_A_KEY" 582 (.int 4 581),ea P "ask" 589 317,ea P "page_by_slots" 602 324,ea P "page_by_keys" 608 329,ea P "keys_of_page" 614 334,ea P "keys_near" 623 341,ea P "token_behind" 631 348,ea P "parts" 637 353,ea P "bound" 646 360,ea P "is_left" 656 367,ea P "change" 664 374,ea P "Page" 724 412,ea P "Copier" 857 519,E P "MOST_IN_LEAF" 861 (.int 8 860),E P "LEAST_IN_TWO" 863 (.int 5 862),ea P "Leaves" 970 602,ea P "Makes" 1033 651,E P "LEAST_SIZE" 1037 (.int 4 1036),E P "GREATEST_SIZE" 1039 (.int 256 1038),ea P "empty_row" 1045 660,ea P "Slots" 1196 771,ea P "House" 1373 913,ea P "_law_cell_at" 1383 924,ea P "_law_mixed" 1392 931,ea P "_law_place" 1400 938,ea P "_law_run" 1406 943,ea P "_law_deed" 1418 950,ea P "_law_bounds" 1428 957,ea P "_law_token" 1435 964,ea P "_law_holds" 1443 971,ea P "_law_page" 1454 978,ea P "law" 1460 983] 64, #[]})::
(!30,{(T "dict"),none,.dict #[E P "__module__" 203 (S "staywalk.errors" 194),E P "__firstlineno__" 207 (.int 5 206),ea P "__static_attributes__" 208 29,ea P "__weakref__" 210 32,E P "__doc__" 211 N] 3, #[]})::
(!31,{(T "type"),none,.cls {"WalkError",[(T "ValueError")],[(R 31),(T "ValueError"),(T "Exception"),(T "BaseException"),(T "object")],30,"WalkError",true,[],[(R 44),(R 56),(R 68),(R 87),(R 106),(R 125),(R 144)],false,none,false}, #[some (R 22),none,some (S "WalkError" 196),some (S "WalkError" 204),some (.builtin "ValueError.__new__"),some (Wn true)]})::
(!43,{(T "dict"),none,.dict #[E P "__module__" 221 (S "staywalk.errors" 194),E P "__firstlineno__" 225 (.int 7 224),ea P "__static_attributes__" 226 42,E P "__doc__" 227 N] 2, #[]})::
(!44,{(T "type"),none,.cls {"NoToken",[(R 31)],[(R 44),(R 31),(T "ValueError"),(T "Exception"),(T "BaseException"),(T "object")],43,"NoToken",true,[],[],false,none,false}, #[some (R 35),none,some (S "NoToken" 214),some (S "NoToken" 222),some (.builtin "ValueError.__new__"),some (Wn true)]})::
(!152,oa "turned" 368 36 1 147 375)::
(!153,f t.wt)::
(!159,oa "mark_of" 378 43 1 154 382)::
(!160,f t.sX)::
(!166,oa "place_of" 385 45 1 161 389)::
(!167,f t.qh)::
(!173,oa "slot_of" 392 47 2 168 397)::
(!174,f t.sV)::
(!180,oa "stretch_of" 400 49 2 175 406)::
(!181,f t.kW)::
(!187,oa "slot_at" 409 52 2 182 414)::
(!188,f t.sW)::
(!194,oa "is_whole" 419 55 1 189 423)::
(!195,f t.qi)::
(!201,oa "is_from" 428 58 2 196 433)::
(!202,f t.sZ)::
(!215,ob "__init__" "Token.__init__" 448 62 4 210 455)::
(!216,f t.jx)::
(!225,{(T "dict"),none,.dict #[E P "__module__" 443 (S "staywalk.tokens" 426),E P "__firstlineno__" 447 (.int 60 446),ea P "__init__" 457 216,ea P "words" 464 223,ea P "__static_attributes__" 468 224,ea P "__dict__" 470 227,ea P "__weakref__" 472 228,E P "__doc__" 473 N] 4, #[]})::
(!226,{(T "type"),none,.cls {"Token",[(T "object")],[(R 226),(T "object")],225,"Token",true,[],[(R 255),(R 282),(R 309)],false,none,false}, #[none,none,some (S "Token" 436),some (S "Token" 444),some (.builtin "object.__new__"),some (Wn true)]})::
(!238,{(T "tuple"),none,.seq #[(.int 0 488),(.int 65536 489)] 0, #[]})::
(!244,ob "__init__" "BySlots.__init__" 490 71 3 239 496)::
(!245,f t.cP)::
(!251,ob "holds" "BySlots.holds" 499 76 2 246 504)::
(!252,f t.f9)::
(!254,{(T "dict"),none,.dict #[E P "__module__" 483 (S "staywalk.tokens" 426),E P "__firstlineno__" 487 (.int 69 486),ea P "__init__" 498 245,ea P "holds" 506 252,ea P "__static_attributes__" 507 253,E P "__doc__" 508 N] 2, #[]})::
(!255,{(T "type"),none,.cls {"BySlots",[(R 226)],[(R 255),(R 226),(T "object")],254,"BySlots",true,[],[],false,none,false}, #[some (R 231),none,some (S "BySlots" 476),some (S "BySlots" 484),some (.builtin "object.__new__"),some (Wn true)]})::
(!265,{(T "tuple"),none,.seq #[(.int 0 523),N] 0, #[]})::
(!271,ob "__init__" "Up.__init__" 524 80 3 266 530)::
(!272,f t.iC)::
(!278,ob "holds" "Up.holds" 533 85 2 273 538)::
(!279,f t.nE)::
(!281,{(T "dict"),none,.dict #[E P "__module__" 518 (S "staywalk.tokens" 426),E P "__firstlineno__" 522 (.int 78 521),ea P "__init__" 532 272,ea P "holds" 540 279,ea P "__static_attributes__" 541 280,E P "__doc__" 542 N] 2, #[]})::
(!282,{(T "type"),none,.cls {"Up",[(R 226)],[(R 282),(R 226),(T "object")],281,"Up",true,[],[],false,none,false}, #[some (R 258),none,some (S "Up" 511),some (S "Up" 519),some (.builtin "object.__new__"),some (Wn true)]})::
(!292,{(T "tuple"),none,.seq #[N,(.int 0 557)] 0, #[]})::
(!298,ob "__init__" "Down.__init__" 558 89 3 293 564)::
(!299,f t.fF)::
(!305,ob "holds" "Down.holds" 567 94 2 300 572)::
(!306,f t.jK)::
(!308,{(T "dict"),none,.dict #[E P "__module__" 552 (S "staywalk.tokens" 426),E P "__firstlineno__" 556 (.int 87 555),ea P "__init__" 566 299,ea P "holds" 574 306,ea P "__static_attributes__" 575 307,E P "__doc__" 576 N] 2, #[]})::
(!309,{(T "type"),none,.cls {"Down",[(R 226)],[(R 309),(R 226),(T "object")],308,"Down",true,[],[],false,none,false}, #[some (R 285),none,some (S "Down" 545),some (S "Down" 553),some (.builtin "object.__new__"),some (Wn true)]})::
(!312,{(T "tuple"),none,.seq #[(.int 10 583),N] 0, #[]})::
(!316,c [(S "ask" 584),(S "ask" 585),(F 586),(I 98),(I 4),(I 0),(I 0),(I 3),(R 313),(Wn true),(I 181),(R 314),N,N,N,(R 315),(I 587),(I 98),(F 588)])::
(!317,f t.Bk)::
(!323,oa "page_by_slots" 590 106 3 318 600)::
(!324,f t.gG)::
(!328,c [(S "page_by_keys" 603),(S "page_by_keys" 604),(F 605),(I 120),(I 3),(I 0),(I 0),(I 3),(R 325),(Wn true),(I 181),(R 326),N,N,N,(R 327),(I 606),(I 120),(F 607)])::
(!329,f t.iz)::
(!333,c [(S "keys_of_page" 609),(S "keys_of_page" 610),(F 611),(I 123),(I 3),(I 0),(I 0),(I 3),(R 330),(Wn true),(I 181),(R 331),N,N,N,(R 332),(I 612),(I 123),(F 613)])::
(!334,f t.iA)::
(!340,oa "keys_near" 615 132 3 335 621)::
(!341,f t.ni)::
(!347,oa "token_behind" 624 136 2 342 629)::
(!348,f t.iy)::
(!352,c [(S "parts" 632),(S "parts" 633),(F 634),(I 140),(I 2),(I 0),(I 0),(I 3),(R 349),(Wn true),(I 181),(R 350),N,N,N,(R 351),(I 635),(I 140),(F 636)])::
(!353,f t.zR)::
(!359,oa "bound" 638 146 3 354 644)::
(!360,f t.zS)::
(!366,oa "is_left" 649 149 2 361 654)::
(!367,f t.sY)::
(!373,oa "change" 657 151 2 368 662)::
(!374,f t.wu)::
(!387,ob "__init__" "Page.__init__" 677 158 2 382 682)::
(!388,f t.lE)::
(!394,ob "read" "Page.read" 685 165 3 389 692)::
(!395,f t.lz)::
(!401,ob "in_piece" "Page.in_piece" 695 170 2 396 700)::
(!402,f t.fZ)::
(!408,ob "outcome" "Page.outcome" 703 173 1 403 709)::
(!409,f t.gH)::
(!411,{(T "dict"),none,.dict #[E P "__module__" 672 (S "staywalk.copier" 647),E P "__firstlineno__" 676 (.int 156 675),ea P "__init__" 684 388,ea P "read" 694 395,ea P "in_piece" 702 402,ea P "outcome" 711 409,ea P "__static_attributes__" 717 410,ea P "__dict__" 719 413,ea P "__weakref__" 721 414,E P "__doc__" 722 N] 4, #[]})::
(!412,{(T "type"),none,.cls {"Page",[(T "object")],[(R 412),(T "object")],411,"Page",true,[],[],false,none,false}, #[none,none,some (S "Page" 665),some (S "Page" 673),some (.builtin "object.__new__"),some (Wn true)]})::
(!424,{(T "tuple"),none,.seq #[N] 0, #[]})::
(!430,ob "__init__" "Copier.__init__" 737 180 4 425 744)::
(!431,f t.fG)::
(!437,ob "open_page" "Copier.open_page" 747 190 1 432 751)::
(!438,f t.dM)::
(!439,{(T "tuple"),none,.seq #[(.int 10 754)] 0, #[]})::
(!445,ob "read_page" "Copier.read_page" 755 198 2 440 761)::
(!446,f t.cn)::
(!452,ob "close_page" "Copier.close_page" 764 205 1 447 769)::
(!453,f t.dA)::
(!459,ob "follow" "Copier.follow" 772 212 2 454 779)::
(!460,f t.f7)::
(!466,ob "follow_mark" "Copier.follow_mark" 782 222 2 461 788)::
(!467,f t.cU)::
(!473,ob "follow_change" "Copier.follow_change" 791 230 2 468 798)::
(!474,f t.cy)::
(!480,ob "copy" "Copier.copy" 801 238 1 475 805)::
(!481,f t.iF)::
(!487,ob "covers" "Copier.covers" 808 241 2 482 813)::
(!488,f t.f8)::
(!501,ob "left" "Copier.left" 823 247 1 496 827)::
(!502,f t.iE)::
(!518,{(T "dict"),none,.dict #[E P "__module__" 732 (S "staywalk.copier" 647),E P "__firstlineno__" 736 (.int 178 735),ea P "__init__" 746 431,ea P "open_page" 753 438,ea P "read_page" 763 446,ea P "close_page" 771 453,ea P "follow" 781 460,ea P "follow_mark" 790 467,ea P "follow_change" 800 474,ea P "copy" 807 481,ea P "covers" 815 488,ea P "place" 822 495,ea P "left" 829 502,ea P "total" 836 509,ea P "stopped" 843 516,ea P "__static_attributes__" 850 517,ea P "__dict__" 852 520,ea P "__weakref__" 854 521,E P "__doc__" 855 N] 4, #[]})::
(!519,{(T "type"),none,.cls {"Copier",[(T "object")],[(R 519),(T "object")],518,"Copier",true,[],[],false,none,false}, #[none,none,some (S "Copier" 725),some (S "Copier" 733),some (.builtin "object.__new__"),some (Wn true)]})::
(!536,ob "__init__" "Leaves.__init__" 876 260 1 531 880)::
(!537,f t.iD)::
(!541,c [(S "add" 883),(S "Leaves.add" 884),(F 885),(I 263),(I 2),(I 0),(I 0),(I 3),(R 538),(Wn true),(I 181),(R 539),N,N,N,(R 540),(I 886),(I 263),(F 887)])::
(!542,f t.jG)::
(!548,ob "discard" "Leaves.discard" 889 275 2 543 895)::
(!549,f t.fA)::
(!555,ob "has" "Leaves.has" 898 286 2 550 904)::
(!556,f t.jF)::
(!560,c [(S "many" 907),(S "Leaves.many" 908),(F 909),(I 290),(I 1),(I 0),(I 0),(I 3),(R 557),(Wn true),(I 181),(R 558),N,N,N,(R 559),(I 910),(I 290),(F 911)])::
(!572,c [(S "from_on" 920),(S "Leaves.from_on" 921),(F 922),(I 296),(I 3),(I 0),(I 0),(I 3),(R 569),(Wn true),(I 181),(R 570),N,N,N,(R 571),(I 923),(I 296),(F 924)])::
(!573,f t.fw)::
(!577,c [(S "down_from" 926),(S "Leaves.down_from" 927),(F 928),(I 304),(I 3),(I 0),(I 0),(I 3),(R 574),(Wn true),(I 181),(R 575),N,N,N,(R 576),(I 929),(I 304),(F 930)])::
(!578,f t.dL)::
(!584,ob "leaf_of" "Leaves.leaf_of" 932 314 2 579 940)::
(!585,f t.fu)::
(!591,ob "part_leaf" "Leaves.part_leaf" 943 325 2 586 950)::
(!592,f t.dJ)::
(!598,ob "join_small" "Leaves.join_small" 953 331 2 593 959)::
(!599,f t.dz)::
(!601,{(T "dict"),none,.dict #[E P "__module__" 871 (S "staywalk.leaves" 858),E P "__firstlineno__" 875 (.int 258 874),ea P "__init__" 882 537,ea P "add" 888 542,ea P "discard" 897 549,ea P "has" 906 556,ea P "many" 912 561,ea P "all_of" 919 568,ea P "from_on" 925 573,ea P "down_from" 931 578,ea P "leaf_of" 942 585,ea P "part_leaf" 952 592,ea P "join_small" 961 599,ea P "__static_attributes__" 963 600,ea P "__dict__" 965 603,ea P "__weakref__" 967 604,E P "__doc__" 968 N] 4, #[]})::
(!602,{(T "type"),none,.cls {"Leaves",[(T "object")],[(R 602),(T "object")],601,"Leaves",true,[],[],false,none,false}, #[none,none,some (S "Leaves" 864),some (S "Leaves" 872),some (.builtin "object.__new__"),some (Wn true)]})::
(!619,ob "__init__" "Makes.__init__" 985 341 1 614 989)::
(!620,f t.jE)::
(!626,ob "note" "Makes.note" 992 344 3 621 998)::
(!627,f t.jD)::
(!650,{(T "dict"),none,.dict #[E P "__module__" 980 (S "staywalk.makes" 971),E P "__firstlineno__" 984 (.int 339 983),ea P "__init__" 991 620,ea P "note" 1000 627,ea P "all_told" 1007 634,ea P "value_at" 1016 641,ea P "sweep" 1024 648,ea P "__static_attributes__" 1026 649,ea P "__dict__" 1028 652,ea P "__weakref__" 1030 653,E P "__doc__" 1031 N] 4, #[]})::
(!651,{(T "type"),none,.cls {"Makes",[(T "object")],[(R 651),(T "object")],650,"Makes",true,[],[],false,none,false}, #[none,none,some (S "Makes" 973),some (S "Makes" 981),some (.builtin "object.__new__"),some (Wn true)]})::
(!659,c [(S "empty_row" 1040),(S "empty_row" 1041),(F 1042),(I 361),(I 1),(I 0),(I 0),(I 3),(R 656),(Wn true),(I 181),(R 657),N,N,N,(R 658),(I 1043),(I 361),(F 1044)])::
(!660,f t.nu)::
(!673,ob "__init__" "Slots.__init__" 1058 365 1 668 1062)::
(!674,f t.jB)::
(!680,ob "put" "Slots.put" 1065 370 3 675 1072)::
(!681,f t.lh)::
(!687,ob "drop" "Slots.drop" 1075 378 2 682 1080)::
(!688,f t.jC)::
(!694,ob "get" "Slots.get" 1083 386 2 689 1089)::
(!695,f t.lw)::
(!701,ob "has" "Slots.has" 1092 392 2 696 1097)::
(!702,f t.lq)::
(!713,c [(S "rows" 1107),(S "Slots.rows" 1108),(F 1109),(I 398),(I 1),(I 0),(I 0),(I 3),(R 710),(Wn true),(I 181),(R 711),N,N,N,(R 712),(I 1110),(I 398),(F 1111)])::
(!714,f t.jA)::
(!732,c [(S "span" 1127),(S "Slots.span" 1128),(F 1129),(I 407),(I 3),(I 0),(I 0),(I 3),(R 729),(Wn true),(I 181),(R 730),N,N,N,(R 731),(I 1130),(I 407),(F 1131)])::
(!733,f t.jz)::
(!739,ob "stop" "Slots.stop" 1133 417 2 734 1139)::
(!740,f t.jy)::
(!746,ob "cell_of" "Slots.cell_of" 1142 421 2 741 1150)::
(!747,f t.fY)::
(!753,ob "lying_at" "Slots.lying_at" 1153 429 2 748 1164)::
(!754,f t.ft)::
(!760,ob "move_slot" "Slots.move_slot" 1167 438 1 755 1175)::
(!761,f t.eD)::
(!767,ob "begin_row" "Slots.begin_row" 1178 451 1 762 1183)::
(!768,f t.eE)::
(!770,{(T "dict"),none,.dict #[E P "__module__" 1053 (S "staywalk.slots" 1034),E P "__firstlineno__" 1057 (.int 363 1056),ea P "__init__" 1064 674,ea P "put" 1074 681,ea P "drop" 1082 688,ea P "get" 1091 695,ea P "has" 1099 702,ea P "many" 1106 709,ea P "rows" 1112 714,ea P "moved" 1119 721,ea P "cells" 1126 728,ea P "span" 1132 733,ea P "stop" 1141 740,ea P "cell_of" 1152 747,ea P "lying_at" 1166 754,ea P "move_slot" 1177 761,ea P "begin_row" 1185 768,ea P "__static_attributes__" 1189 769,ea P "__dict__" 1191 772,ea P "__weakref__" 1193 773,E P "__doc__" 1194 N] 4, #[]})::
(!771,{(T "type"),none,.cls {"Slots",[(T "object")],[(R 771),(T "object")],770,"Slots",true,[],[],false,none,false}, #[none,none,some (S "Slots" 1046),some (S "Slots" 1054),some (.builtin "object.__new__"),some (Wn true)]})::
(!788,ob "__init__" "House.__init__" 1211 462 1 783 1215)::
(!789,f t.jH)::
(!795,ob "put" "House.put" 1218 472 3 790 1224)::
(!796,f t.lF)::
(!802,ob "drop" "House.drop" 1227 478 2 797 1232)::
(!803,f t.jI)::
(!809,ob "get" "House.get" 1235 483 2 804 1240)::
(!810,f t.lG)::
(!830,ob "lay_mark" "House.lay_mark" 1258 492 1 825 1262)::
(!831,f t.fB)::
(!832,{(T "tuple"),none,.seq #[(.int 0 1265)] 0, #[]})::
(!838,ob "diary" "House.diary" 1266 497 2 833 1271)::
(!839,f t.fE)::
(!895,ob "done" "House.done" 1331 522 3 890 1338)::
(!896,f t.jJ)::
(!912,{(T "dict"),none,.dict #[E P "__module__" 1206 (S "staywalk.house" 1197),E P "__firstlineno__" 1210 (.int 460 1209),ea P "__init__" 1217 789,ea P "put" 1226 796,ea P "drop" 1234 803,ea P "get" 1242 810,ea P "has" 1250 817,ea P "many" 1257 824,ea P "lay_mark" 1264 831,ea P "diary" 1273 839,ea P "makes" 1281 846,ea P "hold" 1288 853,ea P "let_go" 1296 860,ea P "held" 1303 867,ea P "sweep" 1310 874,ea P "was" 1319 881,ea P "page_at" 1330 889,ea P "done" 1340 896,ea P "refuse_outside" 1348 903,ea P "value_then" 1357 910,ea P "__static_attributes__" 1366 911,ea P "__dict__" 1368 914,ea P "__weakref__" 1370 915,E P "__doc__" 1371 N] 4, #[]})::
(!913,{(T "type"),none,.cls {"House",[(T "object")],[(R 913),(T "object")],912,"House",true,[],[],false,none,false}, #[none,none,some (S "House" 1199),some (S "House" 1207),some (.builtin "object.__new__"),some (Wn true)]})::
(!923,oa "_law_cell_at" 1376 538 2 918 1381)::
(!924,f t.iB)::
(!930,oa "_law_mixed" 1384 542 2 925 1390)::
(!931,f t.kZ)::
(!937,oa "_law_place" 1393 545 1 932 1398)::
(!938,f t.kY)::
(!942,c [(S "_law_run" 1401),(S "_law_run" 1402),(F 1403),(I 551),(I 1),(I 0),(I 0),(I 3),(R 939),(Wn true),(I 181),(R 940),N,N,N,(R 941),(I 1404),(I 551),(F 1405)])::
(!943,f t.qj)::
(!949,oa "_law_deed" 1407 568 3 944 1416)::
(!950,f t.nC)::
(!956,oa "_law_bounds" 1419 581 1 951 1426)::
(!957,f t.jw)::
(!963,oa "_law_token" 1429 594 1 958 1433)::
(!964,f t.kX)::
(!970,oa "_law_holds" 1436 598 2 965 1441)::
(!971,f t.lg)::
(!977,oa "_law_page" 1444 602 5 972 1452)::
(!978,f t.nB)::
(!982,c [(S "law" 1455),(S "law" 1456),(F 1457),(I 610),(I 1),(I 0),(I 0),(I 3),(R 979),(Wn true),(I 181),(R 980),N,N,N,(R 981),(I 1458),(I 610),(F 1459)])::
(!983,f t.DH)::[]
noncomputable abbrev as:List Addr:=[2,3,30,31,43,44,152,153,159,160,166,167,173,174,180,181,187,188,194,195,201,202,215,216,225,226,238,244,245,251,252,254,255,265,271,272,278,279,281,282,292,298,299,305,306,308,309,312,316,317,323,324,328,329,333,334,340,341,347,348,352,353,359,360,366,367,373,374,387,388,394,395,401,402,408,409,411,412,424,430,431,437,438,439,445,446,452,453,459,460,466,467,473,474,480,481,487,488,501,502,518,519,536,537,541,542,548,549,555,556,560,572,573,577,578,584,585,591,592,598,599,601,602,619,620,626,627,650,651,659,660,673,674,680,681,687,688,694,695,701,702,713,714,732,733,739,740,746,747,753,754,760,761,767,768,770,771,788,789,795,796,802,803,809,810,830,831,832,838,839,895,896,912,913,923,924,930,931,937,938,942,943,949,950,956,957,963,964,970,971,977,978,982,983]
noncomputable abbrev p:Program:=PySem.Challenge.pw_staywalk_k83_whole_parts_together
abbrev q:Program:=view p [0,2,3,4,5,6,7,8,9,11,12,13,14,15,16,17,18,20,22,23,24,25,26,28,30,31,32,33,34,35,36,38,39,40,41,43,44,45,47,49,50,51,52,54,56,57,58,59,60,61,62,63,64,65]
abbrev H:Hook:=kHook K as λ_=>rfl
def said:OpenLaw.wellSaid PySem.Challenge.rw_staywalk_k83_whole_parts_together=true:=by
 rw[Fast.te9446332074065402090]
 kernel_rfl
noncomputable abbrev M':Nat:=14582
noncomputable abbrev L:List Str:=["BySlots","Up","Down","ask"]
abbrev X:Shared->Bool:=λs=>xlAt q [] s&&recOk [] s
def lA:∀w,HD.lA p q M' w=some ((openGood q L).1,(openGood q L).2.1):=λw=>by kernel_rfl
def lB:∀w,HD.lB p q L X M' w=some (true,true):=λw=>by kernel_rfl
def lC:∀w,HD.lC p q L M' w=some (openGood q L).2.2.2.2:=λw=>by kernel_rfl
def lD:∀w,(HD.endP p w M').map (Hook.obs H)=some (Hook.val H w):=λw=>by kernel_rfl
def left:LeftO p q L X (Hook.obs H) (Hook.val H) M':=HD.left_of lA lB lC lD
end ZK
abbrev et:="self"
abbrev eH:="key"
abbrev eR:="token"
abbrev ff:="_law_cell"
abbrev fx:="_law_bounds_here"
abbrev ge:="_law_script"
abbrev gs:="list"
abbrev gt:="many"
abbrev hL:="leaves"
abbrev hW:="_law_house"
abbrev jX:="_law_kept"
abbrev mu:="__debug__"
abbrev nj:="house"
abbrev nz:="__init__"
abbrev nG:="_law_key"
abbrev nI:="tuple"
abbrev nJ:="_law_copier"
abbrev oY:="object.__class__"
abbrev oZ:="_law_k"
abbrev o0:="range"
abbrev pq:="value"
abbrev rD:="at"
abbrev sD:="size"
abbrev u4:="end"
abbrev u5:="_law_many"
abbrev vm:="table"
abbrev v7:="_law_number"
abbrev wb:="most"
abbrev wp:="type.__call__"
abbrev wy:="isinstance"
abbrev wF:="place"
abbrev wG:="slots"
abbrev xU:="_law_value"
abbrev x5:="_law_copiers"
abbrev zk:="low"
abbrev zm:="dict"
abbrev z9:="page"
abbrev G':="object.__setattr__"
abbrev J':="getset_descriptor.__get__"
abbrev K':="_law_start"
abbrev O':="_law_found"
abbrev Pf:="shifted"
abbrev Pg:="__name__"
abbrev Ph:="dict_reverseitemiterator"
abbrev Pj:="dict.update.loop"
abbrev Pl:="number"
abbrev Pm:="row"
abbrev Pn:="drop"
abbrev Po:="int"
abbrev Pp:="found"
abbrev Pq:="_law_step"
abbrev Pr:="kind"
abbrev Ps:="mark"
abbrev Pt:="itertools.zip_longest"
abbrev Pu:="sorted"
abbrev Pw:="reached"
abbrev Px:="dict.pop"
abbrev Py:="thing"
abbrev Pz:="_law_way"
abbrev P':="_law_due"
abbrev Ra:="page_by_slots"
abbrev Rb:="bool"
abbrev Rc:="page_by_keys"
abbrev Re:="keys_of_page"
abbrev Rf:="token_behind"
abbrev Rg:="put"
abbrev Rh:="high"
abbrev Ri:="_law_cell_at"
abbrev Rj:="holds"
abbrev Rk:="__setattr__"
abbrev Rl:="_law_bounds"
abbrev Rm:="reversed"
abbrev Rn:="stretch_of"
abbrev Ro:="_law_mixed"
abbrev Rp:="_law_place"
abbrev Rq:="_law_token"
abbrev Rr:="_law_holds"
abbrev Rs:="inside"
abbrev Rt:="slot"
abbrev Ru:="stopped"
abbrev Rv:="written"
abbrev Rx:="told"
abbrev Ry:="down"
abbrev Rz:="floor"
abbrev RA:="marks"
abbrev RB:="kept"
namespace L2
open PySem PySem.Spec PyProof.Rows
abbrev Key:=Sum Int Str
noncomputable def m8:Key->Value->Bool
 | .inl k,v=>Value.isInt k v
 | .inr x,v=>Value.isStrOf x v
noncomputable def keyH(w:RO):Key->Int
 | .inl k=>hashInt k
 | .inr x=>hashStr w x
def b7:∀{k:Key}{v:RI},m8 k v=true->(∃i t,k=Sum.inl i/\v=Value.int i t)\/(∃x t,k=Sum.inr x/\v=Value.str x t)
 | .inl i,v,h=>by
  let{t,e}:=Value.isInt_shape (k:=i) (v:=v) h;exact .inl ⟨i,t,M,e⟩
 | .inr x,v,h=>by
  let{t,e}:=Value.isStrOf_shape (x:=x) (v:=v) h;exact .inr ⟨x,t,M,e⟩
def EE(i:Int)(t:Tok):m8 (.inl i) (.int i t)=true:=by simp[m8,Value.isInt]
def ED(x:Str)(t:Tok):m8 (.inr x) (.str x t)=true:=by simp[m8,Value.isStrOf]
def Lm(a b:Int):decide ((Sum.inl a:Key)=Sum.inl b)=(a==b):=by
 by_cases e:a=b
 .subst e;simp
 .let h:¬(Sum.inl a:Key)=Sum.inl b:=λq=>e (Sum.inl.inj q);rw[VM h];exact(VR.mpr e).symm
def Lj(a b:Str):decide ((Sum.inr a:Key)=Sum.inr b)=decide (a=b):=by
 by_cases e:a=b
 .subst e;simp
 .let h:¬(Sum.inr a:Key)=Sum.inr b:=λq=>e (Sum.inr.inj q);rw[VM h,VM e]
def Ll(a:Int)(b:Str):decide ((Sum.inl a:Key)=Sum.inr b)=false:=VM (λq=>nomatch q)
def Lk(a:Str)(b:Int):decide ((Sum.inr a:Key)=Sum.inl b)=false:=VM (λq=>nomatch q)
def bu(prog:RN)(w:RO):PySem.KeyKind prog w Key where
 is:=m8
 hash:=keyH w
 inj:=λv a b ha hb=>by
  rcases b7 ha with⟨i,t,rfl,rfl⟩|⟨x,t,rfl,rfl⟩
  .rcases b7 hb with⟨j,u,rfl,e⟩|⟨y,u,rfl,e⟩
   .injection e with e1 _;rw[e1]
   .exact nomatch e
  .rcases b7 hb with⟨j,u,rfl,e⟩|⟨y,u,rfl,e⟩
   .exact nomatch e
   .injection e with e1 _;rw[e1]
 byValue:=λk v h=>by
  rcases b7 h with⟨i,t,rfl,rfl⟩|⟨x,t,rfl,rfl⟩<;>rfl
 pyHash:=λhv h=>by
  rcases b7 hv with⟨i,t,rfl,rfl⟩|⟨x,t,rfl,rfl⟩
  .exact wpAny_pyHash_int h
  .exact wpAny_pyHash_str h
 eqBool:=λhu hv h=>by
  rcases b7 hu with⟨i,t,rfl,rfl⟩|⟨x,t,rfl,rfl⟩
  .rcases b7 hv with⟨j,u,rfl,rfl⟩|⟨y,u,rfl,rfl⟩
   .rw[Lm]at h;exact wpAny_eqBool_int h
   .rw[Ll]at h;exact SeqAt.EqAt.int_str i t y u _ _ _ _ h
  .rcases b7 hv with⟨j,u,rfl,rfl⟩|⟨y,u,rfl,rfl⟩
   .rw[Lk]at h;exact SeqAt.EqAt.str_int x t j u _ _ _ _ h
   .rw[Lj]at h;exact wpAny_eqBool_str h
 «strs»:=λk x t v h=>by
  rcases b7 h with⟨i,u,rfl,e⟩|⟨y,u,rfl,e⟩
  .exact nomatch e
  .injection e with e1 _;subst e1;cases v<;>rfl
def Cw(prog:RN)(w:RO)(k:Key)(v:RI):(bu prog w).is k v=m8 k v:=rfl
def AT(prog:RN)(w:RO)(i:Int)(t:Tok):(bu prog w).is (.inl i) (.int i t)=true:=EE i t
def AS(prog:RN)(w:RO)(x:Str)(t:Tok):(bu prog w).is (.inr x) (.str x t)=true:=ED x t
inductive V where
 |non|bl (b:Bool)|int (i:Int)|str (x:Str)|byt (b:Array UInt8)|flt (b:UInt64)|ref (a:RC)|ty (n:String)
 deriving DecidableEq
variable{a b:RC}{o u:HO}{h h':Heap}{H:Hp}{P:RN}{w:RO}
def RelV:V->Value->Prop
 | .non,u=>u=Value.none
 | .bl b,u=>u=Value.bool b
 | .int i,u=>∃t,u=Value.int i t
 | .str x,u=>∃t,u=Value.str x t
 | .byt b,u=>∃t,u=Value.bytes b t
 | .flt b,u=>∃t,u=Value.float b t
 | .ref a,u=>u=Value.ref a
 | .ty n,u=>u=Value.type n
abbrev DJ:List V->List Value->Prop:=Paired RelV
abbrev _root_.RG:=List V
def DJ.length{xs:RG}{us:RJ}(r:DJ xs us):xs.length=us.length:=Paired.length r
def DJ.get:∀{xs:RG}{us:RJ}{i:Nat}{x:V},DJ xs us->xs[i]?=some x->∃u,us[i]?=some u/\RelV x u
 |_,_,_,_,.nil,e=>by simp at e
 |_,_,0,_,.cons r _,e=>by simp at e;subst e;exact{_,M,r}
 |_,_,i+1,x,.cons _ t,e=>by
  let{u,h1,h2}:=DJ.get (i:=i) (x:=x) t (by simpa using e);exact{u,by simpa using h1,h2}
def DJ.set{x:V}{u:RI}(r:RelV x u):∀{xs:RG}{us:RJ}(i:Nat),DJ xs us->DJ (xs.set i x) (us.set i u)
 |_,_,_,.nil=> .nil
 |_,_,0,.cons _ t=> .cons r t
 |_,_,i+1,.cons q t=> .cons q (DJ.set r i t)
def DJ.append:∀{xs ys:RG}{us z:RJ},DJ xs us->DJ ys z->DJ (xs++ys) (us++z)
 |_,_,_,_,.nil,s=>s
 |_,_,_,_,.cons r t,s=> .cons r (DJ.append t s)
def DJ.take:∀{xs:RG}{us:RJ}(n:Nat),DJ xs us->DJ (xs.take n) (us.take n)
 |_,_,0,_=> .nil
 |_,_,_+1,.nil=> .nil
 |_,_,n+1,.cons r t=> .cons r (DJ.take n t)
def DJ.drop:∀{xs:RG}{us:RJ}(n:Nat),DJ xs us->DJ (xs.drop n) (us.drop n)
 |_,_,0,r=>r
 |_,_,_+1,.nil=> .nil
 |_,_,n+1,.cons _ t=>DJ.drop n t
def Nd:Option V->Option Value->Prop
 |some v,some u=>RelV v u
 |none,none=>True
 |_,_=>False
def KV{κ:Type}:List (κ×V)->List (κ×Value)->Prop:=Paired λ(p:κ×V)(q:κ×Value)=>p.1=q.1/\RelV p.2 q.2
noncomputable def kV:Key->V
 | .inl i=> .int i
 | .inr x=> .str x
abbrev _root_.RV:=List (Key×V)
abbrev _root_.RW:=List (Str×V)
abbrev _root_.R3:=Int->Bool
abbrev _root_.R9:=List (List Key×V)
abbrev _root_.R':=Array Value
inductive HO where
 |lst(xs:RG)
 |tup(xs:RG)
 |dK (kvs:RV)|dT (kvs:R9)
 |set(S:R3)(n:Nat)
 |ins(C dx:RC)(fs:RW)
 |own(x:RC)
 |xd(fs:RW)
 |met(f x:RC)
 |rng(lo hi:Int)
 |frz(o:Obj)(u:HO)
 |tbl(ps:R')
 |ext(φ:Heap->Prop)
abbrev Hp:=Addr->Option HO
def upd(H:Hp)(a:RC)(o:HO):Hp:=λb=>if b=a then some o else H b
def ai:upd H a o a=some o:=by unfold upd;rw[VA M]
def ae(h:b≠a):upd H a o b=H b:=by unfold upd;rw[Vz h]
def dR:upd (upd H a o) a u=upd H a u:=by
 funext b;unfold upd;split<;>rfl
def cM(h:H a=some o)(h':H b=some u)(d:o≠u):a≠b:=by
 intro e;subst e;rw[h]at h';exact d<|VB h'
def al(h:H a=some o)(h':H b=none):a≠b:=by
 intro e;subst e;rw[h]at h';cases h'
section
variable(P:RN)(w:RO)
def N0(H:Hp)(h:Heap)(a:RC):HO->Prop
 | .lst xs=>xs.length<=sizeLine/\∃(its:RJ)(n:Nat),DJ xs its/\h.get? a=some {cls:= .type gs,data:= .seq its.toArray n}
 | .tup xs=>xs.length<=sizeLine/\∃its:List Value,DJ xs its/\IsTup h a its.toArray
 | .dK kvs=>kvs.length<=sizeLine/\(a==sysModules)=false/\∃vs,KV kvs vs/\h.DictOf (bu P w) a vs
 | .dT kvs=>kvs.length<=sizeLine/\(a==sysModules)=false/\∃xs:List (List Key×Addr×Value),
   Paired (λ(p:List Key×V)(q:List Key×Addr×Value)=>p.1=q.1/\H q.2.1=some (.tup<|p.1.map kV)/\RelV p.2 q.2.2) kvs xs/\
   ∃o es ep,h.get? a=some o/\o.ExactDict/\o.data= .dict es ep/\es.toList=xs.map (entryOfKey<|tupleKind<|bu P w)/\(xs.map (·.1)).Nodup
 | .set S n=>h.SetOf (intKind P w) a S n
 | .ins C dx fs=>H dx=some (.own a)/\fs.length<=1000/\dx≠a/\h.get? a=some (PySem.W.instObj C dx)/\
   ∃mA,h.Ns1 dx mA/\(∀f,Nd (fs.lookup f) (mA f))/\PySem.Within mA (fs.map (·.1))
 | .own _=>∃o,h.get? a=some o
 | .xd fs=>∃mA,h.Ns1 a mA/\∀f,Nd (fs.lookup f) (mA f)
 | .rng lo hi=>∃t u v,h.get? a=some {cls:= .type o0,data:= .fields #[.int lo t,.int hi u,.int 1 v]}
 | .frz o u=>h.get? a=some o/\N0 H h a u
 | .tbl ps=>h.get? a=some {cls:= .none,data:= .fields ps}
 | .met f x=>h.get? a=some (PySem.W.methodObj (.ref f)<|.ref x)
 | .ext φ=>φ h/\(∃o,h.get? a=some o)/\∀h1 h2:Heap,φ h1->(∀o,h1.get? a=some o->h2.get? a=some o)->φ h2
def NY(H:Hp)(h:Heap):Prop:=∀a o,H a=some o->N0 P w H h a o
end
section
variable{H':Hp}
def N0.lt(x:N0 P w H h a o):a<h.objs.size:=by
 cases o with
 |lst xs=>let{_,_,_,_,e}:=x;exact VI e
 |tup xs=>let{_,_,_,p}:=x;exact p.lt
 |dK kvs=>let{_,_,_,_,o,_,_,e,_}:=x;exact VI e
 |dT kvs=>let{_,_,_,_,o,_,_,e,_}:=x;exact VI e
 |set S n=>let{o,_,_,_,e,_}:=x;exact VI e
 |ins C dx fs=>let{_,_,_,e,_}:=x;exact VI e
 |own y=>let{_,e}:=x;exact VI e
 |xd fs=>let{_,{_,_,_,e,_},_}:=x;exact VI e
 |rng lo hi=>let{_,_,_,e}:=x;exact VI e
 |frz ob u=>let{e,_}:=x;exact VI e
 |tbl ps=>exact VI<|show h.get? a=some _ from x
 |met f y=>exact VI<|show h.get? a=some _ from x
 |ext z=>let{_,{_,e},_}:=x;exact VI e
def Paired.mapP{α β:Type}{F G:α->β->Prop}:∀{z:List α}{I:List β},Paired F z I->(∀a b,F a b->G a b)->Paired G z I
 |_,_,.nil,_=> .nil
 |_,_,.cons r t,f=> .cons (f _ _ r) (Paired.mapP t f)
def N0.stay(x:N0 P w H h a o)(k:∀b u,(b=a\/H b=some (.own a))->h.get? b=some u->h'.get? b=some u)
  (I:∀b,H b=some (.own a)->H' b=some (.own a)) (O:∀b xs,H b=some (.tup xs)->H' b=some (.tup xs)):N0 P w H' h' a o:=by
 induction o with
 |lst xs=>let{z,its,n,r,e}:=x;exact{z,its,n,r,k _ _ (.inl M) e}
 |tup xs=>let{z,its,r,ob,e,c}:=x;exact{z,its,r,ob,k _ _ (.inl M) e,c}
 |dK kvs=>let{z,y,vs,r,ob,es,ep,e,c}:=x;exact{z,y,vs,r,ob,es,ep,k _ _ (.inl M) e,c}
 |dT kvs=>
  let{z,y,xs,r,ob,es,ep,e,c}:=x;exact{z,y,xs,Paired.mapP r λp q z=>{z.1,O _ _ z.2.1,z.2.2},ob,es,ep,k _ _ (.inl M) e,c}
 |set S n=>let{ob,es,ep,t,e,c}:=x;exact{ob,es,ep,t,k _ _ (.inl M) e,c}
 |ins C dx fs=>
  let{d,z,ne,e,mA,{G,es,ep,e2,c},r}:=x;exact{I _ d,z,ne,k _ _ (.inl M) e,mA,{G,es,ep,k _ _ (.inr d) e2,c},r}
 |own y=>let{ob,e}:=x;exact{ob,k _ _ (.inl M) e}
 |xd fs=>let{mA,{G,es,ep,e,c},r}:=x;exact{mA,{G,es,ep,k _ _ (.inl M) e,c},r}
 |rng lo hi=>let{t,u,v,e}:=x;exact{t,u,v,k _ _ (.inl M) e}
 |frz ob u U=>let{e,q}:=x;exact{k _ _ (.inl M) e,U q}
 |tbl ps=>
  let e:h.get? a=some {cls:= .none,data:= .fields ps}:=x;show h'.get? a=some {cls:= .none,data:= .fields ps};exact k a _ (.inl M) e
 |met f y=>
  let e:h.get? a=some (PySem.W.methodObj (.ref f)<|.ref y):=x;show h'.get? a=some (PySem.W.methodObj (.ref f)<|.ref y);exact k a _ (.inl M) e
 |ext Y=>let{p,{o,e},st}:=x;exact{st _ _ p λo q=>k _ _ (.inl M) q,{o,k _ _ (.inl M) e},st}
def NY.lt(x:NY P w H h)(e:H a=some o):a<h.objs.size:=(x a o e).lt
def NY.fresh(x:NY P w H h)(e:h.objs.size<=a):H a=none:=by
 cases q:H a with
 |none=>rfl
 |some u=>exact VE (Qz (x.lt q) e)<|ZC _
def NY.kept(x:NY P w H h)(k:∀b u,h.get? b=some u->h'.get? b=some u):NY P w H h':=λa o e=>
 (x a o e).stay (λb u _ q=>k b u q) (λ_ q=>q) λ_ _ q=>q
def NY.laid(x:NY P w H h)(k:∀b u,h.get? b=some u->h'.get? b=some u)(G:h.objs.size<=a)(new:N0 P w (upd H a o) h' a o):NY P w (upd H a o) h':=λb u e=>by
 let z:=x.fresh G;by_cases hb:b=a
 .subst hb;rw[ai]at e;cases e;exact new
 .rw[ae hb]at e;exact(x b u e).stay (λc v _ q=>k c v q) (λc q=>by rw[ae (al q z)];exact q) λc xs q=>by rw[ae (al q z)];exact q
end
def Rd(H:Hp)(a:RC)(u:HO):Prop:=H a=some u\/∃o,H a=some (.frz o u)
def Rd.ok(r:Rd H a u)(x:NY P w H h):N0 P w H h a u:=by
 rcases r with r|⟨o,r⟩
 .exact x a u r
 .let{_,q}:=x a _ r;exact q
def Mut:Option HO->Prop
 |some (.lst _)=>True
 |some (.dK _)=>True
 |some (.dT _)=>True
 |some (.set _ _)=>True
 |some (.ins _ _ _)=>True
 |some (.ext _)=>True
 |_=>False
section
variable{x e:RC}{o':HO}
def NY.write(ok:NY P w H h)(U:Mut (H x))(he:e=x\/H e=some (.own x))(k:∀b u,b≠e->h.get? b=some u->h'.get? b=some u)(Y:∃u,h'.get? e=some u)
  (new:N0 P w (upd H x o') h' x o'):NY P w (upd H x o') h':=λb u q=>by
 let I:∀c y,H c=some (.own y)->c≠x:=λc y r z=>by subst z;rw[r]at U;exact U
 let O:∀c xs,H c=some (.tup xs)->c≠x:=λc xs r z=>by subst z;rw[r]at U;exact U
 by_cases hb:b=x
 .subst hb;rw[ai]at q;cases q;exact new
 .rw[ae hb]at q;by_cases G:b=e
  .let Z:H b=some (.own x):=by
    rcases he with z|z
    .exact VE (G.trans z) hb
    .rwa[G]
   rw[q]at Z;cases Z;let{v,hv}:=Y;exact{v,by rwa[G]}
  .refine(ok b u q).stay (λc v hc r=>k c v ?_ r) (λc r=>by rwa[ae (I c b r)]) λc xs r=>by rwa[ae (O c xs r)]
   rcases hc with rfl|hc
   .exact G
   .rintro rfl;rcases he with z|z
    .exact I c b hc z
    .rw[hc]at z;cases z;exact hb M
end
abbrev _root_.RQ:=List Addr
structure Un(fs ex:RQ)(H H':Hp)(h h':Heap):Prop where
 keep:∀b o,h.get? b=some o->H b=none->b∉fs->b∉ex->h'.get? b=some o
 slot:∀b o,h.get? b=some o->H b=none->b∈fs->b∉ex->∃sl,h'.get? b=some {o with slots:=sl}
 free:∀b o,h.get? b=some o->H b=none->b∉ex->H' b=none
 there:∀b o,h.get? b=some o->b∉ex->∃o',h'.get? b=some o'
 tups:∀b xs,H b=some (.tup xs)->H' b=some (.tup xs)
 frzs:∀b o u,H b=some (.frz o u)->H' b=some (.frz o u)
 tbls:∀b ps,H b=some (.tbl ps)->∃more,H' b=some (.tbl<|ps++more)
section
variable{fs fs' ex ex':RQ}{H1 H2:Hp}{h1 h2:Heap}{x e:RC}
def Un.any(u:Un fs ex H H1 h h1){ob:Obj}(q:h.get? b=some ob)(n:H b=none)(hx:b∉ex):∃z,h1.get? b=some {ob with slots:=z}:=by
 by_cases hb:b∈fs
 .exact u.slot b ob q n hb hx
 .exact{ob.slots,u.keep b ob q n hb hx}
def Un.kept(k:∀b u,h.get? b=some u->h'.get? b=some u):Un fs ex H H h h':=
 {λb ob q _ _ _=>k b ob q,λb ob q _ _ _=>{ob.slots,k b ob q},λ_ _ _ n _=>n,λb ob q _=>{ob,k b ob q},λ_ _ q=>q,λ_ _ _ q=>q,λ_ ps q=>{#[],by rw[q];simp}}
def Un.refl:Un fs ex H H h h:=Un.kept λ_ _ q=>q
def Un.laid(k:∀b u,h.get? b=some u->h'.get? b=some u)(G:h.objs.size<=a)(z:H a=none):Un fs ex H (upd H a o) h h' where
 keep:=λb u q _ _ _=>k b u q
 slot:=λb u q _ _ _=>{u.slots,k b u q}
 free:=λb u q n _=>by rwa[ae (QM<|Qz (VI q) G)]
 there:=λb u q _=>{u,k b u q}
 tups:=λb xs q=>by rw[ae (al q z)];exact q
 frzs:=λb u xs q=>by rw[ae (al q z)];exact q
 tbls:=λb ps q=>{#[],by rw[ae (al q z),q];simp}
def Un.write(I:Mut (H x))(he:e=x\/H e=some (.own x))(k:∀b u,b≠e->h.get? b=some u->h'.get? b=some u)(O:∃u,h'.get? e=some u):Un fs ex H (upd H x o) h h':=by
 let hx:∀b,H b=none->b≠x:=λb n z=>by subst z;rw[n]at I;exact I
 let hb:∀b,H b=none->b≠e:=λb n z=>by
  subst z;rcases he with r|r
  .exact hx b n r
  .rw[n]at r;cases r
 let U:∀b u,H b=some u->¬Mut (some u)->b≠x:=λb u q Y z=>by subst z;rw[q]at I;exact Y I
 refine{λb u q n _ _=>k b u (hb b n) q,λb u q n _ _=>{u.slots,k b u (hb b n) q},λb u q n _=>by rwa[ae (hx b n)],λb u q _=>?_,
  λb xs q=>by rw[ae (U b _ q λz=>z)];exact q,λb u xs q=>by rw[ae (U b _ q λz=>z)];exact q,λb ps q=>{#[],by rw[ae (U b _ q λz=>z),q];simp}}
 by_cases G:b=e
 .subst G;exact O
 .exact{u,k b u G q}
end
def PM(h:Heap)(H:Hp):List Addr:=(List.range h.objs.size).filter λa=>(H a).isSome
def zJ(h:Heap)(H:Hp):Heap:=PySem.W.hideAll h (PM h H)
def EJ(h:Heap)(H:Hp):(zJ h H).objs.size=h.objs.size:=PySem.W.hideAll_size _ _
def GN{o:Obj}(e:h.get? b=some o)(n:H b=none):(zJ h H).get? b=some o:=
 PySem.W.hideAll_get _ e λz=>by
  let q:(H b).isSome=true:=(Qt.mp z).2;rw[n]at q;simp at q
def IK{o:Obj}(e:(zJ h H).get? b=some o):h.get? b=some o/\H b=none:=by
 let G:h.get? b=some o:=PySem.W.of_hideAll (PM h H) e;refine{G,?_};cases q:H b with
 |none=>rfl
 |some x=>
  let I:b∈PM h H:=Qt.mpr {Vq.mpr<|VI G,by simp[q]};let z:(zJ h H).get? b=none:=PySem.W.hideAll_none (PM h H) I;rw[z]at e;cases e
abbrev Wp:=PySem.W.Frag
abbrev _root_.RM:=List (Addr×Obj)
abbrev _root_.RP:=Value->Shared->Prop
abbrev _root_.RT:=Around
abbrev _root_.R6:=List Env
abbrev _root_.Sa:=List Expr
abbrev _root_.Sg:=List (Str×Value)
variable{C a b dx f it:RC}{A:RT}{g':Array GenState}{CX:CXT}{op:CmpOp}{X:Cx}{d':Drawn}{c e tg:Expr}{fd:R5}{base h h':Heap}{H H':Hp}{lo:Int}{g:Int->Int->Int}{B:RM}{kw:Sg}{ch fp:RQ}{outer:R6}{es:Sa}{body:List Stmt}{N ps:RS}{vs xs:RG}{us:RJ}{M':Model}{i j n t':Nat}{o:Option Value}{p pos pos':Pos}{P prog:RN}{K:Wp}{r:R2}{R:Result->Shared->Prop}{scope:Scope}{s s':RD}{sp:Sp}{W:St}{m name qual x:Str}{t ta te:TE}{tb:TS}{tc:TT}{v y:V}{u:RI}{E Q:RP}{rd:V->V->Hp->VK->Prop}{w:RO}
abbrev _root_.RU:=Str->Option Value
structure Mod(K:Wp)(mg:RU)(base:Heap):Prop where
 kin:K.In base
 glob:base.Ns mainGlobals mg
 blt:∃mb,base.Ns builtinsNs mb/\∀x:Str,x≠Pg->mb x=bootBuiltins x
 nolimit:base.NoLimit
structure Cx where
 prog:Program
 w:World
 K:Wp
 mg:Str->Option Value
 base:Heap
 A:Around
 N:List Str
 s₀:Shared
 H₀:Hp
 env:Env
 outer:List Env
 stack:List Env
 ex:List Addr
 fn:Str->Bool
 calm:Bool
 pn:List (Addr×Obj)
 xe:Value->Shared->Prop
noncomputable def OX(l:R6):List Addr:=l.filterMap (·.frame)
abbrev Cx.fs(X:Cx):List Addr:=OX X.outer
def PX(sc:Scope)(x:Str):Prop:=sc.names.lookup x=some .local\/sc.names.lookup x=some .cell\/sc.names.lookup x=some .free
def Loc(sc:Scope)(x:Str):Prop:=sc.names.lookup x=some .local\/sc.names.lookup x=some .cell
def Look(env:Env)(h:Heap)(m:RU)(x:Str)(u:RI):Prop:=
 (env.kindOf x=some .local/\m x=some u)\/((env.kindOf x=some .cell\/env.kindOf x=some .free)/\∃c,env.cells.lookup x=some c/\h.IsCell c (some u))
structure Cx.Ok(X:Cx):Prop where
 mod:Mod X.K X.mg X.base
 kind:X.env.scope.kind= .function
 glob:X.env.globals=mainGlobals
 blt:X.env.builtins=builtinsNs
 above:X.s₀.heap.objs.size<=X.env.locals
 inj:∀x y c,X.env.cells.lookup x=some c->X.env.cells.lookup y=some c->x=y
 has:∀x,(X.env.kindOf x=some .cell\/X.env.kindOf x=some .free)->∃c,X.env.cells.lookup x=some c
 cab:∀x c,X.fn x=true->X.env.cells.lookup x=some c->X.s₀.heap.objs.size<=c
 hd:X.calm=true->X.A.handled=none
 frames:X.A.frames=some X.stack
 stk:X.stack=X.outer\/(X.stack=X.env::X.outer/\X.env.frame=some X.env.locals)
 exf:∀b∈X.ex,b≠X.env.locals/\∀x c,X.env.cells.lookup x=some c->c≠b
 bs:∀b o,X.base.get? b=some o->X.s₀.heap.get? b=some o/\X.H₀ b=none
 bsz:X.base.objs.size<=X.s₀.heap.objs.size
 noex:∀b o,X.base.get? b=some o->b∉X.ex
 exfs:∀b∈X.ex,b∉X.fs
 funs:X.s₀.heap.FunFrames X.base X.outer
 frf:∀b∈X.fs,X.H₀ b=none
structure Inv(X:Cx)(B:RM)(W:List (Option V))(H:Hp)(s:RD):Prop where
 ok:X.Ok
 os:s.os=X.s₀.os
 bare:AllBare s.gens
 base:Un X.fs X.ex X.H₀ H X.s₀.heap s.heap
 loc:∃m,s.heap.Ns X.env.locals m/\∀(i:Nat)(x:Str)(v:V),X.N[i]?=some x->W[i]?=some (some v)->PX X.env.scope x->∃u,RelV v u/\Look X.env s.heap m x u
 cell:∀x c,X.env.cells.lookup x=some c->∃v,s.heap.IsCell c v
 free:H X.env.locals=none
 freeC:∀x c,X.env.cells.lookup x=some c->H c=none
 pin:∀p∈X.pn++B,s.heap.get? p.1=some p.2/\H p.1=none/\p.1≠X.env.locals/\p.1∉X.fs/\∀v,p.2.data≠ .cell v
 hok:NY X.prog X.w H s.heap
 len:W.length=X.N.length
section
variable{W:List (Option V)}
def Cx.Ok.nofr(ok:X.Ok){o:Obj}(e:X.base.get? b=some o):b∉X.fs:=λhb=>by
 have:=(ok.funs.mem hb).1;rw[e]at this;cases this
def Inv.bs(I:Inv X B W H s):∀b o,X.base.get? b=some o->s.heap.get? b=some o/\H b=none:=λb o e=>
 {I.base.keep b o (I.ok.bs b o e).1 (I.ok.bs b o e).2 (I.ok.nofr e)<|I.ok.noex b o e,I.base.free b o (I.ok.bs b o e).1 (I.ok.bs b o e).2<|I.ok.noex b o e}
def Inv.bk(I:Inv X B W H s):∀b o,X.base.get? b=some o->s.heap.get? b=some o:=λb o e=>(I.bs b o e).1
def Inv.mod(I:Inv X B W H s):Mod X.K X.mg X.base:=I.ok.mod
def Inv.kIn(I:Inv X B W H s):X.K.In s.heap:=I.ok.mod.kin.keeps I.bk
def Inv.lt(I:Inv X B W H s):X.env.locals<s.heap.objs.size:=let⟨_,hn,_⟩:=I.loc;hn.lt
def Inv.sz(I:Inv X B W H s):X.s₀.heap.objs.size<=s.heap.objs.size:=Qu I.ok.above (QU I.lt)
def Inv.nofs(I:Inv X B W H s)(h:s.heap.objs.size<=a):a∉X.fs:=λhb=>by
 let{_,o,z,_}:=I.ok.funs.mem hb;exact VE (Qz (VI z)<|Qu I.sz h)<|ZC _
def Inv.cne(I:Inv X B W H s):∀x c,X.env.cells.lookup x=some c->c≠X.env.locals:=λx c e z=>by
 let{v,o,U,hd}:=I.cell x c e;let{m,{o',es,ep,G,O,_},_}:=I.loc;rw[z,G]at U;cases U;rw[O]at hd;cases hd
def Inv.funs(I:Inv X B W H s):s.heap.FunFrames X.base X.outer:=by
 let all:∀(l:R6),(∀b∈OX l,b∈X.fs)->X.s₀.heap.FunFrames X.base l->s.heap.FunFrames X.base l:=by
  intro l
  induction l with
  |nil=>intro _ _;trivial
  |cons env r O=>
   intro hs hl;let{hk,{L,o,hf,U,Y,hd},Z}:=hl;let G:L∈X.fs:=hs L (by unfold OX;rw[XZ,hf];exact Qa);let{sl,e}:=I.base.slot L o Y (I.ok.frf L G) G λz=>I.ok.exfs L z G;exact{hk,{L,_,hf,U,e,hd},O (λb hb=>hs b<|by unfold OX;rw[XZ,hf];exact Qd _ hb) Z}
 exact all X.outer (λ_ hb=>hb) I.ok.funs
def Inv.stack(I:Inv X B W H s):s.heap.FunFrames X.base X.stack:=by
 rcases I.ok.stk with e|⟨e,hf⟩
 .rw[e];exact I.funs
 .rw[e];let{m,z,_}:=I.loc;refine .cons (by rw[I.ok.kind];decide) hf z ?_ I.funs;exact Wa<|Qu I.ok.bsz I.ok.above
def Inv.stkSub(I:Inv X B W H s):∀b∈OX X.stack,b∈X.env.locals::X.fs:=λb hb=>by
 rcases I.ok.stk with e|⟨e,hf⟩
 .rw[e]at hb;exact Qd _ hb
 .rw[e]at hb;unfold OX at hb;rw[XZ,hf]at hb;exact hb
def Inv.stkFree(I:Inv X B W H s):∀b∈OX X.stack,H b=none:=λb hb=>by
 rcases Qj.mp (I.stkSub b hb)with e|hb
 .rw[e];exact I.free
 .let{_,o,G,_}:=I.ok.funs.mem hb;exact I.base.free b o G (I.ok.frf b hb) λz=>I.ok.exfs b z hb
def Inv.step(I:Inv X B W H s)
  (G:∀b∈ch,(b∈X.ex\/X.s₀.heap.objs.size<=b)/\b≠X.env.locals/\(∀x c,X.env.cells.lookup x=some c->c≠b)/\∀p∈X.pn++B,p.1≠b)
  (keep:∀b o,b≠X.env.locals->b∉X.fs->b∉ch->s.heap.get? b=some o->H b=none->h'.get? b=some o)
  (slot:∀b o,b≠X.env.locals->b∈X.fs->b∉ch->s.heap.get? b=some o->H b=none->∃sl,h'.get? b=some {o with slots:=sl}) (free:∀b o,b∉ch->s.heap.get? b=some o->H b=none->H' b=none)
  (there:∀b o,b∉ch->s.heap.get? b=some o->∃o',h'.get? b=some o')
  (tups:∀b xs,H b=some (.tup xs)->H' b=some (.tup xs)) (frzs:∀b o u,H b=some (.frz o u)->H' b=some (.frz o u)) (tbls:∀b ps,H b=some (.tbl ps)->∃more,H' b=some (.tbl<|ps++more))
  (ns:∀m,s.heap.Ns X.env.locals m->h'.Ns X.env.locals m) (hok:NY X.prog X.w H' h') (hg:AllBare g'):
  Inv X B W H' {s with heap:=h',gens:=g',drawn:=d',toks:=t'}:=by
 let a0:∀b o,X.s₀.heap.get? b=some o->b≠X.env.locals:=λb o e=>QM (Qz (VI e) I.ok.above);let Y:∀b o,X.s₀.heap.get? b=some o->b∉X.ex->b∉ch:=λb o e hx hb=>by
  rcases(G b hb).1 with z|z
  .exact hx z
  .exact VE (Qz (VI e) z)<|ZC _
 let O:∀x c,X.env.cells.lookup x=some c->∀v,s.heap.IsCell c v->h'.IsCell c v:=λx c e v ⟨o,ho,hd⟩=>by
  let U:c∉ch:=λz=>(G c z).2.2.1 x c e M;by_cases hc:c∈X.fs
  .let{sl,q}:=slot c o (I.cne x c e) hc U ho (I.freeC x c e);exact{_,q,hd}
  .exact{o,keep c o (I.cne x c e) hc U ho<|I.freeC x c e,hd}
 refine{I.ok,I.os,hg,{λb o e n hb hx=>?_,λb o e n hb hx=>?_,λb o e n hx=>?_,λb o e hx=>?_,λb xs e=>tups b xs<|I.base.tups b xs e,λb o xs e=>frzs b o xs<|I.base.frzs b o xs e,λb ps e=>?_},?_,λx c e=>?_,?_,λx c e=>?_,λp hp=>?_,hok,I.len}
 .exact keep b o (a0 b o e) hb (Y b o e hx) (I.base.keep b o e n hb hx)<|I.base.free b o e n hx
 .let{sl,Z}:=I.base.slot b o e n hb hx;let{a1,e2}:=slot b _ (a0 b o e) hb (Y b o e hx) Z (I.base.free b o e n hx);exact⟨a1,e2⟩
 .let{o',Z}:=I.base.there b o e hx;exact free b o' (Y b o e hx) Z<|I.base.free b o e n hx
 .let{o',Z}:=I.base.there b o e hx;exact there b o' (Y b o e hx) Z
 .let{m1,Z}:=I.base.tbls b ps e;let{m2,e2}:=tbls b _ Z;exact{m1++m2,by rw[e2,Array.append_assoc]}
 .let{m,hn,hl}:=I.loc;refine{m,ns m hn,λi x v Z e2 e3=>?_};let{u,r,l}:=hl i x v Z e2 e3;refine{u,r,?_};rcases l with l|⟨k,c,e,z⟩
  .exact .inl l
  .exact .inr {k,c,e,O x c e _ z}
 .let{v,z}:=I.cell x c e;exact{v,O x c e v z}
 .let{m,{o,_,_,ho,_},_}:=I.loc;exact free _ o (λz=>(G _ z).2.1 rfl) ho I.free
 .let{v,o,ho,hd}:=I.cell x c e;exact free c o (λz=>(G c z).2.2.1 x c e M) ho<|I.freeC x c e
 .let{e,n,ne,nf,d}:=I.pin p hp;let U:p.1∉ch:=λz=>(G p.1 z).2.2.2 p hp M;exact{keep p.1 p.2 ne nf U e n,free p.1 p.2 U e n,ne,nf,d}
def Inv.un(I:Inv X B W H s)(u:Un X.fs [] H H' s.heap h')(hok:NY X.prog X.w H' h'):Inv X B W H' {s with heap:=h',toks:=t'}:=by
 let{m,{o,es,ep,Y,r},_}:=id I.loc;let{sl,Z}:=u.any Y I.free (by simp);exact I.step (g':=s.gens) (d':=s.drawn) (ch:=[]) (λ_ z=>nomatch z) (λb o _ hb _ e n=>u.keep b o e n hb<|by simp) (λb o _ hb _ e n=>u.slot b o e n hb<|by simp) (λb o _ e n=>u.free b o e n<|by simp) (λb o _ e=>u.there b o e<|by simp) u.tups u.frzs u.tbls (λm' hm=>by
  let{o',O,U,G,r'}:=hm;rw[Y]at G;cases G;exact{_,O,U,Z,r'}) hok I.bare
def Inv.call(I:Inv X B W H s)(u:Un (OX X.stack) ch H H' s.heap h')(hok:NY X.prog X.w H' h')(hg:AllBare g')
  (G:∀b∈ch,(b∈X.ex\/X.s₀.heap.objs.size<=b)/\b≠X.env.locals/\(∀x c,X.env.cells.lookup x=some c->c≠b)/\∀p∈X.pn++B,p.1≠b):
  Inv X B W H' {s with heap:=h',gens:=g',drawn:=d',toks:=t'}:=by
 let{m,{o,es,ep,ho,r},_}:=id I.loc;let{sl,U}:=u.any ho I.free λz=>(G _ z).2.1 rfl;exact I.step (ch:=ch) G (λb o U hb hc e n=>u.keep b o e n (λz=>(Qj.mp<|I.stkSub b z).elim U hb) hc) (λb o _ _ hc e n=>u.any e n hc) (λb o hc e n=>u.free b o e n hc) (λb o hc e=>u.there b o e hc) u.tups u.frzs u.tbls (λm' hm=>by
  let{o',Y,Z,O,r'}:=hm;rw[ho]at O;cases O;exact{_,Y,Z,U,r'}) hok hg
def Inv.turned(I:Inv X B W H s)(k:∀b o,b≠it->s.heap.get? b=some o->h'.get? b=some o)(U:H it=none)(O:it≠X.env.locals)
  (h1:it∈X.ex\/X.s₀.heap.objs.size<=it) (h2:∀x c,X.env.cells.lookup x=some c->c≠it) (Y:∀p∈X.pn++B,p.1≠it):Inv X B W H {s with heap:=h',toks:=t'}:=by
 let G:∀b u,H b=some u->b≠it:=λb u e z=>by rw[z,U]at e;cases e
 refine I.step (g':=s.gens) (d':=s.drawn) (ch:=[it]) (λb hb=>?_) (λb o _ _ hc e _=>k b o (λz=>hc<|by simp[z]) e) (λb o _ _ hc e _=>{o.slots,k b o (λz=>hc<|by simp[z]) e}) (λ_ _ _ _ n=>n)
  (λb o hc e=>{o,k b o (λz=>hc<|by simp[z]) e}) (λ_ _ e=>e) (λ_ _ _ e=>e) (λb ps e=>{#[],by rw[e];simp}) (λm Z=>?_) (λb u e=>?_) I.bare
 .let e:b=it:=by simpa using hb
  subst e;exact⟨h1,O,h2,Y⟩
 .let{o,es,ep,ho,r}:=Z;exact{o,es,ep,k _ o (Ne.symm O) ho,r}
 .refine(I.hok b u e).stay (λc v hc q=>k c v ?_ q) (λ_ q=>q) λ_ _ q=>q;rcases hc with z|z
  .rw[z];exact G b u e
  .exact G c _ z
def Inv.tok(I:Inv X B W H s)(t:Nat):Inv X B W H {s with toks:=t}:=I.un (h':=s.heap) (t':=t) Un.refl I.hok
def Inv.kept(I:Inv X B W H s)(k:∀b u,s.heap.get? b=some u->h'.get? b=some u):Inv X B W H {s with heap:=h',toks:=t'}:=I.un (Un.kept k) (I.hok.kept k)
def Inv.laid{o:HO}(I:Inv X B W H s)(k:∀b u,s.heap.get? b=some u->h'.get? b=some u)(z:s.heap.objs.size<=a)(new:N0 X.prog X.w (upd H a o) h' a o):
  Inv X B W (upd H a o) {s with heap:=h',toks:=t'}:=I.un (Un.laid k z<|I.hok.fresh z) (I.hok.laid k z new)
def Inv.write{x e:RC}{o:HO}(I:Inv X B W H s)(G:Mut (H x))(he:e=x\/H e=some (.own x))(k:∀b u,b≠e->s.heap.get? b=some u->h'.get? b=some u)(z:∃u,h'.get? e=some u)
  (new:N0 X.prog X.w (upd H x o) h' x o):Inv X B W (upd H x o) {s with heap:=h',toks:=t'}:=I.un (Un.write G he k z) (I.hok.write G he k z new)
def Inv.pins_of{G:RM}(I:Inv X B W H s)(h:∀p∈G,s.heap.get? p.1=some p.2/\H p.1=none/\p.1≠X.env.locals/\p.1∉X.fs/\∀v,p.2.data≠ .cell v):Inv X G W H s:=
 {I.ok,I.os,I.bare,I.base,I.loc,I.cell,I.free,I.freeC,λp O=>(Q5.mp O).elim (λz=>I.pin p<|Xg _ z)<|h p,I.hok,I.len}
def AM(hN:N.Nodup)(a:N[i]?=some x)(b:N[j]?=some x):i=j:=by
 let{h1,z}:=Q1.mp a;let{h2,e2}:=Q1.mp b;exact(List.getElem_inj hN).mp<|z.trans e2.symm
abbrev _root_.Sh:=Unit->Shared->Prop
def yb{Q:Sh}(I:Inv X B W H s)(hN:X.N.Nodup)(hi:X.N[i]?=some x)(hx:Loc X.env.scope x)(r:RelV v u)
  (h:∀s',Inv X B (W.set i<|some v) H s'->(∃a,Heap.SameBut a s.heap s'.heap/\(a=X.env.locals\/X.env.cells.lookup x=some a))->Q Unit.unit s') (hf:X.fn x=true\/X.env.scope.names.lookup x=some .local:=by first|exact .inl M|exact .inr M|assumption):wpAny M' A (storeName X.env x u) Q E s:=by
 let{m,hn,hl}:=id I.loc;let a1:(X.env.scope.kind== .class||(X.env.scope.kind== .module&&X.env.locals !=X.env.globals))=false:=by rw[I.ok.kind];rfl
 let Y:i<W.length:=by rw[I.len];exact(Q1.mp hi).1
 let cne:=I.cne;let G:∀{a:RC}{h':Heap},(∃o,s.heap.get? a=some o/\H a=none)->Heap.SameBut a s.heap h'->NY X.prog X.w H h':=λ{a h'} ha hs b ob e=>by
  let{_,_,U}:=ha;refine(I.hok b ob e).stay (λc w' hc q=>(hs.2 c ?_).trans q) (λ_ q=>q) λ_ _ q=>q;rintro rfl;rcases hc with rfl|hc
  .rw[U]at e;cases e
  .rw[U]at hc;cases hc
 rcases hx with hk|hk
 .refine wpAny_storeName_local hk hn (λh' a6 hs=>?_) a1;let{oL,_,_,aa,_}:=id hn;refine h _ {I.ok,I.os,I.bare,{λb o e n hb hx=>?_,λb o e n hb hx=>?_,I.base.free,λb o e hx=>?_,I.base.tups,I.base.frzs,I.base.tbls},{_,a6,λj y v' O e2 e3=>?_},λy c e=>?_,I.free,I.freeC,λp hp=>?_,G ⟨oL,aa,I.free⟩ hs,by simpa using I.len} {_,hs,.inl M}
  .exact(hs.2 b<|QM<|Qz (VI e) I.ok.above).trans<|I.base.keep b o e n hb hx
  .let{sl,O}:=I.base.slot b o e n hb hx;exact{sl,(hs.2 b<|QM<|Qz (VI e) I.ok.above).trans O}
  .let{o',O}:=I.base.there b o e hx;exact{o',(hs.2 b<|QM<|Qz (VI e) I.ok.above).trans O}
  .by_cases Z:j=i
   .subst Z;rw[hi]at O;cases O;rw[XE Y]at e2;cases e2;exact{u,r,.inl {hk,by simp}}
   .rw[List.getElem?_set_ne (Ne.symm Z)]at e2;let{u',r',q}:=hl j y v' O e2 e3;refine{u',r',?_};rcases q with⟨k,e⟩|⟨k,c,e,z⟩
    .refine .inl {k,?_};have:y≠x:=λe=>Z (AM hN O<|e▸hi);simp[this,e]
    .exact .inr {k,c,e,z.sameBut hs<|cne y c e}
  .let{w',z}:=I.cell y c e;exact{w',z.sameBut hs<|cne y c e}
  .let{e,n,ne,nf,d}:=I.pin p hp;exact{(hs.2 p.1 ne).trans e,n,ne,nf,d}
 .let a0:X.fn x=true:=by
   rcases hf with z|z
   .exact z
   .rw[z]at hk;cases hk
  let{c,hc}:=I.ok.has x (.inl hk);let{w',z}:=I.cell x c hc;refine wpAny_storeName_cell I.ok.kind hk hc z<|λh' a2 hs=>?_;let{oc,a3,a4}:=id z;refine h {s with heap:=h'} {I.ok,I.os,I.bare,{λb o e n hb hx=>?_,λb o e n hb hx=>?_,I.base.free,λb o e hx=>?_,I.base.tups,I.base.frzs,I.base.tbls},{m,hn.sameBut hs<|Ne.symm<|cne x c hc,λj y v' O e2 e3=>?_},λy c' e=>?_,I.free,I.freeC,λp hp=>?_,G {oc,a3,I.freeC x c hc} hs,by simpa using I.len} {c,hs,.inr hc}
  .exact(hs.2 b<|QM<|Qz (VI e)<|I.ok.cab x c a0 hc).trans<|I.base.keep b o e n hb hx
  .let{sl,O}:=I.base.slot b o e n hb hx;exact{sl,(hs.2 b<|QM<|Qz (VI e)<|I.ok.cab x c a0 hc).trans O}
  .let{o',O}:=I.base.there b o e hx;exact{o',(hs.2 b<|QM<|Qz (VI e)<|I.ok.cab x c a0 hc).trans O}
  .by_cases Z:j=i
   .subst Z;rw[hi]at O;cases O;rw[XE Y]at e2;cases e2;exact{u,r,.inr {.inl hk,c,hc,a2}}
   .rw[List.getElem?_set_ne (Ne.symm Z)]at e2;let{u',r',q}:=hl j y v' O e2 e3;refine{u',r',?_};rcases q with q|⟨k,c',e,z'⟩
    .exact .inl q
    .refine .inr {k,c',e,z'.sameBut hs ?_};rintro rfl;exact Z<|AM hN O (I.ok.inj _ _ _ e hc▸hi)
  .by_cases a5:c'=c
   .subst a5;exact{_,a2}
   .let{w2,z2}:=I.cell y c' e;exact{w2,z2.sameBut hs a5}
  .let{e,n,ne,nf,d}:=I.pin p hp;refine{(hs.2 p.1 ?_).trans e,n,ne,nf,d};intro q;rw[q,a3]at e;let q':oc=p.2:=VB e;exact d w'<|by rwa[<-q']
def uF{Q:Sh}(I:Inv X B W H s)(hN:X.N.Nodup)(hi:X.N[i]?=some x)(hx:Loc X.env.scope x)(r:RelV v u)
  (h:∀s',Inv X B (W.set i<|some v) H s'->Q Unit.unit s') (hf:X.fn x=true\/X.env.scope.names.lookup x=some .local:=by first|exact .inl M|exact .inr M|assumption):wpAny M' A (storeName X.env x u) Q E s:=
 yb I hN hi hx r (λs' z _=>h s' z) hf
def Inv.call'(I:Inv X B W H s)(G:s'.os=s.os)(u:Un (OX X.stack) ch H H' s.heap s'.heap)(hok:NY X.prog X.w H' s'.heap)(O:AllBare s'.gens)
  (z:∀b∈ch,(b∈X.ex\/X.s₀.heap.objs.size<=b)/\b≠X.env.locals/\(∀x c,X.env.cells.lookup x=some c->c≠b)/\∀p∈X.pn++B,p.1≠b):Inv X B W H' s':=by
 let{h',g',d',t',o'}:=s';let e:o'=s.os:=G;subst e;exact I.call (g':=g') (t':=t') (d':=d') u hok O z
end
abbrev XK:=Value->Option Addr->Hp->Prop
abbrev St:=List (Option V)
abbrev VK:=V->Hp->Prop
abbrev TE:=St->Hp->VK->Prop
abbrev TT:=St->Hp->(Bool->Hp->Prop)->Prop
abbrev TA:=St->Hp->(List V->Hp->Prop)->Prop
structure rZ where
 nx:St->Hp->Prop
 rt:VK
 bk:St->Hp->Prop:=λ_ _=>False
 ct:St->Hp->Prop:=λ_ _=>False
abbrev TS:=rZ->St->Hp->Prop
def EP(X:Cx)(B:RM)(W:St)(Q:VK)(u:RI)(s':RD):Prop:=∃v H',Inv X B W H' s'/\RelV v u/\Q v H'
abbrev _root_.Si:=Bool->Hp->Prop
def TP(X:Cx)(B:RM)(W:St)(Q:Si)(b:Bool)(s':RD):Prop:=∃H',Inv X B W H' s'/\Q b H'
def AP(X:Cx)(B:RM)(W:St)(Q:List V->Hp->Prop)(us:RJ)(s':RD):Prop:=∃vs H',Inv X B W H' s'/\DJ vs us/\Q vs H'
def SP(X:Cx)(B:RM)(D:rZ)(f:Flow)(s':RD):Prop:=
 match f with
 | .next=>∃σ' H',Inv X B σ' H' s'/\D.nx σ' H'
 | .brk=>∃σ' H',Inv X B σ' H' s'/\D.bk σ' H'
 | .cont=>∃σ' H',Inv X B σ' H' s'/\D.ct σ' H'
 | .ret u=>∃v σ' H',Inv X B σ' H' s'/\RelV v u/\D.rt v H'
abbrev Wq(X:Cx){a}:=@wpAny a (model X.prog X.w) X.A
def PE(X:Cx)(e:Expr)(t:TE):Prop:=
 ∀(B:RM)(s:RD)(W:St)(H:Hp)(Q:VK),Inv X B W H s->t W H Q->Wq X (eval e X.env) (EP X B W Q) X.xe s
def PT(X:Cx)(e:Expr)(t:TT):Prop:=
 ∀(B:RM)(s:RD)(W:St)(H:Hp)(Q:Si),Inv X B W H s->t W H Q->Wq X (isTrue e X.env<|eval e X.env) (TP X B W Q) X.xe s
def PW(X:Cx)(e:Expr)(t:TT):Prop:=
 ∀(whole:Sem Value)(B:RM)(s:RD)(W:St)(H:Hp)(Q:Si),Inv X B W H s->t W H Q->Wq X (isTrue e X.env whole) (TP X B W Q) X.xe s
def PW.pt{t:TT}(h:PW X e t):PT X e t:=h _
def PA(X:Cx)(es:Sa)(t:TA):Prop:=
 ∀(pos:Pos)(B:RM)(s:RD)(W:St)(H:Hp)(Q:List V->Hp->Prop),Inv X B W H s->t W H Q->Wq X (spliced<|backTo pos<|starEach es X.env) (AP X B W Q) X.xe s
def PS(X:Cx)(st:Stmt)(t:TS):Prop:=
 ∀(B:RM)(s:RD)(W:St)(H:Hp)(D:rZ),Inv X B W H s->t D W H->Wq X (exec st X.env) (SP X B D) X.xe s
def Nj(X:Cx)(st:List Stmt)(t:TS):Prop:=
 ∀(B:RM)(s:RD)(W:St)(H:Hp)(D:rZ),Inv X B W H s->t D W H->Wq X (execs st X.env) (SP X B D) X.xe s
def N4{α:Type}{t:Sem α}{Q Q':α->Shared->Prop}(h:wpAny M' A t Q E s)(z:∀a s,Q a s->Q' a s):wpAny M' A t Q' E s:=VY h z λ_ _ x=>x
section
inductive Kv(i:Nat)(W:St)(H:Hp)(Q:VK):Prop
 |mk(v:_)(_:W[i]?=some (some v))(_:Q v H)
def tC(v:V):TE:=λ_ H Q=>Q v H
def KU{i:Nat}(hN:X.N[i]?=some x)(O:PX X.env.scope x)(hd:(x==(mu:Str))=false:=by decide)(G:(x==("__classdict__":Str))=false:=by decide):PE X (.Name x pos) (Kv i):=by
 intro B s W H Q I h;let{v,e,h}:=h;let{m,U,hl}:=I.loc;let{u,r,l}:=hl i x v hN e O;let fin:EP X B W Q u s:=⟨v,H,I,r,h⟩;rcases l with⟨hk,Y⟩|⟨hk,c,hc,z⟩
 .exact wpAny_Name (wpAny_loadName_local I.ok.kind hk U Y fin) hd
 .rcases hk with hk|hk
  .exact wpAny_Name (wpAny_loadName_cell I.ok.kind hk hc z fin) hd
  .exact wpAny_Name (wpAny_loadName_free I.ok.kind hk hc z fin G) hd
def af{i j pos}:PE X (.Constant (.int i) j pos) (tC<|.int i):=λ_ _ _ H _ I h=>wpAny_Constant_int {.int i,H,I.tok _,{_,M},h}
def Mu{b j pos}:PE X (.Constant (.bool b) j pos) (tC<|.bl b):=λ_ _ _ H _ I h=>Constant_bool {.bl b,H,I,M,h}
def bg{j pos}:PE X (.Constant .none j pos) (tC .non):=λ_ _ _ H _ I h=>Constant_none {.non,H,I,M,h}
def mL{x j pos}:PE X (.Constant (.str x) j pos) (tC<|.str x):=λ_ _ _ H _ I h=>Calls.Constant_str {.str x,H,I.tok _,{_,M},h}
def Gl(X:Cx)(x:Str):Prop:=X.env.kindOf x=some .globalImplicit
def qZ{W:St}{H:Hp}{Q:RP}(I:Inv X B W H s)(z:Gl X x)(G:X.mg x=some u)(h:Q u s)
  (hd:(x==(mu:Str))=false:=by decide):Wq X (eval (.Name x pos) X.env) Q E s:=
 Calls.Name_function_global I.ok.kind z (Calls.loadGlobal_global (by rw[I.ok.glob];exact I.mod.glob.keeps I.bk) G h) hd
def sR{W:St}{H:Hp}{Q:RP}(I:Inv X B W H s)(z:Gl X x)(G:X.mg x=none)(O:bootBuiltins x=some u)(h:Q u s)
  (U:x≠Pg:=by decide) (hd:(x==(mu:Str))=false:=by decide):Wq X (eval (.Name x pos) X.env) Q E s:=by
 let{Y,h1,h2}:=I.mod.blt;exact Calls.Name_function_global I.ok.kind z (Calls.loadGlobal_builtin (by rw[I.ok.glob];exact I.mod.glob.keeps I.bk) G (by rw[I.ok.blt];exact h1.keeps I.bk) ((h2 x U).trans O) h) hd
def cm{v:V}(z:Gl X x)(G:X.mg x=some u)(r:RelV v u)(hd:(x==(mu:Str))=false:=by decide):PE X (.Name x pos) (tC v):=
 λ_ _ _ H _ I h=>qZ I z G ⟨v,H,I,r,h⟩ hd
def Dd{v:V}(z:Gl X x)(G:X.mg x=none)(O:bootBuiltins x=some u)(r:RelV v u)(U:x≠Pg:=by decide)(hd:(x==(mu:Str))=false:=by decide):PE X (.Name x pos) (tC v):=
 λ_ _ _ H _ I h=>sR I z G O ⟨v,H,I,r,h⟩ U hd
variable{a b:Expr}{tb:TE}
def PC(X:Cx)(op:CmpOp)(a b:Expr)(t:TE):Prop:=
 ∀(B:RM)(s:RD)(W:St)(H:Hp)(Q:VK),Inv X B W H s->t W H Q->
  Wq X (eval a X.env) (λv s₁=>Wq X (eval b X.env) (λu s₂=>Wq X (compareOp op v u) (EP X B W Q) X.xe s₂) X.xe s₁) X.xe s
inductive tBR(Q:Si)(x:V)(H1:Hp):Prop
 |mk(c:_)(_:x= .bl c)(_:Q c H1)
def tB(t:TE):TT:=λW H Q=>t W H λx H1=>tBR Q x H1
def KW(h:PC X op a b t)(h1:behindInMarks op b=false:=by first|exact nobehind _ (_) (_)|rfl):PE X (.Compare a [op] [b] pos) t:=λB s W H Q I hw=>wpAny_Compare1 (h B s W H Q I hw) h1
def zr(h:PC X op a b t)(h1:behindInMarks op b=false:=by first|exact nobehind _ (_) (_)|rfl):PT X (.Compare a [op] [b] pos) (tB t):=by
 intro B s W H Q I hw;refine wpAny_isTrue_Compare1 (N4 (h B s W H _ I hw) λv s1 h1=>N4 h1 λu U h2=>N4 h2 λc s3 z=>?_) h1;let{x,H1,G,r1,O}:=z;let{d,rfl,q}:=O;cases r1;exact VW ⟨H1,G,q⟩
def cE(h:PE X e t)(he:∀z,isTrue e X.env z=(do let v<-z;standAt e.pos;holding [v] (truthy v)):=by intro _;rfl):PT X e (tB t):=by
 intro B s W H Q I hw;refine isTrue_plain (N4 (h B s W H _ I hw) λv s1 G=>?_)<|he _;let{x,H1,O,r1,U}:=G;let{d,rfl,q}:=U;cases r1;exact VW ⟨H1,O,q⟩
variable{tA tB':TT}{rest:Sa}
def tAnd(t u:TT):TT:=λW H Q=>t W H λc H1=>if c=true then u W H1 Q else Q false H1
def tOr(t u:TT):TT:=λW H Q=>t W H λc H1=>if c=true then Q true H1 else u W H1 Q
def tNot(t:TT):TT:=λW H Q=>t W H λc H1=>Q (!c) H1
def gO(ha:PT X a tA):PW X (.BoolOp .And [a] pos) tA:=by
 intro wh B s W H Q I h;refine isTrue_and<|N4 (ha B s W H Q I h) λc s1 e=>?_;cases c with
 |true=>exact isTrue_and_nil e
 |false=>exact e
def mF(ha:PT X a tA):PW X (.BoolOp .Or [a] pos) tA:=by
 intro wh B s W H Q I h;refine isTrue_or<|N4 (ha B s W H Q I h) λc s1 e=>?_;cases c with
 |false=>exact isTrue_or_nil e
 |true=>exact e
def jr(ha:PT X a tA)(hb:PW X (.BoolOp .And (b::rest) pos) tB'):PW X (.BoolOp .And (a::b::rest) pos) (tAnd tA tB'):=by
 intro wh B s W H Q I h;refine isTrue_and<|N4 (ha B s W H _ I h) λc s1 ⟨H1,z,G⟩=>?_;cases c with
 |true=>exact hb wh B s1 W H1 Q z G
 |false=>exact⟨H1,z,G⟩
def qM(ha:PT X a tA)(hb:PW X (.BoolOp .Or (b::rest) pos) tB'):PW X (.BoolOp .Or (a::b::rest) pos) (tOr tA tB'):=by
 intro wh B s W H Q I h;refine isTrue_or<|N4 (ha B s W H _ I h) λc s1 ⟨H1,z,G⟩=>?_;cases c with
 |true=>exact⟨H1,z,G⟩
 |false=>exact hb wh B s1 W H1 Q z G
def sF(ha:PT X a tA):PT X (.UnaryOp .Not a pos) (tNot tA):=by
 intro B s W H Q I h;exact isTrue_not<|ha B s W H (λc H1=>Q (!c) H1) I h
def Mg(ta tb:TE):TE:=λW H Q=>ta W H λx H1=>∃c,x= .bl c/\if c=true then tb W H1 Q else Q (.bl false) H1
def tOrV(ta tb:TE):TE:=λW H Q=>ta W H λx H1=>∃c,x= .bl c/\if c=true then Q (.bl true) H1 else tb W H1 Q
def Ma(ta:TE):TE:=λW H Q=>ta W H λx H1=>∃c,x= .bl c/\Q (.bl<|!c) H1
def fQ{op}(h:PE X a t):PE X (.BoolOp op [a] pos) t:=λB s W H Q I hw=>BoolOp_one (h B s W H Q I hw)
def gy(ha:PE X a ta)(hb:PE X (.BoolOp .And (b::rest) pos) tb):PE X (.BoolOp .And (a::b::rest) pos) (Mg ta tb):=by
 intro B s W H Q I h;refine BoolOp_and<|N4 (ha B s W H _ I h) λv s1 G=>?_;let{x,H1,O,r1,z}:=G;let{c,rfl,z}:=z;cases r1;refine VW ?_;cases c with
 |true=>exact hb B s1 W H1 Q O z
 |false=>exact{.bl false,H1,O,M,z}
def JX(ha:PE X a ta)(hb:PE X (.BoolOp .Or (b::rest) pos) tb):PE X (.BoolOp .Or (a::b::rest) pos) (tOrV ta tb):=by
 intro B s W H Q I h;refine BoolOp_or<|N4 (ha B s W H _ I h) λv s1 G=>?_;let{x,H1,O,r1,z}:=G;let{c,rfl,z}:=z;cases r1;refine VW ?_;cases c with
 |false=>exact hb B s1 W H1 Q O z
 |true=>exact{.bl true,H1,O,M,z}
def Ct(ha:PE X a ta):PE X (.UnaryOp .Not a pos) (Ma ta):=by
 intro B s W H Q I h;refine UnaryOp_<|N4 (ha B s W H _ I h) λv s1 z=>?_;let{x,H1,O,r1,G}:=z;let{c,rfl,G}:=G;cases r1;exact not_of<|VW {.bl<|!c,H1,O,M,G}
end
def DI(K:Wp)(H:Hp)(a:RC)(xs:RG):Prop:=
 Rd H a (.lst xs)\/
  ∃(o:Obj)(its:R')(n:Nat),K.lookup a=some o/\o.cls= .type gs/\o.dict=none/\o.data= .seq its n/\its.size<=sizeLine/\DJ xs its.toList
def Na(K:Wp)(H:Hp)(a:RC)(xs:RG):Prop:=
 Rd H a (.tup xs)\/
  ∃(o:Obj)(its:R')(n:Nat),K.lookup a=some o/\o.cls= .type nI/\o.data= .seq its n/\its.size<=sizeLine/\DJ xs its.toList
noncomputable def absV:Value->Option V
 | .none=>some .non
 | .bool b=>some (.bl b)
 | .int i _=>some (.int i)
 | .str x _=>some (.str x)
 | .bytes b _=>some (.byt b)
 | .float b _=>some (.flt b)
 | .ref a=>some (.ref a)
 | .type n=>some (.ty n)
 |_=>none
def RelV.abs{x:V}(r:RelV x u):absV u=some x:=by
 cases x with
 |non=>cases r;rfl
 |bl _=>cases r;rfl
 |int _=>let{t,rfl}:=r;rfl
 |str _=>let{t,rfl}:=r;rfl
 |byt _=>let{t,rfl}:=r;rfl
 |flt _=>let{t,rfl}:=r;rfl
 |ref _=>cases r;rfl
 |ty _=>cases r;rfl
def RelV.inj{x:V}(r:RelV x u)(q:RelV y u):x=y:=VB (r.abs.symm.trans q.abs)
def DJ.inj:∀{xs ys:RG}{us:RJ},DJ xs us->DJ ys us->xs=ys
 |_,_,_,.nil,.nil=>rfl
 |_,_,_,.cons r t,.cons r' t'=>by rw[r.inj r',DJ.inj t t']
section
variable{ys:RG}
def DI.of(h:H a=some (.lst xs)):DI K H a xs:= .inl (.inl h)
def Na.of(h:H a=some (.tup xs)):Na K H a xs:= .inl (.inl h)
def Inv.list(I:Inv X B W H s)(h:DI X.K H a xs):∃its:List Value,DJ xs its/\PlainL s.heap a its.toArray/\xs.length<=sizeLine:=by
 rcases h with h|⟨o,its,n,hk,hc,hd,hs,hz,r⟩
 .let{z,its,n,r,e}:=h.ok I.hok;exact{its,r,{_,n,e,M,M,M},z}
 .refine{its.toList,r,{o,n,I.kIn a o hk,hc,hd,by simpa using hs},?_};let e:=r.length;simp only[Qb]at e;lia
def Inv.tuple(I:Inv X B W H s)(h:Na X.K H a xs):∃its:List Value,DJ xs its/\IsTup s.heap a its.toArray/\xs.length<=sizeLine:=by
 rcases h with h|⟨o,its,n,hk,hc,hs,hz,r⟩
 .let{z,its,r,p}:=h.ok I.hok;exact⟨its,r,p,z⟩
 .refine{its.toList,r,{o,I.kIn a o hk,hc,n,by simpa using hs},?_};let e:=r.length;simp only[Qb]at e;lia
def Inv.list_inj(I:Inv X B W H s)(h:DI X.K H a xs)(h':DI X.K H a ys):xs=ys:=by
 let{its,r,{o,n,e,_,_,d},_}:=I.list h;let{its',G,{o',n',z,_,_,d'},_}:=I.list h';rw[e]at z;cases z;rw[d]at d';injection d' with d1 _;have:its=its':=by simpa using VS Array.toList d1
 subst this;exact r.inj G
end
abbrev Cx.wish(X:Cx)(E:RP):Cx:={X with xe:=E}
abbrev Cx.nox(X:Cx):Cx:=X.wish λ_ _=>False
def Cx.Ok.wish(ok:X.Ok)(E:RP):(X.wish E).Ok:=
 ⟨ok.mod,ok.kind,ok.glob,ok.blt,ok.above,ok.inj,ok.has,ok.cab,ok.hd,ok.frames,ok.stk,ok.exf,ok.bs,ok.bsz,ok.noex,ok.exfs,ok.funs,ok.frf⟩
def Cx.Ok.unwish(ok:(X.wish E).Ok):X.Ok:=
 ⟨ok.mod,ok.kind,ok.glob,ok.blt,ok.above,ok.inj,ok.has,ok.cab,ok.hd,ok.frames,ok.stk,ok.exf,ok.bs,ok.bsz,ok.noex,ok.exfs,ok.funs,ok.frf⟩
def Inv.wish(I:Inv X B W H s)(E:RP):Inv (X.wish E) B W H s:={I.ok.wish E,I.os,I.bare,I.base,I.loc,I.cell,I.free,I.freeC,I.pin,I.hok,I.len}
def Inv.unwish(I:Inv (X.wish E) B W H s):Inv X B W H s:=⟨I.ok.unwish,I.os,I.bare,I.base,I.loc,I.cell,I.free,I.freeC,I.pin,I.hok,I.len⟩
def SP.unwish{D:rZ}{f:Flow}(h:SP (X.wish E) B D f s'):SP X B D f s':=by
 cases f with
 |next=>let{z,H',I,q}:=h;exact⟨z,H',I.unwish,q⟩
 |brk=>let{z,H',I,q}:=h;exact⟨z,H',I.unwish,q⟩
 |cont=>let{z,H',I,q}:=h;exact⟨z,H',I.unwish,q⟩
 |ret u=>let{v,z,H',I,r,q}:=h;exact⟨v,z,H',I.unwish,r,q⟩
def Nj.nox{st:List Stmt}{t:TS}(h:Nj X.nox st t):Nj X st t:=λB s W H D I hw=>
 VY (h B s W H D (I.wish _) hw) (λ_ _ q=>q.unwish) λ_ _ z=>False.elim z
section
variable{st:Stmt}{rest:List Stmt}{t u:TS}
def uE:TS:=λD W H=>D.nx W H
def yX(t u:TS):TS:=λD W H=>t {D with nx:=u D} W H
def aL:Nj X [] uE:=λ_ _ W H _ I h=>wpAny_execs_nil ⟨W,H,I,h⟩
def jQ(h1:PS X st t)(h2:Nj X rest u):Nj X (st::rest) (yX t u):=by
 intro B s W H D I h;refine wpAny_execs_cons<|N4 (h1 B s W H {D with nx:=u D} I h) λf s1 q=>?_;cases f with
 |next=>
  let{z,H',G,q}:=q;exact h2 B s1 z H' D G q
 |ret v=>exact q
 |brk=>exact q
 |cont=>exact q
def aD(h1:PS X st t):Nj X [st] t:=by
 intro B s W H D I h;refine wpAny_execs_cons<|N4 (h1 B s W H D I h) λf s1 q=>?_;cases f with
 |next=>exact wpAny_execs_nil q
 |ret v=>exact q
 |brk=>exact q
 |cont=>exact q
def KD:TS:=λD W H=>D.bk W H
def FX:PS X (.Break pos) KD:=λ_ _ W H _ I h=>wpAny_Break ⟨W,H,I,h⟩
def Inv.quiet(I:Inv X B W H s):interactive X.env=false:=by simp[interactive,I.ok.kind]
def Mc(te:TE):TS:=λD W H=>te W H λ_ H1=>D.nx W H1
def aN(he:PE X e te)(hs:swapsWith e none pos.line X.env=pure false:=by rfl):PS X (.Expr e pos) (Mc te):=by
 intro B s W H D I h;exact wpAny_Expr_any (N4 (he B s W H _ I h) λv s1 ⟨x,H1,z,r1,G⟩=>⟨W,H1,z,G⟩) I.quiet hs
def tRet(te:TE):TS:=λD W H=>te W H D.rt
def aK(he:PE X e te):PS X (.Return (some e) pos) (tRet te):=by
 intro B s W H D I h;exact wpAny_Return_some<|N4 (he B s W H _ I h) λv s1 ⟨x,H1,z,r1,G⟩=>⟨x,W,H1,z,r1,G⟩
def L8:TS:=λD _ H=>D.rt .non H
def oj:PS X (.Return none pos) L8:=λ_ _ W H _ I h=>wpAny_Return_none {.non,W,H,I,M,h}
def tIfS(c:TT)(t u:TS):TS:=λD W H=>c W H λb H1=>if b=true then t D W H1 else u D W H1
def aU{a b:List Stmt}(hc:PT X c tc)(ha:Nj X a t)(hb:Nj X b u):PS X (.If c a b pos) (tIfS tc t u):=by
 intro B s W H D I h;refine wpAny_If<|N4 (hc B s W H _ I h) λd s1 ⟨H1,z,G⟩=>?_;cases d with
 |true=>exact ha B s1 W H1 D z G
 |false=>exact hb B s1 W H1 D z G
end
abbrev TG:=V->St->Hp->(St->Hp->Prop)->Prop
abbrev TGs:=List V->St->Hp->(St->Hp->Prop)->Prop
abbrev _root_.Sb:=St->Hp->Prop
def PG(X:Cx)(target:Expr)(t:TG):Prop:=
 ∀(B:RM)(s:RD)(W:St)(H:Hp)(v:V)(u:RI)(Q:Sb),Inv X B W H s->RelV v u->t v W H Q->
  Wq X (assign target X.env u) (λ_ s'=>∃σ' H',Inv X B σ' H' s'/\Q σ' H') X.xe s
def PGs(X:Cx)(ts:Sa)(t:TGs):Prop:=
 ∀(B:RM)(s:RD)(W:St)(H:Hp)(vs:RG)(us:RJ)(Q:Sb),Inv X B W H s->DJ vs us->t vs W H Q->
  Wq X (assignInOrder ((assignEach ts X.env).map (·.2)) us) (λ_ s'=>∃σ' H',Inv X B σ' H' s'/\Q σ' H') X.xe s
abbrev LL:=V->V->V->Hp->(Hp->Prop)->Prop
def PSet(X:Cx)(t:LL):Prop:=
 ∀(B:RM)(s:RD)(W:St)(H:Hp)(o i v:V)(ov iv u:RI)(Q:Hp->Prop),Inv X B W H s->RelV o ov->RelV i iv->RelV v u->t o i v H Q->
  Wq X (setItem ov iv u) (λ_ s'=>∃H',Inv X B W H' s'/\Q H') X.xe s
abbrev TIp:=V->V->Hp->VK->Prop
def PIp(X:Cx)(op:Operator)(t:TIp):Prop:=
 ∀(B:RM)(s:RD)(W:St)(H:Hp)(x y:V)(v u:RI)(Q:VK),Inv X B W H s->RelV x v->RelV y u->t x y H Q->
  Wq X (inplaceOp op v u) (EP X B W Q) X.xe s
abbrev fj(i:Nat):TG:=λv W H Q=>Q (W.set i<|some v) H
def Db(hN:X.N.Nodup)(hi:X.N[i]?=some x)(hx:Loc X.env.scope x)(hf:X.fn x=true\/X.env.scope.names.lookup x=some .local:=by first|exact .inl M|exact .inr M|assumption):PG X (.Name x pos) (fj i):=by
 intro B s W H v u Q I r h;exact wpAny_assign_Name<|uF I hN hi hx r (λs' z=>{_,H,z,h}) hf
def gNil:TGs:=λvs W H Q=>vs=[]/\Q W H
inductive MM(t:TG)(u:TGs)(vs:RG)(W:St)(H:Hp)(Q:Sb):Prop
 |mk(v r:_)(_:vs=v::r)(_:t v W H λσ' H'=>u r σ' H' Q)
def zt:PGs X [] gNil:=by
 intro B s W H vs us Q I r h;let{e,h}:=h;subst e;cases r;exact assignInOrder_nil ⟨W,H,I,h⟩
def jR{t:TG}{u:TGs}(h1:PG X e t)(h2:PGs X es u)
  (hs:(assignEach (e::es) X.env).map (·.2)=assign e X.env::(assignEach es X.env).map (·.2):=by rfl):PGs X (e::es) (MM t u):=by
 intro B s W H vs us Q I r h;let{v,vr,O,h}:=h;subst O;cases r with
 |cons r U=>
  rw[hs];refine assignInOrder_cons<|N4 (h1 B s W H _ _ _ I r h) λ_ s1 z=>?_;let{G,H1,Y,Z}:=z;exact h2 B s1 G H1 _ _ Q Y U Z
inductive gTup(K:Wp)(n:Nat)(t:TGs)(v:V)(W:St)(H:Hp)(Q:Sb):Prop
 |mk(a xs:_)(_:v= .ref a)(_:Na K H a xs)(_:xs.length=n)(_:t xs W H Q)
def Cr{k:Nat}{t:TGs}(hc:X.calm=true)(h:PGs X es t)
  (G:(assignEach es X.env).length=n:=by rfl) (z:(assignEach es X.env).findIdx? (·.1)=none:=by rfl):PG X (.Tuple es k pos) (gTup X.K n t):=by
 intro B s W H v u Q I r hw;let{a,xs,O,hq,hl,hw}:=hw;subst O;cases r;let{its,rv,U,hz}:=I.tuple hq;refine assign_Tuple_tuple (I.ok.hd hc) U (by simp[G,<-hl,rv.length]) z λh' hx=>?_;let Y:Inv X B W H {s with heap:=h'}:=I.kept (t':=s.toks) λb o e=>hx b o (QM<|VI e) e;exact h B _ W H xs _ Q Y (by simpa using rv) hw
def gSub(to ti:TE)(t:LL):TG:=λv W H Q=>to W H λo H1=>ti W H1 λi H2=>t o i v H2 λH3=>Q W H3
def Cs{o i:Expr}{to U:TE}{t:LL}(Y:PE X o to)(hi:PE X i U)(hs:PSet X t)
  (ha:∀v,assign (.Subscript o i pos) X.env v=(do
   let G<-holding [v] (eval o X.env)
   let O<-holding [v,G] (eval i X.env)
   standAt pos
   holding [v,G,O] (setItem G O v)
   release [v,G,O] []):=by intro _;rfl):PG X (.Subscript o i pos) (gSub to U t):=by
 intro B s W H v u Q I r h;rw[ha];refine VG<|Wb (N4 (Y B s W H _ I h) λG s1 z=>?_);let{x,H1,Z,r1,q1}:=z;refine VG<|Wb (N4 (hi B s1 W H1 _ Z q1) λO s2 z=>?_);let{y,H2,I2,r2,q2}:=z;refine VG<|wpAny_standAt (VG<|Wb<|N4 (hs B s2 W H2 x y v G O u _ I2 r1 r2 r q2) λ_ s3 z=>?_);let{H3,I3,q3}:=z;exact wpAny_release ⟨W,H3,I3,q3⟩
def D7(te:TE)(g:TG):TS:=λD W H=>te W H λx H1=>g x W H1 D.nx
def Co{g:TG}(he:PE X e te)(G:PG X tg g)(hs:swapsWithSole [tg] e pos.line X.env=pure false:=by rfl)(hw:swappedStores [tg] e X.env=pure none:=by rfl)
  (h1:(assignEach [tg] X.env).map (·.2)=[assign tg X.env]:=by rfl):PS X (.Assign [tg] e pos) (D7 te g):=by
 intro B s W H D I h;refine wpAny_Assign_stores (N4 (he B s W H _ I h) λv s1 z=>?_) hs hw;let{x,H1,O,r1,U}:=z;rw[h1];exact N4 (G B s1 W H1 x v _ O r1 U) λ_ Y q=>q
def kK(hN:X.N.Nodup)(hi:X.N[i]?=some x)(hx:Loc X.env.scope x)(he:PE X e te)(hs:swapsWith e (some<|.Name x pos') pos.line X.env=pure false:=by rfl)(hf:X.fn x=true\/X.env.scope.names.lookup x=some .local:=by first|exact .inl M|exact .inr M|assumption):
  PS X (.Assign [.Name x pos'] e pos) (D7 te<|fj i):=by
 intro B s W H D I h;refine wpAny_Assign_Name (N4 (he B s W H _ I h) λv s1 z=>?_) hs;let{y,H1,G,r1,O}:=z;exact uF G hN hi hx r1 (λY U=>{_,H1,U,O}) hf
inductive tAug(i:Nat)(te:TE)(ti:TIp)(D:rZ)(W:St)(H:Hp):Prop
 |mk(x:_)(_:W[i]?=some (some x))(_:te W H λy H1=>ti x y H1 λz H2=>D.nx (W.set i<|some z) H2)
def Cn{op:Operator}{Z:TIp}(hN:X.N.Nodup)(hi:X.N[i]?=some x)(hx:Loc X.env.scope x)(he:PE X e te)(ho:PIp X op Z)(hf:X.fn x=true\/X.env.scope.names.lookup x=some .local:=by first|exact .inl M|exact .inr M|assumption):
  PS X (.AugAssign (.Name x pos') op e pos) (tAug i te Z):=by
 intro B s W H D I h;let{v,e1,h}:=h;let{m,hn,hl}:=I.loc;let Y:PX X.env.scope x:=by rcases hx with k|k;exact .inl k;exact .inr<|.inl k
 let{u,r,l}:=hl i x v hi e1 Y;refine wpAny_AugAssign_Name ?_;let go:Wq X (eval e X.env) (λw s₂=>Wq X (inplaceOp op u w) (λr U=>Wq X (storeName X.env x r) (λ_=>SP X B D .next) X.xe U) X.xe s₂) X.xe s:=by
  refine N4 (he B s W H _ I h) λw s1 G=>?_;let{y,H1,I1,r1,q1}:=G;refine N4 (ho B s1 W H1 v y u w _ I1 r r1 q1) λz s2 G=>?_;let{zv,H2,I2,r2,q2}:=G;exact uF I2 hN hi hx r2 (λs3 I3=>{_,H2,I3,q2}) hf
 rcases l with⟨hk,hm⟩|⟨hk,c,hc,O⟩
 .exact wpAny_loadName_local I.ok.kind hk hn hm go
 .rcases hk with hk|hk
  .exact wpAny_loadName_cell I.ok.kind hk hc O go
  .rcases hx with k|k
   .have:X.env.scope.names.lookup x=some .free:=hk;rw[k]at this;cases this
   .have:X.env.scope.names.lookup x=some .free:=hk;rw[k]at this;cases this
inductive ipI(f:Int->Int->Int)(x y:V)(H:Hp)(Q:VK):Prop
 |mk(i j:_)(_:x= .int i)(_:y= .int j)(_:Q (.int<|f i j) H)
def GK:PIp X .Add (ipI λi j=>i+j):=by
 intro B s W H x y v u Q I r1 z h;let{i,j,G,e2,q}:=h;subst G;subst e2;let{t,rfl}:=r1;let{t',rfl}:=z;exact iadd_int {.int _,H,I.tok _,{_,M},q}
def Lp:PIp X .Sub (ipI λi j=>i-j):=by
 intro B s W H x y v u Q I r1 z h;let{i,j,G,e2,q}:=h;subst G;subst e2;let{t,rfl}:=r1;let{t',rfl}:=z;exact isub_int {.int _,H,I.tok _,{_,M},q}
def Fz(c:TT)(tb:TS):TS:=λD W H=>∃Wo:Nat->St->Hp->Prop,(∃m,Wo m W H)/\∀m W H,Wo m W H->
 c W H λb H1=>if b=true then ∃N:St->Hp->Prop,(∀σ' H',N σ' H'->∃m',m'<m/\Wo m' σ' H')/\tb {D with nx:=N,ct:=N,bk:=D.nx} W H1 else D.nx W H1
def mK(hp:PassesOwn (model X.prog X.w) X.A X.env X.xe)(hc:PT X c tc)(hb:Nj X body tb):PS X (.While c body [] pos) (Fz tc tb):=by
 intro B s W H D I h;let{Wo,{m0,w0},turn}:=h;refine wpAny_While<|codeAny_whileLoop (λn s'=>∃O H',Inv X B O H' s'/\Wo n O H') ?_ m0 ⟨W,H,I,w0⟩;rintro n s1 ⟨G,H1,I1,w1⟩;refine W8 hp<|N4 (hc B s1 G H1 _ I1<|turn n G H1 w1) λb s2 ⟨H2,I2,U⟩=>?_;cases b with
 |true=>
  let{N,hN,U}:=U;rw[VA M];refine W8 hp<|N4 (hb B s2 G H2 _ I2 U) λf s3 Y=>?_;cases f with
  |next=>
   let{z,H3,Z,n3}:=Y;let{m',hm,w3}:=hN z H3 n3;exact⟨m',hm,z,H3,Z,w3⟩
  |cont=>
   let{z,H3,Z,n3}:=Y;let{m',hm,w3}:=hN z H3 n3;exact⟨m',hm,z,H3,Z,w3⟩
  |brk=>exact Y
  |ret v=>exact Y
 |false=>
  rw[Vz Qc];exact wpAny_execs_nil ⟨G,H2,I2,U⟩
structure It where
 go:Nat->Hp->Prop
 yld:Nat->Hp->V->Hp->Prop
 stop:Nat->Hp->Prop
def BE(X:Cx)(B:RM)(H:Hp)(b:RC):Prop:=
 H b=none/\b≠X.env.locals/\b∉X.fs/\(b∈X.ex\/X.s₀.heap.objs.size<=b)/\(∀x c,X.env.cells.lookup x=some c->c≠b)/\∀p∈X.pn++B,p.1≠b
def Inv.fpOk(I:Inv X B W H s)(hb:s.heap.objs.size<=b)(G:H' b=none):BE X B H' b:=by
 refine{G,V6<|Qz I.lt hb,I.nofs hb,.inr<|Qu I.sz hb,λx c e z=>?_,λp O z=>?_}
 .let{v,q}:=I.cell x c e;exact VE (Qz q.lt<|by rwa[z])<|ZC _
 .exact VE (Qz (VI (I.pin p O).1)<|by rwa[z]) (ZC _)
structure BC(P:RN)(w:RO)(K:Wp)(tg:Expr)(J:It)(fp:RQ)(it:RC)(tn:Nat->Heap->Prop):Prop where
 mem:it∈fp
 obj:∀i h,tn i h->∀b∈fp,∃o,h.get? b=some o/\∀v,o.data≠ .cell v
 keep:∀i h h',tn i h->(∀b∈fp,∀o,h.get? b=some o->h'.get? b=some o)->tn i h'
 item:∀(X:Cx),X.prog=P->X.w=w->X.K=K->X.calm=true->∀(i:Nat)(B:RM)(s:RD)(W:St)(H:Hp)(E:RP),Inv X B W H s->(∀b∈fp,BE X B H b)->tn i s.heap->J.go i H->
  wpAny (model P w) X.A (pyNext<|.ref it) (λr s1=>∃u,r=some u/\
   wpAny (model P w) X.A (letOwnedTupleGo tg (.ref it) u) (λ_ s2=>∃x H',Inv X B W H' s2/\RelV x u/\J.yld i H x H'/\tn (i+1) s2.heap/\∀b∈fp,H' b=none) E s1) E s
 done:∀(X:Cx),X.prog=P->X.w=w->X.K=K->X.calm=true->∀(i:Nat)(B:RM)(s:RD)(W:St)(H:Hp)(E:RP),Inv X B W H s->(∀b∈fp,BE X B H b)->tn i s.heap->J.stop i H->
  wpAny (model P w) X.A (pyNext<|.ref it) (λr s1=>r=none/\Inv X B W H s1) E s
 self:∀(A:RT)(i:Nat)(s:RD)(Q:RP)(E:RP),tn i s.heap->Q (.ref it) s->wpAny (model P w) A (pyIter<|.ref it) Q E s
abbrev TI:=St->Hp->(It->Hp->Prop)->Prop
def PIE(X:Cx)(B:RM)(W:St)(tg:Expr)(R:It->Hp->Prop)(itv:RI)(s2:RD):Prop:=
 ∃(it:RC)(fp:RQ)(tn:Nat->Heap->Prop)(J:It)(H':Hp),itv= .ref it/\Inv X B W H' s2/\BC X.prog X.w X.K tg J fp it tn/\tn 0 s2.heap/\(∀b∈fp,BE X B H' b)/\R J H'
def PI(X:Cx)(tg iter:Expr)(wi:TI):Prop:=
 ∀(B:RM)(s:RD)(W:St)(H:Hp)(R:It->Hp->Prop),Inv X B W H s->wi W H R->
  Wq X (eval iter X.env) (λv s1=>Wq X (pyIter v) (PIE X B W tg R) X.xe s1) X.xe s
def yu{o:Obj}{n:String}{vs:R'}{Q:Sh}(G:s.heap.get? it=some o)(hc:o.cls= .type n)(hd:o.data= .fields vs)
  (I:["enumerate","zip","dict_itemiterator",Ph,"odict_iterator",Pt,"itertools.pairwise"].contains n=false) (z:Q Unit.unit s):wpAny M' A (letOwnedTupleGo tg (.ref it) u) Q E s:=by
 unfold letOwnedTupleGo;cases tg<;>first
  |exact VQ z
  |(cases u<;>first
    |exact VQ z
    |(refine VG<|wpAny_load G ?_
      rw[hc,hd];show wpAny M' A (if(["enumerate","zip","dict_itemiterator",Ph,"odict_iterator",Pt,"itertools.pairwise"].contains n&&vs[0]?==some (rawInt _))=true then _ else _) Q E s;rw[Vz (by intro h;rw[I,ZU]at h;cases h)];exact VQ z))
def OY(K:Wp)(a:RC):It:=
 {λi H=>∃xs x,DI K H a xs/\xs[i]?=some x,λi H x H'=>H'=H/\∀xs,DI K H a xs->xs[i]?=some x,λi H=>∃xs,DI K H a xs/\xs.length<=i}
def Od(lo:Int)(n:Nat):It:={λi _=>i<n,λi H x H'=>H'=H/\x= .int (lo+i),λi _=>n<=i}
def D4(a it:RC):BC P w K tg (OY K a) [it] it (λi h=>h.IsListIter it a i) where
 mem:=by simp
 obj:=λi h st b hb=>by
  let e:b=it:=by simpa using hb
  subst e;let{o,e,c,d}:=st;exact{o,e,λv z=>by rw[d]at z;cases z}
 keep:=λi h h' st k=>st.at λo e=>k it (by simp) o e
 item:=by
  intro X G hw hK hc i B s W H E I hf st O;subst G hw hK;let{xs,x,hq,hx}:=O;let{its,rv,p,hz}:=I.list hq;let{u,hu,ru}:=rv.get hx;let{U,Y,f2,Z,f4,f5}:=hf it (by simp);refine wpAny_pyNext_list_item st p.isList (x:=u) (by simpa using hu) λh' st' sb=>?_;let I1:Inv X B W H {s with heap:=h'}:=I.turned (t':=s.toks) (λb o hb e=>(sb.2 b hb).trans e) U Y Z f4 f5;let{o,e,c,d}:=id st';exact{u,M,yu (s:={s with heap:=h'}) e c d (_) {x,H,I1,ru,{M,λys hy=>by rwa[I.list_inj hy hq]},st',λb hb=>(hf b hb).1}}
 done:=by
  intro X G hw hK hc i B s W H E I hf st O;subst G hw hK;let{xs,hq,hx}:=O;let{its,rv,p,hz}:=I.list hq;let{U,Y,f2,Z,f4,f5}:=hf it (by simp);let hl:=rv.length;exact wpAny_pyNext_list_end (I.ok.hd hc) st p.isList (by simp;lia) λh' eb=>{M,I.turned (t':=s.toks) (λb o hb e=>eb b o hb e) U Y Z f4 f5}
 self:=λ_ _ _ _ _ st h=>wpAny_pyIter_listiter st h
def B6(it:RC)(lo:Int)(n:Nat):BC P w K tg (Od lo n) [it] it (λi h=>IsRangeIter h it (lo+(i:Nat)*1) ((n:Int)-(i:Nat)) 1) where
 mem:=by simp
 obj:=λi h st b hb=>by
  let e:b=it:=by simpa using hb
  subst e;exact{_,st,λv z=>by
   let z':Data.fields _=Data.cell v:=z;cases z'}
 keep:=λi h h' st k=>k it (by simp) _ st
 item:=by
  intro X G hw hK hc i B s W H E I hf st O;subst G hw hK;let{U,Y,f2,Z,f4,f5}:=hf it (by simp);let Wo:=Walks.range (prog:=X.prog) (w:=X.w) (I.ok.hd hc) it lo 1 n;refine Wo.item i s _ _ O st λv h' tk hv st' kk=>?_;let{t,rfl}:=hv;let I1:Inv X B W H {s with heap:=h',toks:=tk}:=I.turned (λb o hb e=>kk b o (by simpa using hb) e) U Y Z f4 f5;refine{_,M,yu (s:={s with heap:=h',toks:=tk}) (n:="range_iterator") st' M M (_) {.int<|lo+i,H,I1,{t,?_},⟨M,M⟩,st',λb hb=>(hf b hb).1}};rw[Int.mul_one]
 done:=by
  intro X G hw hK hc i B s W H E I hf st O;subst G hw hK;let{U,Y,f2,Z,f4,f5}:=hf it (by simp);exact wpAny_pyNext_range_end (I.ok.hd hc) st (by have:n<=i:=O;lia) λh' eb=>{M,I.turned (t':=s.toks) (λb o hb e=>eb b o hb e) U Y Z f4 f5}
 self:=λ_ _ _ _ _ st h=>wpAny_pyIter_rangeiter st h
inductive Ls(K:Wp)(R:It->Hp->Prop)(x:V)(H1:Hp):Prop
 |mk(a:_)(_:x= .ref a)(_:(∃xs,DI K H1 a xs))(_:R (OY K a) H1)
def MJ(K:Wp)(tl:TE):TI:=λW H R=>tl W H λx H1=>Ls K R x H1
def cX{l:Expr}{tl:TE}(hl:PE X l tl):PI X tg l (MJ X.K tl):=by
 intro B s W H R I h;refine N4 (hl B s W H _ I h) λv s1 G=>?_;let{x,H1,z,r1,O}:=G;let{a,e,{xs,hq},q}:=O;subst e;cases r1;let{its,rv,p,hz}:=z.list hq;refine wpAny_pyIter_list p.isList ?_;refine{s1.heap.objs.size,[s1.heap.objs.size],_,_,H1,M,z.kept (t':=s1.toks) λb o e=>VD _ e,D4 a _,{_,VL _ M,M,M},λb hb=>?_,q};let e:b=s1.heap.objs.size:=by simpa using hb
 subst e;exact z.fpOk (Q4 _)<|z.hok.fresh (Q4 _)
def FR{R:It->Hp->Prop}{hi:Int}{t u v:Tok}{tk:Nat}(I:Inv X B W H s)(h1: -(2^62)<=lo)(h2:lo<2^62)(G: -(2^62)<=hi)(O:hi<2^62)
  (q:R (Od lo (hi-lo).toNat) H):Wq X (pyIter<|.ref s.heap.objs.size) (PIE X B W tg R) E {s with heap:=s.heap.push {cls:= .type o0,data:= .fields #[.int lo t,.int hi u,.int 1 v]},toks:=tk}:=by
 refine wpAny_pyIter_range (IsRange.new ..) (small_one h1 h2 G O) ?_;let z:Inv X B W H {s with heap:=s.heap.push {cls:= .type o0,data:= .fields #[.int lo t,.int hi u,.int 1 v]},toks:=tk}:=I.kept λb o e=>VD _ e;refine{(s.heap.push {cls:= .type o0,data:= .fields #[.int lo t,.int hi u,.int 1 v]}).objs.size,[(s.heap.push {cls:= .type o0,data:= .fields #[.int lo t,.int hi u,.int 1 v]}).objs.size],_,_,H,M,
  z.kept (t':=tk) λb o e=>VD _ e,B6 _ lo (hi-lo).toNat,?_,λb hb=>?_,q}
 .let U:lo+((0:Nat):Int)*1=lo:=by simp
  let e2:(((hi-lo).toNat:Nat):Int)-((0:Nat):Int)=Builtin.Range.rangeSize lo hi 1:=by rw[rangeSize_one];split<;>lia
  show IsRangeIter _ _ (lo+((0:Nat):Int)*1) ((((hi-lo).toNat:Nat):Int)-((0:Nat):Int)) 1;rw[U,e2];exact VL _ M
 .let e:b=(s.heap.push {cls:= .type o0,data:= .fields #[.int lo t,.int hi u,.int 1 v]}).objs.size:=by simpa using hb
  subst e;exact z.fpOk (Q4 _) (z.hok.fresh<|Q4 _)
inductive Lr(R:It->Hp->Prop)(vs:RG)(H1:Hp):Prop
 |mk(j:Int)(_:vs=[.int j])(_: -(2^62)<=j)(_:j<2^62)(_:R (Od 0 j.toNat) H1)
def MI(ta:TA):TI:=λW H R=>ta W H λvs H1=>Lr R vs H1
def eG{a:Expr}{ta:TA}(O:Gl X o0)(U:X.mg o0=none)(ha:PA X [a] ta)(hs:starEach [a] X.env=[(false,eval a X.env)]:=by rfl):PI X tg (.Call (.Name o0 p) [a] [] pos) (MI ta):=by
 intro B s W H R I h;refine Call_<|sR I O U boot_range (PyProof.Rows.callWith_type1 (N4 (ha pos B s W H _ I h) λus s1 z=>?_) hs M);let{vs,H1,Y,r1,G}:=z;let{j,e,G,Z,q}:=G;subst e;cases r1 with
 |cons r rr=>
  cases rr;let{t,rfl}:=r;exact call_range_1<|FR Y () () G Z (by simpa using q)
def tFor(wi:TI)(g:TG)(tb:TS):TS:=λD W H=>wi W H λJ H1=>∃Wo:Nat->Nat->St->Hp->Prop,(∃m,Wo 0 m W H1)/\∀i m W H,Wo i m W H->
 (J.stop i H/\D.nx W H)\/(J.go i H/\∃N:St->Hp->Prop,(∀σ' H',N σ' H'->∃m',m'<m/\Wo (i+1) m' σ' H')/\∀x H',J.yld i H x H'->g x W H' λσ2 H2=>tb {D with nx:=N,ct:=N,bk:=D.nx} σ2 H2)
def vo(fp:RQ)(h:Heap):List (Addr×Obj):=fp.filterMap λb=>(h.get? b).map λo=>(b,o)
def kQ{o:Obj}(hb:b∈fp)(e:h.get? b=some o):(b,o)∈vo fp h:=List.mem_filterMap.mpr {b,hb,by rw[e];rfl}
def En{p:Addr×Obj}(z:p∈vo fp h):p.1∈fp/\h.get? p.1=some p.2:=by
 let{b,hb,e}:=List.mem_filterMap.mp z;cases q:h.get? b with
 |none=>rw[q]at e;cases e
 |some o=>
  rw[q]at e;let G:(b,o)=p:=VB e;subst G;exact⟨hb,q⟩
def Inv.pinned(I:Inv X B W H s)(hf:∀b∈fp,BE X B H b)(O:∀b∈fp,∃o,s.heap.get? b=some o/\∀v,o.data≠ .cell v):Inv X (B++vo fp s.heap) W H s:=
 I.pins_of λp U=>(Q5.mp U).elim (λz=>I.pin p<|Qy _ z) λz=>by
  let{hb,e}:=En z;let{Y,Z,f2,_}:=hf p.1 hb;let{o,G,d}:=O p.1 hb;rw[e]at G;cases G;exact⟨e,Y,Z,f2,d⟩
def Inv.unpinned{pl:RM}(I:Inv X (B++pl) W H s):Inv X B W H s:=I.pins_of λp z=>I.pin p (Qy _<|Xg _ z)
def eZ{iter:Expr}{wi:TI}{g:TG}(hp:PassesOwn (model X.prog X.w) X.A X.env X.xe)(hc:X.calm=true)(hi:PI X tg iter wi)(hg:PG X tg g)(hb:Nj X body tb)
  (hs:∀x,foldedSetIterable iter X.env x=pure x:=by intro _;rfl):PS X (.For tg iter body [] pos) (tFor wi g tb):=by
 intro B s W H D I h;refine wpAny_For (N4 (hi B s W H _ I h) λv s1 h1=>N4 h1 λab s2 h2=>?_) hs;let{it,fp,tn,J,H2,e,I2,T,st2,f2,Wo,{m0,w0},turn}:=h2;subst e;let G:∀{H':Hp},(∀b∈fp,H' b=none)->∀b∈fp,BE X B H' b:=λhn b hb=>{hn b hb,(f2 b hb).2};refine codeAny_forLoop_any (λn s'=>∃i O H',Inv X B O H' s'/\tn i s'.heap/\(∀b∈fp,H' b=none)/\Wo i n O H') ?_ m0 {0,W,H2,I2,st2,λb hb=>(f2 b hb).1,w0};rintro n s3 ⟨i,U,H3,I3,a2,a3,w3⟩;rcases turn i n U H3 w3 with⟨a4,qn⟩|⟨go,N,hN,step⟩
 .refine W8 hp<|N4 (T.done X M M M hc i B s3 U H3 X.xe I3 (G a3) a2 a4) λr s4 ⟨hr,I4⟩=>?_;subst hr;exact wpAny_execs_nil ⟨U,H3,I4,qn⟩
 .refine W8 hp<|N4 (T.item X M M M hc i B s3 U H3 X.xe I3 (G a3) a2 go) λr s4 ⟨u,hr,h4⟩=>?_;subst hr;refine W8 hp<|N4 h4 λ_ s5 a0=>?_;let{x,H5,I5,r5,y5,a1,a5}:=a0;let a6:=I5.pinned (G a5) (T.obj _ _ a1);refine W8 hp<|N4 (hg _ s5 U H5 x u _ a6 r5<|step x H5 y5) λ_ s6 a0=>?_;let{aa,H6,I6,q6}:=a0;refine W8 hp<|N4 (hb _ s6 aa H6 _ I6 q6) λf s7 Z=>?_;let again:∀{z:St}{H7:Hp},Inv X (B++vo fp s5.heap) z H7 s7->N z H7->∃m,m<n/\∃i O H',Inv X B O H' s7/\tn i s7.heap/\(∀b∈fp,H' b=none)/\Wo i m O H':=λ{z H7} Y n7=>by
   let{m',hm,w7}:=hN z H7 n7;refine{m',hm,i+1,z,H7,Y.unpinned,T.keep _ _ _ a1 λb hb o e=>(Y.pin (b,o)<|Qy _<|Qy _<|kQ hb e).1,λb hb=>?_,w7};let{o,e,d}:=T.obj _ _ a1 b hb;exact(Y.pin (b,o)<|Qy _<|Qy _<|kQ hb e).2.1
  cases f with
  |next=>let{z,H7,Y,n7}:=Z;exact again Y n7
  |cont=>let{z,H7,Y,n7}:=Z;exact again Y n7
  |brk=>let{z,H7,Y,Z}:=Z;exact⟨z,H7,Y.unpinned,Z⟩
  |ret v=>let{x7,z,H7,Y,r7,Z}:=Z;exact⟨x7,z,H7,Y.unpinned,r7,Z⟩
abbrev _root_.Sd:=Nat->St->Hp->Prop
def GV{g:TG}{D:rZ}(Pv:Sd)(O:Pv 0 W H)(hl:∀i W H,i<=xs.length->Pv i W H->DI K H a xs)
  (hs:∀i x W H,xs[i]?=some x->Pv i W H->g x W H λz H2=>tb {D with nx:=Pv (i+1),ct:=Pv (i+1),bk:=D.nx} z H2) (hd:∀W H,Pv xs.length W H->D.nx W H):
  ∃Wo:Nat->Nat->St->Hp->Prop,(∃m,Wo 0 m W H)/\∀i m W H,Wo i m W H->
   ((OY K a).stop i H/\D.nx W H)\/((OY K a).go i H/\∃N:St->Hp->Prop,(∀G H',N G H'->∃m',m'<m/\Wo (i+1) m' G H')/\∀x H',(OY K a).yld i H x H'->g x W H' λz H2=>tb {D with nx:=N,ct:=N,bk:=D.nx} z H2):=by
 refine{λi m W H=>m=xs.length-i/\i<=xs.length/\Pv i W H,{xs.length,by simp,Qf _,O},?_};rintro i m W H ⟨rfl,hi,p⟩;let q:=hl i W H hi p;by_cases I:i<xs.length
 .refine .inr {{xs,xs[i],q,by simp[I]},Pv<|i+1,λG H' U=>{xs.length-(i+1),(),M,I,U},λx H' y=>?_};let{e,y}:=y;subst e;exact hs i x W _ (y xs q) p
 .let e:i=xs.length:=();subst e;exact .inl {{xs,q,Q4 _},hd W H p}
def yw{g:TG}{D:rZ}(Pv:Sd)(O:Pv 0 W H)
  (hs:∀i W H,i<n->Pv i W H->g (.int<|lo+i) W H λz H2=>tb {D with nx:=Pv (i+1),ct:=Pv (i+1),bk:=D.nx} z H2) (hd:∀W H,Pv n W H->D.nx W H):
  ∃Wo:Nat->Nat->St->Hp->Prop,(∃m,Wo 0 m W H)/\∀i m W H,Wo i m W H->
   ((Od lo n).stop i H/\D.nx W H)\/((Od lo n).go i H/\∃N:St->Hp->Prop,(∀G H',N G H'->∃m',m'<m/\Wo (i+1) m' G H')/\∀x H',(Od lo n).yld i H x H'->g x W H' λz H2=>tb {D with nx:=N,ct:=N,bk:=D.nx} z H2):=by
 refine{λi m W H=>m=n-i/\i<=n/\Pv i W H,{n,by simp,Qf _,O},?_};rintro i m W H ⟨rfl,hi,p⟩;by_cases I:i<n
 .refine .inr {I,Pv<|i+1,λG H' U=>{n-(i+1),(),M,I,U},λx H' y=>?_};let{e,y}:=y;subst e y;exact hs i W _ I p
 .let e:i=n:=();subst e;exact .inl {Q4 _,hd W H p}
abbrev R2:=V->V->Hp->VK->Prop
abbrev _root_.Sk:=Value->Value->Sem Value
def Nu(X:Cx)(f:Sk)(r:R2):Prop:=
 ∀(B:RM)(s:RD)(W:St)(H:Hp)(x y:V)(v u:RI)(Q:VK),Inv X B W H s->RelV x v->RelV y u->r x y H Q->
  Wq X (f v u) (EP X B W Q) X.xe s
def UnR(X:Cx)(f:Value->Sem Value)(r:V->Hp->VK->Prop):Prop:=
 ∀(B:RM)(s:RD)(W:St)(H:Hp)(x:V)(v:RI)(Q:VK),Inv X B W H s->RelV x v->r x H Q->
  Wq X (f v) (EP X B W Q) X.xe s
def i6(X:Cx)(f:RI)(r:List V->Hp->VK->Prop):Prop:=
 ∀(B:RM)(s:RD)(W:St)(H:Hp)(xs:RG)(us:RJ)(Q:VK),Inv X B W H s->DJ xs us->r xs H Q->
  Wq X (call f us) (EP X B W Q) X.xe s
def tOp(r:R2)(ta tb:TE):TE:=λW H Q=>ta W H λx H1=>tb W H1 λy H2=>r x y H2 Q
def tUn(r:V->Hp->VK->Prop)(ta:TE):TE:=λW H Q=>ta W H λx H1=>r x H1 Q
inductive rI(C:Int->Int->Prop)(g:Int->Int->V)(x y:V)(H:Hp)(Q:VK):Prop
 |mk(i j:_)(_:x= .int i)(_:y= .int j)(_:C i j)(_:Q (g i j) H)
inductive P8(g:Int->Int->V)(x y:V)(H:Hp)(Q:VK):Prop
 |mk(i j:_)(_:x= .int i)(_:y= .int j)(_:Q (g i j) H)
inductive rU(g:Int->V)(x:V)(H:Hp)(Q:VK):Prop
 |mk(i:_)(_:x= .int i)(_:Q (g i) H)
section
variable{a b:Expr}{tb tc:TE}
def LG(ha:PE X a ta)(hb:PE X b tb){R:V->V->Hp->Prop}(I:Inv X B W H s)
  (h:ta W H λx H1=>tb W H1 λy H2=>R x y H2) {f:Sk}
  (hf:∀v u G x y H2,Inv X B W H2 G->RelV x v->RelV y u->R x y H2->Wq X (f v u) Q X.xe G):
  Wq X (eval a X.env) (λv s₁=>Wq X (eval b X.env) (λu s₂=>Wq X (f v u) Q X.xe s₂) X.xe s₁) X.xe s:=by
 refine N4 (ha B s W H _ I h) λv s1 z=>?_;let{x,H1,O,r1,U}:=z;refine N4 (hb B s1 W H1 _ O U) λu G z=>?_;let{y,H2,Y,Z,q2}:=z;exact hf v u G x y H2 Y r1 Z q2
def ao{op:Operator}(z:Nu X (binaryOp op) r)(ha:PE X a ta)(hb:PE X b tb):PE X (.BinOp a op b pos) (tOp r ta tb):=by
 intro B s W H Q I h;exact wpAny_BinOp<|LG ha hb I h λv u G x y H2 O U Y q=>z B G W H2 x y v u Q O U Y q
def FY{op:UnaryOp}{r:V->Hp->VK->Prop}(z:UnR X (unaryOp op) r)(ha:PE X a ta):PE X (.UnaryOp op a pos) (tUn r ta):=by
 intro B s W H Q I h;exact UnaryOp_<|N4 (ha B s W H _ I h) λv s1 ⟨x,H1,G,r1,O⟩=>z B s1 W H1 x v Q G r1 O
def opI{f:Sk}{C:Int->Int->Prop} 
  (rule:∀(i j:Int)(t u:Tok)(s:RD)(Q:RP)(E:RP),C i j->Q (.int (g i j) s.toks) {s with toks:=s.toks+1}->Wq X (f (.int i t)<|.int j u) Q E s):
  Nu X f (rI C λi j=> .int<|g i j):=by
 intro B s W H x y v u Q I z G h;let{i,j,rfl,rfl,hc,q}:=h;let{t,rfl}:=z;let{t',rfl}:=G;exact rule i j t t' s _ _ hc {.int<|g i j,H,I.tok _,{_,M},q}
def K3{f:Sk} 
  (rule:∀(i j:Int)(t u:Tok)(s:RD)(Q:RP)(E:RP),Q (.int (g i j) s.toks) {s with toks:=s.toks+1}->Wq X (f (.int i t)<|.int j u) Q E s):
  Nu X f (P8 λi j=> .int<|g i j):=by
 intro B s W H x y v u Q I z G h;let{i,j,rfl,rfl,q}:=h;let{t,rfl}:=z;let{t',rfl}:=G;exact rule i j t t' s _ _ {.int<|g i j,H,I.tok _,{_,M},q}
def IH{f:Sk}{g:Int->Int->Bool}
  (rule:∀(i j:Int)(t u:Tok)(s:RD)(Q:RP)(E:RP),Q (.bool<|g i j) s->Wq X (f (.int i t)<|.int j u) Q E s):
  Nu X f (P8 λi j=> .bl<|g i j):=by
 intro B s W H x y v u Q I z G h;let{i,j,rfl,rfl,q}:=h;let{t,rfl}:=z;let{t',rfl}:=G;exact rule i j t t' s _ _ {.bl<|g i j,H,I,M,q}
def CDiv(i j:Int):Prop:=0<j/\j<1073741824
def CPow(i j:Int):Prop:=0<=j/\j<=1000000/\i.natAbs<2^64
def PV(i j:Int):Prop:=(-(2^64)<i/\i<2^64)\/(-(2^64)<j/\j<2^64)
def PV.ok{i j:Int}(h:PV i j):IntMulOk i j:=by
 rcases h with⟨h1,h2⟩|⟨h1,h2⟩
 .exact .of_left<|intBits_le_64 h1 h2
 .exact .of_right<|intBits_le_64 h1 h2
def bi:Nu X (binaryOp .Add) (P8 λi j=> .int<|i+j):=K3 λ_ _ _ _ _ _ _ q=>add_int q
def mN:Nu X (binaryOp .Sub) (P8 λi j=> .int<|i-j):=K3 λ_ _ _ _ _ _ _ q=>sub_int q
def cI:Nu X (binaryOp .Mult) (rI PV λi j=> .int<|i*j):=opI λ_ _ _ _ _ _ _ hc q=>mul_int q hc.ok
def aR:Nu X (binaryOp .FloorDiv) (rI CDiv λi j=> .int<|i/j):=opI λi j _ _ _ _ _ hc q=>by
 let h1:(0:Int)<j:=hc.1;let h2:j<1073741824:=hc.2;exact floordiv_int () (by rw[Vr i ()];exact q)<|.inl (PyProof.noPylong_small ())
def aT:Nu X (binaryOp .Mod) (rI (λ_ j=>0<j) λi j=> .int<|i%j):=opI λi j _ _ _ _ _ hc q=>by
 let h1:(0:Int)<j:=hc;exact mod_int' ()<|by rw[Int.fmod_eq_emod_of_nonneg i ()];exact q
def io:Nu X (binaryOp .Pow) (rI CPow λi j=> .int<|i^j.toNat):=opI λ_ _ _ _ _ _ _ hc q=>pow_int_small hc.1 hc.2.1 hc.2.2 q
def sG:Nu X (binaryOp .BitAnd) (P8 λi j=> .int<|Builtin.bitAnd i j):=K3 λ_ _ _ _ _ _ _ q=>and_int q
def unI{f:Value->Sem Value}{g:Int->Int}
  (rule:∀(i:Int)(t:Tok)(s:RD)(Q:RP)(E:RP),Q (.int (g i) s.toks) {s with toks:=s.toks+1}->Wq X (f<|.int i t) Q E s):
  UnR X f (rU λi=> .int<|g i):=by
 intro B s W H x v Q I z h;let{i,rfl,q}:=h;let{t,rfl}:=z;exact rule i t s _ _ {.int<|g i,H,I.tok _,{_,M},q}
def B0:UnR X (unaryOp .USub) (rU λi=> .int<|-i):=unI λ_ _ _ _ _ q=>neg_int q
end
noncomputable def scal:V->V->Bool
 | .non,.non=>true| .non,.int _=>true| .int _,.non=>true| .non,.bl _=>true| .bl _,.non=>true| .non,.str _=>true| .str _,.non=>true
 | .int _,.int _=>true| .bl _,.bl _=>true| .str _,.str _=>true| .byt _,.byt _=>true
 | .int _,.str _=>true| .str _,.int _=>true| .bl _,.str _=>true| .str _,.bl _=>true
 |_,_=>false
def rEq:R2:=λx y H Q=>scal x y=true/\Q (.bl<|decide (x=y)) H
def rNe:R2:=λx y H Q=>scal x y=true/\Q (.bl<|!decide (x=y)) H
def DE{i j:Int}:decide (V.int i=V.int j)=(i==j):=by
 rw[XN];simp
def G7{i j:Bool}:decide (V.bl i=V.bl j)=(i==j):=by
 rw[XN];simp
def DD{i j:Str}:decide (V.str i=V.str j)=(i==j):=by
 rw[XN];simp
def DF{i j:Array UInt8}:decide (V.byt i=V.byt j)=(i.toList==j.toList):=by
 rw[XN];cases i;cases j;simp
section
variable{a b:Expr}{tb tc:TE}
def bp{Q:VK}{k k':Bool}(I:Inv X B W H s)(q:Q (.bl k) H)(e:k=k'):EP X B W Q (.bool k') s:=by
 subst e;exact{.bl k,H,I,M,q}
def cY:Nu X (compareOp .Eq) rEq:=by
 intro B s W H x y v u Q I G z h;let{hs,q}:=h;cases x with
 |non=>
  cases G;cases y with
  |non=>cases z;exact PySem.EqNone.eq_none_none<|bp I q (by simp)
  |bl j=>cases z;exact PySem.EqNone.eq_none_bool<|bp I q (by simp)
  |int j=>let{t',rfl}:=z;exact PySem.EqNone.eq_none_int<|bp I q (by simp)
  |str j=>let{t',rfl}:=z;exact PySem.EqNone.eq_none_str<|bp I q (by simp)
  |_=>exact VE (show false=true from hs) Qc
 |bl i=>
  cases G;cases y with
  |non=>cases z;exact PySem.EqNone.eq_bool_none<|bp I q (by simp)
  |bl j=>cases z;exact eq_bool<|bp I q G7
  |str j=>let{t',rfl}:=z;exact PySem.EqMixed.eq_bool_str<|bp I q (by simp)
  |_=>exact VE (show false=true from hs) Qc
 |int i=>
  let{t,rfl}:=G;cases y with
  |non=>cases z;exact PySem.EqNone.eq_int_none<|bp I q (by simp)
  |int j=>let{t',rfl}:=z;exact eq_int<|bp I q DE
  |str j=>let{t',rfl}:=z;exact PySem.EqMixed.eq_int_str<|bp I q (by simp)
  |_=>exact VE (show false=true from hs) Qc
 |str i=>
  let{t,rfl}:=G;cases y with
  |non=>cases z;exact PySem.EqNone.eq_str_none<|bp I q (by simp)
  |bl j=>cases z;exact PySem.EqMixed.eq_str_bool<|bp I q (by simp)
  |int j=>let{t',rfl}:=z;exact PySem.EqMixed.eq_str_int<|bp I q (by simp)
  |str j=>let{t',rfl}:=z;exact eq_str<|bp I q DD
  |_=>exact VE (show false=true from hs) Qc
 |byt i=>
  let{t,rfl}:=G;cases y with
  |byt j=>let{t',rfl}:=z;exact PySem.W.eq_bytes<|bp I q DF
  |_=>exact VE (show false=true from hs) Qc
 |_=>cases y<;>exact VE (show false=true from hs) Qc
def Mv:Nu X (compareOp .NotEq) rNe:=by
 intro B s W H x y v u Q I G z h;let{hs,q}:=h;cases x with
 |non=>
  cases G;cases y with
  |non=>cases z;exact PySem.EqNone.ne_none_none<|bp I q (by simp)
  |bl j=>cases z;exact PySem.EqNone.ne_none_bool<|bp I q (by simp)
  |int j=>let{t',rfl}:=z;exact PySem.EqNone.ne_none_int<|bp I q (by simp)
  |str j=>let{t',rfl}:=z;exact PySem.EqNone.ne_none_str<|bp I q (by simp)
  |_=>exact VE (show false=true from hs) Qc
 |bl i=>
  cases G;cases y with
  |non=>cases z;exact PySem.EqNone.ne_bool_none<|bp I q (by simp)
  |bl j=>cases z;exact ne_bool<|bp I q (VS not G7)
  |str j=>let{t',rfl}:=z;exact PySem.EqMixed.ne_bool_str<|bp I q (by simp)
  |_=>exact VE (show false=true from hs) Qc
 |int i=>
  let{t,rfl}:=G;cases y with
  |non=>cases z;exact PySem.EqNone.ne_int_none<|bp I q (by simp)
  |int j=>let{t',rfl}:=z;exact ne_int<|bp I q (VS not DE)
  |str j=>let{t',rfl}:=z;exact PySem.EqMixed.ne_int_str<|bp I q (by simp)
  |_=>exact VE (show false=true from hs) Qc
 |str i=>
  let{t,rfl}:=G;cases y with
  |non=>cases z;exact PySem.EqNone.ne_str_none<|bp I q (by simp)
  |bl j=>cases z;exact PySem.EqMixed.ne_str_bool<|bp I q (by simp)
  |int j=>let{t',rfl}:=z;exact PySem.EqMixed.ne_str_int<|bp I q (by simp)
  |str j=>let{t',rfl}:=z;exact ne_str<|bp I q (VS not DD)
  |_=>exact VE (show false=true from hs) Qc
 |byt i=>
  let{t,rfl}:=G;cases y with
  |byt j=>let{t',rfl}:=z;exact PySem.W.ne_bytes<|bp I q (VS not DF)
  |_=>exact VE (show false=true from hs) Qc
 |_=>cases y<;>exact VE (show false=true from hs) Qc
def eI:Nu X (compareOp .Lt) (P8 λi j=> .bl<|decide (i<j)):=IH λ_ _ _ _ _ _ _ q=>lt_int q
def qP:Nu X (compareOp .LtE) (P8 λi j=> .bl<|decide (i<=j)):=IH λ_ _ _ _ _ _ _ q=>le_int q
def F9:Nu X (compareOp .Gt) (P8 λi j=> .bl<|decide (j<i)):=IH λ_ _ _ _ _ _ _ q=>gt_int q
def yg:Nu X (compareOp .GtE) (P8 λi j=> .bl<|decide (j<=i)):=IH λ_ _ _ _ _ _ _ q=>ge_int q
def gA:Nu X (compareOp .Is) (λx y H Q=>y= .non/\Q (.bl<|decide (x= .non)) H):=by
 intro B s W H x y v u Q I z G h;let{rfl,q}:=h;cases G;refine is_none_gen<|bp I q ?_;cases x<;>first
  |(cases z;rfl)
  |(let{t,rfl}:=z;rfl)
def dW:Nu X (compareOp .IsNot) (λx y H Q=>y= .non/\Q (.bl<|!decide (x= .non)) H):=by
 intro B s W H x y v u Q I z G h;let{rfl,q}:=h;cases G;refine isnot_none_gen<|bp I q ?_;cases x<;>first
  |(cases z;rfl)
  |(let{t,rfl}:=z;rfl)
def aC(b:Expr)(h:op≠ .In:=by decide)(h2:op≠ .NotIn:=by decide):behindInMarks op b=false:=by
 let z:(op==CmpOp.In)=false:=by cases op<;>first|rfl|exact VE M h
 let e2:(op==CmpOp.NotIn)=false:=by cases op<;>first|rfl|exact VE M h2
 cases b<;>simp[behindInMarks,z,e2]
def bZ(z:Nu X (compareOp op) r)(ha:PE X a ta)(hb:PE X b tb)(G:behindInMarks op b=false):PE X (.Compare a [op] [b] pos) (tOp r ta tb):=by
 intro B s W H Q I h;exact wpAny_Compare1 (LG ha hb I h λv u O x y H2 U Y Z q=>z B O W H2 x y v u Q U Y Z q) G
inductive Kw(Q:Si)(x:V)(H':Hp):Prop
 |mk(k:_)(_:x= .bl k)(_:Q k H')
def JM(t:TE):TT:=λW H Q=>t W H λx H'=>Kw Q x H'
def aA(G:Nu X (compareOp op) r)(ha:PE X a ta)(hb:PE X b tb)(O:behindInMarks op b=false):PT X (.Compare a [op] [b] pos) (JM<|tOp r ta tb):=by
 intro B s W H Q I h;refine wpAny_isTrue_Compare1 (N4 (ha B s W H _ I h) λv s1 ⟨x,H1,U,r1,Y⟩=>N4 (hb B s1 W H1 _ U Y) λu Z ⟨y,H2,I2,r2,q2⟩=>
  N4 (G B Z W H2 x y v u _ I2 r1 r2 q2) λc s3 ⟨z,H3,I3,r3,k,e,q3⟩=>?_) O
 subst e;cases r3;exact VW ⟨H3,I3,q3⟩
def FB(r r':R2)(ta tb tc:TE):TE:=λW H Q=>ta W H λx H1=>tb W H1 λy H2=>r x y H2 λz H3=>∃k,z= .bl k/\
 (if k=true then tc W H3 λw' H4=>r' y w' H4 Q else Q (.bl false) H3)
def FZ{G:CmpOp}{U:R2}(ho:Nu X (compareOp op) r)(O:Nu X (compareOp G) U)(ha:PE X a ta)(hb:PE X b tb)(hc:PE X c tc)
  (hm:lastMarks [op,G] [b,c]=false:=by with_unfolding_all rfl):PE X (.Compare a [op,G] [b,c] pos) (FB r U ta tb tc):=by
 intro B s W H Q I h;refine Compare_chain (N4 (ha B s W H _ I h) λv s1 ⟨x,H1,I1,r1,q1⟩=>chain_link (N4 (hb B s1 W H1 _ I1 q1) λu s2 ⟨y,H2,I2,Y,q2⟩=>
  N4 (ho B s2 W H2 x y v u _ I2 r1 Y q2) λd s3 ⟨z,H3,Z,r3,k,e,q3⟩=>?_)) hm
 subst e;cases r3;refine VW ?_;cases k with
 |false=>exact ite_ff {.bl false,H3,Z,M,q3}
 |true=>exact ite_tt<|chain_last (N4 (hc B s3 W H3 _ Z q3) λw' s4 ⟨z',H4,I4,r4,q4⟩=>O B s4 W H4 y z' u w' Q I4 Y r4 q4)
def FV{G:CmpOp}{Y:R2}(ho:Nu X (compareOp op) r)(O:Nu X (compareOp G) Y)(ha:PE X a ta)(hb:PE X b tb)(hc:PE X c tc)
  (hm:lastMarks [op,G] [b,c]=false:=by with_unfolding_all rfl):PT X (.Compare a [op,G] [b,c] pos) (JM<|FB r Y ta tb tc):=by
 intro B s W H Q I h;refine isTrue_chain (N4 (ha B s W H _ I h) λv s1 ⟨x,H1,I1,r1,q1⟩=>test_link (N4 (hb B s1 W H1 _ I1 q1) λu s2 ⟨y,H2,I2,Z,q2⟩=>
  N4 (ho B s2 W H2 x y v u _ I2 r1 Z q2) λd s3 ⟨z,H3,I3,r3,k,e,q3⟩=>?_)) hm
 subst e;cases r3;refine VW ?_;cases k with
 |false=>
  let{k',e',q'}:=q3;cases e';exact ite_ff ⟨H3,I3,q'⟩
 |true=>
  refine ite_tt<|test_last (N4 (hc B s3 W H3 _ I3 q3) λw' s4 ⟨z',H4,I4,r4,q4⟩=>N4 (O B s4 W H4 y z' u w' _ I4 Z r4 q4) λd' s5 U=>?_);let{z2,H5,I5,r5,k2,e2,q5}:=U;subst e2;cases r5;exact VW ⟨H5,I5,q5⟩
def vU:(sizeLine:Nat)<2^63:=by rw[sizeLine_eq];decide
def tx{x:V}(r:DJ [x] us):∃u,us=[u]/\RelV x u:=by
 cases r with
 |cons r1 z=>cases z;exact{_,M,r1}
def tw{x:V}(r:DJ [x,y] us):∃u w',us=[u,w']/\RelV x u/\RelV y w':=by
 cases r with
 |cons r1 z=>
  cases z with
  |cons G I=>cases I;exact{_,_,M,r1,G}
def oC(hc:X.calm=true):i6 X (.builtin "max") (λxs H Q=>∃i j,xs=[.int i,.int j]/\Q (.int<|if j>i then j else i) H):=by
 intro B s W H xs us Q I r h;let{i,j,rfl,q}:=h;let{u,w',rfl,{t,rfl},{t',rfl}}:=tw r;refine max_two_ints (I.ok.hd hc) λh' tk k=>{_,H,I.kept k,?_,q};by_cases z:j>i
 .rw[VA z,VA z];exact{_,M}
 .rw[Vz z,Vz z];exact{_,M}
def oB(hc:X.calm=true):i6 X (.builtin "min") (λxs H Q=>∃i j,xs=[.int i,.int j]/\Q (.int<|if j<i then j else i) H):=by
 intro B s W H xs us Q I r h;let{i,j,rfl,q}:=h;let{u,w',rfl,{t,rfl},{t',rfl}}:=tw r;refine min_two_ints (I.ok.hd hc) λh' tk k=>{_,H,I.kept k,?_,q};by_cases z:j<i
 .rw[VA z,VA z];exact{_,M}
 .rw[Vz z,Vz z];exact{_,M}
end
structure OW(h:Heap)(x dx C:RC)(mA:RU):Prop where
 obj:h.get? x=some (PySem.W.instObj C dx)
 ns:h.Ns1 dx mA
 ne:dx≠x
set_option tactic.hygienic true in
def EB{mA:RU}(n:h.Ns1 dx mA):∃I,h.get? dx=some I/\∀name,PySem.W.lookIn name I=some (mA name):=by
 let{o,es,ep,O,hd,hk,_,U}:=n;refine{o,O,λname=>?_};let e:=U name;unfold nsFind findBy at e;rw[<-Array.find?_toList]at e;unfold PySem.W.lookIn;rw[hd];dsimp only;split
 .rename_i y q
  rw[q]at e;exact VS some e
 .rename_i q
  rw[q]at e;let a:es.toList.any (·.refKey)=false:=by
   rw[List.any_eq_false];intro y hy;let{z,t,G}:=hk y (Array.mem_toList_iff.mp hy);simp[DictEntry.refKey,G]
  let a':¬es.toList.any (·.refKey)=true:=by rw[a];exact Qc
  rw[Vz a'];exact VS some e
def OW.look{x:RC}{mA:RU}(I:OW h x dx C mA):∃z,PySem.W.InstAt h x (PySem.W.instObj C dx) C (some z)/\∀name,PySem.W.lookIn name z=some (mA name):=
 let⟨z,ho,hl⟩:=EB I.ns
 {z,⟨I.obj,M,M,ho⟩,hl}
section
variable{x:RC}{mA:RU}{v:RI}
def Jf{z:Bool}(X:K.In s.heap)(I:OW s.heap x dx C mA)(O:PySem.W.plainGet K C name=true)(U:PySem.W.hasDictIn K C=true)
  (ha:PySem.W.findIn K (.ref C) name=some none) (Y:mA name=some v) (G:PySem.W.handedIn v=true) (h:Q v {s with toks:=s.toks+1}):
  wpAny (model prog w) A (getAttr (.ref x) name z) Q E s:=by
 let{Z,J,hl}:=I.look;exact PySem.W.get_value X J (V0 O).1 (PySem.W.findObj_own U ha M<|by rw[hl,Y]) G h
def GR{pl:Sem Bool}{Q:Value×List Value->Shared->Prop}(X:K.In s.heap)(I:OW s.heap x dx C mA)(z:PySem.W.plainGet K C name=true)
  (hf:PySem.W.findIn K (.ref C) name=some (some<|.ref f)) (G:PySem.W.isFn K (.ref f)=true) (O:mA name=none) (h:Q (.ref f,[.ref x]) s):
  wpAny (model prog w) A (getMethod (.ref x) name pl) Q E s:=by
 let{U,J,hl}:=I.look;exact PySem.W.method_fn X J (V0 z).1 (V0 z).2 hf (VN.mp G) (by show(PySem.W.lookIn name U).map (·.isSome)=some false;rw[hl,O];rfl) h
def Im{ns:RS}{Q:Sh}(X:K.In s.heap)(I:OW s.heap x dx C mA)
  (hs:PySem.W.findIn K (.ref C) Rk=some (some<|.builtin G')) (hp:PySem.W.plainOver K C=true) (ht:PySem.W.takerIn K C name=some none) (hh:PySem.W.hasDictIn K C=true)
  (hw:PySem.Within mA ns) (hsz:ns.length<=sizeLine)
  (h:∀h',OW h' x dx C (λy=>if y=name then some v else mA y)->Heap.SameBut dx s.heap h'->Q Unit.unit {s with heap:=h',toks:=s.toks+2}):
  wpAny (model prog w) A (setAttr (.ref x) name v) Q E s:=by
 let{od,J,hl}:=I.look;refine PySem.W.set_plain X J hs<|PySem.W.osa_open (s:={s with toks:=s.toks+1}) (r:=none) X J hp ht λb=>?_;let{cd,hc,O}:=PySem.W.any_some hh;let hx:s.heap.get? x=some {.ref C,some dx,.plain, #[]}:=I.obj;refine VG<|VQ (VG<|VG<|wpAny_loadPart hx<|VG<|PySem.W.Looks.here (s:={s with toks:=s.toks+1}) (PySem.W.looks_clsIn X hc) ?_);rw[O];refine VQ (a:=some dx)<|VG (VQ<|VG ?_);refine wpAny_nsSet1 (s:={s with toks:=s.toks+1}) I.ns λh' z G=>?_;let{oD,a0,a1,U,Y,Z}:=z.count (PySem.Within.cons name v hw);refine VG<|wpAny_lookBehind U (by rw[Y];exact pastItsLine_dict<|Qu Z<|by rw[Qr];lia) ?_;exact VQ<|h _ {(G.2 _<|Ne.symm I.ne).trans I.obj,z,I.ne} G
def Gw{vs:RJ}(X:K.In s.heap)(z:PySem.W.makesIn K C=true)
  (hi:PySem.W.findIn K (.ref C) nz=some (some<|.ref f)) (hf:PySem.W.typeIn K (.ref f)=some (.type "function"))
  (h:codeAny (model prog w) (A.under<|.builtin wp {.ref C::vs,kw}) (.call (.ref f) {.ref (s.heap.objs.size+1)::vs,kw}) (PySem.W.InitBack (s.heap.objs.size+1) R)
   {s with heap:=(s.heap.push PySem.W.emptyDict).push (PySem.W.instObj C s.heap.objs.size)}):
  codeAny (model prog w) A (.call (.ref C) ⟨vs,kw⟩) R s:=by
 let{G,g,d,t,os}:=s;exact PySem.W.make_core (PySem.W.makes_of X z) (PySem.W.looks_findIn X hi) (λself=>PySem.W.bind_fn X self hf) (.inl M) h
end
def bD(f:Str)(v:V):List (Str×V)->List (Str×V)
 | []=> [(f,v)]
 |(g,x)::r=>if g=f then(g,v)::r else(g,x)::bD f v r
def bj(f g:Str)(v:V):∀fs:List (Str×V),(bD f v fs).lookup g=if g=f then some v else fs.lookup g
 | []=>by
  show List.lookup g [(f,v)]=_;by_cases h:g=f
  .let hb:(g==f)=true:=VN.mpr h;simp only[List.lookup,hb,VA h]
  .let hb:(g==f)=false:=VR.mpr h;simp only[List.lookup,hb,Vz h]
 |(k,x)::r=>by
  let z:=bj f g v r;rw[show bD f v ((k,x)::r)=(if k=f then(k,v)::r else(k,x)::bD f v r) from rfl];by_cases hk:k=f
  .rw[VA hk];by_cases h:g=k
   .let hb:(g==k)=true:=VN.mpr h;simp only[List.lookup,hb,VA (h.trans hk)]
   .let hb:(g==k)=false:=VR.mpr h;simp only[List.lookup,hb,Vz (λe:g=f=>h<|e.trans hk.symm)]
  .rw[Vz hk];by_cases h:g=k
   .let hb:(g==k)=true:=VN.mpr h;simp only[List.lookup,hb,Vz (λe:g=f=>hk<|h.symm.trans e)]
   .let hb:(g==k)=false:=VR.mpr h;simp only[List.lookup,hb];exact z
def sS(f:Str)(v:V):∀fs:List (Str×V),f∈(bD f v fs).map (·.1)/\∀g,g∈fs.map (·.1)->g∈(bD f v fs).map (·.1)
 | []=>{by simp[bD],λg h=>by simp at h}
 |(k,x)::r=>by
  let{z,G}:=sS f v r;rw[show bD f v ((k,x)::r)=(if k=f then(k,v)::r else(k,x)::bD f v r) from rfl];by_cases hk:k=f
  .rw[VA hk];subst hk;exact{by simp,λg h=>by simpa using h}
  .rw[Vz hk];refine{?_,λg h=>?_}
   .rw[Qv];exact Qd _ z
   .rw[Qv]at h⊢;rcases Qj.mp h with e|e
    .exact Qj.mpr<|.inl e
    .exact Qd _<|G g e
def tH(f:Str)(v:V):∀fs:List (Str×V),(bD f v fs).length<=fs.length+1
 | []=>by simp[bD]
 |(k,x)::r=>by
  let z:=tH f v r;rw[show bD f v ((k,x)::r)=(if k=f then(k,v)::r else(k,x)::bD f v r) from rfl];by_cases hk:k=f
  .rw[VA hk,Qr,Qr];lia
  .rw[Vz hk,Qr,Qr];lia
def Nd.some_of(r:Nd (some v) o):∃u,o=some u/\RelV v u:=by
 cases o with
 |none=>exact(show False from r).elim
 |some u=>exact⟨u,M,r⟩
def Nd.none_of(r:Nd none o):o=none:=by
 cases o with
 |none=>rfl
 |some u=>exact(show False from r).elim
def EK(r:RelV v u):PySem.W.handedIn u=true:=by
 cases v with
 |non=>cases (show u=Value.none from r);rfl
 |bl b=>cases (show u=Value.bool b from r);rfl
 |int i=>let{t,e}:=(show ∃t,u=Value.int i t from r);cases e;rfl
 |str x=>let{t,e}:=(show ∃t,u=Value.str x t from r);cases e;rfl
 |byt b=>let{t,e}:=(show ∃t,u=Value.bytes b t from r);cases e;rfl
 |flt b=>let{t,e}:=(show ∃t,u=Value.float b t from r);cases e;rfl
 |ref a=>cases (show u=Value.ref a from r);rfl
 |ty n=>cases (show u=Value.type n from r);rfl
section
variable{fs fs':RW}
def NV(hok:NY P w H h)(e:H a=some (.ins C dx fs)):∃mA,OW h a dx C mA/\(∀f,Nd (fs.lookup f) (mA f))/\PySem.Within mA (fs.map (·.1))/\fs.length<=1000/\H dx=some (.own a):=by
 let{d,z,ne,ob,mA,n,r,q}:=(show N0 P w H h a (.ins C dx fs) from hok a _ e);exact{mA,⟨ob,n,ne⟩,r,q,z,d}
end
structure O9(K:Wp)(C:RC):Prop where
 pg:PySem.W.plainGet K C Str.empty=true
 hd:PySem.W.hasDictIn K C=true
 po:PySem.W.plainOver K C=true
 sa:PySem.W.findIn K (.ref C) Rk=some (some<|.builtin G')
def O9.get(c:O9 K C)(f:Str):PySem.W.plainGet K C f=true:=c.pg
def Bt(K:Wp)(C:RC)(f:Str):Prop:=PySem.W.findIn K (.ref C) f=some none
def Bt.taker{f:Str}(n:Bt K C f):PySem.W.takerIn K C f=some none:=by
 unfold PySem.W.takerIn;rw[show PySem.W.findIn K (.ref C) f=some none from n];rfl
structure bN(K:Wp)(C:RC)(m:Str)(f:RC):Prop where
 at_:PySem.W.findIn K (.ref C) m=some (some<|.ref f)
 fn:PySem.W.isFn K (.ref f)=true
 kp:PySem.W.keepIn K (.ref f)=true
section
variable{fs:RW}{f:Str}
def wg{b:Bool}(I:Inv X B W H s)(e:H a=some (.ins C dx fs))(c:O9 X.K C)(n:Bt X.K C f)(l:fs.lookup f=some v)
  (h:∀u s',Inv X B W H s'->RelV v u->Q u s'):wpAny (model X.prog X.w) A (getAttr (.ref a) f b) Q E s:=by
 let{mA,O,r,_,_,_}:=NV I.hok e;let{u,hu,z}:=Nd.some_of (v:=v) (o:=mA f) (by rw[<-l];exact r f);exact Jf I.kIn O (c.get f) c.hd n hu (EK z)<|h u _ (I.tok _) z
def qe{g:RC}{pl:Sem Bool}{Q:Value×List Value->Shared->Prop}(I:Inv X B W H s)(e:H a=some (.ins C dx fs))(c:O9 X.K C)(k:bN X.K C m g)(l:fs.lookup m=none)
  (h:Q (.ref g,[.ref a]) s):wpAny (model X.prog X.w) A (getMethod (.ref a) m pl) Q E s:=by
 let{mA,O,r,_,_,_}:=NV I.hok e;let z:mA m=none:=Nd.none_of (by rw[<-l];exact r m);exact GR I.kIn O (c.get m) k.at_ k.fn z h
def uU{Q:Sh}(I:Inv X B W H s)(e:H a=some (.ins C dx fs))(c:O9 X.K C)(n:Bt X.K C f)(hl:fs.length<1000)(Y:RelV y u)
  (h:∀s',Inv X B W (upd H a<|.ins C dx<|bD f y fs) s'->Q Unit.unit s'):wpAny (model X.prog X.w) A (setAttr (.ref a) f u) Q E s:=by
 let{mA,O,r,wi,_,U}:=NV I.hok e;let hz:(fs.map (·.1)).length<=sizeLine:=by rw[Q0,sizeLine_eq];lia
 refine Im I.kIn O c.sa c.po n.taker c.hd wi hz λh' G Z=>h _ ?_;let hd:∃o,h'.get? dx=some o:=let⟨o,_,_,e',_⟩:=G.ns;⟨o,e'⟩
 refine I.write (x:=a) (e:=dx) (by rw[e];exact VU) (.inr U) (λb q hb z=>(Z.2 b hb).trans z) hd ?_;refine{by rwa[ae O.ne],?_,O.ne,G.obj,_,G.ns,λg=>?_,λg hg=>?_}
 .have:=tH f y fs;lia
 .show Nd ((bD f y fs).lookup g) (if g=f then some u else mA g);rw[bj];by_cases q:g=f
  .rwa[VA q,VA q]
  .rw[Vz q,Vz q];exact r g
 .by_cases q:g=f
  .rw[q];exact(sS f y fs).1
  .refine(sS f y fs).2 g<|wi g λz=>hg ?_;show(if g=f then some u else mA g)=none;rwa[Vz q]
def Inv.made(I:Inv X B W H s):Inv X B W (upd (upd H s.heap.objs.size<|.own<|s.heap.objs.size+1) (s.heap.objs.size+1)<|.ins C s.heap.objs.size [])
  {s with heap:=(s.heap.push PySem.W.emptyDict).push (PySem.W.instObj C s.heap.objs.size)}:=by
 let z:(s.heap.push PySem.W.emptyDict).get? s.heap.objs.size=some PySem.W.emptyDict:=VL s.heap M;let e2:((s.heap.push PySem.W.emptyDict).push<|PySem.W.instObj C s.heap.objs.size).get? (s.heap.objs.size+1)=some (PySem.W.instObj C s.heap.objs.size):=by
  have:=VL (s.heap.push PySem.W.emptyDict) (o:=PySem.W.instObj C s.heap.objs.size) M;rwa [Heap.size_push]at this
 let G:(s.heap.push PySem.W.emptyDict).Ns s.heap.objs.size (λ_=>none):={PySem.W.emptyDict, #[],_,z,M,(λe he=>VE he<|by simp),λ_=>M};let O:=I.laid (a:=s.heap.objs.size) (o:= .own<|s.heap.objs.size+1) (h':=s.heap.push PySem.W.emptyDict) (t':=s.toks) (λb u q=>VD _ q) (Q4 _) {_,z};refine O.laid (a:=s.heap.objs.size+1) (o:= .ins C s.heap.objs.size []) (t':=s.toks) (λb u q=>VD _ q) (Z0<|Heap.size_push _ _) ?_;let ne:s.heap.objs.size≠s.heap.objs.size+1:=QM (ZI _);refine{by rw[ae ne,ai],Qf _,ne,e2,λ_=>none,(Heap.Ns1.of_empty G).at λo q=>VD _ q,λ_=>VU,λy hy=>VE M hy}
def Jy{env:Env}{f:Str}(hb:attributeBase e f env (eval e env)=eval e env)
  (h:wpAny (model prog w) A (eval e env) (λo s₁=>wpAny (model prog w) A (getAttr o f true) Q E s₁) E s):wpAny (model prog w) A (eval (.Attribute e f pos) env) Q E s:=
 Attribute_any_ h (by rw[arm_eval_Attribute,hb])
end
inductive Mb(K:Wp)(f:Str)(Q:VK)(x:V)(H1:Hp):Prop
 |mk(a C dx fs v:_)(_:x= .ref a)(_:H1 a=some (.ins C dx fs))(_:O9 K C)(_:Bt K C f)(_:fs.lookup f=some v)(_:Q v H1)
def tFld(K:Wp)(ta:TE)(f:Str):TE:=λW H Q=>ta W H λx H1=>Mb K f Q x H1
inductive Mi(K:Wp)(f:Str)(D:rZ)(W:St)(y x:V)(H2:Hp):Prop
 |mk(a C dx fs:_)(_:x= .ref a)(_:H2 a=some (.ins C dx fs))(_:O9 K C)(_:Bt K C f)(_:fs.length<1000)(_:D.nx W (upd H2 a<|.ins C dx<|bD f y fs))
def sFld(K:Wp)(ta tv:TE)(f:Str):TS:=λD W H=>tv W H λy H1=>ta W H1 λx H2=>Mi K f D W y x H2
def LR(X:Cx)(op:Operator)(rd:V->V->Hp->VK->Prop):Prop:=
 ∀(B:RM)(s:RD)(W:St)(H:Hp)(x y:V)(u v:RI)(Q:VK),Inv X B W H s->RelV x u->RelV y v->rd x y H Q->Wq X (inplaceOp op u v) (EP X B W Q) X.xe s
inductive FN(K:Wp)(tv:TE)(rd:V->V->Hp->VK->Prop)(f:Str)(D:rZ)(W:St)(x:V)(H1:Hp):Prop
 |mk(a C dx fs v:_)(_:x= .ref a)(_:H1 a=some (.ins C dx fs))(_:O9 K C)(_:Bt K C f)(_:fs.lookup f=some v)(_:tv W H1 λy H2=>rd v y H2 λz H3=>∃dx' fs',H3 a=some (.ins C dx' fs')/\fs'.length<1000/\D.nx W (upd H3 a<|.ins C dx'<|bD f z fs'))
def Io(K:Wp)(ta tv:TE)(rd:V->V->Hp->VK->Prop)(f:Str):TS:=λD W H=>ta W H λx H1=>FN K tv rd f D W x H1
section
variable{o value:Expr}{f:Str}{tpos:Pos}{tv:TE}
def aq(he:PE X e ta)(hb:attributeBase e f X.env (eval e X.env)=eval e X.env):PE X (.Attribute e f pos) (tFld X.K ta f):=by
 intro B s W H Q I h;refine Jy hb<|N4 (he B s W H _ I h) λu s1 z=>?_;let{x,H1,G,O,a,C,dx,fs,v,ex,U,c,n,l,q}:=z;subst ex;obtain rfl:u=Value.ref a:=O;exact wg G U c n l λu' s2 Y Z=>⟨v,H1,Y,Z,q⟩
def ba(ha:PE X o ta)(G:PE X value tv)(hs:swapsWith value (some<|.Attribute o f pos') pos.line X.env=pure false):PS X (.Assign [.Attribute o f pos'] value pos) (sFld X.K ta tv f):=by
 intro B s W H D I h;refine plainObj_wpAny_Assign_Attribute (N4 (G B s W H _ I h) λu s1 ⟨y,H1,O,U,q⟩=>N4 (ha B s1 W H1 _ O q) λY s2 z=>?_) hs;let{x,H2,Z,rx,a,C,dx,fs,ex,ea,c,n,l,q2}:=z;subst ex;obtain rfl:Y=Value.ref a:=rx;exact uU Z ea c n l U λs3 I3=>{W,_,I3,q2}
def gX{op:Operator}(ha:PE X o ta)(Y:PE X value tv)(O:LR X op rd):PS X (.AugAssign (.Attribute o f tpos) op value pos) (Io X.K ta tv rd f):=by
 intro B s W H D I h;refine wpAny_AugAssign_AttributeAny<|N4 (ha B s W H _ I h) λZ s1 G=>?_;let{x,H1,I1,rx,a,C,dx,fs,v,ex,ea,c,n,l,q}:=G;subst ex;obtain rfl:Z=Value.ref a:=rx;refine wg I1 ea c n l λu s2 I2 ru=>N4 (Y B s2 W H1 _ I2 q) λw3 s3 ⟨y,H2,I3,ry,q3⟩=>N4 (O B s3 W H2 v y u w3 _ I3 ru ry q3) λw4 s4 G=>?_;let{z,H3,I4,rz,a0,fs',U,l',q4}:=G;exact uU I4 U c n l' rz λs5 I5=>{W,_,I5,q4}
inductive rAdd(x y:V)(H:Hp)(Q:VK):Prop
 |mk(i j:_)(_:x= .int i)(_:y= .int j)(_:Q (.int<|i+j) H)
inductive rSub(x y:V)(H:Hp)(Q:VK):Prop
 |mk(i j:_)(_:x= .int i)(_:y= .int j)(_:Q (.int<|i-j) H)
def we:LR X .Add rAdd:=by
 rintro B s W H x y u v Q I z G ⟨i,j,rfl,rfl,q⟩;let{t,rfl}:=(show ∃t,u=Value.int i t from z);let{t',rfl}:=(show ∃t',v=Value.int j t' from G);exact PyProof.Rows.iadd_int {.int<|i+j,H,I.tok _,{_,M},q}
def Lq:LR X .Sub rSub:=by
 rintro B s W H x y u v Q I z G ⟨i,j,rfl,rfl,q⟩;let{t,rfl}:=(show ∃t,u=Value.int i t from z);let{t',rfl}:=(show ∃t',v=Value.int j t' from G);exact PyProof.Rows.isub_int {.int<|i-j,H,I.tok _,{_,M},q}
end
section
variable{c:RI}{b:Bool}
inductive NN(K:Wp)(H:Hp):V->Value->Prop where
 |non:NN K H .non (.type "NoneType")
 |bl(x:Bool):NN K H (.bl x) (.type Rb)
 |int(i:Int):NN K H (.int i) (.type Po)
 |str(x:Str):NN K H (.str x) (.type "str")
 |flt(x:UInt64):NN K H (.flt x) (.type "float")
 |lst{a:RC}{xs:RG}(e:H a=some (.lst xs)):NN K H (.ref a) (.type gs)
 |frz{a:RC}{o:Obj}{xs:RG}(e:H a=some (.frz o<|.lst xs)):NN K H (.ref a) (.type gs)
 |tup{a:RC}{xs:RG}(e:H a=some (.tup xs)):NN K H (.ref a) (.type nI)
 |dK{a:RC}{kvs:RV}(e:H a=some (.dK kvs)):NN K H (.ref a) (.type zm)
 |dT{a:RC}{kvs:R9}(e:H a=some (.dT kvs)):NN K H (.ref a) (.type zm)
 |ins{a C dx:RC}{fs:RW}(e:H a=some (.ins C dx fs))(cl:O9 K C)(ha:PySem.W.findIn K (.ref C) "__class__"=some (some<|.builtin oY))
   (hn:PySem.W.specialIn K (.builtin oY) "__get__"=some (some<|.builtin J')) (htk:PySem.W.takesIn K (.builtin oY)=some true)
   (hm:PySem.W.mroIn K C (.type "object")=some true):NN K H (.ref a) (.ref C)
def yt{x:V}{t:RI}(I:Inv X B W H s)(G:RelV x u)(ty:NN X.K H x t)(e:PySem.W.kitOne X.K t c=some b)(h:∀tk,Q (.bool b) {s with toks:=tk}):
  wpAny (model X.prog X.w) A (call (.builtin wy) [u,c]) Q E s:=by
 cases ty with
 |non=>cases (show u=Value.none from G);exact Z5 PySem.W.kitx_none I.kIn VU e (λz=>nomatch z) h
 |bl y=>cases (show u=Value.bool y from G);exact Z5 PySem.W.kitx_bool I.kIn VU e (λz=>nomatch z) h
 |int i=>let{t,q}:=(show ∃t,u=Value.int i t from G);cases q;exact Z5 PySem.W.kitx_int I.kIn VU e (λz=>nomatch z) h
 |str y=>let{t,q}:=(show ∃t,u=Value.str y t from G);cases q;exact Z5 PySem.W.kitx_str I.kIn VU e (λz=>nomatch z) h
 |flt y=>let{t,q}:=(show ∃t,u=Value.float y t from G);cases q;exact Z5 PySem.W.kitx_float I.kIn VU e (λz=>nomatch z) h
 | @lst a xs U=>
  cases (show u=Value.ref a from G);let{_,_,n,_,h1}:=(show N0 X.prog X.w H s.heap a (.lst xs) from I.hok a _ U);exact Z5 PySem.W.kitx_list I.kIn {_,h1,M} e (λz=>nomatch z) h
 | @frz a ob xs U=>
  cases (show u=Value.ref a from G);let{_,_,_,n,_,h1}:=(show N0 X.prog X.w H s.heap a (.frz ob<|.lst xs) from I.hok a _ U);exact Z5 PySem.W.kitx_list I.kIn {_,h1,M} e (λz=>nomatch z) h
 | @tup a xs U=>
  cases (show u=Value.ref a from G);let{_,_,_,p}:=(show N0 X.prog X.w H s.heap a (.tup xs) from I.hok a _ U);let{o,h1,h2,_}:=p;exact Z5 PySem.W.kitx_tuple I.kIn ⟨o,h1,h2⟩ e (λz=>nomatch z) h
 | @dK a kvs U=>
  cases (show u=Value.ref a from G);let{_,_,vs,_,p}:=(show N0 X.prog X.w H s.heap a (.dK kvs) from I.hok a _ U);let{o,es,ep,h1,h2,_}:=p;exact Z5 PySem.W.kitx_dict I.kIn ⟨o,h1,h2.1⟩ e (λz=>nomatch z) h
 | @dT a kvs U=>
  cases (show u=Value.ref a from G);let{_,_,xs,_,o,es,ep,h1,h2,_}:=(show N0 X.prog X.w H s.heap a (.dT kvs) from I.hok a _ U);exact Z5 PySem.W.kitx_dict I.kIn ⟨o,h1,h2.1⟩ e (λz=>nomatch z) h
 | @ins a C dx fs U cl ha Z Y hm=>
  cases (show u=Value.ref a from G);let{mA,O,_}:=NV I.hok U;let{od,J,_}:=O.look;exact Z5 (PySem.W.kitx_own (cl.get _) cl.hd ha Z Y hm) I.kIn J e (λz=>nomatch z) h
end
structure NH(k:Nat)(A:RT):Prop where
 hd:A.handled=none
 dp:A.depth+3*k+5<recursionLimit
 un:A.units+16*k+200<cLine
def NH.mono{k:Nat}(r:NH k A)(h:j<=k):NH j A:={r.hd,by have:=r.dp;lia,by have:=r.un;lia}
def NH.deeper{k:Nat}(r:NH (k+1) A)(env:Env):NH k (A.deeper env):=
 {r.hd,by have:=r.dp;show A.depth+1+3*k+5<_;lia,by have:=r.un;show A.units+3+16*k+200<_;lia}
def CA:(A.under<|.builtin wp {.ref C::us,kw}).depth=A.depth+1:=by
 first|rfl|simp[Around.under,Code.weight,Code.isCreation,Code.isGuard,Code.isCaller,Code.frames,Code.isFrame,guardIds]
def Cz:(A.under<|.builtin wp {.ref C::us,kw}).units=A.units+1:=by
 first|rfl|simp[Around.under,Code.cUnits,Code.frames,Code.isFrame]
def NH.make{k:Nat}(r:NH (k+1) A)(C:RC)(us:RJ)(kw:Sg):NH k (A.under<|.builtin wp {.ref C::us,kw}):=
 {r.hd,by have:=r.dp;rw[CA];lia,by have:=r.un;rw[Cz];lia}
def NH.depth{k:Nat}(r:NH k A):A.depth<recursionLimit:=by have:=r.dp;lia
def NH.units{k:Nat}(r:NH k A):A.units+64<cLine:=by have:=r.un;lia
def Ky:TA:=λ_ H Q=>Q [] H
def Mf(ta:TE)(tr:TA):TA:=λW H Q=>ta W H λx H1=>tr W H1 λxs H2=>Q (x::xs) H2
section
variable{t:TA}
def ag:PA X [] Ky:=λ_ _ _ _ H Q I h=>Calls.spliced_nil {[],H,I,.nil,h}
def ac(ha:PE X e te)(G:PA X es t)(hs:starEach (e::es) X.env=(false,eval e X.env)::starEach es X.env:=by rfl):PA X (e::es) (Mf te t):=by
 intro pos B s W H Q I h;rw[hs];show wpAny _ _ (spliced ((false,eval e X.env)::backTo pos (starEach es X.env))) _ _ s;refine Calls.spliced_cons<|N4 (ha B s W H _ I h) λu s1 z=>?_;let{x,H1,O,r1,U}:=z;exact N4 (G pos B s1 W H1 _ O U) λus s2 ⟨xs,H2,Y,Z,q2⟩=>{x::xs,H2,Y,.cons r1 Z,q2}
def tTup(t:TA):TE:=λW H Q=>t W H λxs H1=>xs.length<=sizeLine/\∀p,H1 p=none->Q (.ref p) (upd H1 p<|.tup xs)
def tLst(t:TA):TE:=λW H Q=>t W H λxs H1=>xs.length<=sizeLine/\∀p,H1 p=none->Q (.ref p) (upd H1 p<|.lst xs)
def cG{x1}(h:PA X es t):PE X (.Tuple es x1 pos) (tTup t):=by
 intro B s W H Q I hq;refine wpAny_Tuple_spliced<|N4 (h pos B s W H _ I hq) λus s1 ⟨xs,H1,G,r,z,q⟩=>{by rwa[<-r.length],?_};let hf:H1 s1.heap.objs.size=none:=G.hok.fresh (Q4 _);refine{.ref s1.heap.objs.size,upd H1 s1.heap.objs.size<|.tup xs,G.laid (t':=s1.toks) (λb u e=>VD _ e) (Q4 _) ?_,M,q _ hf};exact{z,us,r,{_,VL _ M,M,_,M}}
def cH(h:PA X es t):PE X (.List es pos) (tLst t):=by
 intro B s W H Q I hq;refine wpAny_List_spliced<|N4 (h pos B s W H _ I hq) λus s1 ⟨xs,H1,G,r,z,q⟩=>{by rwa[<-r.length],?_};let hf:H1 s1.heap.objs.size=none:=G.hok.fresh (Q4 _);refine{.ref s1.heap.objs.size,upd H1 s1.heap.objs.size<|.lst xs,G.laid (t':=s1.toks) (λb u e=>VD _ e) (Q4 _) ?_,M,q _ hf};exact{z,us,0,r,VL _ M}
end
abbrev Sp:=List V->Hp->VK->XK->Prop
abbrev CXT:=List Env->Hp->Shared->XK->Value->Shared->Prop
structure OU(P:RN)(w:RO)(K:Wp)(mg:RU)(base:Heap)(A:RT)(outer:R6)(s:RD)(H:Hp):Prop where
 frames:A.frames=some outer
 mod:Mod K mg base
 bs:∀b o,base.get? b=some o->s.heap.get? b=some o/\H b=none
 bsz:base.objs.size<=s.heap.objs.size
 funs:s.heap.FunFrames base outer
 frf:∀b∈OX outer,H b=none
 hok:NY P w H s.heap
 bare:AllBare s.gens
def CE(outer:R6)(P:RN)(w:RO)(H:Hp)(s:RD)(Q:VK)(u:RI)(s':RD):Prop:=
 ∃v H',s'.os=s.os/\AllBare s'.gens/\Un (OX outer) [] H H' s.heap s'.heap/\NY P w H' s'.heap/\RelV v u/\Q v H'
def CR(CX:CXT)(outer:R6)(P:RN)(w:RO)(H:Hp)(s:RD)(Q:VK)(E:XK)(r:Result)(s':RD):Prop:=
 match r with
 | .ok (.ret u)=>CE outer P w H s Q u s'
 | .ok _=>False
 | .error e=>CX outer H s E e s'
structure Bs(P:RN)(w:RO)(K:Wp)(mg:RU)(base:Heap)(CX:CXT)(k:Nat)(f:RC)(fd:R5)(ps:RS)(sp:Sp):Prop where
 len:∀vs H Q E,sp vs H Q E->vs.length=ps.length
 run:∀(A:RT)(outer:R6)(s:RD)(H:Hp)(args:Args)(us:RJ)(vs:RG)(Q:VK)(E:XK),NH k A->OU P w K mg base A outer s H->BindsTo s fd args (ps.zip us)->DJ vs us->sp vs H Q E->
  codeAny (model P w) A (.call (.ref f) args) (CR CX outer P w H s Q E) s
def Bs.mono{mg:RU}{k:Nat}(F:Bs P w K mg base CX j f fd ps sp)(h:j<=k):
  Bs P w K mg base CX k f fd ps sp:={F.len,λA outer s H args us vs Q E z=>F.run A outer s H args us vs Q E<|z.mono h}
def OU.make{mg:RU}(e:OU P w K mg base A outer s H)(C:RC)(us:RJ)(kw:Sg):
  OU P w K mg base (A.under<|.builtin wp {.ref C::us,kw}) outer s H:={by first|exact e.frames|(simpa[Around.under,Code.envs,Code.isFrame,pushEnvs]using e.frames),e.mod,e.bs,e.bsz,e.funs,e.frf,e.hok,e.bare}
def Inv.env0(I:Inv X B W H s):OU X.prog X.w X.K X.mg X.base X.A X.stack s H:=
 {I.ok.frames,I.ok.mod,I.bs,Qu I.ok.bsz I.sz,I.stack,I.stkFree,I.hok,I.bare}
def Inv.after{Q:VK}(I:Inv X B W H s)(h:CE X.stack X.prog X.w H s Q u s'):EP X B W Q u s':=by
 let{v,H',os,bare,un,hok,r,q}:=h;let{O,g,d,t,G}:=s';obtain rfl:G=s.os:=os;exact{v,H',I.call (h':=O) (g':=g) (d':=d) (t':=t) (ch:=[]) un hok bare<|λb z=>VE z (by simp),r,q}
def JQ(sp:Sp)(dvs:RG)(E:XK)(t:TA):TE:=λW H Q=>t W H λvs H1=>sp (vs++dvs) H1 Q E
inductive Kz(C:RC)(m:Str)(sp:Sp)(dvs:RG)(E:XK)(t:TA)(W:St)(Q:VK)(x:V)(H1:Hp):Prop
 |mk(a dx fs:_)(_:x= .ref a)(_:H1 a=some (.ins C dx fs))(_:fs.lookup m=none)(_:t W H1 λvs H2=>sp (x::(vs++dvs)) H2 Q E)
def JN(C:RC)(m:Str)(sp:Sp)(dvs:RG)(E:XK)(ta:TE)(t:TA):TE:=λW H Q=>ta W H λx H1=>Kz C m sp dvs E t W Q x H1
def JO(C:RC)(sp:Sp)(dvs:RG)(E:XK)(t:TA):TE:=λW H Q=>t W H λvs H1=>∀x dx,H1 x=none->H1 dx=none->dx≠x->
 sp (.ref x::(vs++dvs)) (upd (upd H1 dx<|.own x) x<|.ins C dx []) (λv H2=>v= .non/\Q (.ref x) H2) E
def Binds(K:Wp)(fd:R5)(ps:RS)(ds:RJ):Prop:=
 ∀(s:RD)(us:RJ),K.In s.heap->(us++ds).length=ps.length->BindsTo s fd {us,[]} (ps.zip<|us++ds)
def Binds.all(h:∀us:List Value,us.length=ps.length->bindArgs fd {us,[]}=pure (ps.zip us)):Binds K fd ps []:=λs us _ hl=>by
 rw[Z6]at hl⊢;exact .of_eq<|h us hl
def lH(CX:CXT)(X:Cx)(E:XK):Prop:=∀(B:RM)(W:St)(H:Hp)(s:RD)(e:RI)(s':RD),Inv X B W H s->CX X.stack H s E e s'->X.xe e s'
section
variable{k:Nat}{dvs:RG}{ds:RJ}{E:XK}{apos:Pos}{o:Expr}{t:TA}
def vk{Q:VK}(F:Bs X.prog X.w X.K X.mg X.base CX k f fd ps sp)(G:NH k X.A)(hb:Binds X.K fd ps ds)(hd:DJ dvs ds)(hx:lH CX X E)
  (I:Inv X B W H s) (r:DJ vs us) (h:sp (vs++dvs) H Q E):Wq X (call (.ref f) us) (EP X B W Q) X.xe s:=by
 let z:DJ (vs++dvs) (us++ds):=r.append hd;let hl:(us++ds).length=ps.length:=by rw[<-z.length];exact F.len _ _ _ _ h
 refine wpAny_call<|codeAny_mono (F.run X.A X.stack s H {us,[]} (us++ds) (vs++dvs) Q E G I.env0 (hb s us I.kIn hl) z h) λr s' hq=>?_;cases r with
 |error e=>exact hx B W H s e s' I hq
 |ok fl=>
  cases fl with
  |ret u=>exact I.after hq
  |next=>exact False.elim hq
  |brk=>exact False.elim hq
  |cont=>exact False.elim hq
def aI(F:Bs X.prog X.w X.K X.mg X.base CX k f fd ps sp)(U:NH k X.A)(Y:Gl X x)(Z:X.mg x=some (.ref f))(hk:PySem.W.keepIn X.K (.ref f)=true)(hb:Binds X.K fd ps ds)(hd:DJ dvs ds)(hx:lH CX X E)
  (ha:PA X (e::es) t) (z:(x==(mu:Str))=false:=by decide) (he:starEach (e::es) X.env=(false,eval e X.env)::starEach es X.env:=by rfl) (G:(backTo pos<|starEach es X.env).any (·.1)=false:=by rfl):
  PE X (.Call (.Name x p) (e::es) [] pos) (JQ sp dvs E t):=by
 intro B s W H Q I h;refine Wc<|qZ I Y Z ?_ z;refine ZR (h₀:=X.base) I.ok.mod.kin hk (N4 (ha pos B s W H _ I h) λus s1 ⟨vs,H1,O,r,q⟩=>{O.kIn,?_}) he G;exact vk F U hb hd hx O r q
def aO{pl:Sem Bool}(he:PE X o ta)(c:O9 X.K C)(U:bN X.K C m f)(F:Bs X.prog X.w X.K X.mg X.base CX k f fd ps sp)(hr:NH k X.A)(hb:Binds X.K fd ps ds)(hd:DJ dvs ds)(hx:lH CX X E)(ha:PA X (e::es) t)
  (z:starEach (e::es) X.env=(false,eval e X.env)::starEach es X.env:=by rfl) (G:(backTo pos<|starEach es X.env).any (·.1)=false:=by rfl)
  (ht:eval (.Call (.Attribute o m apos) (e::es) [] pos) X.env=(do
   let ov<-eval o X.env
   standAt apos.atName
   let(f,first)<-holding [ov] (getMethod ov m pl)
   callWith pos f first (backTo pos<|starEach (e::es) X.env) (backToKw pos<|keywordEach [] X.env)):=by rfl):
  PE X (.Call (.Attribute o m apos) (e::es) [] pos) (JN C m sp dvs E ta t):=by
 intro B s W H Q I h;refine Xa (pl:=pl) (N4 (he B s W H _ I h) λu s1 O=>?_) ht;let{x,H1,Y,rx,a,dx,fs,ex,ea,l,q}:=O;subst ex;obtain rfl:u=Value.ref a:=rx;refine qe Y ea c U l ?_;refine ZR (first:=[.ref a]) (h₀:=X.base) I.ok.mod.kin U.kp (N4 (ha pos B s1 W H1 _ Y q) λus s2 ⟨vs,H2,Z,r,q2⟩=>{Z.kIn,?_}) z G;exact vk (us:= .ref a::us) (vs:= .ref a::vs) F hr hb hd hx Z (.cons M r) q2
def bM{pl:Sem Bool}(he:PE X o ta)(c:O9 X.K C)(O:bN X.K C m f)(F:Bs X.prog X.w X.K X.mg X.base CX k f fd ps sp)(U:NH k X.A)(hb:Binds X.K fd ps ds)(hd:DJ dvs ds)(hx:lH CX X E)
  (Y:eval (.Call (.Attribute o m apos) [] [] pos) X.env=(do
   let ov<-eval o X.env
   standAt apos.atName
   let(f,first)<-holding [ov] (getMethod ov m pl)
   callWith pos f first (backTo pos<|starEach [] X.env) (backToKw pos<|keywordEach [] X.env)):=by rfl):
  PE X (.Call (.Attribute o m apos) [] [] pos) (JN C m sp dvs E ta Ky):=by
 intro B s W H Q I h;refine Xa (pl:=pl) (N4 (he B s W H _ I h) λu s1 z=>?_) Y;let{x,H1,G,Z,a,dx,fs,ex,ea,l,q}:=z;subst ex;obtain rfl:u=Value.ref a:=Z;refine qe G ea c O l ?_;exact PySem.W.callWith_K0 (first:=[.ref a]) G.kIn O.kp (vk (us:=[.ref a]) (vs:=[.ref a]) F U hb hd hx G (.cons M .nil) q)
structure Mk(K:Wp)(C f:RC):Prop where
 makes:PySem.W.makesIn K C=true
 init:PySem.W.findIn K (.ref C) nz=some (some<|.ref f)
 fn:PySem.W.isFn K (.ref f)=true
 kp:PySem.W.keepIn K (.ref C)=true
def AD{Q:VK}(M':Mk X.K C f)(F:Bs X.prog X.w X.K X.mg X.base CX k f fd ps sp)(U:NH (k+1) X.A)(hb:Binds X.K fd ps ds)(hd:DJ dvs ds)
  (hx:lH CX X E) (I:Inv X B W H s) (r:DJ vs us)
  (h:∀x dx,H x=none->H dx=none->dx≠x->sp (.ref x::(vs++dvs)) (upd (upd H dx<|.own x) x<|.ins C dx []) (λv H2=>v= .non/\Q (.ref x) H2) E):
  Wq X (call (.ref C) us) (EP X B W Q) X.xe s:=by
 let hq:=h (s.heap.objs.size+1) s.heap.objs.size (I.hok.fresh<|Zm _) (I.hok.fresh<|Q4 _) (QM<|ZI _);let G:=Inv.made (C:=C) I;let O:DJ (V.ref (s.heap.objs.size+1)::(vs++dvs)) (Value.ref (s.heap.objs.size+1)::(us++ds)):= .cons M (r.append hd);let hl:(Value.ref (s.heap.objs.size+1)::us++ds).length=ps.length:=by
  let e:=O.length;rw[F.len _ _ _ _ hq]at e;exact e.symm
 refine wpAny_call (Gw (f:=f) I.kIn M'.makes M'.init (VN.mp M'.fn) (codeAny_mono (F.run _ X.stack _ _ {Value.ref (s.heap.objs.size+1)::us,[]} (Value.ref (s.heap.objs.size+1)::(us++ds)) _ _ E (U.make C us [])
  (G.env0.make C us []) (hb _ (Value.ref (s.heap.objs.size+1)::us) G.kIn hl) O hq) λr s' z=>?_))
 cases r with
 |error e=>exact hx B W _ _ e s' G z
 |ok fl=>
  cases fl with
  |ret u=>
   let{v,H',Y,rv,Z,q3}:=G.after z;subst Z;exact{rv,{V.ref<|s.heap.objs.size+1,H',Y,M,q3}}
  |next=>exact False.elim z
  |brk=>exact False.elim z
  |cont=>exact False.elim z
def gQ(M':Mk X.K C f)(F:Bs X.prog X.w X.K X.mg X.base CX k f fd ps sp)(U:NH (k+1) X.A)(Y:Gl X x)(Z:X.mg x=some (.ref C))(hb:Binds X.K fd ps ds)(hd:DJ dvs ds)(hx:lH CX X E)
  (ha:PA X (e::es) t) (z:(x==(mu:Str))=false:=by decide) (he:starEach (e::es) X.env=(false,eval e X.env)::starEach es X.env:=by rfl) (G:(backTo pos<|starEach es X.env).any (·.1)=false:=by rfl):
  PE X (.Call (.Name x p) (e::es) [] pos) (JO C sp dvs E t):=by
 intro B s W H Q I h;refine Wc<|qZ I Y Z ?_ z;refine ZR (h₀:=X.base) I.ok.mod.kin M'.kp (N4 (ha pos B s W H _ I h) λus s1 ⟨vs,H1,O,r,q⟩=>{O.kIn,?_}) he G;exact AD M' F U hb hd hx O r q
def qO(M':Mk X.K C f)(F:Bs X.prog X.w X.K X.mg X.base CX k f fd ps sp)(G:NH (k+1) X.A)(O:Gl X x)(U:X.mg x=some (.ref C))(hb:Binds X.K fd ps ds)(hd:DJ dvs ds)(hx:lH CX X E)
  (z:(x==(mu:Str))=false:=by decide):PE X (.Call (.Name x p) [] [] pos) (JO C sp dvs E Ky):=by
 intro B s W H Q I h;refine Wc<|qZ I O U ?_ z;exact PySem.W.callWith_K0 I.kIn M'.kp<|AD (us:=[]) M' F G hb hd hx I .nil h
end
structure ar(N P:RS)(sc:Scope):Prop where
 kind:sc.kind= .function
 co:sc.isCoroutine=false
 gen:sc.isGenerator=false
 nd:N.Nodup
 pre:N.take P.length=P
 par:∀x∈P,sc.names.lookup x=some .local\/sc.names.lookup x=some .cell
 nofree:∀y∈sc.names,y.2≠ .free
def yH{kindOf:Str->Option NameKind}{x:Str}:∀{z:Sg}{m:RU},(∀v,(x,v)∉z)->bindL kindOf z m x=m x
 | [],_,_=>rfl
 |(n,v)::r,m,h=>by
  unfold bindL;rw[yH λw hw=>h w (Qd _ hw)];split
  .have:x≠n:=by rintro rfl;exact h v Qa
   simp[this]
  .rfl
def yJ{kindOf:Str->Option NameKind}{x:Str}:∀{z:Sg}{m:RU},(∀v,(x,v)∉z)->bindC kindOf z m x=m x
 | [],_,_=>rfl
 |(n,v)::r,m,h=>by
  unfold bindC;rw[yJ λw hw=>h w (Qd _ hw)];split
  .rfl
  .have:x≠n:=by rintro rfl;exact h v Qa
   simp[this]
def yI{kindOf:Str->Option NameKind}{x:Str}{v:RI}:∀{P:RS}{vs:RJ}{i:Nat}{m:RU},P.Nodup->P[i]?=some x->vs[i]?=some v->kindOf x=some .local->
  bindL kindOf (P.zip vs) m x=some v
 | [],_,_,_,_,h,_,_=>by simp at h
 |_::_,[],_,_,_,_,h,_=>by simp at h
 |p::P,w::vs,0,m,nd,h1,h2,hk=>by
  simp at h1 h2;subst h1;subst h2;show bindL kindOf ((p,w)::P.zip vs) m p=_;unfold bindL;rw[yH λv z=>(QR.mp nd).1 (Vl z).1,VA hk];simp
 |p::P,w::vs,i+1,m,nd,h1,h2,hk=>by
  show bindL kindOf ((p,w)::P.zip vs) m x=_;unfold bindL;exact yI (i:=i) (QR.mp nd).2 (by simpa using h1) (by simpa using h2) hk
def yK{kindOf:Str->Option NameKind}{x:Str}{v:RI}:∀{P:RS}{vs:RJ}{i:Nat}{m:RU},P.Nodup->P[i]?=some x->vs[i]?=some v->kindOf x≠some .local->
  bindC kindOf (P.zip vs) m x=some v
 | [],_,_,_,_,h,_,_=>by simp at h
 |_::_,[],_,_,_,_,h,_=>by simp at h
 |p::P,w::vs,0,m,nd,h1,h2,hk=>by
  simp at h1 h2;subst h1;subst h2;show bindC kindOf ((p,w)::P.zip vs) m p=_;unfold bindC;rw[yJ λv z=>(QR.mp nd).1 (Vl z).1,Vz hk];simp
 |p::P,w::vs,i+1,m,nd,h1,h2,hk=>by
  show bindC kindOf ((p,w)::P.zip vs) m x=_;unfold bindC;exact yK (i:=i) (QR.mp nd).2 (by simpa using h1) (by simpa using h2) hk
def start(N:RS)(vs:RG):St:=vs.map some++List.replicate (N.length-vs.length) none
def Bl(CX:CXT)(P:RN)(w:RO)(K:Wp)(mg:RU)(base:Heap)(N:RS)(qual:Str)(scope:Scope)(f:RC)(cd:RI)(A:RT)(outer:R6)(s:RD)(H:Hp)(E:XK):Cx where
 prog:=P
 w:=w
 K:=K
 mg:=mg
 base:=base
 A:=A.deeper (envOfC qual scope s.heap.objs.size f cd)
 N:=N
 s₀:=s
 H₀:=H
 env:=envOfC qual scope s.heap.objs.size f cd
 outer:=outer
 stack:=envOfC qual scope s.heap.objs.size f cd::outer
 ex:=[]
 calm:=true
 fn:=λ_=>true
 pn:=[]
 xe:=λe s'=>wpAny (model P w) (A.deeper<|envOfC qual scope s.heap.objs.size f cd) (leaving (envOfC qual scope s.heap.objs.size f cd) e) (λ_ s''=>CX outer H s E e s'') (λe' s''=>CX outer H s E e' s'') s'
def Bq{sc:Scope}(h:sc.names.lookup x=some .cell):∃c,(cellsFrom n sc.names []).lookup x=some c:=by
 let q:=PySem.W.cellsFrom_some sc.names n [] (.inl h);exact Xw.mp q
def EH{mg:RU}{U:RI}{s1:RD}{E:XK} 
  (S:ar N ps scope) (hd:A.handled=none) (e0:OU P w K mg base A outer s H) (hl:vs.length=ps.length) (r:DJ vs us)
  (x:InCallC s s.heap.objs.size (bindL (envOfC qual scope s.heap.objs.size f U).kindOf (ps.zip us) λ_=>none) (cellsFrom (s.heap.objs.size+1) scope.names []) (bindC (envOfC qual scope s.heap.objs.size f U).kindOf (ps.zip us) λ_=>none) s1):
  Inv (Bl CX P w K mg base N qual scope f U A outer s H E) [] (start N vs) H s1:=by
 let Y:ps.length<=N.length:=by have:=VS List.length S.pre;rw[Q8]at this;lia
 let{h1,tk,rfl,hk}:=x.done;let G:∀b:Addr,b∉(Bl CX P w K mg base N qual scope f U A outer s H E).ex:=λb z=>VE (show b∈([]:RQ) from z) (by simp);refine{{e0.mod,S.kind,M,M,Q4 _,λy z c h1 h2=>?_,λy hy=>?_,λy c _ h=>?_,λ_=>hd,Around.frames_deeper e0.frames,.inr ⟨M,M⟩,λb z=>VE z<|G b,e0.bs,e0.bsz,λb _ _=>G b,λb z=>VE z<|G b,e0.funs,e0.frf},
  rfl,e0.bare,Un.kept hk,{_,x.toInCall.ns,λi y v h1 h2 Z=>?_},λy c h=>{_,x.cell y c h},e0.hok.fresh<|Q4 _,λy c h=>?_,λp I=>VE (show p∈([]:RM) from I) (by simp),e0.hok.kept hk,?_}
 .exact name_of_addr x.apart (PySem.mem_of_lookup h1)<|PySem.mem_of_lookup h2
 .let hy:scope.names.lookup y=some .cell\/scope.names.lookup y=some .free:=hy;rcases hy with hy|hy
  .exact Bq hy
  .exact VE M<|S.nofree _ (PySem.mem_of_lookup hy)
 .exact QU<|x.above y c (PySem.mem_of_lookup h)
 .let hi:i<vs.length:=by
   unfold start at h2;by_cases hi:i<vs.length
   .exact hi
   .rw[QD (by simpa using hi)]at h2;rw[List.getElem?_replicate]at h2;split at h2<;>cases h2
  let ha:vs[i]?=some v:=by
   unfold start at h2;rw[QG (by simpa using hi),Qp]at h2;cases e:vs[i]? with
   |none=>rw[e]at h2;cases h2
   |some a=>rw[e]at h2;cases h2;rfl
  let{u,hu,rv}:=r.get ha;let I:ps[i]?=some y:=by
   rwa[<-S.pre,Xx ()]
  let O:ps.Nodup:=by rw[<-S.pre];exact S.nd.sublist<|Xu _ _
  refine{u,rv,?_};rcases S.par y (Q2 I)with k|k
  .exact .inl {k,yI O I hu k}
  .let{c,e}:=Bq (n:=s.heap.objs.size+1) k;refine .inr {.inl k,c,e,?_};let q:=x.cell y c e;rw[yK O I hu (by show scope.names.lookup y≠_;rw[k];decide)]at q;exact q
 .exact e0.hok.fresh<|QU (x.above y c<|PySem.mem_of_lookup h)
 .unfold start;show _=N.length;rw[Q6,Q0,Zq];lia
abbrev _root_.Sj:=Array (Option Value)
def J8{mg:RU}{k:Nat}{G:Arguments}{dV kV Z pm z ct oc:RI}{an od:R1}
  {a1:Sj} (lk:K.lookup f=some {oc,od,.func<|PySem.W.fnOf name qual G body scope dV kV Z pm an z ct,a1}) (a2:PySem.W.codeIn K z qual=true) (S:ar N ps scope)
  (len:∀vs H Q E,sp vs H Q E->vs.length=ps.length)
  (U:∀(A:RT)(outer:R6)(s:RD)(H:Hp)(vs:RG)(Q:VK)(E:XK),NH k (A.deeper<|envOfC qual scope s.heap.objs.size f z)->sp vs H Q E->
   ∃t,Nj (Bl CX P w K mg base N qual scope f z A outer s H E) body t/\t {nx:=λ_ H'=>Q .non H',rt:=Q} (start N vs) H):
  Bs P w K mg base CX (k+1) f (PySem.W.fnOf name qual G body scope dV kV Z pm an z ct) ps sp:=by
 refine{len,λA outer s H args us vs Q E hr e0 hb r a0=>?_};let hl:=len _ _ _ _ a0;let KX:K.In s.heap:=e0.mod.kin.keeps λb o e=>(e0.bs b o e).1;let a3:s.heap.NoLimit:=e0.mod.nolimit.keeps λb o e=>(e0.bs b o e).1;let Y:∀y∈ps.zip us,scope.names.lookup y.1=some .local\/(scope.names.lookup y.1=some .cell/\((cellsFrom (s.heap.objs.size+1) scope.names []).lookup y.1).isSome=true):=λ⟨n,v⟩ hy=>by
  rcases S.par n (Vl hy).1 with q|q
  .exact .inl q
  .exact .inr {q,PySem.W.cellsFrom_some _ _ _<|.inl q}
 refine codeAny_call_function hr.depth (KX _ _ lk) M S.co S.gen M (PySem.W.codeRec_of KX a2)<|hb _ _ _ _ ?_;refine wpAny_newFunctionEnv_cells S.kind Y λenv he s1 x=>?_;subst he;refine{a3.keeps x.toInCall.keep,codeAny_func ?_};let{t,ht,hq}:=U A outer s H vs Q E (hr.deeper _) a0;let I:Inv (Bl CX P w K mg base N qual scope f z A outer s H E) [] (start N vs) H s1:=EH S hr.hd e0 hl r x;refine VY (ht [] s1 (start N vs) H _ I hq) (λfl s' hs=>?_) λe s' hs=>hs;let fin:∀{O:St}{H':Hp}{v:V}{u:RI},Inv (Bl CX P w K mg base N qual scope f z A outer s H E) [] O H' s'->RelV v u->Q v H'->CE outer P w H s Q u s':=
  λ{O H' v u} J rv q=>⟨v,H',J.os,J.bare,J.base,J.hok,rv,q⟩
 cases fl with
 |ret u=>
  let{v,O,H',J,rv,q}:=hs;exact fin J rv q
 |next=>
  let{O,H',J,q}:=hs;exact fin (v:=V.non) (u:=Value.none) J M q
 |brk=>
  let{_,_,_,q}:=hs;exact False.elim q
 |cont=>
  let{_,_,_,q}:=hs;exact False.elim q
section
variable{t:TA}{id T:String}{r:List V->Hp->VK->Prop}
def tCB(r:List V->Hp->VK->Prop)(t:TA):TE:=λW H Q=>t W H λvs H1=>r vs H1 Q
def aG(hc:i6 X (.builtin id) r)(O:Gl X x)(U:X.mg x=none)(Y:bootBuiltins x=some (.builtin id))(ha:PA X (e::es) t)(Z:x≠Pg:=by decide)(z:(x==(mu:Str))=false:=by decide)
  (he:starEach (e::es) X.env=(false,eval e X.env)::starEach es X.env:=by rfl) (G:(backTo pos<|starEach es X.env).any (·.1)=false:=by rfl):PE X (.Call (.Name x p) (e::es) [] pos) (tCB r t):=by
 intro B s W H Q I h;refine Wc<|sR I O U Y ?_ Z z;exact PyProof.Rows.callWith_builtin1 (N4 (ha pos B s W H _ I h) λus s1 ⟨vs,H1,I1,r1,q1⟩=>hc B s1 W H1 vs us Q I1 r1 q1) he G
def oo(hc:i6 X (.type T) r)(O:Gl X x)(U:X.mg x=none)(Y:bootBuiltins x=some (.type T))(ha:PA X (e::es) t)(Z:x≠Pg:=by decide)(z:(x==(mu:Str))=false:=by decide)
  (he:starEach (e::es) X.env=(false,eval e X.env)::starEach es X.env:=by rfl) (G:(backTo pos<|starEach es X.env).any (·.1)=false:=by rfl):PE X (.Call (.Name x p) (e::es) [] pos) (tCB r t):=by
 intro B s W H Q I h;refine Wc<|sR I O U Y ?_ Z z;exact PyProof.Rows.callWith_type1 (N4 (ha pos B s W H _ I h) λus s1 ⟨vs,H1,I1,r1,q1⟩=>hc B s1 W H1 vs us Q I1 r1 q1) he G
end
end L2
namespace HT
open PySem PyProof.Rows
variable{E:RP}
noncomputable def lexLt:List Int->List Int->Bool
 | [],[]=>false
 | [],_::_=>true
 |_::_,[]=>false
 |x::xs,y::ys=>if x=y then lexLt xs ys else decide (x<y)
abbrev _root_.RF:=List Int
def lexLt_cons(x y:Int)(xs ys:RF):lexLt (x::xs) (y::ys)=if x=y then lexLt xs ys else decide (x<y):=rfl
def lexLt_nil_nil:lexLt [] []=false:=rfl
def lexLt_nil_cons(y:Int)(ys:RF):lexLt [] (y::ys)=true:=rfl
def lexLt_cons_nil(x:Int)(xs:RF):lexLt (x::xs) []=false:=rfl
section
variable{prog:RN}{w:RO}{A:RT}{s:RD}
noncomputable def sIx(n d:Nat):Option Int->Nat
 |none=>d
 |some v=>if v<0 then(v+(n:Int)).toNat else min v.toNat n
end
end HT
namespace L2
open PySem PySem.Spec PyProof.Rows
abbrev _root_.RX:=Option V
abbrev _root_.Se:=List (Key×Value)
variable{a b:RC}{A:RT}{X:Cx}{e:Expr}{h':Heap}{H H':Hp}{i:Int}{B:RM}{kvs:RV}{vs:Se}{its its':RJ}{j n t':Nat}{o:RX}{pos:Pos}{P:RN}{s:RD}{W:St}{T:String}{α:Type}{v x y:V}{r u:RI}{E Q:RP}{w:RO}
abbrev TO:=St->Hp->(Option Int->Hp->Prop)->Prop
def PO(X:Cx)(e:Option Expr)(t:TO):Prop:=
 ∀(B:RM)(s:RD)(W:St)(H:Hp)(Q:Option Int->Hp->Prop),Inv X B W H s->t W H Q->
  Wq X (evalPart e X.env) (λu s'=>∃o H',Inv X B W H' s'/\IsPart u o/\Q o H') X.xe s
def Ii:TO:=λ_ H Q=>Q none H
inductive Kx(Q:Option Int->Hp->Prop)(x:V)(H1:Hp):Prop
 |mk(i:_)(_:x= .int i)(_:Q (some i) H1)
def L9(t:TE):TO:=λW H Q=>t W H λx H1=>Kx Q x H1
def wc{ns:RF}:∀{us:RJ},DJ (ns.map V.int) us->IntsAre us ns:=by
 induction ns with
 |nil=>intro us r;rw[List.map_nil]at r;cases r;exact .nil
 |cons n ns z=>
  intro us r;rw[Qv]at r;cases r with
  |cons r1 G=>
   let{t,e}:=r1;subst e;exact .cons n t<|z G
section
variable{te:TE}{lo hi:Option Expr}{tl th:TO}{p2:Pos}
def kM:PO X none Ii:=by
 intro B s W H Q I h;rw[evalPart_none];exact VQ {none,H,I,.none,h}
def gP(h:PE X e te):PO X (some e) (L9 te):=by
 intro B s W H Q I hw;rw[evalPart_some];refine N4 (h B s W H _ I hw) λu s1 z=>?_;let{x,H1,G,r1,O}:=z;let{i,rfl,q}:=O;let{t,rfl}:=r1;exact{some i,H1,G,.int i t,q}
abbrev _root_.R8:=Option Int
def SlR(X:Cx)(r:V->Option Int->Option Int->Hp->VK->Prop):Prop:=
 ∀(B:RM)(s:RD)(W:St)(H:Hp)(x:V)(v vl vu:RI)(lo hi:R8)(sl:RC)(Q:VK),Inv X B W H s->RelV x v->s.heap.IsSliceOf sl vl vu .none->IsPart vl lo->IsPart vu hi->r x lo hi H Q->
  ∃T id,typeLookup (.type T) "__getitem__"=pure (some<|.builtin id)/\s.TypeIs v T/\Wq X (getItem v<|.ref sl) (EP X B W Q) X.xe s
def tSl(r:V->Option Int->Option Int->Hp->VK->Prop)(te:TE)(tl th:TO):TE:=λW H Q=>te W H λx H1=>tl W H1 λl H2=>th W H2 λu H3=>r x l u H3 Q
def gk{r:V->Option Int->Option Int->Hp->VK->Prop}(U:SlR X r)(he:PE X e te)(hl:PO X lo tl)(hu:PO X hi th):PE X (.Subscript e (.Slice lo hi none p2) pos) (tSl r te tl th):=by
 intro B s W H Q I h;refine Subscript_<|N4 (he B s W H _ I h) λv s1 z=>?_;let{x,H1,Y,r1,Z}:=z;refine wpAny_Slice<|N4 (hl B s1 W H1 _ Y Z) λG s2 ⟨l,H2,I2,pl,q2⟩=>N4 (hu B s2 W H2 _ I2 q2) λO s3 z=>?_;let{u,H3,I3,pu,q3}:=z;rw[evalPart_none];refine VQ ?_;let I4:Inv X B W H3 {s3 with heap:=s3.heap.push {cls:= .type "slice",data:= .fields #[G,O,.none]}}:=I3.kept (t':=s3.toks) λb ob q=>VD _ q;let{T,id,hT,ht,hg}:=U B {s3 with heap:=s3.heap.push {cls:= .type "slice",data:= .fields #[G,O,.none]}} W H3 x v G O l u s3.heap.objs.size Q I4 r1 (Heap.IsSliceOf.new ..) pl pu q3;show Wq X (subscriptTail e (.Slice lo hi none p2) v<|.ref s3.heap.objs.size) (EP X B W Q) X.xe {s3 with heap:=s3.heap.push {cls:= .type "slice",data:= .fields #[G,O,.none]}};exact tail_any (ops:=[.ref s3.heap.objs.size,v]) ht hT hg (by with_unfolding_all rfl)
def oK(xs:RG)(lo hi:R8):List V:=(xs.drop<|HT.sIx xs.length 0 lo).take (HT.sIx xs.length xs.length hi-HT.sIx xs.length 0 lo)
def Bo(xs:RG)(lo hi:R8):(oK xs lo hi).length<=xs.length:=by
 unfold oK;rw[Q8,QF];lia
end
noncomputable def Oc(n:Nat)(i:Int):Option Nat:=if 0<=i then(if i<n then some i.toNat else none)else if-(n:Int)<=i then some (i+n).toNat else none
def OR{α:Type}(xs:List α)(i:Int):Option α:=(Oc xs.length i).bind λj=>xs[j]?
def Du(h:Oc n i=some j):seqIndex? i n=some j/\j<n/\-(n:Int)<=i/\i<n:=by
 unfold Oc at h;by_cases z:0<=i
 .rw[VA z]at h;by_cases h1:i<n
  .rw[VA h1]at h;let e:i.toNat=j:=VB h;exact{by rw[seqIndex_of z h1,e],(),(),h1}
  .rw[Vz h1]at h;cases h
 .rw[Vz z]at h;by_cases h1: -(n:Int)<=i
  .rw[VA h1]at h;let e:(i+n).toNat=j:=VB h;exact{by rw[seqIndex_neg () h1,e],(),h1,()}
  .rw[Vz h1]at h;cases h
def DO{xs:List α}{v:α}(h:OR xs i=some v):∃j,seqIndex? i xs.length=some j/\xs[j]?=some v/\j<xs.length/\-(xs.length:Int)<=i/\i<xs.length:=by
 unfold OR at h;cases e:Oc xs.length i with
 |none=>rw[e]at h;cases h
 |some j=>
  rw[e]at h;let{h1,h2,z,G}:=Du e;exact⟨j,h1,h,h2,z,G⟩
def rH{xs:List α}{v:α}(h:xs[j]?=some v):OR xs (j:Int)=some v:=by
 let z:j<xs.length:=(Q1.mp h).1;let e:Oc xs.length (j:Int)=some j:=by
  unfold Oc;rw[VA (),VA ()];simp
 unfold OR;rwa[e]
def Jz(b:Expr):Prop:=∀o i,subscripted b false o i=operate [o,i] (getItem o i)
def IxR(X:Cx)(r:R2):Prop:=
 ∀(value slice:Expr)(B:RM)(s:RD)(W:St)(H:Hp)(x y:V)(v u:RI)(Q:VK),Inv X B W H s->RelV x v->RelV y u->r x y H Q->
  subscripted slice false v u=operate [v,u] (getItem v u)->Wq X (subscriptTail value slice v u) (EP X B W Q) X.xe s
def PF(X:Cx)(id:String)(r:V->List V->Hp->VK->Prop):Prop:=
 ∀(B:RM)(s:RD)(W:St)(H:Hp)(x:V)(xs:RG)(v:RI)(us:RJ)(Q:VK),Inv X B W H s->RelV x v->DJ xs us->r x xs H Q->
  Wq X (call (.builtin id) (v::us)) (EP X B W Q) X.xe s
section
variable{a b:Expr}{ta tb:TE}
def aS{r:R2}(z:IxR X r)(ha:PE X a ta)(hb:PE X b tb)(hs:Jz b):PE X (.Subscript a b pos) (tOp r ta tb):=by
 intro B s W H Q I h;exact Subscript_ (LG ha hb I h λv u G x y H2 O U Y q=>z a b B G W H2 x y v u Q O U Y q<|hs _ _)
inductive rIxL(K:Wp)(x y:V)(H:Hp)(Q:VK):Prop
 |mk(p xs i v:_)(_:x= .ref p)(_:y= .int i)(_:DI K H p xs)(_:OR xs i=some v)(_:Q v H)
inductive rIxT(K:Wp)(x y:V)(H:Hp)(Q:VK):Prop
 |mk(p xs i v:_)(_:x= .ref p)(_:y= .int i)(_:Na K H p xs)(_:OR xs i=some v)(_:Q v H)
def aX:IxR X (rIxL X.K):=by
 intro value G B s W H x y v u Q I rx ry h hs;let{p,xs,i,z,rfl,rfl,hq,he,q}:=h;cases rx;let{t,rfl}:=ry;let{its,r,pl,hz}:=I.list hq;let{j,h1,h2,h3,h4,h5}:=DO he;let{w,Y,O}:=r.get h2;let hl:=r.length;let hn:=vU;let fin:EP X B W Q w s:=⟨z,H,I,O,q⟩;by_cases Z:0<=i
 .let U:i.toNat=j:=by
   rw[seqIndex_of Z h5]at h1;exact VB h1
  exact item_listR pl.isList Z () (by rw[U];simpa using Y) fin hs
 .let U:(i+(its.toArray.size:Int)).toNat=j:=by
   rw[seqIndex_neg () h4]at h1;rw[Qh,<-hl];exact VB h1
  exact subscriptTail_builtinR (x:=w) pl.isList.typeIs slot_list_getitem.lookup
   (wpAny_getItem_list_neg (Q:=λr s'=>r=w/\EP X B W Q r s') pl.isList () (by rw[Qh]<;>lia) () (by rw[U];simpa using Y) ⟨M,fin⟩) hs
def bE:IxR X (rIxT X.K):=by
 intro value G B s W H x y v u Q I U Y h hs;let{p,xs,i,z,rfl,rfl,hq,he,q}:=h;cases U;let{t,rfl}:=Y;let{its,r,pl,hz}:=I.tuple hq;let{j,h1,h2,h3,h4,h5}:=DO he;let{w,Z,O}:=r.get h2;let hl:=r.length;let hn:=vU;let fin:EP X B W Q w s:=⟨z,H,I,O,q⟩;exact subscriptTail_builtinR (x:=w) pl.typeIs slot_tuple_getitem.lookup
  (getItem_tuple (j:=j) (Q:=λr s'=>r=w/\EP X B W Q r s') pl () () (by rwa[Qh,<-hl]) (by simpa using Z) ⟨M,fin⟩) hs
def Cy(its:RJ)(n j:Nat)(u:RI):Obj.mapSeq (·.setIfInBounds j u) {cls:= .type gs,data:= .seq its.toArray n}={cls:= .type gs,data:= .seq (its.set j u).toArray n}:=by
 simp[Obj.mapSeq]
def Inv.lst{B:RM}{W:St}{H:Hp}{s:RD}{p:RC}{xs:RG}(I:Inv X B W H s)(h:H p=some (.lst xs)):
  ∃(its:RJ)(n:Nat),DJ xs its/\s.heap.get? p=some {cls:= .type gs,data:= .seq its.toArray n}/\xs.length<=sizeLine:=by
 let{z,its,n,r,e}:=I.hok p _ h;exact⟨its,n,r,e,z⟩
def Inv.lstUpd{p:RC}{xs ys:RG}{n':Nat}{f:Obj->Obj}(I:Inv X B W H s)(h:H p=some (.lst xs))
  (z:s.heap.get? p=some {cls:= .type gs,data:= .seq its.toArray n}) (hf:f {cls:= .type gs,data:= .seq its.toArray n}={cls:= .type gs,data:= .seq its'.toArray n'}) (r:DJ ys its') (hz:ys.length<=sizeLine) (t:Nat):
  Inv X B W (upd H p<|.lst ys) {s with heap:=s.heap.update p f,toks:=t}:=by
 let e:(s.heap.update p f).get? p=some {cls:= .type gs,data:= .seq its'.toArray n'}:=by
  rw[Heap.get?_update_self f z (by rw[hf]<;>rfl),hf]
 refine I.write (x:=p) (e:=p) (by rw[h];trivial) (.inl M) (λb u hb q=>(Wf _ _<|Ne.symm hb).trans q) {_,e} ?_;exact⟨hz,its',n',r,e⟩
inductive Mo(o i v:V)(H:Hp)(Q:Hp->Prop):Prop
 |mk(p xs k j:_)(_:o= .ref p)(_:i= .int k)(_:H p=some (.lst xs))(_:Oc xs.length k=some j)(_:Q (upd H p<|.lst<|xs.set j v))
def uV:PSet X Mo:=by
 intro B s W H o i v ov iv u Q I ro ri rv h;let{p,xs,k,j,rfl,rfl,G,hj,q}:=h;cases ro;let{t,rfl}:=ri;let{its,n,r,z,hz}:=I.lst G;let{h1,h2,O,U}:=Du hj;let hl:=r.length;let hn:=vU;let Y:Inv X B W (upd H p<|.lst<|xs.set j v) {s with heap:=s.heap.update p (Obj.mapSeq (·.setIfInBounds j u))}:=
  I.lstUpd G z (Cy its n j u) (r.set rv j) (by rwa[QJ]) s.toks
 by_cases Z:0<=k
 .let hk:k.toNat=j:=by
   rw[seqIndex_of Z U]at h1;exact VB h1
  exact PySem.W.ki_setAt z Z () (by rwa[Qh,<-hl])<|by rw[hk];exact{_,Y,q}
 .let hk:(k+(its.toArray.size:Int)).toNat=j:=by
   rw[seqIndex_neg () O]at h1;rw[Qh,<-hl];exact VB h1
  exact PySem.W.ki_setBack z () (by rwa[Qh,<-hl]) ()<|by rw[hk];exact{_,Y,q}
def zd(lo hi:R8)(n:Nat):(sliceBounds lo hi none n).1=((HT.sIx n 0 lo:Nat):Int)/\(sliceBounds lo hi none n).2.1=((HT.sIx n n hi:Nat):Int)/\(sliceBounds lo hi none n).2.2=1:=by
 refine{?_,?_,M}
 .cases lo with
  |none=>simp[sliceBounds,HT.sIx]
  |some i=>
   simp only[sliceBounds,HT.sIx,Option.getD_none,show(1:Int)>0 by decide,if_true];by_cases h:i<0
   .simp only[h,if_true]<;>lia
   .simp only[h,if_false]<;>lia
 .cases hi with
  |none=>simp[sliceBounds,HT.sIx]
  |some i=>
   simp only[sliceBounds,HT.sIx,Option.getD_none,show(1:Int)>0 by decide,if_true];by_cases h:i<0
   .simp only[h,if_true]<;>lia
   .simp only[h,if_false]<;>lia
def w9(its:RJ)(lo hi:R8):slicePick its.toArray lo hi none=((its.drop<|HT.sIx its.length 0 lo).take<|HT.sIx its.length its.length hi-HT.sIx its.length 0 lo).toArray:=by
 let{h1,h2,z}:=zd lo hi its.toArray.size;unfold slicePick;rw[h1,h2,z];simp only[sliceRange_one,pick_run,Qh]<;>rfl
inductive rSlL(K:Wp)(x:V)(lo hi:R8)(H:Hp)(Q:VK):Prop
 |mk(a xs:_)(_:x= .ref a)(_:DI K H a xs)(_:∀p,H p=none->Q (.ref p) (upd H p<|.lst<|oK xs lo hi))
def iP:SlR X (rSlL X.K):=by
 intro B s W H x v Y Z lo hi sl Q I O hs pl U h;let{a,xs,rfl,hx,q}:=h;cases O;let{its,r,G,hz}:=I.list hx;let z:=r.length;refine{gs,_,slot_list_getitem.lookup,G.isList.typeIs,?_};refine wpAny_getItem_list_slice G.isList hs pl U .none (by simp) ?_ (by rw[Qh]<;>lia);rw[w9,<-z];refine{.ref s.heap.objs.size,_,I.laid (t':=s.toks) (o:= .lst<|oK xs lo hi) (λb ob q=>VD _ q) (Q4 _) ?_,M,q _<|I.hok.fresh (Q4 _)};exact{Qu (Bo xs lo hi) hz,_,0,(r.drop<|HT.sIx xs.length 0 lo).take<|HT.sIx xs.length xs.length hi-HT.sIx xs.length 0 lo,VL _ M}
noncomputable def rB:V->Bool
 | .non=>true
 | .bl _=>true
 | .int _=>true
 | .str _=>true
 |_=>false
noncomputable def Oi:V->V->Bool
 | .non,.non=>true
 | .bl a,.bl b=>a==b
 | .bl a,.int b=>(if a then 1 else 0)==b
 | .int a,.bl b=>a==(if b then 1 else 0)
 | .int a,.int b=>a==b
 | .str a,.str b=>a==b
 |_,_=>false
def LA{v:RI}(G:RelV y u)(z:RelV x v)(O:rB y=true)(I:rB x=true):SeqAt.EqAt A s u v (Oi y x):=by
 cases y with
 |non=>
  cases G;cases x with
  |non=>cases z;exact SeqAt.EqAt.same _
  |bl b=>cases z;exact SeqAt.EqAt.none_bool b
  |int b=>let{t,rfl}:=z;exact SeqAt.EqAt.none_int b t
  |str b=>let{t,rfl}:=z;exact SeqAt.EqAt.none_str b t
  |_=>exact VE (show false=true from I) Qc
 |bl a=>
  cases G;cases x with
  |non=>cases z;exact SeqAt.EqAt.bool_none a
  |bl b=>cases z;exact SeqAt.EqAt.bool_bool a b
  |int b=>let{t,rfl}:=z;exact SeqAt.EqAt.bool_int a b t
  |str b=>let{t,rfl}:=z;exact SeqAt.EqAt.bool_str a b t
  |_=>exact VE (show false=true from I) Qc
 |int a=>
  let{t',rfl}:=G;cases x with
  |non=>cases z;exact SeqAt.EqAt.int_none a t'
  |bl b=>cases z;exact SeqAt.EqAt.int_bool a t' b
  |int b=>let{t,rfl}:=z;exact SeqAt.EqAt.int_int a t' b t
  |str b=>let{t,rfl}:=z;exact SeqAt.EqAt.int_str a t' b t
  |_=>exact VE (show false=true from I) Qc
 |str a=>
  let{t',rfl}:=G;cases x with
  |non=>cases z;exact SeqAt.EqAt.str_none a t'
  |bl b=>cases z;exact SeqAt.EqAt.str_bool a t' b
  |int b=>let{t,rfl}:=z;exact SeqAt.EqAt.str_int a t' b t
  |str b=>let{t,rfl}:=z;exact SeqAt.EqAt.str_str a t' b t
  |_=>exact VE (show false=true from I) Qc
 |_=>exact VE (show false=true from O) Qc
def P6(x:V)(u:RI):Bool:=match u with
 | .none=>Oi .non x
 | .bool b=>Oi (.bl b) x
 | .int i _=>Oi (.int i) x
 | .str z _=>Oi (.str z) x
 |_=>false
def GZ(r:RelV y u)(f:rB y=true):P6 x u=Oi y x:=by
 cases y with
 |non=>cases r;rfl
 |bl b=>cases r;rfl
 |int i=>let{t,rfl}:=r;rfl
 |str z=>let{t,rfl}:=r;rfl
 |_=>exact VE (show false=true from f) Qc
def Ab{x:V}:∀{xs:RG}{us:RJ},DJ xs us->xs.all rB=true->us.any (P6 x)=xs.any λy=>Oi y x
 |_,_,.nil,_=>rfl
 |y::xs,u::us,.cons r t,f=>by
  rw[List.all_cons,QA]at f;rw[Xe,Xe,GZ r f.1,Ab t f.2]
def vR{A:RT}{s:RD}{x:V}{v:RI}(z:RelV x v)(G:rB x=true):∀{xs:RG}{us:RJ},DJ xs us->xs.all rB=true->∀u∈us,SeqAt.EqAt A s u v (P6 x u)
 |_,_,.nil,_=>λu hu=>by cases hu
 |y::xs,u::us,.cons r t,f=>λI hu=>by
  rw[List.all_cons,QA]at f;rcases Qj.mp hu with rfl|hu
  .rw[GZ r f.1];exact LA r z f.1 G
  .exact vR z G t f.2 I hu
def inV(x:V)(xs:RG):Bool:=xs.any λy=>Oi y x
inductive rIn(K:Wp)(neg:Bool)(x y:V)(H:Hp)(Q:VK):Prop
 |mk(p xs:_)(_:y= .ref p)(_:(DI K H p xs\/Na K H p xs))(_:rB x=true)(_:xs.all rB=true)(_:Q (.bl<|if neg then !inV x xs else inV x xs) H)
def El:Nu X (compareOp .In) (rIn X.K false):=by
 intro B s W H x y v u Q I z O h;let{p,xs,rfl,hq,G,fs,q}:=h;cases O;rcases hq with hq|hq
 .let{its,r,pl,hz}:=I.list hq;refine SeqAt.in_listAt (P6 x) pl.isList (λw hw=>vR z G r fs w<|by simpa using hw) {.bl _,H,I,M,?_};rw[show its.toArray.any (P6 x)=its.any (P6 x) by simp,Ab r fs];exact q
 .let{its,r,pl,hz}:=I.tuple hq;refine SeqAt.in_tupleAt (P6 x) pl (λw hw=>vR z G r fs w<|by simpa using hw) {.bl _,H,I,M,?_};rw[show its.toArray.any (P6 x)=its.any (P6 x) by simp,Ab r fs];exact q
def aE:i6 X (.builtin "len") (λxs H Q=>∃p ys,xs=[.ref p]/\(DI X.K H p ys\/Na X.K H p ys)/\Q (.int ys.length) H):=by
 intro B s W H xs us Q I r h;let{p,ys,rfl,hq,q}:=h;let{u,rfl,O}:=tx r;cases O;let U:=vU;rcases hq with hq|hq
 .let{its,G,pl,hz}:=I.list hq;let z:=G.length;exact Calls.call_len_list pl.isList (by simp only[Qh]<;>lia) {.int ys.length,H,I.tok _,{s.toks+1,by rw[Qh,z]},q}
 .let{its,G,pl,hz}:=I.tuple hq;let z:=G.length;exact len_tuple pl (by simp only[Qh]<;>lia) {.int ys.length,H,I.tok _,{s.toks+1,by rw[Qh,z]},q}
def zU:i6 X (.type gs) (λxs H Q=>∃p ys,xs=[.ref p]/\(DI X.K H p ys\/Na X.K H p ys)/\∀l,H l=none->Q (.ref l) (upd H l<|.lst ys)):=by
 intro B s W H xs us Q I r h;let{p,ys,rfl,hq,q}:=h;let{u,rfl,Z}:=tx r;cases Z;let fin:∀(its:RJ),DJ ys its->ys.length<=sizeLine->∀(h':Heap)(z:Nat),(∀b o',s.heap.get? b=some o'->h'.get? b=some o')->
   h'.get? s.heap.objs.size=some {cls:= .type gs,dict:=none,data:= .seq its.toArray z,slots:= #[]}->EP X B W Q (.ref s.heap.objs.size) {s with heap:=h'}:=λits G hz h' z O e=>
  {.ref s.heap.objs.size,_,I.laid (t':=s.toks) O (Q4 _) (show N0 X.prog X.w _ h' _ (.lst ys) from⟨hz,its,z,G,e⟩),M,q _<|I.hok.fresh (Q4 _)}
 rcases hq with hq|hq
 .let{its,G,pl,hz}:=I.list hq;let U:=G.length;let{o,Y,hc,n,hd}:=pl.isList;exact call_list_seq p (.inl M) Y hc hd (λh' z O e=>fin its G hz h' z O e)<|by simp only[Qh]<;>lia
 .let{its,G,pl,hz}:=I.tuple hq;let U:=G.length;let{o,Y,hc,n,hd}:=pl;exact call_list_seq p (.inr M) Y hc hd (λh' z O e=>fin its G hz h' z O e)<|by simp only[Qh]<;>lia
def tyV(K:Wp)(T:String)(x:V)(H:Hp):Prop:=match x with
 | .str _=>T="str"
 | .int _=>T=Po
 | .ref p=>(T=gs/\∃xs,DI K H p xs)\/(T=nI/\∃o,K.lookup p=some o/\o.cls= .type nI/\o.dict=none)\/
   (T=zm/\((∃kvs,H p=some (.dK kvs))\/∃kvs,H p=some (.dT kvs)))\/(T="set"/\∃S n,H p=some (.set S n))
 |_=>False
def Ft{v:RI}(I:Inv X B W H s)(r:RelV x v)(ty:tyV X.K T x H):
  s.TypeIs v T/\∀a,v= .ref a->∃ob,s.heap.get? a=some ob/\ob.dict=none:=by
 cases x with
 |str z=>
  let{t,rfl}:=r;cases (show T="str" from ty);exact{typeIs_str s z t,λ_ e=>nomatch e}
 |int i=>
  let{t,rfl}:=r;cases (show T=Po from ty);exact{typeIs_int s i t,λ_ e=>nomatch e}
 |ref p=>
  cases r;rcases ty with⟨rfl,xs,hq⟩|⟨rfl,o,hk,hc,hd⟩|⟨rfl,hk⟩|⟨rfl,S,n,hk⟩
  .let{its,_,pl,_}:=I.list hq;refine{pl.isList.typeIs,λa e=>?_};cases e;let{o,n,e,c,hd,_}:=pl;exact⟨o,e,hd⟩
  .refine{{o,I.kIn p o hk,hc},λa e=>?_};cases e;exact{o,I.kIn _ o hk,hd}
  .let z:∃o,s.heap.get? p=some o/\o.ExactDict:=by
    rcases hk with⟨kvs,hk⟩|⟨kvs,hk⟩
    .let{_,_,_,_,o,_,_,e,ex,_}:=I.hok p _ hk;exact⟨o,e,ex⟩
    .let{_,_,_,_,o,_,_,e,ex,_}:=I.hok p _ hk;exact⟨o,e,ex⟩
   let{o,e,ex}:=z;refine{⟨o,e,ex.1⟩,λa e2=>?_};cases e2;exact⟨o,e,ex.2.1⟩
  .let{o,_,_,_,e,ex,_}:=I.hok p _ hk;refine{⟨o,e,ex.1⟩,λa e2=>?_};cases e2;exact⟨o,e,ex.2.1⟩
 |_=>exact False.elim ty
def tBM0(K:Wp)(T:String)(r:V->List V->Hp->VK->Prop)(to:TE):TE:=λW H Q=>to W H λx H1=>tyV K T x H1/\r x [] H1 Q
def tBM(K:Wp)(T:String)(r:V->List V->Hp->VK->Prop)(to:TE)(t:TA):TE:=λW H Q=>to W H λx H1=>tyV K T x H1/\t W H1 λxs H2=>r x xs H2 Q
variable{o:Expr}{es:Sa}{to:TE}{t:TA}{name:Str}{apos cpos:Pos}{id:String}{r:V->List V->Hp->VK->Prop}
def zx(pa:PlainAttrs T)(slot:Slot T name id)(O:typeOf (.builtin id)=pure (.type "method_descriptor"))(Z:PF X id r)(ho:PE X o to)
  (z:attributeBase o name X.env (eval o X.env)=eval o X.env:=by rfl) (G:(apos.endLine==cpos.line)=true:=by rfl):PE X (.Call (.Attribute o name apos) [] [] cpos) (tBM0 X.K T r to):=by
 intro B s W H Q I h;refine wpAny_Call_method0_late z G<|N4 (ho B s W H _ I h) λv s1 U=>?_;let{x,H1,Y,r1,ty,q1}:=U;let{h1,h2}:=Ft Y r1 ty;exact{T,id,pa,slot,O,h1,h2,Calls.callWith_builtin M<|PySem.evalArgs_none (Z B s1 W H1 x [] v [] Q Y r1 .nil q1)}
def dO(pa:PlainAttrs T)(slot:Slot T name id)(Y:typeOf (.builtin id)=pure (.type "method_descriptor"))(hm:PF X id r)(ho:PE X o to)(ha:PA X (e::es) t)
  (G:attributeBase o name X.env (eval o X.env)=eval o X.env:=by rfl)
  (U:((backTo cpos<|starEach (e::es) X.env).all (λx=>!x.1)&&(backToKw cpos<|keywordEach [] X.env).all (λx=>x.1.isSome)
   &&decide ((e::es).length+([]:List Keyword).length+(if([]:List Keyword).isEmpty then 0 else 1)<30))=true:=by rfl)
  (O:(apos.endLine==cpos.line)=true:=by rfl) (hs:starEach (e::es) X.env=(false,eval e X.env)::starEach es X.env:=by rfl) (z:(backTo cpos<|starEach es X.env).any (·.1)=false:=by rfl):
  PE X (.Call (.Attribute o name apos) (e::es) [] cpos) (tBM X.K T r to t):=by
 intro B s W H Q I h;refine wpAny_Call_method_late G U O M<|N4 (ho B s W H _ I h) λv s1 Z=>?_;let{x,H1,I1,r1,ty,q1}:=Z;let{h1,h2}:=Ft I1 r1 ty;refine{T,id,pa,slot,Y,h1,h2,?_};let hA:=ha cpos B s1 W H1 _ I1 q1;rw[hs]at hA⊢;refine Calls.callWith_builtin (by show(false||(backTo cpos<|starEach es X.env).any (·.1))=false;rw[z]<;>rfl)<|Calls.evalArgs_plain ?_;exact N4 hA λus s2 ⟨vs,H2,I2,r2,q2⟩=>hm B s2 W H2 x vs v us Q I2 r1 r2 q2
end
def MtM(X:Cx)(id:String)(r:V->List V->Hp->VK->Prop):Prop:=
 ∀(B:RM)(s:RD)(W:St)(H:Hp)(x:V)(xs:RG)(v:RI)(us:RJ)(Q:VK),Inv X B W H s->RelV x v->DJ xs us->r x xs H Q->
  Wq X (call (.builtin id) (v::us)) (EP X B W Q) X.xe s
def DJ.one:∀{x:V}{us:RJ},DJ [x] us->∃u,us=[u]/\RelV x u
 |_,_,.cons r .nil=>{_,M,r}
def DJ.two:∀{x y:V}{us:RJ},DJ [x,y] us->∃u v,us=[u,v]/\RelV x u/\RelV y v
 |_,_,_,.cons r (.cons q .nil)=>{_,_,M,r,q}
def DJ.eraseIdx:∀{xs:RG}{us:RJ}(i:Nat),DJ xs us->DJ (xs.eraseIdx i) (us.eraseIdx i)
 |_,_,_,.nil=> .nil
 |_,_,0,.cons _ t=>t
 |_,_,i+1,.cons r t=> .cons r (DJ.eraseIdx i t)
def sQ{α:Type}:∀(l:List α)(i:Nat),(l.eraseIdx i).length<=l.length
 | [],_=>Q4 _
 |_::_,0=>Zm _
 |_::r,i+1=>Nat.succ_le_succ (sQ r i)
section
variable{l:RC}{xs ys zs:RG}
def Inv.lset{f:Array Value->Array Value}(I:Inv X B W H s)(z:H l=some (.lst xs))
  (e:s.heap.get? l=some {cls:= .type gs,data:= .seq its.toArray n}) (hf:f its.toArray=its'.toArray) (G:DJ ys its') (hz:ys.length<=sizeLine):
  Inv X B W (upd H l<|.lst ys) {s with heap:=s.heap.update l (Obj.mapSeq f),toks:=t'}:=by
 let q:=PySem.IsL.update e f;rw[hf]at q;refine I.write (x:=l) (e:=l) (by rw[z];exact trivial) (.inl M) (λb' u hb hu=>(Wf s.heap (Obj.mapSeq f)<|Ne.symm hb).trans hu) {_,q} ?_;exact{hz,its',_,G,q}
def Inv.lnew(I:Inv X B W H s)(z:DJ ys its)(hz:ys.length<=sizeLine):
  Inv X B W (upd H s.heap.objs.size<|.lst ys) {s with heap:=s.heap.push {cls:= .type gs,data:= .seq its.toArray},toks:=t'}:=
 I.laid (λ_ _ q=>VD _ q) (Q4 _) {hz,its,0,z,VL _ M}
def Inv.fresh(I:Inv X B W H s):H s.heap.objs.size=none:=I.hok.fresh (Q4 _)
def Inv.lstM(I:Inv X B W H s)(G:H l=some (.lst xs)):xs.length<=sizeLine/\∃(its:RJ)(n:Nat),DJ xs its/\xs.length=its.length/\s.heap.get? l=some {cls:= .type gs,data:= .seq its.toArray n}:=by
 let{z,its,n,r,e}:=I.hok l _ G;exact⟨z,its,n,r,r.length,e⟩
def Gd(h:n<=sizeLine):Builtin.List.listTooLong n=false:=by
 unfold Builtin.List.listTooLong;exact VM ()
end
inductive IA(x:V)(vs:RG)(H:Hp)(Q:VK):Prop
 |mk(l xs y:_)(_:x= .ref l)(_:vs=[y])(_:H l=some (.lst xs))(_:xs.length<sizeLine)(_:Q .non (upd H l<|.lst<|xs++ [y]))
def eJ:MtM X "list.append" IA:=by
 intro B s W H x vs v us Q I O rv h;let{l,xs,y,rfl,rfl,G,hz,q}:=h;cases O;let{u,rfl,U}:=rv.one;let{z,its,n,r,hl,e}:=I.lstM G;refine call_meets F.slot_list_append {_,e,M} F.entry_list_append (F.args_list_append_2 _ _) (PySem.list_append l its.toArray n u<|by rw[Qh];lia) {e,?_};refine{.non,_,I.lset (its':=its++ [u]) G e (by simp) (r.append<|.cons U .nil) ?_,M,q};rw[Q6,QT];lia
inductive Iz(x:V)(vs:RG)(H:Hp)(Q:VK):Prop
 |mk(l b xs zs:_)(_:x= .ref l)(_:vs=[.ref b])(_:H l=some (.lst xs))(_:H b=some (.lst zs))(_:xs.length+zs.length<=sizeLine)(_:Q .non (upd H l<|.lst<|xs++zs))
def oq:MtM X "list.extend" Iz:=by
 intro B s W H x vs v us Q I Y rv h;let{l,b,xs,zs,rfl,rfl,U,Z,hz,q}:=h;cases Y;let{u,rfl,ru}:=rv.one;cases ru;let{z,its,n,r,hl,e}:=I.lstM U;let{z2,G,n2,r2,a0,e2}:=I.lstM Z;let hsz:its.toArray.size+G.toArray.size<=sizeLine:=by rw[Qh,Qh];lia
 let O:¬(!its.toArray.isEmpty&&Builtin.List.listTooLong (its.toArray.size+G.toArray.size))=true:=by
  rw[Gd hsz,Bool.and_false];exact Qc
 refine call_meets F.slot_list_extend {_,e,M} F.entry_list_extend (F.args_list_extend_2 _ _)
  (AutoSeq1.list_extend_list_list_0 l its.toArray n b G.toArray n2 O (by rw[Qh];lia) ()) {e,e2,?_}
 refine{.non,_,I.lset (its':=its++G) U e (by simp) (r.append r2) ?_,M,q};rw[Q6];lia
inductive KM(x:V)(vs:RG)(H:Hp)(Q:VK):Prop
 |mk(l xs i k y:_)(_:x= .ref l)(_:vs=[.int i])(_:H l=some (.lst xs))(_: -(2^63)<=i)(_:i<2^63)(_:seqIndex? i xs.length=some k)(_:xs[k]?=some y)(_:Q y (upd H l<|.lst<|xs.eraseIdx k))
def AN:MtM X "list.pop" KM:=by
 intro B s W H x vs v us Q I U rv h;let{l,xs,i,k,y,rfl,rfl,O,h1,h2,hk,hy,q}:=h;cases U;let{u,rfl,Y}:=rv.one;let{t,rfl}:=Y;let{z,its,n,r,hl,e}:=I.lstM O;let{w,hw,G}:=r.get hy;refine call_meets F.slot_list_pop {_,e,M} F.entry_list_pop (F.args_list_pop_2 _ _)
  (MeetsSeq.list_pop_at l its.toArray n i t k w (fitsIndex_both h1 h2) (by rwa[Qh,<-hl]) (by rwa[<-QN])<|by rw[Qh];lia) {e,?_}
 refine{y,_,I.lset (its':=its.eraseIdx k) O e ?_ (r.eraseIdx k) ?_,G,q}
 .show its.toArray.eraseIdxIfInBounds k=(its.eraseIdx k).toArray;rw[Vf]
 .have:=sQ xs k;lia
inductive rCat(x y:V)(H:Hp)(Q:VK):Prop
 |mk(l b xs zs:_)(_:x= .ref l)(_:y= .ref b)(_:H l=some (.lst xs))(_:H b=some (.lst zs))(_:xs.length+zs.length<=sizeLine)(_:∀p,H p=none->Q (.ref p) (upd H p<|.lst<|xs++zs))
def K2:Nu X (binaryOp .Add) rCat:=by
 intro B s W H x y v u Q I O U h;let{l,b,xs,zs,rfl,rfl,Y,Z,hz,q}:=h;cases O;cases U;let{z,its,n,r,hl,e}:=I.lstM Y;let{z2,G,n2,r2,a0,e2}:=I.lstM Z;refine PySem.P.add_list e e2 ?_ (by rw[Qh,Qh];lia);let ea:its.toArray++G.toArray=(its++G).toArray:=by simp
 rw[ea];exact{.ref _,_,I.lnew (t':=s.toks) (r.append r2) (by rw[Q6];lia),M,q _ I.fresh}
section
variable{κ:Type}[DecidableEq κ]
noncomputable def ay(kvs:List (κ×V))(k:κ):Option V:=(kvs.find? λkv=>decide (kv.1=k)).map (·.2)
noncomputable def bf(kvs:List (κ×V))(k:κ)(v:V):List (κ×V):=
 if(kvs.any λkv=>decide (kv.1=k))=true then kvs.map (λkv=>if kv.1=k then(kv.1,v)else kv)else kvs++ [(k,v)]
noncomputable def bG(kvs:List (κ×V))(k:κ):List (κ×V):=kvs.filter λkv=>decide (kv.1≠k)
def jO{k:κ}:ay ([]:List (κ×V)) k=none:=rfl
def bn{p:κ×V}{r:List (κ×V)}{k:κ}(e:p.1=k):ay (p::r) k=some p.2:=by simp[ay,ZQ,e]
def bh{p:κ×V}{r:List (κ×V)}{k:κ}(e:¬p.1=k):ay (p::r) k=ay r k:=by simp[ay,ZQ,e]
def dh(k:κ):∀kvs:List (κ×V),(kvs.any λkv=>decide (kv.1=k))=(ay kvs k).isSome
 | []=>rfl
 |p::r=>by
  rw[Xe];by_cases e:p.1=k
  .simp only[bn e,VJ e,Bool.true_or,Option.isSome_some]
  .rw[bh e,VM e,Bool.false_or];exact dh k r
def Am(k j:κ)(y:V):∀kvs:List (κ×V),ay (kvs.map λkv=>if kv.1=k then(kv.1,y)else kv) j=(ay kvs j).map λx=>if j=k then y else x
 | []=>rfl
 |p::r=>by
  let G:=Am k j y r;rw[Qv];by_cases h:p.1=k
  .rw[VA h];by_cases e:p.1=j
   .rw[bn (p:=(p.1,y)) e,bn e,XO,VA (e.symm.trans h)]
   .rw[bh (p:=(p.1,y)) e,bh e,G]
  .rw[Vz h];by_cases e:p.1=j
   .rw[bn (p:=p) e,bn e,XO,Vz (λz=>h<|e.trans z)]
   .rw[bh (p:=p) e,bh e,G]
def xZ(k j:κ)(y:V):∀kvs:List (κ×V),ay kvs k=none->ay (kvs++ [(k,y)]) j=if j=k then some y else ay kvs j
 | [],_=>by
  by_cases e:k=j
  .rw[VA e.symm];exact bn (p:=(k,y)) e
  .rw[Vz (λz=>e z.symm)];exact bh (p:=(k,y)) e
 |p::r,hn=>by
  rw[List.cons_append];let hk:¬p.1=k:=λz=>by rw[bn z]at hn;cases hn
  rw[bh hk]at hn;let G:=xZ k j y r hn;by_cases e:p.1=j
  .rw[bn e,bn e,Vz (λz=>hk<|e.trans z)]
  .rw[bh e,bh e,G]
def de(kvs:List (κ×V))(k j:κ)(y:V):ay (bf kvs k y) j=if j=k then some y else ay kvs j:=by
 unfold bf;by_cases a:(kvs.any λkv=>decide (kv.1=k))=true
 .rw[VA a,Am];rw[dh]at a;by_cases e:j=k
  .let{x,hx}:=Xw.mp a;rw[VA e,e,hx,XO,VA M]
  .rw[Vz e];cases ay kvs j with
   |none=>rfl
   |some x=>rw[XO,Vz e]
 .rw[Vz a];refine xZ k j y kvs ?_;rw[dh]at a;cases q:ay kvs k with
  |none=>rfl
  |some x=>rw[q]at a;exact(a M).elim
def b6(kvs:List (κ×V))(k:κ)(v:V):(bf kvs k v).length<=kvs.length+1:=by
 unfold bf;split
 .rw[Q0];lia
 .rw[Q6,Qr,XQ];lia
def mH{kvs:List (κ×V)}{k:κ}(v:V)(h:ay kvs k=none):bf kvs k v=kvs++ [(k,v)]:=by
 unfold bf;rw[dh,h];exact Vz (_)
def Nd.isSome_eq{u:Option Value}(r:Nd o u):o.isSome=u.isSome:=by
 cases o with
 |none=>cases u with
  |none=>rfl
  |some _=>exact(show False from r).elim
 |some _=>cases u with
  |none=>exact(show False from r).elim
  |some _=>rfl
def KV.val{kvs:List (κ×V)}{vs:List (κ×Value)}(r:KV kvs vs)(k:κ):Nd (ay kvs k) (valueAt vs k):=by
 unfold KV at r
 induction r with
 |nil=>exact VU
 | @cons p q ps qs h t I=>
  let{h1,h2}:=h;by_cases e:p.1=k
  .let G:q.1=k:=h1.symm.trans e;let b:valueAt (q::qs) k=some q.2:=by simp[valueAt,ZQ,G]
   rwa[bn e,b]
  .let G:¬q.1=k:=λz=>e (h1.trans z);let b:valueAt (q::qs) k=valueAt qs k:=by simp[valueAt,ZQ,G]
   rw[bh e,b];exact I
def KV.any{kvs:List (κ×V)}{vs:List (κ×Value)}(r:KV kvs vs)(k:κ):(kvs.any λkv=>decide (kv.1=k))=vs.any λkv=>decide (kv.1=k):=by
 unfold KV at r
 induction r with
 |nil=>rfl
 |cons h t z=>rw[Xe,Xe,z,h.1]
def KV.repl{kvs:List (κ×V)}{vs:List (κ×Value)}(r:KV kvs vs)(k:κ)(G:RelV y u):
  KV (kvs.map λkv=>if kv.1=k then(kv.1,y)else kv) (vs.map λkv=>if kv.1=k then(kv.1,u)else kv):=by
 unfold KV at r⊢
 induction r with
 |nil=>exact .nil
 | @cons p q ps qs h t I=>
  rw[Qv,Qv];refine .cons ?_ I;let{h1,h2}:=h;by_cases e:p.1=k
  .rw[VA e,VA (h1.symm.trans e)];exact⟨h1,G⟩
  .rw[Vz e,Vz (λz=>e<|h1.trans z)];exact⟨h1,h2⟩
def KV.put{kvs:List (κ×V)}{vs:List (κ×Value)}(r:KV kvs vs)(k:κ)(z:RelV y u):KV (bf kvs k y) (stored vs k u):=by
 unfold bf stored;rw[r.any k];by_cases e:(vs.any λkv=>decide (kv.1=k))=true
 .rw[VA e,VA e];exact r.repl k z
 .rw[Vz e,Vz e];exact Paired.snoc r ⟨M,z⟩
def KV.drop{kvs:List (κ×V)}{vs:List (κ×Value)}(r:KV kvs vs)(k:κ):KV (bG kvs k) (without vs k):=by
 unfold KV at r⊢;unfold bG without
 induction r with
 |nil=>exact .nil
 | @cons p q ps qs h t G=>
  let{h1,h2}:=h;rw[Xc,Xc];by_cases e:p.1=k
  .let a:¬decide (p.1≠k)=true:=by simp[e]
   let b:¬decide (q.1≠k)=true:=by simp[h1.symm.trans e]
   rwa[Vz a,Vz b]
  .let I:¬q.1=k:=λz=>e (h1.trans z);let a:decide (p.1≠k)=true:=by simp[e]
   let b:decide (q.1≠k)=true:=by simp[I]
   rw[VA a,VA b];exact .cons ⟨h1,h2⟩ G
def KV.length{kvs:List (κ×V)}{vs:List (κ×Value)}(r:KV kvs vs):kvs.length=vs.length:=Paired.length r
def Bh(kvs:List (κ×V))(k:κ):(bG kvs k).length<=kvs.length:=Qm _ _
end
def re{k:Key}(r:RelV (kV k) u):(bu P w).is k u=true:=by
 cases k with
 |inl i=>let{t,e}:=(show ∃t,u=Value.int i t from r);subst e;exact AT P w i t
 |inr x=>let{t,e}:=(show ∃t,u=Value.str x t from r);subst e;exact AS P w x t
def yr{P:RN}{w:RO}:∀{ks:List Key}{us:RJ},DJ (ks.map kV) us->ItemsAre (bu P w) ks us
 | [],_,r=>by rw[List.map_nil]at r;cases r;exact .nil
 |k::ks,_,r=>by
  rw[Qv]at r;cases r with
  |cons h t=>exact .cons (re h)<|yr t
abbrev KT(H:Hp):List (List Key×V)->List (List Key×Addr×Value)->Prop:=Paired λp q=>p.1=q.1/\H q.2.1=some (.tup<|p.1.map kV)/\RelV p.2 q.2.2
abbrev _root_.Sl:=List (List Key×Addr×Value)
def KT.val{kvs:R9}{xs:Sl}(r:KT H kvs xs)(k:List Key):Nd (ay kvs k) ((atKey xs k).map (·.2)):=by
 induction r with
 |nil=>exact VU
 | @cons p q ps qs h t I=>
  let{h1,_,h2}:=h;by_cases e:p.1=k
  .let G:q.1=k:=h1.symm.trans e;let b:atKey (q::qs) k=some q.2:=by simp[atKey,ZQ,G]
   rwa[bn e,b]
  .let G:¬q.1=k:=λz=>e (h1.trans z);let b:atKey (q::qs) k=atKey qs k:=by simp[atKey,ZQ,G]
   rw[bh e,b];exact I
def KT.repl{kvs:R9}{xs:Sl}(r:KT H kvs xs)(k:List Key)(G:RelV y u):
  KT H (kvs.map λkv=>if kv.1=k then(kv.1,y)else kv) (xs.map<|putAt k u):=by
 induction r with
 |nil=>exact .nil
 | @cons p q ps qs h t I=>
  rw[Qv,Qv];refine .cons ?_ I;let{h1,h2,O}:=h;unfold putAt;by_cases e:p.1=k
  .rw[VA e,VA (h1.symm.trans e)];exact⟨h1,h2,G⟩
  .rw[Vz e,Vz (λz=>e<|h1.trans z)];exact⟨h1,h2,O⟩
def KT.put{kvs:R9}{xs:Sl}(r:KT H kvs xs)(k:List Key)(hb:H b=some (.tup<|k.map kV))(z:RelV y u):
  KT H (bf kvs k y) (storedH xs k b u):=by
 let e:(kvs.any λkv=>decide (kv.1=k))=(atKey xs k).isSome:=by
  rw[dh,(r.val k).isSome_eq,V7]
 unfold bf storedH;rw[e];by_cases q:(atKey xs k).isSome=true
 .rw[VA q,VA q];exact r.repl k z
 .rw[Vz q,Vz q];exact Paired.snoc r ⟨M,hb,z⟩
def KT.keeps{kvs:R9}{xs:Sl}(r:KT H kvs xs)(G:∀b ys,H b=some (.tup ys)->H' b=some (.tup ys)):KT H' kvs xs:=
 Paired.mapP r λ_ _ z=>{z.1,G _ _ z.2.1,z.2.2}
section
variable{h:Heap}
def JS{u:HO}(ok:NY P w H h)(e:Rd H a u):N0 P w H h a u:=e.ok ok
def yD(ok:NY P w H h)(e:Rd H a (.dK kvs)):kvs.length<=sizeLine/\(a==sysModules)=false/\∃vs,KV kvs vs/\h.DictOf (bu P w) a vs:=
 show N0 P w H h a (.dK kvs) from JS ok e
def iW(ok:NY P w H h)(e:H a=some (.dK kvs)):kvs.length<=sizeLine/\(a==sysModules)=false/\∃vs,KV kvs vs/\h.DictOf (bu P w) a vs:=yD ok (.inl e)
def vW{ks:List Key}(ok:NY P w H h)(e:H a=some (.tup<|ks.map kV)):(tupleKind<|bu P w).is h ks a:=by
 let{_,its,r,o,h1,h2,n,z}:=(show N0 P w H h a (.tup<|ks.map kV) from ok a _ e);exact{o,its.toArray,n,h1,h2,z,by simpa using yr r}
def Be{kvs:R9}(ok:NY P w H h)(e:Rd H a (.dT kvs)):kvs.length<=sizeLine/\(a==sysModules)=false/\
  ∃xs,KT H kvs xs/\h.DictOfH (tupleKind<|bu P w) a xs:=by
 let{z,y,xs,r,o,es,ep,h1,h2,G,I,O}:=(show N0 P w H h a (.dT kvs) from JS ok e);refine{z,y,xs,r,o,es,ep,h1,h2,G,I,λx hx=>?_,O};let all:∀{l:R9}{m:Sl},KT H l m->∀x∈m,(tupleKind<|bu P w).is h x.1 x.2.1:=by
  intro l m q
  induction q with
  |nil=>intro x hx;exact nomatch hx
  | @cons p q ps qs hq t U=>
   intro x hx;rcases Qj.mp hx with e|hx
   .subst e;exact vW ok<|by rw[<-hq.1];exact hq.2.1
   .exact U x hx
 exact all r x hx
def MN{kvs:R9}(ok:NY P w H h)(e:H a=some (.dT kvs)):kvs.length<=sizeLine/\(a==sysModules)=false/\
  ∃xs,KT H kvs xs/\h.DictOfH (tupleKind<|bu P w) a xs:=Be ok (.inl e)
end
def Nm(H:Hp)(a:RC)(y:V)(r:RX):Prop:=
 (∃kvs k,Rd H a (.dK kvs)/\y=kV k/\r=ay kvs k)\/∃kvs k b,Rd H a (.dT kvs)/\y= .ref b/\H b=some (.tup<|k.map kV)/\r=ay kvs k
def O1(H:Hp)(a:RC)(y v:V)(H':Hp):Prop:=
 (∃kvs k,H a=some (.dK kvs)/\y=kV k/\kvs.length<sizeLine/\H'=upd H a (.dK<|bf kvs k v))\/
 ∃kvs k b,H a=some (.dT kvs)/\y= .ref b/\H b=some (.tup<|k.map kV)/\kvs.length<sizeLine/\H'=upd H a (.dT<|bf kvs k v)
def Nm.k{k:Key}(e:H a=some (.dK kvs)):Nm H a (kV k) (ay kvs k):= .inl {kvs,k,.inl e,M,M}
def O1.k{k:Key}(e:H a=some (.dK kvs))(hl:kvs.length<sizeLine):O1 H a (kV k) v (upd H a<|.dK<|bf kvs k v):= .inl ⟨kvs,k,e,M,hl,M⟩
def Inv.big(I:Inv X B W H s):sysModules<s.heap.objs.size:=by
 let h:mainGlobals<s.heap.objs.size:=(I.mod.glob.keeps I.bk).lt;exact Nat.lt_trans (_) h
def ET(hu:A.units+1<cLine)(I:Inv X B W H s)(g:Nm H a y (some v))(Z:RelV y u)(h:∀w' s',Inv X B W H s'->RelV v w'->Q w' s'):
  wpAny (model X.prog X.w) A (getItem (.ref a) u) Q E s:=by
 rcases g with⟨kvs,k,e,U,l⟩|⟨kvs,k,b,e,U,eb,l⟩
 .subst U;let{z,hd,vs,G,dd}:=yD I.hok e;let{w',hw,O}:=Nd.some_of (v:=v) (o:=valueAt vs k) (by rw[l];exact G.val k);exact wpAny_getItem_of (re Z) dd.mapOf hw<|h w' _ (I.tok _) O
 .subst U;cases (show u=Value.ref b from Z);let{z,hd,xs,G,dd}:=Be I.hok e;let{w',hw,O}:=Nd.some_of (v:=v) (o:=(atKey xs k).map (·.2)) (by rw[l];exact G.val k);let{p,hp,Y}:=Zk.mp hw;refine wpAny_getItem_heap (tupleKind_room_in1 hu) (vW I.hok eb) dd hp ?_;rw[Y];exact h w' _ (I.tok _) O
def d_in(hu:A.units+1<cLine)(I:Inv X B W H s)(g:Nm H a y o)(U:RelV y u)(h:∀s',Inv X B W H s'->Q (.bool o.isSome) s'):
  wpAny (model X.prog X.w) A (compareOp .In u<|.ref a) Q E s:=by
 rcases g with⟨kvs,k,e,O,l⟩|⟨kvs,k,b,e,O,Y,l⟩
 .subst O;let{z,hd,vs,G,dd}:=yD I.hok e;refine wpAny_in_of (re U) hd dd.mapOf ?_;rw[<-(G.val k).isSome_eq,<-l];exact h _<|I.tok _
 .subst O;cases (show u=Value.ref b from U);let{z,hd,xs,G,dd}:=Be I.hok e;refine wpAny_in_heap (tupleKind_room_in1 hu) (vW I.hok Y) hd dd ?_;let q:=(G.val k).isSome_eq;rw[V7]at q;rw[<-q,<-l];exact h _<|I.tok _
def Jk(hu:A.units+1<cLine)(I:Inv X B W H s)(g:Nm H a y o)(U:RelV y u)(h:∀s',Inv X B W H s'->Q (.bool<|!o.isSome) s'):
  wpAny (model X.prog X.w) A (compareOp .NotIn u<|.ref a) Q E s:=by
 rcases g with⟨kvs,k,e,O,l⟩|⟨kvs,k,b,e,O,Y,l⟩
 .subst O;let{z,hd,vs,G,dd}:=yD I.hok e;refine wpAny_notIn_of (re U) hd dd.mapOf ?_;rw[<-(G.val k).isSome_eq,<-l];exact h _<|I.tok _
 .subst O;cases (show u=Value.ref b from U);let{z,hd,xs,G,dd}:=Be I.hok e;refine wpAny_notIn_heap (tupleKind_room_in1 hu) (vW I.hok Y) hd dd ?_;let q:=(G.val k).isSome_eq;rw[V7]at q;rw[<-q,<-l];exact h _<|I.tok _
def rC{ob:HO}(I:Inv X B W H s)(G:Mut (H a))(hs:Heap.SameBut a s.heap h')(he:∃q,h'.get? a=some q)(new:N0 X.prog X.w (upd H a ob) h' a ob):
  Inv X B W (upd H a ob) {s with heap:=h',toks:=t'}:=
 I.write (x:=a) (e:=a) G (.inl M) (λb q hb z=>(hs.2 b hb).trans z) he new
def zQ(z:kvs.length<=sizeLine)(hd:(a==sysModules)=false)(G:KV kvs vs)(dd:h'.DictOf (bu P w) a vs):
  N0 P w H' h' a (.dK kvs):=⟨z,hd,vs,G,dd⟩
def ES{Q:Sh}(hu:A.units+1<cLine)(I:Inv X B W H s)(g:O1 H a y v H')(Z:RelV y u)(rv:RelV v r)(h:∀s',Inv X B W H' s'->Q Unit.unit s'):
  wpAny (model X.prog X.w) A (setItem (.ref a) u r) Q E s:=by
 rcases g with⟨kvs,k,e,U,l,Y⟩|⟨kvs,k,b,e,U,eb,l,Y⟩
 .subst U Y;let{z,hd,vs,G,dd}:=iW I.hok e;let hz:vs.length<=sizeLine:=by rwa[<-G.length]
  let hl:(bf kvs k v).length<=sizeLine:=by have:=b6 kvs k v;lia
  refine wpAny_setItem_pairs (hsz:=hz) (re Z) dd λh' O hs=>h _ ?_;let he:∃q,h'.get? a=some q:=let⟨q,_,_,hq,_⟩:=O;⟨q,hq⟩
  exact rC I (by rw[e];exact VU) hs he<|zQ hl hd (G.put k rv) O
 .subst U Y;cases (show u=Value.ref b from Z);let{z,hd,xs,G,dd}:=MN I.hok e;let hz:xs.length<=sizeLine:=by rwa[<-Paired.length G]
  let hl:(bf kvs k v).length<=sizeLine:=by have:=b6 kvs k v;lia
  refine wpAny_setItem_heap (hsz:=hz) (tupleKind_room_in1 hu) (vW I.hok eb) dd λh' O hs=>h _ ?_;let{q,es,ep,hq,h2,h3,h4,_,h5}:=O;refine rC I (by rw[e];exact VU) hs ⟨q,hq⟩ {hl,hd,_,(G.put k eb rv).keeps λc ys ec=>?_,q,es,ep,hq,h2,h3,h4,h5};rwa[ae (cM ec e<|λz=>nomatch z)]
section
variable{k:Key}
def J9{more:RJ}(I:Inv X B W H s)(e:H a=some (.dK kvs))(U:RelV (kV k) u)(l:ay kvs k=some v)(Z:more=[]\/∃x,more=[x])
  (h:∀w' s',Inv X B W (upd H a<|.dK<|bG kvs k) s'->RelV v w'->Q w' s'):wpAny (model X.prog X.w) A (call (.builtin Px) (.ref a::u::more)) Q E s:=by
 let{z,hd,vs,G,dd}:=iW I.hok e;let{w',hw,Y}:=Nd.some_of (v:=v) (o:=valueAt vs k) (by rw[<-l];exact G.val k);let hp:(keyPart u).isSome=true:=by
  cases k with
  |inl i=>let{t,q}:=(show ∃t,u=Value.int i t from U);subst q;rfl
  |inr x=>let{t,q}:=(show ∃t,u=Value.str x t from U);subst q;rfl
 let ha:argsOk Px {.ref a::u::more,[]}:=by
  rcases Z with q|⟨x,q⟩
  .subst q;exact PySem.F.args_dict_pop_2 _ _
  .subst q;exact PySem.F.args_dict_pop_3 _ _ _
 refine Wi ZE dd.typeIs PySem.F.entry_dict_pop ha (meets_dict_pop_there (bu X.prog X.w) a (re U) more Z hp)
  {vs,w',dd,by rwa[<-G.length],hw,λh' O hs=>h w' _ ?_ Y}
 let he:∃q,h'.get? a=some q:=let⟨q,_,_,hq,_⟩:=O;⟨q,hq⟩
 exact rC I (by rw[e];exact VU) hs he<|zQ (Qu (Bh kvs k) z) hd (G.drop k) O
def LD(I:Inv X B W H s)(e:H a=some (.dK kvs))(G:RelV (kV k) u)(l:ay kvs k=none)(h:∀s',Inv X B W H s'->Q r s'):
  wpAny (model X.prog X.w) A (call (.builtin Px) [.ref a,u,r]) Q E s:=by
 let{z,hd,vs,O,dd}:=iW I.hok e;let U:valueAt vs k=none:=Nd.none_of (by rw[<-l];exact O.val k);let Y:(keyPart u).isSome=true:=by
  cases k with
  |inl i=>let{t,q}:=(show ∃t,u=Value.int i t from G);subst q;rfl
  |inr x=>let{t,q}:=(show ∃t,u=Value.str x t from G);subst q;rfl
 exact Wi ZE dd.typeIs PySem.F.entry_dict_pop (PySem.F.args_dict_pop_3 _ _ _) (meets_dict_pop_default (bu X.prog X.w) a (re G) hd Y r) {vs,dd,U,h _<|I.tok _}
def MO(I:Inv X B W H s)(e:Rd H a (.dK kvs))(h:∀t s',Inv X B W H s'->Q (.int kvs.length t) s'):wpAny (model X.prog X.w) A (call (.builtin "len") [.ref a]) Q E s:=by
 let{z,hd,vs,G,dd}:=yD I.hok e;refine call_len_dict hd dd (by rw[<-G.length];rw[sizeLine_eq]at z;lia) ?_;rw[<-G.length];exact h _ _<|I.tok _
end
def NoSl(i:Expr):Prop:=∀ov iv,subscripted i false ov iv=operate [ov,iv] (getItem ov iv)
def Il{prog:RN}{env:Env}{value z:Expr}{id:String} 
  (hl:typeLookup (.type T) "__getitem__"=pure (some<|.builtin id)) (hs:NoSl z)
  (h:wpAny (model prog w) A (eval value env) (λo s₁=>wpAny (model prog w) A (eval z env) (λi s₂=>s₂.TypeIs o T/\wpAny (model prog w) A (getItem o i) Q E s₂) E s₁) E s):
  wpAny (model prog w) A (eval (.Subscript value z pos) env) Q E s:=by
 refine Subscript_<|VY h (λo s₁ h₁=>VY h₁ (λi s₂ G=>?_) λ_ _ x=>x) λ_ _ x=>x;let{U,G}:=G;unfold subscriptTail;refine VG ?_;rw[getitemInPython_of_ne U.not_modules];refine VG<|wpAny_specialOf U hl ?_;let fin:wpAny (model prog w) A (subscripted z false o i) (λr I=>wpAny (model prog w) A (letTemporaryGo value o r>>=λ_=>pure r) Q E I) E s₂:=by
  rw[hs o i];exact wpAny_operating (VY G (λr I O=>VG<|wpAny_letTemporaryGo<|VQ O) λ_ _ x=>x)
 first
  |exact VQ<|VG fin
  |exact VG<|VQ (VG fin)
  |exact VG fin
def Bj(I:Inv X B W H s)(g:Nm H a y o):s.TypeIs (.ref a) zm:=by
 rcases g with⟨kvs,k,e,_,_⟩|⟨kvs,k,b,e,_,_,_⟩
 .let{_,_,vs,_,dd}:=yD I.hok e;exact dd.typeIs
 .let{_,_,xs,_,dd}:=Be I.hok e;exact dd.typeIs
inductive KC(Q:VK)(x y:V)(H2:Hp):Prop
 |mk(a v:_)(_:x= .ref a)(_:Nm H2 a y (some v))(_:Q v H2)
def Me(td ty:TE):TE:=λW H Q=>td W H λx H1=>ty W H1 λy H2=>KC Q x y H2
inductive Md(Q:VK)(y x:V)(H2:Hp):Prop
 |mk(a o:_)(_:x= .ref a)(_:Nm H2 a y o)(_:Q (.bl o.isSome) H2)
def tDIn(ty td:TE):TE:=λW H Q=>ty W H λy H1=>td W H1 λx H2=>Md Q y x H2
def Ik(ty td:TE):TE:=λW H Q=>ty W H λy H1=>td W H1 λx H2=>∃a o,x= .ref a/\Nm H2 a y o/\Q (.bl<|!o.isSome) H2
inductive KK(D:rZ)(W:St)(v x y:V)(H3:Hp):Prop
 |mk(a H4:_)(_:x= .ref a)(_:O1 H3 a y v H4)(_:D.nx W H4)
def Mj(td ty tv:TE):TS:=λD W H=>tv W H λv H1=>td W H1 λx H2=>ty W H2 λy H3=>KK D W v x y H3
section
variable{o i value:Expr}{pos' tpos:Pos}{td ty tv:TE}
def Dc(hu:X.A.units+1<cLine)(U:PE X o td)(hi:PE X i ty)(hs:NoSl i):PE X (.Subscript o i pos) (Me td ty):=by
 intro B s W H Q I h;refine Il PySem.F.slot_dict_getitem.lookup hs<|N4 (U B s W H _ I h) λu s1 ⟨x,H1,Y,Z,q1⟩=>N4 (hi B s1 W H1 _ Y q1) λiv s2 z=>?_;let{y,H2,O,ry,a,v,ex,g,q2}:=z;subst ex;obtain rfl:u=Value.ref a:=Z;exact{Bj O g,ET hu O g ry λw' s3 I3 G=>⟨v,H2,I3,G,q2⟩}
def Cu(hu:X.A.units+1<cLine)(hi:PE X i ty)(G:PE X o td):PC X .In i o (tDIn ty td):=by
 intro B s W H Q I h;refine N4 (hi B s W H _ I h) λiv s1 ⟨y,H1,O,U,Y⟩=>N4 (G B s1 W H1 _ O Y) λu s2 z=>?_;let{x,H2,Z,rx,a,ov,ex,g,q2}:=z;subst ex;obtain rfl:u=Value.ref a:=rx;exact d_in hu Z g U λs3 I3=>{.bl ov.isSome,H2,I3,M,q2}
def ye(hu:X.A.units+1<cLine)(hi:PE X i ty)(G:PE X o td):PC X .NotIn i o (Ik ty td):=by
 intro B s W H Q I h;refine N4 (hi B s W H _ I h) λiv s1 ⟨y,H1,O,U,Y⟩=>N4 (G B s1 W H1 _ O Y) λu s2 z=>?_;let{x,H2,Z,rx,a,ov,ex,g,q2}:=z;subst ex;obtain rfl:u=Value.ref a:=rx;exact Jk hu Z g U λs3 I3=>{.bl<|!ov.isSome,H2,I3,M,q2}
def kL(hu:X.A.units+1<cLine)(G:PE X o td)(hi:PE X i ty)(O:PE X value tv)(hs:swapsWith value (some<|.Subscript o i pos') pos.line X.env=pure false):
  PS X (.Assign [.Subscript o i pos'] value pos) (Mj td ty tv):=by
 intro B s W H D I h;refine wpAny_Assign_Subscript (N4 (O B s W H _ I h) λr s1 ⟨v,H1,U,rv,Y⟩=>N4 (G B s1 W H1 _ U Y) λu Z ⟨x,H2,I2,rx,q2⟩=>N4 (hi B Z W H2 _ I2 q2) λiv s3 z=>?_) hs;let{y,H3,I3,ry,a,H4,ex,g,q3}:=z;subst ex;obtain rfl:u=Value.ref a:=rx;exact ES hu I3 g ry rv λs4 I4=>⟨W,H4,I4,q3⟩
end
def wq(h:Heap)(hb:sysModules<h.objs.size):N0 P w H (h.push {cls:= .type zm,data:= .dict #[]}) h.objs.size (.dK []):=
 {Qf _,VR.mpr<|Ne.symm<|QM hb,[],.nil,Heap.DictOf.new h}
def KB:TE:=λ_ H Q=>∀p,H p=none->Q (.ref p) (upd H p<|.dK [])
def e7:PE X (.Dict [] [] pos) KB:=λB s W H Q I h=>
 wpAny_Dict_empty {.ref s.heap.objs.size,_,I.laid (a:=s.heap.objs.size) (o:= .dK []) (t':=s.toks) (λ_ _ q=>VD _ q) (Q4 _)<|wq s.heap I.big,M,h _<|I.hok.fresh (Q4 _)}
end L2
namespace Att
open PySem PySem.W PySem.Calls PyProof.Rows
variable{h:Heap}{n:Nat}{l:OpenLaw}{P:Params}{YP:World->Heap->Prop}
def uq:∀(ns:RF)(vs:RJ),WellAll P h vs (ns.map WData.int)->IntsAre vs ns:=by
 intro ns
 induction ns with
 |nil=>
  intro vs w;rw[List.map_nil]at w;cases w;exact .nil
 |cons n ns z=>
  intro vs w;rw[Qv]at w;cases w with
  |cons a b=>
   cases a;exact .cons _ _<|z _ b
def Ed(hn:l.most=some n){args:List WData}{z:RJ}
  (G:l.row.toRowW.claim.pre args=true) (Z:WellAll P h z args):
  ∃a vs ns,z=[Value.ref a]/\args=[WData.list (ns.map WData.int)]/\h.get? a=some {cls:= .type gs,data:= .seq vs.toArray}/\IntsAre vs ns/\ns.length<=n:=by
 let a0:WShape.hasAll [] args [.list .int]=true:=(pre_splitW G).1;let hc:l.pre.holds [] {args:=args}=true:=(pre_splitW G).2;let{d,r,rfl,h1,h2}:=hasAllW_cons a0;obtain rfl:=hasAllW_nil h2;let{xs,rfl,h3}:=hasW_list h1;let{ns,rfl}:=items_int h3;let I:ns.length<=n:=by
  unfold OpenLaw.pre at hc;let U:(WTm.not<|.lt (.lit<|.int (n:Int))<|.len<|.arg 0).holds [] {args:=[.list (ns.map .int)]}=true:=by
   let U:=(holds_andW hc).1;rw[hn]at U;exact U
  let Y:=condW_of U (w_not<|w_lt w_lit<|w_len_list<|w_arg M);rw[Q0]at Y;refine Nat.le_of_not_lt λq=>?_;let q':(n:Int)<((ns.length:Nat):Int):=()
  first
   |(rw[VJ q']at Y;exact VE Y (_))
   |(simp at Y;lia)
 cases Z with
 |cons w1 w2=>
  cases w2;cases w1 with
  |list ho O=>exact{_,_,ns,M,M,ho,uq ns _ O,I}
def Ei(l:OpenLaw)(args:List WData):l.row.toRowW.claim.post args (.bool true) args=true:=
 postW_of (r:=l.row.toRowW) (X:=(true==true))
  (show WShape.has [] (.bool true) .bool=true by first|rfl|decide|simp[WShape.has,WShape.arms,WShape.armsAll])
  (show(WTm.eq .res<|.lit<|.bool true).value [] {args:=args,res:=some (.bool true),after:=args}=some (.bool<|true==true) from w_eq_bool (w_res M) w_lit) M
abbrev _root_.Sn:=(Str->Option Value)->Heap->Prop
def attach_call{q:RN}{loose:RS}{XP:Sn}{d:DefRec}
  (hn:l.most=some n) (a1:d.params.defaults=[])
  (call:∀(w:RO)(s₀ s₁:RD)(mg mb:RU)(O:RC)(o:Obj)(pm cd z:RI)(a:RC)(vs:RJ)(ns:RF),
   Ground q loose [] XP w s₀ mg mb s₁.heap->YP w s₁.heap->
   s₁.heap.get? O=some o->o.data= .func (docDef d.name d.params d.body d.scope pm cd z)->s₁.heap.CodeRec cd d.name->mg d.name=some (.ref O)->
   s₁.heap.get? a=some {cls:= .type gs,data:= .seq vs.toArray}->IntsAre vs ns->ns.length<=n->s₁.gens= #[]->
   codeAny (model l.prog w) callerA (.call (.ref O) {[.ref a],[]}) (λr s'=>r= .ok (.ret<|.bool true)/\OldK s₁.heap s'.heap/\s'.os=s₁.os/\AllBare s'.gens) s₁):
  WalkO q loose XP YP l.row.toRowW d [] (λf vs=>PySem.call f vs):=by
 intro w s₀ s₁ mg mb G Y O o pm cd z dV kV ho hd a2 hD a3 hg args a5 as U a6 aa a4 ab;obtain rfl:dV= .none:=Dflts.none hD a1;obtain rfl:kV= .none:=Dflts.noKw hD;let{a,vs,ns,rfl,rfl,Z,I,a0}:=Ed hn U a4;refine enter_call<|codeAny_mono (call w s₀ s₁ mg mb O o pm cd z a vs ns G Y ho (fd_plain hd) a2 a3 Z I a0 hg) λr s' hq=>?_;let{rfl,h2,h3,h4}:=hq;exact{.inl {.bool true,.bool true,[],M,λ_=>M,.bool true,Ei l _,λ_=>{VV,λ_ hm=>(nomatch hm)}},h2,h3,h4}
end Att
namespace L2
open PySem PySem.Spec PyProof.Rows
variable{a f:RC}{X:Cx}{fd:R5}{base:Heap}{H:Hp}{ns:RF}{N:RS}{xs:RG}{n:Nat}{P:RN}{A Wn c:Prop}{K:Wp}{sp:Sp}{W:St}{st:Stmt}{qual x:Str}{nx:Sb}{g:TG}{tb:TS}{Φ:TS->Prop}{F:TS->TS->TS}{rt:VK}{w:RO}{YP:World->Heap->Prop}
def xY:∀{vs:RJ}{ns:RF},IntsAre vs ns->DJ (ns.map V.int) vs
 |_,_,.nil=> .nil
 |_,_,.cons n t h=> .cons ⟨t,M⟩ (xY h)
def LQ(H:Hp):Prop:=∀b,H b=none\/∃o xs,H b=some (.frz o<|.lst xs)
def GG{mg mb:RU}{CX:CXT}{k:Nat}{fa:RC}{s₁:RD}{vs:RJ} 
  (KX:K.In s₁.heap) (Y:s₁.heap.Ns mainGlobals mg) (hb:s₁.heap.Ns builtinsNs mb) (a3:∀x:Str,x≠Pg->mb x=bootBuiltins x) (Z:s₁.heap.NoLimit) (hg:s₁.gens= #[])
  (ha:s₁.heap.get? a=some {cls:= .type gs,data:= .seq vs.toArray}) (hi:IntsAre vs ns) (hl:ns.length<=sizeLine) (hr:NH k callerA)
  (F:∀base:Heap,K.In base->base.Ns mainGlobals mg->Bs P w K mg base CX k fa fd [x] sp) (U:∀(s:RD)(u:RI),BindsTo s fd {[u],[]} [(x,u)])
  (a4:∀H:Hp,LQ H->DI K H a (ns.map V.int)->sp [.ref a] H (λv _=>v= .bl true) λ_ _ _=>False)
  (a5:∀H e s',CX [] H s₁ (λ_ _ _=>False) e s'->False):
  codeAny (model P w) callerA (.call (.ref fa) {[.ref a],[]}) (λr s'=>r= .ok (.ret<|.bool true)/\OldK s₁.heap s'.heap/\s'.os=s₁.os/\AllBare s'.gens) s₁:=by
 let rv:=xY hi;let a0:=hi.length;let O:∀H:Hp,LQ H->DI K H a (ns.map V.int)->NY P w H s₁.heap->(∀b,H b≠none->b=a)->(H a≠none->K.lookup a=none)->
   codeAny (model P w) callerA (.call (.ref fa) {[.ref a],[]}) (λr s'=>r= .ok (.ret<|.bool true)/\OldK s₁.heap s'.heap/\s'.os=s₁.os/\AllBare s'.gens) s₁:=by
  intro H hO hS hok hA hK;let G:∀{b:RC}{o:Obj},s₁.heap.get? b=some o->H b=none->(zJ s₁.heap H).get? b=some o:=λe n=>GN e n;let a6:∀{b:RC}{o:Obj}{es:Array DictEntry}{ep:Nat},s₁.heap.get? b=some o->o.data= .dict es ep->H b=none:=λ{b o es ep} e d=>by
   cases q:H b with
   |none=>rfl
   |some u=>
    let e':b=a:=hA b (by rw[q];simp);subst e';rw[ha]at e;cases e;let d':Data.seq vs.toArray _=Data.dict es ep:=d;cases d'
  let I:∀{b:RC}{m:RU},s₁.heap.Ns b m->(zJ s₁.heap H).Ns b m:=λ{b m} ⟨o,es,ep,e,d,r⟩=>{o,es,ep,G e<|a6 e d,d,r};let a1:K.In (zJ s₁.heap H):=λb o e=>G (KX b o e) (by
   cases q:H b with
   |none=>rfl
   |some u=>
    let e':b=a:=hA b (by rw[q];simp);subst e';rw[hK (by rw[q];simp)]at e;cases e)
  let hM:Mod K mg (zJ s₁.heap H):={a1,I Y,{mb,I hb,a3},let⟨mc,h1,h2⟩:=Z;{mc,I h1,h2}};let e0:OU P w K mg (zJ s₁.heap H) callerA [] s₁ H:={M,hM,λb o e=>IK e,Z0<|EJ _ _,trivial,λb hb=>VE (show b∈([]:RQ) from hb) (by simp),hok,.of_eq hg};refine codeAny_mono ((F _ a1<|I Y).run callerA [] s₁ H {[.ref a],[]} [.ref a] [.ref a] _ _ hr e0 (U s₁<|.ref a) (.cons M .nil)<|a4 H hO hS) λr s' h=>?_;cases r with
  |error e=>exact(a5 H e s' h).elim
  |ok fl=>
   cases fl with
   |next=>exact False.elim h
   |brk=>exact False.elim h
   |cont=>exact False.elim h
   |ret u=>
    let{v,H',os,bare,un,a2,r',q}:=h;let q':v= .bl true:=q;subst q';obtain rfl:u=Value.bool true:=r';refine{M,OldK.of_keep λb o e=>?_,os,bare};cases q:H b with
    |none=>exact un.keep b o e q (by intro z;exact VE (show b∈([]:RQ) from z)<|by simp)<|by simp
    |some u=>
     rcases hO b with z|⟨ob,xs,z⟩
     .rw[q]at z;cases z
     .let z2:=un.frzs b ob _ z;let{e1,_}:=hok b _ z;let{e2,_}:=a2 b _ z2;rw[e]at e1;cases e1;exact e2
 cases hk:K.lookup a with
 |some o=>
  let e:=KX a o hk;rw[ha]at e;cases e;refine O (λ_=>none) (λ_=> .inl M) (.inr {_,vs.toArray,_,hk,M,M,M,by rwa[Qh,a0],by simpa using rv}) (λb u z=>by let z':(none:Option HO)=some u:=z;cases z') (λb z=>VE M z) λz=>VE M z
 |none=>
  refine O (λb=>if b=a then some (.frz {cls:= .type gs,data:= .seq vs.toArray} (.lst<|ns.map V.int))else none) (λb=>?_) (.inl<|.inr {{cls:= .type gs,data:= .seq vs.toArray},VA M}) (λb u z=>?_) (λb z=>?_) λ_=>hk
  .by_cases hb:b=a
   .exact .inr {_,_,VA hb}
   .exact .inl<|Vz hb
  .by_cases hb:b=a
   .let z':=(VA hb).symm.trans z;cases z';subst hb;exact{ha,by rwa[Q0],vs,_,rv,ha}
   .let z':=(Vz hb).symm.trans z;cases z'
  .by_cases hb:b=a
   .exact hb
   .exact VE (Vz hb) z
def walk_of{l:PySem.W.OpenLaw}{k:Nat}{q:RN}{loose:RS}{XP:Sn}{d:DefRec}{K:Params->Wp}{CX:World->CXT}{sp:World->Sp} 
  (hn:l.most=some n) (Z:n<=sizeLine) (a0:d.params.defaults=[]) (hr:NH k callerA)
  (hY:∀(w:World)(h:Heap),YP w h->(K w.params).In h)
  (F:∀(w:RO)(mg:RU)(U:RC)(h:Heap),(K w.params).In h->h.Ns mainGlobals mg->mg d.name=some (.ref U)->
   ∃fd:FuncData,(∀(s:RD)(u:RI),BindsTo s fd {[u],[]} [(x,u)])/\
    ∀base:Heap,(K w.params).In base->base.Ns mainGlobals mg->Bs l.prog w (K w.params) mg base (CX w) k U fd [x] (sp w))
  (a1:∀(w:RO)(H:Hp)(a:RC)(ns:RF),ns.length<=n->LQ H->DI (K w.params) H a (ns.map V.int)->sp w [.ref a] H (λv _=>v= .bl true) λ_ _ _=>False)
  (a2:∀(w:RO)(H:Hp)(s:RD)(e:RI)(s':RD),CX w [] H s (λ_ _ _=>False) e s'->False):
  PySem.W.WalkO q loose XP YP l.row.toRowW d [] (λf vs=>PySem.call f vs):=by
 refine Att.attach_call hn a0 λw s₀ s₁ mg mb U o pm cd a4 a vs ns G Y ho hd a5 a3 O I z hg=>?_;let KX:=hY w _ Y;let{fd,hb,hF}:=F w mg U _ KX G.T.g a3;exact GG KX G.T.g G.T.b G.T.builtins G.T.nolimit hg O I (Qu z Z) hr hF hb (λH hO hS=>a1 w H a ns z hO hS) λH e s'=>a2 w H s₁ e s'
abbrev N8:CXT:=λ_ _ _ _ _ _=>False
abbrev E0:XK:=λ_ _ _=>False
def au:lH N8 X E0:=λ_ _ _ _ _ _ _ h=>h.elim
structure NC(K:Wp)(x qual:Str)(st:Stmt)(f:RC)(fd:R5):Prop where
 ex:∃(oc:RI)(od:R1)(kV doc pm:RI)(an:R1)(cdv ct:RI)(osl:Sj),
  fd=PySem.W.fnOf x qual (gT st) (d8 st) (ak st) .none kV doc pm an cdv ct/\K.lookup f=some {oc,od,.func fd,osl}/\PySem.W.codeIn K cdv qual=true
 kp:PySem.W.keepIn K (.ref f)=true
section
variable{mg:RU}
def NC.ok{ps:RS}{k:Nat}(F:NC K x qual st f fd)(S:ar N ps (ak st))(len:∀vs H Q E,sp vs H Q E->vs.length=ps.length)
  (G:∀(z:RI)(A:RT)(outer:R6)(s:RD)(H:Hp)(vs:RG)(Q:VK)(E:XK),NH k (A.deeper<|envOfC qual (ak st) s.heap.objs.size f z)->sp vs H Q E->
   ∃t,Nj (Bl N8 P w K mg base N qual (ak st) f z A outer s H E).nox (d8 st) t/\t {nx:=λ_ H'=>Q .non H',rt:=Q} (start N vs) H):Bs P w K mg base N8 (k+1) f fd ps sp:=by
 let{oc,od,kV,U,pm,an,z,ct,Y,rfl,Z,I}:=F.ex;refine J8 Z I S len λA outer s H vs Q E hr O=>?_;let{t,h,q}:=G z A outer s H vs Q E hr O;exact⟨t,h.nox,q⟩
def Lz{Y:RI}{Z O:R1}{I:Sj}{kV G U z ct:RI}(l:K.lookup f=some {Y,Z,.func<|PySem.W.fnOf x qual (gT st) (d8 st) (ak st) .none kV G U O z ct,I})
  (c:PySem.W.codeIn K z qual=true) (k:PySem.W.keepIn K (.ref f)=true):NC K x qual st f (PySem.W.fnOf x qual (gT st) (d8 st) (ak st) .none kV G U O z ct):={⟨Y,Z,kV,G,U,O,z,ct,I,M,l,c⟩,k}
end
def iV{A:RT}{k:Nat}(z:NH k A):A.units+1<cLine:=Xo (ZM (by decide:1<=64) _) z.units
def bQ(h:n<=1000):n<sizeLine:=Xo h (_)
def pv(i:Nat){x:Str}{pos:Pos}(hN:X.N[i]?=some x:=by rfl)(G:PX X.env.scope x:=by first|exact Or.inl M|exact Or.inr (Or.inl M)|exact Or.inr<|Or.inr M)(hd:(x==(mu:Str))=false:=by decide)
  (z:(x==("__classdict__":Str))=false:=by decide):PE X (.Name x pos) (Kv i):=KU hN G hd z
def dP(h:Wn):if false=true then A else Wn:=by
 rwa[Vz Qc]
def cC(h:A):if true=true then A else Wn:=by
 rwa[VA M]
def cT[Decidable c](h1:c->A)(h2:¬c->Wn):if c then A else Wn:=by
 by_cases h:c
 .rw[VA h];exact h1 h
 .rw[Vz h];exact h2 h
def m9[Decidable c](hc:c)(h:Wn):if(!decide c)=true then A else Wn:=by
 rw[VJ hc];exact dP h
def Ck(H H':Hp):Prop:=∀b o,H b=some o->H' b=some o
def Ck.refl(H:Hp):Ck H H:=λ_ _ h=>h
def Ck.trans{H1 H2:Hp}(a:Ck H H1)(b:Ck H1 H2):Ck H H2:=λc o h=>b c o (a c o h)
def Ck.seq{H':Hp}(e:Ck H H')(h:DI K H a xs):DI K H' a xs:=by
 rcases h with(h|⟨o,h⟩)|h
 .exact .inl<|.inl (e _ _ h)
 .exact .inl<|.inr {o,e _ _ h}
 .exact .inr h
def EV:i6 X (.builtin "len") (λxs H Q=>∃a kvs,xs=[V.ref a]/\H a=some (.dK kvs)/\Q (.int kvs.length) H):=by
 intro B s W H xs us Q I r h;let{a,kvs,rfl,ha,q}:=h;let{u,rfl,z}:=tx r;cases z;exact MO I (.inl ha) λt s' G=>{.int kvs.length,H,G,⟨t,M⟩,q}
section
variable{κ:Type}[DecidableEq κ]
def Fq{kvs:List (κ×V)}{k:κ}(h:ay kvs k=none):¬k∈kvs.map (·.1):=by
 intro m;let{p,z,e}:=Qe.mp m;let q:(kvs.any λkv=>decide (kv.1=k))=true:=XA.mpr {p,z,VJ e};rw[dh,h]at q;exact VE q<|by simp
def uv{kvs:List (κ×V)}{k:κ}{v:V}(h:ay kvs k=some v):k∈kvs.map (·.1):=by
 let q:(kvs.any λkv=>decide (kv.1=k))=true:=by
  rw[dh,h]
  all_goals rfl
 let{p,z,e}:=XA.mp q;exact Qe.mpr {p,z,VH e}
def Df:∀{l:List κ}{k:κ},l.Nodup->¬k∈l->(l++ [k]).Nodup
 | [],k,_,_=>by simp
 |a::r,k,h,hk=>by
  let{h1,h2}:=QR.mp h;show(a::(r++ [k])).Nodup;refine QR.mpr {λm=>?_,Df h2 λm=>hk<|Qj.mpr (Or.inr m)};rcases Q5.mp m with q|q
  .exact h1 q
  .exact hk<|Qj.mpr (Or.inl (Q7.mp q).symm)
def IM{kvs:List (κ×V)}{k:κ}(v:V)(z:(kvs.map (·.1)).Nodup)(h:ay kvs k=none):((bf kvs k v).map (·.1)).Nodup:=by
 rw[mH v h,Q9];exact Df z<|Fq h
def sU{p:κ×V}{r:List (κ×V)}{k:κ}(e:p.1=k):bG (p::r) k=bG r k:=by
 unfold bG;rw[Xc,Vz (by simp[e])]
def oz{p:κ×V}{r:List (κ×V)}{k:κ}(e:¬p.1=k):bG (p::r) k=p::bG r k:=by
 unfold bG;rw[Xc,VA (by simp[e])]
def Bg:∀{kvs:List (κ×V)}{k:κ},¬k∈kvs.map (·.1)->bG kvs k=kvs
 | [],_,_=>rfl
 |p::r,k,h=>by
  let h':¬k∈r.map (·.1):=λm=>by
   let{q,hq,e}:=Qe.mp m;exact h<|Qe.mpr {q,Qj.mpr<|Or.inr hq,e}
  rw[oz λe=>h (Qe.mpr {p,Qj.mpr<|Or.inl M,e}),Bg h']
def yB{kvs:List (κ×V)}{k:κ}{p:κ×V}(h:p∈bG kvs k):p∈kvs:=(Qt.mp h).1
def qU:∀{kvs:List (κ×V)}{k:κ},(kvs.map (·.1)).Nodup->((bG kvs k).map (·.1)).Nodup
 | [],_,_=>QZ
 |p::r,k,h=>by
  let h:(p.1::r.map (·.1)).Nodup:=h;let{h1,h2}:=QR.mp h;by_cases e:p.1=k
  .rw[sU e];exact qU h2
  .rw[oz e];show(p.1::(bG r k).map (·.1)).Nodup;refine QR.mpr {λm=>h1 ?_,qU h2};let{q,hq,z}:=Qe.mp m;exact Qe.mpr {q,yB hq,z}
def yC:∀{kvs:List (κ×V)}{k:κ},(kvs.map (·.1)).Nodup->k∈kvs.map (·.1)->(bG kvs k).length+1=kvs.length
 | [],_,_,m=>by simp at m
 |p::r,k,h,m=>by
  let h:(p.1::r.map (·.1)).Nodup:=h;let m:k=p.1\/k∈r.map (·.1):=Qj.mp m;let{h1,h2}:=QR.mp h;by_cases e:p.1=k
  .subst e;rw[sU M,Bg h1]
   all_goals rfl
  .let m':k∈r.map (·.1):=m.resolve_left λz=>e z.symm;let q:=yC h2 m';rw[oz e,Qr,Qr];lia
end
def bq:bootBuiltins "len"=some (.builtin "len"):=by decide+kernel
def b8:bootBuiltins wy=some (.builtin wy):=by decide+kernel
def tj:bootBuiltins "min"=some (.builtin "min"):=by decide+kernel
def EW:bootBuiltins Pu=some (.builtin Pu):=by decide+kernel
def LF:bootBuiltins Po=some (.type Po):=by decide+kernel
def Jn:bootBuiltins Rb=some (.type Rb):=by decide+kernel
def zX:bootBuiltins "max"=some (.builtin "max"):=by decide+kernel
def Jm:bootBuiltins gs=some (.type gs):=by decide+kernel
def zY:bootBuiltins zm=some (.type zm):=by decide+kernel
def Lf:PySem.W.kitOne K (.type Po) (.type Po)=some true:=by kernel_rfl
def Lg:PySem.W.kitOne K (.type Po) (.type Rb)=some false:=by kernel_rfl
def Lh:PySem.W.kitOne K (.type Rb) (.type Po)=some true:=by kernel_rfl
def Li:PySem.W.kitOne K (.type Rb) (.type Rb)=some true:=by kernel_rfl
def Le:PySem.W.kitOne K (.type "NoneType") (.type Po)=some false:=by kernel_rfl
def Ld:PySem.W.kitOne K (.type "str") (.type Po)=some false:=by kernel_rfl
def lY[Decidable c](hc:c)(h:A):if decide c=true then A else Wn:=by
 rw[VJ hc];exact cC h
def bz[Decidable c](hc:¬c)(h:Wn):if decide c=true then A else Wn:=by
 rw[VM hc];exact dP h
def vZ[Decidable c](hc:¬c)(h:A):if(!decide c)=true then A else Wn:=by
 rw[VM hc];exact cC h
def jW(Pv:Sd)(I:Pv 0 W H)(hl:∀i W H,i<=xs.length->Pv i W H->DI K H a xs)
  (hs:∀i x W H,xs[i]?=some x->Pv i W H->g x W H λz H2=>tb {Pv<|i+1,rt,nx,Pv<|i+1} z H2) (hd:∀W H,Pv xs.length W H->nx W H):
  ∃Wo:Nat->Nat->St->Hp->Prop,(∃m,Wo 0 m W H)/\∀i m W H,Wo i m W H->
   ((OY K a).stop i H/\nx W H)\/((OY K a).go i H/\∃N:St->Hp->Prop,(∀G H',N G H'->∃m',m'<m/\Wo (i+1) m' G H')/\∀x H',(OY K a).yld i H x H'->g x W H' λz H2=>tb ⟨N,rt,nx,N⟩ z H2):=
 GV (D:={nx,rt,λ_ _=>False,λ_ _=>False}) Pv I hl hs hd
def wj{lo:Int}(Pv:Sd)(I:Pv 0 W H)
  (hs:∀i W H,i<n->Pv i W H->g (.int<|lo+i) W H λz H2=>tb {Pv<|i+1,rt,nx,Pv<|i+1} z H2) (hd:∀W H,Pv n W H->nx W H):
  ∃Wo:Nat->Nat->St->Hp->Prop,(∃m,Wo 0 m W H)/\∀i m W H,Wo i m W H->
   ((Od lo n).stop i H/\nx W H)\/((Od lo n).go i H/\∃N:St->Hp->Prop,(∀G H',N G H'->∃m',m'<m/\Wo (i+1) m' G H')/\∀x H',(Od lo n).yld i H x H'->g x W H' λz H2=>tb ⟨N,rt,nx,N⟩ z H2):=
 yw (D:={nx,rt,λ_ _=>False,λ_ _=>False}) Pv I hs hd
def Br{k:Int}(G:0<=k)(h:k<(ns.length:Int)):OR (ns.map V.int) k=some (.int<|ns.getD k.toNat 0):=by
 let{j,rfl}:=Z7 G;refine rH ?_;let z:j<ns.length:=();rw[Qp,Q3 z,QS,Qn,Q3 z];rfl
def Hb{k:Int}(h:¬k<(ns.length:Int)):ns.getD k.toNat 0=0:=by
 rw[Qn,ZF ()];rfl
def tI:i6 X (.builtin wy) (λxs H Q=>∃x n t b,xs=[x,.ty n]/\NN X.K H x t/\PySem.W.kitOne X.K t (.type n)=some b/\Q (.bl b) H):=by
 intro B s W H xs us Q I r h;let{x,n,t,b,rfl,ty,e,q}:=h;let{u,w',rfl,G,z}:=tw r;cases (show w'=Value.type n from z);exact yt I G ty e λtk=>{.bl b,H,I.tok _,M,q}
def NB{P:RS}{sc:Scope}(a:sc.kind= .function:=by rfl)(b:sc.isCoroutine=false:=by rfl)(c:sc.isGenerator=false:=by rfl)(d:N.Nodup:=by decide+kernel)(e:N.take P.length=P:=by rfl)(f:∀x∈P,sc.names.lookup x=some .local\/sc.names.lookup x=some .cell:=by decide+kernel)(g:∀y∈sc.names,y.2≠ .free:=by decide+kernel):ar N P sc:=⟨a,b,c,d,e,f,g⟩
def NH.mo{j k:Nat}{A:RT}(r:NH k A)(h:j<=k:=by decide):NH j A:=r.mono h
def NC.okl{mg:RU}{ps:RS}{k:Nat}(F:NC K x qual st f fd)(S:ar N ps (ak st))
  (G:∀{z:RI}{A:RT}{outer:R6}(s:RD)(H:Hp)(vs:RG)(Q:VK)(E:XK),NH k (A.deeper<|envOfC qual (ak st) s.heap.objs.size f z)->sp vs H Q E->
   N.Nodup->let X:=(Bl N8 P w K mg base N qual (ak st) f z A outer s H E).nox
   ∃t,Nj X (d8 st) t/\t {nx:=λ_ H'=>Q .non H',rt:=Q} (start N vs) H)
  (len:∀vs H Q E,sp vs H Q E->vs.length=ps.length:=by intro _ _ _ _ h;repeat (first|(let{rfl,_}:=h;exact M)|let{_,h}:=h)):Bs P w K mg base N8 (k+1) f fd ps sp:=F.ok S len λz A outer s H vs Q E I h=>G s H vs Q E I h S.nd
section
variable{pos:Pos}
abbrev Ac{X:Cx}:= @pv X 0
abbrev E5{X:Cx}:= @pv X 1
abbrev HN{X:Cx}:= @pv X 2
abbrev NJ{X:Cx}:= @pv X 3
abbrev Nl{X:Cx}:= @pv X 4
abbrev OP{X:Cx}:= @pv X 5
abbrev P7{X:Cx}:= @pv X 6
abbrev pv7{X:Cx}:= @pv X 7
abbrev pv8{X:Cx}:= @pv X 8
abbrev FS{X:Cx}:= @pv X 10
abbrev pv11{X:Cx}:= @pv X 11
abbrev pv12{X:Cx}:= @pv X 12
def OQ(i:Nat)(hN:X.N.Nodup:=by assumption)(hi:X.N[i]?=some x:=by rfl)(hx:Loc X.env.scope x:=by exact Or.inl M)(hf:X.fn x=true\/X.env.scope.names.lookup x=some .local:=by first|exact .inl M|exact .inr M|assumption):PG X (.Name x pos) (fj i):=Db hN hi hx hf
def ND(i:Nat){e:Expr}{te:TE}{pos':Pos}(he:PE X e te)(hN:X.N.Nodup:=by assumption)(hi:X.N[i]?=some x:=by rfl)(hx:Loc X.env.scope x:=by exact Or.inl M)(hs:swapsWith e (some<|.Name x pos') pos.line X.env=pure false:=by rfl)(hf:X.fn x=true\/X.env.scope.names.lookup x=some .local:=by first|exact .inl M|exact .inr M|assumption):PS X (.Assign [.Name x pos'] e pos) (D7 te<|fj i):=kK hN hi hx he hs hf
end
section
variable{rest A Wn:List Stmt}{t:TS}
def aw(h:PS X st t)(k:Φ t):∃v,Nj X [st] v/\Φ v:={_,aD h,k}
def aj(h:PS X st t)(k:∃u,Nj X rest u/\(let Wn:=u;Φ (yX t Wn))):∃v,Nj X (st::rest) v/\Φ v:=by
 let{u,hu,k}:=k;exact{_,jQ h hu,k}
def mX{F:TS->TS}(z:∀{x},Nj X A x->PS X st (F x))(k:∃a,Nj X A a/\(let b:=a;Φ (F b))):∃v,Nj X [st] v/\Φ v:=by
 let{a,ha,k}:=k;exact{_,aD<|z ha,k}
def bV{F:TS->TS}(z:∀{x},Nj X A x->PS X st (F x))(k:∃a,Nj X A a/\(let b:=a;∃u,Nj X rest u/\(let Wn:=u;Φ (yX (F b) Wn)))):∃v,Nj X (st::rest) v/\Φ v:=by
 let{a,ha,u,hu,k}:=k;exact{_,jQ (z ha) hu,k}
def Ge(z:∀{x y},Nj X A x->Nj X Wn y->PS X st (F x y))(k:∃a,Nj X A a/\(let b:=a;∃c,Nj X Wn c/\(let d:=c;Φ (F b d)))):∃v,Nj X [st] v/\Φ v:=by
 let{a,ha,c,hc,k}:=k;exact{_,aD<|z ha hc,k}
def Mw(z:∀{x y},Nj X A x->Nj X Wn y->PS X st (F x y))(k:∃a,Nj X A a/\(let b:=a;∃c,Nj X Wn c/\(let d:=c;∃u,Nj X rest u/\(let Wn:=u;Φ (yX (F b d) Wn))))):∃v,Nj X (st::rest) v/\Φ v:=by
 let{a,ha,c,hc,u,hu,k}:=k;exact{_,jQ (z ha hc) hu,k}
end
end L2
namespace SW
variable{m n:Int}{a b:Nat}
noncomputable def rv:Nat->Nat->Nat
 |0,_=>0
 |k+1,n=>(n%2)*2^k+rv k (n/2)
def C7:∀(k n:Nat),rv k n<2^k
 |0,_=>by simp[rv]
 |k+1,n=>by
  let h:=C7 k (n/2);let m:n%2<2:=Nat.mod_lt _ (_);let e:rv (k+1) n=(n%2)*2^k+rv k (n/2):=M;let p:2^(k+1)=2*2^k:=by rw[ZV,ZW]
  rw[e,p];rcases Nat.mod_two_eq_zero_or_one n with z|z<;>rw[z]<;>lia
def zp:∀(k n:Nat),rv (k+1) n=rv k n*2+(n/2^k)%2
 |0,n=>by simp[rv]
 |k+1,n=>by
  let h:=zp k (n/2);let z:rv (k+2) n=(n%2)*2^(k+1)+rv (k+1) (n/2):=M;let e2:rv (k+1) n=(n%2)*2^k+rv k (n/2):=M;let d:n/2/2^k=n/2^(k+1):=by
   rw[XF,ZV,ZW]
  rw[z,e2,h,d,ZV];rw[Vk,Nat.mul_assoc];lia
def Cm:∀(k n:Nat),rv k (n%2^k)=rv k n
 |0,_=>rfl
 |k+1,n=>by
  let p:2^(k+1)=2*2^k:=by rw[ZV,ZW]
  let z:n%2^(k+1)%2=n%2:=by
   rw[p];exact Nat.mod_mul_right_mod n 2<|2^k
  let e2:n%2^(k+1)/2=n/2%2^k:=by
   rw[p];exact Nat.mod_mul_right_div_self n 2 (2^k)
  show(n%2^(k+1)%2)*2^k+rv k (n%2^(k+1)/2)=(n%2)*2^k+rv k (n/2);rw[z,e2,Cm k (n/2)]
def C5:∀k,rv k 0=0
 |0=>rfl
 |k+1=>by show(0%2)*2^k+rv k (0/2)=0;rw[Nat.zero_div,C5 k];simp
def qJ:∀(a b n:Nat),rv (a+b) n=rv a n*2^b+rv b (n/2^a)
 |0,b,n=>by simp[rv]
 |a+1,b,n=>by
  let h:=qJ a b (n/2);let e:a+1+b=(a+b)+1:=();let d:n/2/2^a=n/2^(a+1):=by
   rw[XF,ZV,ZW]
  rw[e];show(n%2)*2^(a+b)+rv (a+b) (n/2)=((n%2)*2^a+rv a (n/2))*2^b+_;rw[h,d,Vk,Nat.mul_assoc,<-Nat.pow_add];lia
def FO:∀(k n:Nat),rv k (rv k n)=n%2^k
 |0,n=>by simp[rv,Nat.mod_one]
 |k+1,n=>by
  let e:rv (k+1) n=rv k n*2+(n/2^k)%2:=zp k n;let z:(rv k n*2+(n/2^k)%2)%2=(n/2^k)%2:=();let e2:(rv k n*2+(n/2^k)%2)/2=rv k n:=();rw[e];show(rv k n*2+(n/2^k)%2)%2*2^k+rv k ((rv k n*2+(n/2^k)%2)/2)=n%2^(k+1);rw[z,e2,FO k n,ZV,Nat.mod_mul,ZW (2^k)];lia
def KL{n:Nat}:rv (a+b) n/2^b=rv a n:=by
 let l:=C7 b (n/2^a);rw[qJ a b n,ZW,Nat.mul_add_div (Nat.two_pow_pos b),Nat.div_eq_of_lt l,ZX]
def Ip{s:Nat}(h:s<2^a):rv (a+b) s=rv a s*2^b:=by
 rw[qJ a b s,Nat.div_eq_of_lt h,C5,ZX]
@[irreducible] def tz(n:Int):Int:=((rv 16 n.toNat:Nat):Int)
@[irreducible] def rz(a:Nat)(n:Int):Int:=((rv a n.toNat:Nat):Int)
def sd(n:Int):0<=tz n:=by unfold tz;exact V3 _
def JJ(n:Int):tz n<65536:=by
 let h:=C7 16 n.toNat;let e:(2:Nat)^16=65536:=by decide
 unfold tz;lia
def CY(z:0<=n)(h1:n<65536):tz (tz n)=n:=by
 let h:=FO 16 n.toNat;let e:(2:Nat)^16=65536:=by decide
 unfold tz;rw[QS,h,e];lia
def Kp(z:0<=n)(h1:n<65536)(k0:0<=m)(G:m<65536)(e:tz n=tz m):n=m:=by
 rw[<-CY z h1,<-CY k0 G,e]
def D0(i:Nat)(m:Nat):((rv i m:Nat):Int)*2+((m/2^i:Nat):Int)%2=((rv (i+1) m:Nat):Int):=by
 rw[zp];lia
def D3(i:Nat)(m:Nat):((m/2^i:Nat):Int)/2=((m/2^(i+1):Nat):Int):=by
 let d:m/2^i/2=m/2^(i+1):=by rw[XF,ZV]
 rw[<-d];lia
def Eg(a:Nat)(n:Int):0<=rz a n:=by unfold rz;exact V3 _
def Mm(a:Nat)(n:Int):rz a n<2^a:=by
 let h:=C7 a n.toNat;unfold rz;let c:((rv a n.toNat:Nat):Int)<((2^a:Nat):Int):=by exact_mod_cast h
 simpa using c
def Ml(a:Nat)(G:0<=n)(h1:n<2^a):rz a (rz a n)=n:=by
 let{m,rfl}:=Z7 G;let h:=FO a m;let z:m<2^a:=by exact_mod_cast h1
 unfold rz;rw[QS,QS,h,Nat.mod_eq_of_lt z]
def Ig(z:a+b=16){s:Int}(I:0<=s)(h1:s<2^a):tz s=rz a s*2^b:=by
 let{m,rfl}:=Z7 I;let G:m<2^a:=by exact_mod_cast h1
 let h:=Ip (b:=b) G;rw[z]at h;unfold tz rz;rw[QS,h];simp
def Ko(z:a+b=16)(G:0<=m):tz m/2^b=rz a (m%2^a):=by
 let{n,rfl}:=Z7 G;let h:=KL (a:=a) (b:=b) (n:=n);rw[z]at h;let e:((n:Int)%2^a).toNat=n%2^a:=by
  let c:((n:Int)%2^a)=((n%2^a:Nat):Int):=by simp
  rw[c,QS]
 unfold tz rz;rw[QS,e,Cm,<-h];simp
structure Row(S:Int)(a b:Nat):Prop where
 ab:a+b=16
 lo:2<=a
 hi:a<=9
 eq:S=2^a
section
variable{S:Int}(R:Row S a b)
include R
theorem Row.mul:S*2^b=65536:=by
 rw[R.eq,<-Int.pow_add,R.ab];decide
theorem Row.wpos:(0:Int)<2^b:=Int.pow_pos (_)
theorem Row.pos:0<S:=by rw[R.eq];exact Int.pow_pos (_)
theorem Row.width:65536/S=2^b:=by
 rw[<-R.mul,Int.mul_ediv_cancel_left _ (QY R.pos)]
theorem Row.wpos':0<65536/S:=by rw[R.width];exact R.wpos
theorem Row.slot{s:Int}(G:0<=s)(h1:s<S):tz s=2^b*rz a s/\0<=rz a s/\rz a s<S/\rz a (rz a s)=s:=by
 let z:s<2^a:=by rwa[<-R.eq]
 refine{by rw[Ig R.ab G z,V8],Eg _ _,by rw[R.eq];exact Mm _ _,Ml _ G z}
theorem Row.top(z:0<=m):2^b*rz a (m%S)<=tz m/\tz m<2^b*rz a (m%S)+2^b:=by
 let d:=Ko R.ab z;rw[<-R.eq]at d;let e:=XS (tz m) (2^b);let p:=Qg (tz m) (QY R.wpos);let q:=Qk (tz m) R.wpos;rw[d]at e;lia
theorem Row.mod0(m:Int):0<=m%S:=Qg _ (QY R.pos)
theorem Row.mod1(m:Int):m%S<S:=Qk _ R.pos
theorem Row.between{Wo x y p:Int}(z:0<Wo)(G:Wo*x<=p)(h1:p<Wo*x+Wo)(k0:Wo*y<=p)(I:p<Wo*y+Wo):x=y:=by
 rcases Int.lt_trichotomy x y with h|h|h
 .have:Wo*(x+1)<=Wo*y:=Xh () (XG z);rw[Int.mul_add]at this;lia
 .exact h
 .have:Wo*(y+1)<=Wo*x:=Xh () (XG z);rw[Int.mul_add]at this;lia
theorem Row.st_has(z:0<=m):tz (m%S)<=tz m/\tz m<tz (m%S)+65536/S:=by
 let{e,_}:=R.slot (R.mod0 m) (R.mod1 m);let t:=R.top z;rw[R.width,e];exact t
end
def pX{k:Nat}(h:k<=6):Row (4*2^k) (k+2) (14-k):=by
 refine{(),(),(),?_};rw[Int.pow_add];lia
end SW
namespace L2
open PySem PySem.Spec PyProof.Rows
abbrev qr:List Value:=[.type "ValueError",.type "Exception",.type "BaseException",.type "object"]
def LU(bm:RJ):Prop:=∃ups:List Addr,bm=ups.map Value.ref++qr
structure BB(K:Wp)(C:RC)(bm:RJ):Prop where
 ob:∃nm q N bs sn sub ab col dd k0 k1 k2 k3 k5,K.lookup C=some (excClassObj nm q C N bs bm true sn sub ab col dd k0 k1 k2 k3 k5 "ValueError.__new__")
 mro:LU bm
 kp:PySem.W.keepIn K (.ref C)=true
 ga:PySem.W.findIn K (.ref C) "__getattribute__"=some (some<|.builtin "BaseException.__getattribute__")
 gn:PySem.W.findIn K (.ref C) "__getattr__"=some none
 sa:PySem.W.findIn K (.ref C) Rk=some (some<|.builtin G')
open PySem.W
variable{E:RP}
section
variable{prog:RN}{w:RO}{A:RT}{s:RD}{K:Wp}{e C:RC}{bm:RJ}
structure XIs(K:Wp)(C:RC):Prop where
 ha:findIn K (.ref C) "__class__"=some (some<|.builtin oY)
 hn:specialIn K (.builtin oY) "__get__"=some (some<|.builtin J')
 tk:takesIn K (.builtin oY)=some true
 hm:mroIn K C (.type "object")=some true
end
section
variable{X:Cx}{B:RM}{W:St}{H:Hp}{s:RD}
def fH(K:Wp)(hK:X.K=K):i6 X (.builtin wy) (λxs H Q=>∃x D t b,xs=[x,.ref D]/\NN K H x t/\kitOne K t (.ref D)=some b/\Q (.bl b) H):=by
 subst hK;intro B s W H xs us Q I r h;let{x,D,t,b,rfl,ty,e,q}:=h;let{u,w',rfl,G,z}:=tw r;cases (show w'=Value.ref D from z);exact yt I G ty e λtk=>{.bl b,H,I.tok _,M,q}
end
structure Hn(K:Wp)(C:RC)(m:Str)(v:RI):Prop where
 sp:specialIn K (.ref C) "__getattribute__"=some (some<|.builtin "type.__getattribute__")
 rd:readsIn K C (.type "type")=true
 at_:findCls K (.ref C) (.type "type") m=some (.val v)
section
variable{X:Cx}{B:RM}{W:St}{H:Hp}{s:RD}
variable{CX:CXT}{k:Nat}{f C:RC}{fd:R5}{ps:RS}{sp:Sp}{dvs:RG}{ds:RJ}{E:XK}{x m:Str}{p pos apos:Pos}{e o:Expr}{es:Sa}{ta:TE}{t:TA}{bm:RJ}
def zw{pl:Sem Bool}(Y:Gl X x)(Z:X.mg x=some (.ref C))(hc:Hn X.K C m (.ref f))(hk:PySem.W.keepIn X.K (.ref f)=true)(F:Bs X.prog X.w X.K X.mg X.base CX k f fd ps sp)(hr:NH k X.A)(hb:Binds X.K fd ps ds)(hd:DJ dvs ds)(hx:lH CX X E)(ha:PA X (e::es) t)
  (z:(x==(mu:Str))=false:=by decide)
  (G:starEach (e::es) X.env=(false,eval e X.env)::starEach es X.env:=by rfl) (O:(backTo pos<|starEach es X.env).any (·.1)=false:=by rfl)
  (ht:eval (.Call (.Attribute (.Name x p) m apos) (e::es) [] pos) X.env=(do
   let ov<-eval (.Name x p) X.env
   standAt apos.atName
   let(f,first)<-holding [ov] (getMethod ov m pl)
   callWith pos f first (backTo pos<|starEach (e::es) X.env) (backToKw pos<|keywordEach [] X.env)):=by rfl):
  PE X (.Call (.Attribute (.Name x p) m apos) (e::es) [] pos) (JQ sp dvs E t):=by
 intro B s W H Q I h;refine Xa (pl:=pl) (qZ I Y Z ?_ z) ht;refine method_cls I.kIn hc.sp<|cls_value I.kIn hc.rd hc.at_ M ?_;refine ZR (first:=[]) (h₀:=X.base) I.ok.mod.kin hk (N4 (ha pos B _ W H _ (I.tok _) h) λus s2 ⟨vs,H2,U,r,q2⟩=>{U.kIn,?_}) G O;exact vk F hr hb hd hx U r q2
end
variable{T:RC}
def iM(K:Wp)(fd:R5)(ps:RS)(dvs:RG):Prop:=∃ds,Binds K fd ps ds/\DJ dvs ds
structure OF(K:Wp)(x qual:Str)(st:Stmt)(f:RC)(fd:R5):Prop where
 ex:∃(oc:RI)(od:R1)(dV kV doc pm:RI)(an:R1)(cdv ct:RI)(osl:Sj),
  fd=fnOf x qual (gT st) (d8 st) (ak st) dV kV doc pm an cdv ct/\K.lookup f=some {oc,od,.func fd,osl}/\codeIn K cdv qual=true
 kp:keepIn K (.ref f)=true
section
variable{P:RN}{w:RO}{K:Wp}{mg:RU}{base:Heap}{x qual:Str}{st:Stmt}{f:RC}{fd:R5}{N ps:RS}{k:Nat}{sp:Sp}
def OF.ok(F:OF K x qual st f fd)(S:ar N ps (ak st))(len:∀vs H Q E,sp vs H Q E->vs.length=ps.length)
  (G:∀(z:RI)(A:RT)(outer:R6)(s:RD)(H:Hp)(vs:RG)(Q:VK)(E:XK),NH k (A.deeper<|envOfC qual (ak st) s.heap.objs.size f z)->sp vs H Q E->
   ∃t,Nj (Bl N8 P w K mg base N qual (ak st) f z A outer s H E).nox (d8 st) t/\t {nx:=λ_ H'=>Q .non H',rt:=Q} (start N vs) H):Bs P w K mg base N8 (k+1) f fd ps sp:=by
 let{oc,od,dV,kV,U,pm,an,z,ct,Y,rfl,Z,I}:=F.ex;refine J8 Z I S len λA outer s H vs Q E hr O=>?_;let{t,h,q}:=G z A outer s H vs Q E hr O;exact⟨t,h.nox,q⟩
structure LS(K:Wp)(x qual:Str)(st:Stmt)(T f:RC)(fd:R5):Prop where
 toD:OF K x qual st f fd
 ex:∃(kV doc pm:RI)(an:R1)(cdv ct:RI),fd=fnOf x qual (gT st) (d8 st) (ak st) (.ref T) kV doc pm an cdv ct
def Dy{Y:RI}{Z O:R1}{I:Sj}{kV G U z ct:RI}(l:K.lookup f=some {Y,Z,.func<|fnOf x qual (gT st) (d8 st) (ak st) (.ref T) kV G U O z ct,I})
  (c:codeIn K z qual=true) (k:keepIn K (.ref f)=true):LS K x qual st T f (fnOf x qual (gT st) (d8 st) (ak st) (.ref T) kV G U O z ct):={{{Y,Z,_,kV,G,U,O,z,ct,I,M,l,c},k},⟨kV,G,U,O,z,ct,M⟩}
def cV{dd:R1}{items:R'}{n:Nat}{U:Sj}{ds:RJ}(g:Nat)(Z:g+ds.length=ps.length)(F:LS K x qual st T f fd)(Y:K.lookup T=some {.type nI,dd,.seq items n,U})
  (h:∀(kV z I:RI)(O:R1)(G ct:RI)(us:RJ),us.length=g->∃k,bindArgs (fnOf x qual (gT st) (d8 st) (ak st) (.ref T) kV z I O G ct) {us,[]}=seqItems? (.ref T)>>=k/\k (some items)=pure (ps.zip<|us++ds)):
  Binds K fd ps ds:=by
 let{kV,z,I,O,G,ct,rfl}:=F.ex;intro s us X hl;let{k,h1,h2}:=h kV z I O G ct us (by rw[Q6]at hl;lia);exact BindsTo.of_defaults M (X _ _ Y) M h1 h2
end
end L2
namespace L2
open PySem PySem.Spec PyProof.Rows
open SeqAt
section
variable{X:Cx}
def dD{st:Stmt}:PS X st (λ_ _ _=>False):=λ_ _ _ _ _ _ h=>h.elim
def PlainL.isL{h:Heap}{a:RC}{xs:R'}(p:PlainL h a xs):h.IsList a xs:=by
 let{o,n,e,c,_,d}:=p;exact⟨o,e,c,n,d⟩
inductive rEqN(K:Wp)(f:Bool)(x y:V)(H:Hp)(Q:VK):Prop
 |mk(a b xs:_)(_:x= .ref a)(_:y= .ref b)(_:DI K H a xs)(_:DI K H b [])(_:Q (.bl<|xs.isEmpty !=f) H)
def K0(K:Wp)(hK:X.K=K)(hu:X.A.units+20<cLine):Nu X (compareOp .Eq) (rEqN K false):=by
 subst hK;intro B s W H x y v u Q I O U h;let{a,b,xs,rfl,rfl,h1,h2,q}:=h;cases O;cases U;let{Z,r1,G,z1}:=I.list h1;let{i2,Y,p2,z2}:=I.list h2;let z:X.A.units<cLine:=();cases Y;cases r1 with
 |nil=>exact RcAt.lists (A:=X.A) (e:=λ_=>true) (PlainL.isL G) (PlainL.isL p2) M z (λj h1=>VE h1<|Vm _) _ _ _ _ {.bl _,H,I,M,q}
 |cons r t=>exact RcAt.lists_lengths (PlainL.isL G) (PlainL.isL p2) (by simp) z _ _ _ _ {.bl _,H,I,M,q}
end
def Fl:V->Prop
 | .int _=>True| .str _=>True| .non=>True|_=>False
section
variable{X:Cx}{B:RM}{W:St}{H:Hp}{s:RD}
def Jh{A:RT}{x:V}{u v:RI}(h:Fl x)(r1:RelV x u)(z:RelV x v):EqAt A s u v true:=by
 cases x with
 |int n=>
  let{G,rfl}:=r1;let{I,rfl}:=z;have:=EqAt.int_int (A:=A) (s:=s) n G n I;rwa [We]at this
 |str n=>
  let{G,rfl}:=r1;let{I,rfl}:=z;have:=EqAt.str_str (A:=A) (s:=s) n G n I;rwa [We]at this
 |non=>
  cases (show u=Value.none from r1);cases (show v=Value.none from z);exact EqAt.same _
 |_=>exact h.elim
end
end L2
namespace L2
open PySem PySem.Spec PyProof.Rows
variable{D:Addr->Sp->Prop}{X:Cx}{o:HO}{H:Hp}{kk:Nat}
def MF{x y:V}{A Wn:Prop}(e:¬x=y)(h:A):if(!decide (x=y))=true then A else Wn:=by
 rw[VM e];exact cC h
def jV{x y:V}{A Wn:Prop}(e:x=y)(h:A):if decide (x=y)=true then A else Wn:=by
 rw[VJ e];exact cC h
def am{p:RC}(h:H p=none):Ck H (upd H p o):=λb u e=>by
 rwa[ae (al e h)]
def Oq(P:Int->Prop):List V->Prop
 | []=>True
 | .int m::r=>P m/\Oq P r
 |_::_=>False
def Oq.ints{P:Int->Prop}:∀{L:RG},Oq P L->∃ns:List Int,L=ns.map V.int/\∀m∈ns,P m
 | [],_=>{[],M,λ_ z=>nomatch z}
 | .int m::r,h=>by
  let{ns,e,q}:=Oq.ints h.2;refine{m::ns,by rw[e];rfl,λx hx=>?_};rcases Qj.mp hx with rfl|hx
  .exact h.1
  .exact q x hx
def vp{P:Int->Prop}{L:RG}{c n:Int}(h:Oq P L)(I:(L.length:Int)=n)(G:0<n):∃m,OR L (c%n)=some (.int m)/\P m:=by
 let{ns,e,q}:=h.ints;subst e;let a:=Qg c (QY G);let b:=Qk c G;rw[Q0]at I;let z:(c%n).toNat<ns.length:=();refine{_,Br a (),q _ ?_};rw[Qn,Q3 z];exact Zy z
def bT{H':Hp}{l:RC}(s:Ck H H')(n:H l=none):Ck H (upd H' l o):=λb u e=>by
 rw[ae (al e n)];exact s b u e
def GI{K:Wp}{C D:RC}{b:Bool}(h1:PySem.W.typeIn K (.ref D)=some (.type "type"))(h2:PySem.W.isClsIn K D=true)(I:PySem.W.subIn K (.ref C) (.ref D)=some b)(G:C=D->b=true):
  PySem.W.kitOne K (.ref C) (.ref D)=some b:=by
 unfold PySem.W.kitOne;by_cases z:((Value.ref C:RI)== .ref D)=true
 .rw[VA z,G (Value.ref.inj<|VN.mp z)]
 .rw[Vz z];show(if((PySem.W.clsIn K D).isSome&&PySem.W.typeIn K (.ref D)==some (.type "type"))=true then PySem.W.subIn K (.ref C) (.ref D)else none)=some b;have:(PySem.W.clsIn K D).isSome=true:=h2;rw[VA (by rw[this,h1];simp),I]
def MT(_ j:Int):Prop:=0<j/\j.natAbs.log2<9000
def AI:Nu X (binaryOp .FloorDiv) (rI MT λi j=> .int<|i/j):=opI λi j _ _ _ _ _ hc q=>by
 let h1:(0:Int)<j:=hc.1;exact floordiv_int () (by rw[Vr i ()];exact q)<|.inl (PyProof.noPylong_of_log2 hc.2)
def NH.u20{k:Nat}{A:RT}(r:NH k A):A.units+20<cLine:=by have:=r.un;lia
section
variable{k:Nat}{f C:RC}{fd:R5}{ps:RS}{sp:Sp}{dvs:RG}{ds:RJ}{E:XK}{x m:Str}{p pos apos:Pos}{e o:Expr}{es:Sa}{ta:TE}{t:TA}
def Hu(X:Cx)(kk:Nat)(m:Str)(C:RC)(sp:Sp):Prop:=O9 X.K C/\∃f fd ps,bN X.K C m f/\Bs X.prog X.w X.K X.mg X.base N8 kk f fd ps sp/\Binds X.K fd ps []
def D1(C:RC)(sp:Sp):Addr->Sp->Prop:=λC' sp'=>C'=C/\sp'=sp
def DOr(D D':Addr->Sp->Prop):Addr->Sp->Prop:=λC sp=>D C sp\/D' C sp
def dw(c:O9 X.K C)(G:bN X.K C m f)(F:Bs X.prog X.w X.K X.mg X.base N8 k f fd ps sp)(hb:Binds X.K fd ps [])(hk:k<=kk):∀z sp',D1 C sp z sp'->Hu X kk m z sp':=λz sp' h=>by
 let{rfl,rfl}:=h;exact{c,f,fd,ps,G,F.mono hk,hb}
def kU{G:Addr->Sp->Prop}(h:∀C sp,D C sp->Hu X kk m C sp)(h':∀C sp,G C sp->Hu X kk m C sp):∀C sp,DOr D G C sp->Hu X kk m C sp:=λC sp z=>z.elim (h C sp) (h' C sp)
inductive Ij(D:Addr->Sp->Prop)(m:Str)(t:TA)(W:St)(Q:VK)(x:V)(H1:Hp):Prop
 |mk(a C dx fs sp:_)(_:x= .ref a)(_:H1 a=some (.ins C dx fs))(_:fs.lookup m=none)(_:D C sp)(_:t W H1 λvs H2=>sp (x::vs) H2 Q E0)
def KA(D:Addr->Sp->Prop)(m:Str)(ta:TE)(t:TA):TE:=λW H Q=>ta W H λx H1=>Ij D m t W Q x H1
def qN{pl:Sem Bool}(hD:∀C sp,D C sp->Hu X kk m C sp)(hr:NH kk X.A)(he:PE X o ta)(ha:PA X (e::es) t)
  (z:starEach (e::es) X.env=(false,eval e X.env)::starEach es X.env:=by rfl) (G:(backTo pos<|starEach es X.env).any (·.1)=false:=by rfl)
  (ht:eval (.Call (.Attribute o m apos) (e::es) [] pos) X.env=(do
   let ov<-eval o X.env
   standAt apos.atName
   let(f,first)<-holding [ov] (getMethod ov m pl)
   callWith pos f first (backTo pos<|starEach (e::es) X.env) (backToKw pos<|keywordEach [] X.env)):=by rfl):
  PE X (.Call (.Attribute o m apos) (e::es) [] pos) (KA D m ta t):=by
 intro B s W H Q I h;refine Xa (pl:=pl) (N4 (he B s W H _ I h) λu s1 O=>?_) ht;let{x,H1,U,rx,a,C,dx,fs,sp,ex,ea,l,d,q}:=O;subst ex;obtain rfl:u=Value.ref a:=rx;let{c,f,fd,ps,Y,F,hb}:=hD C sp d;refine qe U ea c Y l ?_;refine ZR (first:=[.ref a]) (h₀:=X.base) I.ok.mod.kin Y.kp (N4 (ha pos B s1 W H1 _ U q) λus s2 ⟨vs,H2,Z,r,q2⟩=>{Z.kIn,?_}) z G;exact vk (us:= .ref a::us) (vs:= .ref a::vs) (dvs:=[]) F hr hb .nil au Z (.cons M r)<|by rwa[Z6]
end
end L2
namespace Srt
open PySem PyProof.Rows
abbrev _root_.RL:=Array Keyed
abbrev _root_.RY:=Keyed->Keyed->Bool
variable{xs ys:RL}{blt:RY}{e hi i j lo n nrem:Nat}{st:SortSt}{γ:Type}{Q:Unit->SortSt->Prop}{E:RP}
abbrev dk:Keyed:=(Value.none,Value.none)
noncomputable def g(xs:RL)(i:Nat):Keyed:=xs[i]?.getD dk
theorem eC(h:i<xs.size):xs[i]?=some (g xs i):=by
 unfold g;rw[getElem?_pos xs i h];rfl
theorem rh(h:xs[i]?=ys[j]?):g xs i=g ys j:=by unfold g;rw[h]
theorem yv(h:i<xs.size):g xs i∈xs:=by
 let e:=eC h;exact Array.mem_of_getElem? e
structure OL(blt:RY):Prop where
 asym:∀x y,blt x y=true->blt y x=false
 tr:∀x y z,blt y x=false->blt z y=false->blt z x=false
section
variable(C:OL blt)
abbrev le(blt:RY)(x y:Keyed):Prop:=blt y x=false
include C
theorem OL.trans{x y z:Keyed}(h1:le blt x y)(h2:le blt y z):le blt x z:=C.tr x y z h1 h2
theorem OL.of_lt{x y:Keyed}(h:blt x y=true):le blt x y:=C.asym _ _ h
end
def On(blt:RY)(xs:RL)(lo hi:Nat):Prop:=∀i j,lo<=i->i<j->j<hi->le blt (g xs i) (g xs j)
def Off(blt:RY)(xs:RL)(lo hi:Nat):Prop:=∀i j,lo<=i->i<j->j<hi->le blt (g xs j) (g xs i)
theorem On.one:On blt xs lo (lo+1):=λi j h1 h2 z=>by lia
theorem Off.one:Off blt xs lo (lo+1):=λi j h1 h2 z=>by lia
theorem On.congr(h:On blt xs lo hi)(e:∀k,lo<=k->k<hi->g ys k=g xs k):On blt ys lo hi:=λi j h1 h2 z=>by
 rw[e i h1 (),e j () z];exact h i j h1 h2 z
theorem On.sub{z hi':Nat}(h:On blt xs lo hi)(h1:lo<=z)(h2:hi'<=hi):On blt xs z hi':=λi j a b c=>h i j () b ()
section
variable(C:OL blt)
include C
theorem On.snoc(h:On blt xs lo (lo+n))(G:1<=n)(e:le blt (g xs<|lo+n-1) (g xs<|lo+n)):On blt xs lo (lo+(n+1)):=λi j h1 h2 I=>by
 by_cases z:j<lo+n
 .exact h i j h1 h2 z
 .let ej:j=lo+n:=();subst ej;by_cases y:i=lo+n-1
  .subst y;exact e
  .exact C.trans (h i (lo+n-1) h1 () ()) e
theorem Off.snoc(h:Off blt xs lo (lo+n))(G:1<=n)(e:le blt (g xs<|lo+n) (g xs<|lo+n-1)):Off blt xs lo (lo+(n+1)):=λi j h1 h2 I=>by
 by_cases z:j<lo+n
 .exact h i j h1 h2 z
 .let ej:j=lo+n:=();subst ej;by_cases y:i=lo+n-1
  .subst y;exact e
  .exact C.trans e<|h i (lo+n-1) h1 () ()
end
theorem GS(z:j<=xs.size)(k:Nat):g (mirror xs i j<|(j-i)/2) k=if i<=k/\k<j then g xs (i+j-1-k)else g xs k:=by
 let e:=getElem?_mirror_all (i:=i) z k;by_cases h1:i<=k/\k<j
 .rw[VA h1]at e⊢;exact rh e
 .rw[Vz h1]at e⊢;exact rh e
theorem GT{src d:Nat}(hs:src<xs.size)(hd:d<=src)(k:Nat):g (bubble xs src d) k=if k=src-d then g xs src else if src-d<k/\k<=src then g xs (k-1)else g xs k:=by
 let e:=getElem?_bubble hs d hd k;by_cases h1:k=src-d
 .rw[VA h1]at e⊢;exact rh e
 .rw[Vz h1]at e⊢;by_cases h2:src-d<k/\k<=src
  .rw[VA h2]at e⊢;exact rh e
  .rw[Vz h2]at e⊢;exact rh e
section
variable{prog:RN}{w:RO}{A:RT}{s:RD}{a₀:RL}{κ:SortKind}
def BD(prog:RN)(w:RO)(A:RT)(E:RP)(s:RD)(a₀:RL)(κ:SortKind)(blt:RY):Prop:=
 ∀(x y:Keyed)(st:SortSt)(Q:Option Bool->SortSt->Prop),x∈a₀->y∈a₀->kindOf st=κ->Q (some<|blt x y) st->wpS (model prog w) A E s (lt' x y) Q st
structure NE(a₀:RL)(κ:SortKind)(st:SortSt):Prop where
 kind:kindOf st=κ
 fine:failedOf st=none
 perm:(arrOf st).Perm a₀
theorem NE.size(Wn:NE a₀ κ st):(arrOf st).size=a₀.size:=Wn.perm.size_eq
theorem NE.mem(Wn:NE a₀ κ st)(h:i<a₀.size):g (arrOf st) i∈a₀:=(Wn.perm.mem_iff).mp (yv<|by rwa[Wn.size])
variable(L:BD prog w A E s a₀ κ blt)
include L
theorem qq{Q:Option Bool->SortSt->Prop}(Wn:NE a₀ κ st)(hi:i<a₀.size)(z:j<a₀.size)(h:Q (some<|blt (g (arrOf st) i)<|g (arrOf st) j) st):
  wpS (model prog w) A E s (ltAt' i j) Q st:=by
 rw[ltAt'_eq];refine VC<|Wj ?_;show wpS _ _ _ _ (do let x<-elem' (arrOf st) i;let y<-elem' (arrOf st) j;lt' x y) Q st;rw[elem'_eq,elem'_eq,eC (by rwa[Wn.size]),eC (by rwa[Wn.size])];refine VC<|VF (VC<|VF ?_);exact L _ _ st Q (Wn.mem hi) (Wn.mem z) Wn.kind h
omit L in
theorem Fp{α:Type}{m m':StateT SortSt Sem α}{Q:α->SortSt->Prop}(e:m=m')(h:wpS (model prog w) A E s m' Q st):wpS (model prog w) A E s m Q st:=by rwa[e]
abbrev OE(lo:Nat)(xs ys:RL):Prop:=∀k,k<lo->g ys k=g xs k
theorem gZ(Wn:NE a₀ κ st)(z:j<=a₀.size)
  (h:∀st',NE a₀ κ st'->pendingOf st'=pendingOf st->(∀k,g (arrOf st') k=if i<=k/\k<j then g (arrOf st) (i+j-1-k)else g (arrOf st) k)->Q Unit.unit st'):
  wpS (model prog w) A E s (reverseSlice' i j) Q st:=by
 rw[reverseSlice'_eq];refine W5<|h _ {Wn.kind,Wn.fine,(mirror_perm _ _ _ _).trans Wn.perm} M λk=>?_;exact GS (by rwa[Wn.size]) k
theorem Fo{a:Nat}{f:Nat->Option γ×Nat->StateT SortSt Sem (ForInStep<|Option γ×Nat)}{Q:Option γ×Nat->SortSt->Prop}(C:OL blt)(Wn:NE a₀ κ st)(ha:1<=a)(G:a<=nrem)(hz:lo+nrem<=a₀.size)(hs:On blt (arrOf st) lo (lo+a))
  (hf:∀(i n:Nat)(R:ForInStep (Option γ×Nat)->SortSt->Prop),n<nrem->1<=n->(blt (g (arrOf st)<|lo+n) (g (arrOf st)<|lo+n-1)=true->R (.done (none,n)) st)->(blt (g (arrOf st)<|lo+n) (g (arrOf st)<|lo+n-1)=false->R (.yield (none,n+1)) st)->wpS (model prog w) A E s (f i (none,n)) R st)
  (h:∀n,a<=n->n<=nrem->On blt (arrOf st) lo (lo+n)->(n<nrem->blt (g (arrOf st)<|lo+n) (g (arrOf st)<|lo+n-1)=true)->Q (none,n) st):
  wpS (model prog w) A E s (forIn [a:nrem] (none,a) f) Q st:=by
 refine VT (I:=λi c st'=>st'=st/\c=(none,i)/\a<=i/\i<=nrem/\On blt (arrOf st) lo (lo+i)) ?_ ?_ {M,M,Q4 _,G,hs}
 .rintro i c st' h1 h2 ⟨rfl,rfl,U,Y,O⟩;refine hf i i _ h2 () (λe=>?_)<|λe=>?_
  .exact h i U Y O λ_=>e
  .exact{M,M,(),(),O.snoc C () e}
 .rintro c st' ⟨rfl,rfl,U,Y,O⟩;let e:max a nrem=nrem:=QV G;rw[e]at O⊢;exact h nrem G (Q4 _) O λz=>VE z (ZC _)
omit L in
theorem sK{b:Nat}(hb:lo<=b)(h:Off blt xs lo e)(o:On blt xs b e)(hy:∀k,g ys k=if b<=k/\k<e then g xs (b+e-1-k)else g xs k):Off blt ys lo e:=λi j h1 h2 z=>by
 rw[hy i,hy j];by_cases jb:b<=j
 .rw[VA ⟨jb,z⟩];by_cases G:b<=i
  .rw[VA {G,()}];exact o _ _ () () ()
  .rw[Vz ()];exact h _ _ h1 () ()
 .rw[Vz (),Vz ()];exact h i j h1 h2 z
omit L in
theorem K4(h:Off blt xs lo e)(hy:∀k,g ys k=if lo<=k/\k<e then g xs (lo+e-1-k)else g xs k):On blt ys lo e:=λi j h1 h2 z=>by
 rw[hy i,hy j,VA {h1,()},VA {(),z}];exact h _ _ () () ()
omit L in
theorem IJ(h:On blt xs lo e)(hy:∀k,g ys k=if lo<=k/\k<e then g xs (lo+e-1-k)else g xs k):Off blt ys lo e:=λi j h1 h2 z=>by
 rw[hy i,hy j,VA (show lo<=j/\j<e by lia),VA (show lo<=i/\i<e by lia)];exact h _ _ () () ()
noncomputable def Hl(lo:Nat):Nat->Option (Option Nat)×Nat->StateT SortSt Sem (ForInStep<|Option (Option Nat)×Nat):=λ_ __s=>do
 let __x<-ltAt' (lo+__s.snd) (lo+__s.snd-1)
 match __x with
 |some smaller=>if smaller=true then pure (ForInStep.done (none,__s.snd))else pure (ForInStep.yield (none,__s.snd+1))
 |_=>pure (ForInStep.done (some none,__s.snd))
def ya(lo n nrem:Nat):StateT SortSt Sem (Option Nat):=do
 reverseSlice' lo (lo+n)
 let __s<-forIn [n:nrem] (none,n) (Hl lo)
 match __s.fst with
 |some r=>pure r
 |none=>pure (some __s.snd)
noncomputable def DB(lo:Nat):Nat->Option (Option Nat)×Nat×Nat->StateT SortSt Sem (ForInStep<|Option (Option Nat)×Nat×Nat):=λ_ __s=>do
 let __x<-ltAt' (lo+__s.snd.fst) (lo+__s.snd.fst-1)
 match __x with
 |some smaller=>
  if smaller=true then
   if __s.snd.snd>0 then do
    reverseSlice' (lo+__s.snd.fst-(__s.snd.snd+1)) (lo+__s.snd.fst)
    pure (ForInStep.yield (none,__s.snd.fst+1,0))
   else pure (ForInStep.yield (none,__s.snd.fst+1,0))
  else do
   let __x<-ltAt' (lo+__s.snd.fst-1) (lo+__s.snd.fst)
   match __x with
   |some larger=>
    if larger=true then pure (ForInStep.done (none,__s.snd.fst,__s.snd.snd))
    else pure (ForInStep.yield (none,__s.snd.fst+1,__s.snd.snd+1))
   |_=>pure (ForInStep.done (some none,__s.snd.fst,__s.snd.snd))
 |_=>pure (ForInStep.done (some none,__s.snd.fst,__s.snd.snd))
def yE(lo n nrem:Nat):StateT SortSt Sem (Option Nat):=do
 liftM (rule "list.sort.descending-run")
 let __s<-forIn [n+1:nrem] (none,n+1,0) (DB lo)
 match __s.fst with
 |some r=>pure r
 |none=>
  if __s.snd.snd>0 then do
   reverseSlice' (lo+__s.snd.fst-(__s.snd.snd+1)) (lo+__s.snd.fst)
   ya lo __s.snd.fst nrem
  else ya lo __s.snd.fst nrem
theorem CU{R:ForInStep (Option (Option Nat)×Nat)->SortSt->Prop}(Wn:NE a₀ κ st)(hz:lo+nrem<=a₀.size)(G:n<nrem)(h1:1<=n)
  (z:blt (g (arrOf st)<|lo+n) (g (arrOf st)<|lo+n-1)=true->R (.done (none,n)) st) (hf:blt (g (arrOf st)<|lo+n) (g (arrOf st)<|lo+n-1)=false->R (.yield (none,n+1)) st):wpS (model prog w) A E s (Hl lo i (none,n)) R st:=by
 unfold Hl;refine VC<|qq L Wn (by dsimp only;lia) (by dsimp only;lia) ?_;dsimp only;cases e:blt (g (arrOf st)<|lo+n) (g (arrOf st)<|lo+n-1)with
 |true=>exact VF<|z e
 |false=>exact VF<|hf e
theorem qp{Q:Option Nat->SortSt->Prop}(C:OL blt)(Wn:NE a₀ κ st)(h1:1<=n)(z:n<=nrem)(hz:lo+nrem<=a₀.size)(I:Off blt (arrOf st) lo (lo+n))
  (h:∀m st',NE a₀ κ st'->pendingOf st'=pendingOf st->1<=m->m<=nrem->On blt (arrOf st') lo (lo+m)->OE lo (arrOf st) (arrOf st')->Q (some m) st'):wpS (model prog w) A E s (ya lo n nrem) Q st:=by
 unfold ya;refine VC<|gZ L Wn () λst' G O hy=>?_;refine VC<|Fo L C G h1 z hz (K4 I hy) (λi n R z h1 U hf=>CU L G (i:=i) hz z h1 U hf) (λm ha Y hs _=>?_);exact VF<|h m st' G O () Y hs λk hk=>by rw[hy k,Vz ()]
theorem Al{Q:Option Nat->SortSt->Prop}(C:OL blt)(Wn:NE a₀ κ st)(h1:1<=n)(hn:n+1<=nrem)(hz:lo+nrem<=a₀.size)(ho:Off blt (arrOf st) lo (lo+(n+1)))
  (h:∀m st',NE a₀ κ st'->pendingOf st'=pendingOf st->1<=m->m<=nrem->On blt (arrOf st') lo (lo+m)->OE lo (arrOf st) (arrOf st')->Q (some m) st'):wpS (model prog w) A E s (yE lo n nrem) Q st:=by
 unfold yE;refine VC<|wpS_lift (Wk {M,?_});refine VC (VT (I:=λi c st'=>∃q,c=(none,i,q)/\NE a₀ κ st'/\pendingOf st'=pendingOf st/\OE lo (arrOf st) (arrOf st')/\n+1<=i/\i<=nrem/\q+1<=i/\Off blt (arrOf st') lo (lo+i)/\On blt (arrOf st') (lo+i-(q+1)) (lo+i)) ?_ ?_
  {0,M,Wn,M,λ_ _=>M,Q4 _,hn,(),ho,λi j a b c=>()})
 .rintro i c st' a2 a3 ⟨q,rfl,Z,hp,hk,h2,h3,h4,off,on⟩;unfold DB;refine VC<|qq L Z (by dsimp only;lia) (by dsimp only;lia) ?_;dsimp only;cases e:blt (g (arrOf st')<|lo+i) (g (arrOf st')<|lo+i-1)with
  |true=>
   by_cases q0:q>0
   .rw[VA M,VA q0];refine VC<|gZ L Z () λst2 B2 Y hy=>?_;refine VF {0,M,B2,Y.trans hp,λk G=>by rw[hy k,Vz ()];exact hk k G,(),(),(),?_,λi j a b c=>()};refine(sK () off on hy).snoc C () ?_;rw[hy,hy,Vz (),VA ()];let z:lo+i-(q+1)+(lo+i)-1-(lo+i-1)=lo+i-(q+1):=();rw[z];exact C.trans (C.of_lt e)<|off _ _ () () ()
   .rw[VA M,Vz q0];exact VF {0,M,Z,hp,hk,(),(),(),off.snoc C ()<|C.of_lt e,λi j a b c=>()}
  |false=>
   simp only[Zo,if_false];refine VC<|qq L Z () () ?_;dsimp only;cases e2:blt (g (arrOf st')<|lo+i-1) (g (arrOf st')<|lo+i)with
   |true=>
    simp only[if_true];refine VF ?_;dsimp only;by_cases q0:q>0
    .rw[VA q0];refine VC<|gZ L Z () λst2 B2 Y hy=>?_;refine qp L C B2 () h3 hz (sK () off on hy) λm O B3 U a b c d=>h m O B3 (U.trans<|Y.trans hp) a b c λk G=>?_;rw[d k G,hy k,Vz ()];exact hk k G
    .rw[Vz q0];exact qp L C Z () h3 hz off λm O B3 U a b c d=>h m O B3 (U.trans hp) a b c λk G=>(d k G).trans (hk k G)
   |false=>
    simp only[Zo,if_false];refine VF {q+1,M,Z,hp,hk,(),(),(),off.snoc C () e2,?_};let z:lo+(i+1)-(q+1+1)=lo+i-(q+1):=();rw[z];intro x y hx hy a4;by_cases a0:y<lo+i
    .exact on x y hx hy a0
    .let ey:y=lo+i:=();subst ey;by_cases a1:x=lo+i-1
     .subst a1;exact e
     .exact C.trans (on x (lo+i-1) hx () ()) e
 .rintro c st' ⟨q,rfl,Z,hp,hk,h2,h3,h4,off,on⟩;let em:max (n+1) nrem=nrem:=QV hn;rw[em]at h3 h4 off on⊢;dsimp only;by_cases q0:q>0
  .rw[VA q0];refine VC<|gZ L Z () λst2 B2 Y hy=>?_;refine qp L C B2 () h3 hz (sK () off on hy) λm O B3 U a b c d=>h m O B3 (U.trans<|Y.trans hp) a b c λk G=>?_;rw[d k G,hy k,Vz ()];exact hk k G
  .rw[Vz q0];exact qp L C Z () h3 hz off λm O B3 U a b c d=>h m O B3 (U.trans hp) a b c λk G=>(d k G).trans (hk k G)
theorem Fn{Q:Option Nat->SortSt->Prop}(C:OL blt)(Wn:NE a₀ κ st)(h1:1<=nrem)(hz:lo+nrem<=a₀.size)
  (h:∀n st',NE a₀ κ st'->pendingOf st'=pendingOf st->1<=n->n<=nrem->On blt (arrOf st') lo (lo+n)->OE lo (arrOf st) (arrOf st')->Q (some n) st'):wpS (model prog w) A E s (countRun' lo nrem) Q st:=by
 rw[countRun'_eq];dsimp only;refine VC<|Fo L C Wn (Q4 1) h1 hz On.one (λi n R U h1 ht hf=>CU L Wn (i:=i) hz U h1 ht hf) (λn ha U hs Y=>?_);dsimp only;by_cases en:n=nrem
 .subst en;simp only[We,if_true];exact VF<|h n st Wn M ha U hs λ_ _=>M
 .let eb:(n==nrem)=false:=VR.mpr en;simp only[eb,Zo,if_false];let G:=Y ();by_cases n1:n>1
  .rw[VA n1];refine VC<|qq L Wn () () ?_;dsimp only;cases e:blt (g (arrOf st) lo) (g (arrOf st)<|lo+n-1)with
   |true=>
    simp only[if_true];exact VF<|h n st Wn M ha U hs λ_ _=>M
   |false=>
    simp only[Zo,if_false];refine VC<|gZ L Wn () λst2 B2 Z hy=>?_;let off:Off blt (arrOf st2) lo (lo+(n+1)):=by
     refine(IJ hs hy).snoc C ha ?_;rw[hy,hy,Vz (),VA ()];let z:lo+(lo+n)-1-(lo+n-1)=lo:=();rw[z];exact C.trans (C.of_lt G) e
    refine Fp (m':=yE lo n nrem) (by
      unfold yE ya Hl DB;congr 1;funext _u;congr 1;funext s2;let{O,n2,q2}:=s2;cases O with
      |some O=>rfl
      |none=>
       dsimp only;split
       .congr 1;funext _v;congr 1;funext _w;congr 1;funext s3;let{I,n3}:=s3;cases I<;>rfl
       .congr 1;funext _w;congr 1;funext s3;let{I,n3}:=s3;cases I<;>rfl)<|Al L C B2 ha () hz off λm a0 B3 a1 a b c d=>h m a0 B3 (a1.trans Z) a b c λk hk=>by rw[d k hk,hy k,Vz ()]
  .rw[Vz n1];let e1:n=1:=();subst e1;refine Fp (m':=yE lo 1 nrem) (by
      unfold yE ya Hl DB;congr 1;funext _u;congr 1;funext s2;let{O,n2,q2}:=s2;cases O with
      |some O=>rfl
      |none=>
       dsimp only;split
       .congr 1;funext _v;congr 1;funext _w;congr 1;funext s3;let{I,n3}:=s3;cases I<;>rfl
       .congr 1;funext _w;congr 1;funext s3;let{I,n3}:=s3;cases I<;>rfl) (Al L C Wn ha () hz (Off.one.snoc C (Q4 1)<|C.of_lt G) h)
omit L in
theorem CT{k l:Nat}(Wn:NE a₀ κ st)(hk:k<a₀.size)(hl:l<=k)
  (h:∀st',NE a₀ κ st'->pendingOf st'=pendingOf st->(∀j,g (arrOf st') j=if j=l then g (arrOf st) k else if l<j/\j<=k then g (arrOf st) (j-1)else g (arrOf st) j)->Q Unit.unit st'):
  wpS (model prog w) A E s (moveDown' k l) Q st:=by
 rw[moveDown'_eq];refine W5<|h _ {Wn.kind,Wn.fine,(bubble_perm _ _ _).trans Wn.perm} M λj=>?_;let e:=GT (xs:=arrOf st) (src:=k) (d:=k-l) (by rwa[Wn.size]) () j;let z:k-(k-l)=l:=();rw[z]at e;exact e
theorem DY{ok:Nat}{Q:Bool->SortSt->Prop}(C:OL blt)(Wn:NE a₀ κ st)(h1:1<=ok)(hok:ok<=n)(hz:lo+n<=a₀.size)(hs:On blt (arrOf st) lo (lo+ok))
  (h:∀st',NE a₀ κ st'->pendingOf st'=pendingOf st->On blt (arrOf st') lo (lo+n)->OE lo (arrOf st) (arrOf st')->Q true st'):wpS (model prog w) A E s (binarySort' lo n ok) Q st:=by
 rw[binarySort'_eq];dsimp only;let em:max ok 1=ok:=Nat.max_eq_left h1;rw[em];refine VC (VT (I:=λi c st'=>c=(none,Unit.unit)/\NE a₀ κ st'/\pendingOf st'=pendingOf st/\OE lo (arrOf st) (arrOf st')/\ok<=i/\i<=n/\On blt (arrOf st') lo (lo+i)) ?_ ?_
  {M,Wn,M,λ_ _=>M,Q4 _,hok,hs})
 .rintro k c st' a6 aa ⟨rfl,Y,hp,hk,h2,h3,G⟩;refine VC (VT (I:=λi c st2=>st2=st'/\∃l r,c=(none,l,r)/\l<=r/\r<=k/\r-l<=k-i/\(∀j,j<l->le blt (g (arrOf st')<|lo+j) (g (arrOf st')<|lo+k))/\(∀j,r<=j->j<k->le blt (g (arrOf st')<|lo+k) (g (arrOf st')<|lo+j))) ?_ ?_
   {M,0,k,M,Qf _,Q4 _,Q4 _,λj hj=>VE hj<|Vm _,λj a b=>()})
  .rintro i c st2 ab ah ⟨rfl,l,r,rfl,a0,a3,hm,z,above⟩;dsimp only;by_cases Z:l>=r
   .rw[VA Z];refine VF ?_;dsimp only;let a4:l=r:=();refine VC<|CT Y () () λa5 B3 O hy=>VF {M,B3,O.trans hp,λq hq=>?_,(),(),?_}
    .rw[hy q,Vz (),Vz ()];exact hk q hq
    .intro a b ha U hb;rw[hy a,hy b];by_cases b1:b=lo+l
     .rw[VA b1,Vz (),Vz ()];have:=z (a-lo) ();rwa [show lo+(a-lo)=a by lia]at this
     .rw[Vz b1];by_cases b2:lo+l<b/\b<=lo+k
      .rw[VA b2];by_cases a1:a=lo+l
       .rw[VA a1];have:=above (b-1-lo) () ();rwa [show lo+(b-1-lo)=b-1 by lia]at this
       .rw[Vz a1];by_cases a2:lo+l<a/\a<=lo+k
        .rw[VA a2];exact G _ _ () () ()
        .rw[Vz a2];exact G _ _ () () ()
      .rw[Vz b2,Vz (),Vz ()];exact G _ _ ha U ()
   .rw[Vz Z];refine VC<|qq L Y () () ?_;dsimp only;cases e:blt (g (arrOf st2)<|lo+k) (g (arrOf st2)<|lo+(l+r)/2)with
    |true=>
     rw[VA M];refine VF {M,l,(l+r)/2,M,(),(),(),z,λj a b=>?_};by_cases ej:j=(l+r)/2
     .subst ej;exact C.of_lt e
     .exact C.trans (C.of_lt e)<|G _ _ () () ()
    |false=>
     rw[Vz (_)];refine VF {M,(l+r)/2+1,r,M,(),(),(),λj a=>?_,above};by_cases ej:j=(l+r)/2
     .subst ej;exact e
     .exact C.trans (G _ _ () () ()) e
  .rintro c st2 ⟨rfl,l,r,rfl,a0,a3,hm,z,above⟩;let ek:max 0 k=k:=QV (Qf _);rw[ek]at hm;let a4:l=r:=();dsimp only;refine VC<|CT Y () () λa5 B3 O hy=>VF {M,B3,O.trans hp,λq hq=>?_,(),(),?_}
   .rw[hy q,Vz (),Vz ()];exact hk q hq
   .intro a b ha U hb;rw[hy a,hy b];by_cases b1:b=lo+l
    .rw[VA b1,Vz (),Vz ()];have:=z (a-lo) ();rwa [show lo+(a-lo)=a by lia]at this
    .rw[Vz b1];by_cases b2:lo+l<b/\b<=lo+k
     .rw[VA b2];by_cases a1:a=lo+l
      .rw[VA a1];have:=above (b-1-lo) () ();rwa [show lo+(b-1-lo)=b-1 by lia]at this
      .rw[Vz a1];by_cases a2:lo+l<a/\a<=lo+k
       .rw[VA a2];exact G _ _ () () ()
       .rw[Vz a2];exact G _ _ () () ()
     .rw[Vz b2,Vz (),Vz ()];exact G _ _ ha U ()
 .rintro c st' ⟨rfl,Y,hp,hk,h2,h3,G⟩;let e:max ok n=n:=QV hok;rw[e]at G;exact VF (h st' Y hp G hk)
noncomputable def Jg:Bool->Keyed->Array Keyed->Nat->Nat->Nat->StateT SortSt Sem (Option Nat):=sortPriv%PySem.Builtin.gallop
omit L in
theorem xX{f:Nat->Option γ×Nat×Nat->StateT SortSt Sem (ForInStep<|Option γ×Nat×Nat)}{Q:Option γ×Nat×Nat->SortSt->Prop}(G:Nat->Bool)(mono:∀i j,i<=j->j<n->G j=true->G i=true)
  (hf:∀(i lo hi:Nat)(R:ForInStep (Option γ×Nat×Nat)->SortSt->Prop),hi<=n->(lo>=hi->R (.done (none,lo,hi)) st)->(lo<hi->G (lo+(hi-lo)/2)=true->R (.yield (none,lo+(hi-lo)/2+1,hi)) st)->(lo<hi->G (lo+(hi-lo)/2)=false->R (.yield (none,lo,lo+(hi-lo)/2)) st)->wpS (model prog w) A E s (f i (none,lo,hi)) R st)
  (h1:lo<=hi) (h2:hi<=n) (ht:∀i,i<lo->G i=true) (hF:∀i,hi<=i->i<n->G i=false)
  (h:∀k,k<=n->(∀i,i<k->G i=true)->(∀i,k<=i->i<n->G i=false)->Q (none,k,k) st):wpS (model prog w) A E s (forIn [0:n] (none,lo,hi) f) Q st:=by
 refine VT (I:=λi c st'=>st'=st/\∃lo hi,c=(none,lo,hi)/\lo<=hi/\hi<=n/\hi-lo<=n-i/\(∀i,i<lo->G i=true)/\(∀i,hi<=i->i<n->G i=false)) ?_ ?_
  {M,lo,hi,M,h1,h2,(),ht,hF}
 .rintro i c st' a0 a1 ⟨rfl,lo,hi,rfl,g1,O,Z,U,Y⟩;refine hf i lo hi _ O (λz=>?_) (λz e=>?_)<|λz e=>?_
  .let e:lo=hi:=();subst e;exact h lo O U Y
  .exact{M,_,_,M,(),O,(),λj hj=>mono j _ () () e,Y}
  .refine{M,_,_,M,(),(),(),U,λj a b=>?_};cases q:G j with
   |false=>rfl
   |true=>rw[mono _ j a b q]at e;cases e
 .rintro c st' ⟨rfl,lo,hi,rfl,g1,O,Z,U,Y⟩;let em:max 0 n=n:=QV (Qf _);rw[em]at Z;let e:lo=hi:=();subst e;exact h lo O U Y
theorem gV{left:Bool}{key:Keyed}{arr:RL}{base hint:Nat}{Q:Option Nat->SortSt->Prop}(hK:kindOf st=κ)(hk:key∈a₀)(ha:∀i,i<n->base+i<arr.size/\g arr (base+i)∈a₀)(hh:hint<n)
  (U:Nat->Bool) (a6:∀i,i<n->U i=if left=true then blt (g arr<|base+i) key else !blt key (g arr<|base+i)) (mono:∀i j,i<=j->j<n->U j=true->U i=true)
  (h:∀k,k<=n->(∀i,i<k->U i=true)->(∀i,k<=i->i<n->U i=false)->Q (some k) st):wpS (model prog w) A E s (Jg left key arr base n hint) Q st:=by
 let a0:∀(i:Nat)(R:Option Bool->SortSt->Prop),i<n->R (some<|U i) st->wpS (model prog w) A E s (elem' arr (base+i)>>=λx=>if left=true then lt' x key else lt' key x>>=λr=>pure<|r.map λx=>!x) R st:=by
  intro i R hi q;let{h1,h2}:=ha i hi;rw[elem'_eq,eC h1];refine VC<|VF ?_;let e:=a6 i hi;cases left with
  |true=>
   rw[VA M]at e⊢;exact L _ _ st R h2 hk hK<|by rw[<-e];exact q
  |false=>
   rw[Vz (_)]at e⊢;refine VC<|L _ _ st _ hk h2 hK (VF ?_);show R (some<|!blt key (g arr<|base+i)) st;rw[<-e];exact q
 refine VC ?_;dsimp only;refine a0 hint _ hh ?_;dsimp only;cases e0:U hint with
 |true=>
  rw[VA M];refine VC (Wg (VT (I:=λi c st'=>st'=st/\∃O G,c=(none,O,G)/\O<G/\i+1<=G/\hint+O<n/\U (hint+O)=true)
   (Q:=λc st'=>st'=st/\∃O G,c=(none,O,G)/\O<G/\hint+O<n/\U (hint+O)=true/\(n-hint<=G\/(hint+G<n/\U (hint+G)=false))) ?_ ?_ {M,0,1,M,(),(),(),e0}) ?_)
  .rintro i c st' aa ab ⟨rfl,O,G,rfl,a1,a2,Z,Y⟩;dsimp only;by_cases z:G>=n-hint
   .rw[VA z];exact VF {M,O,G,M,a1,Z,Y,.inl z}
   .rw[Vz z];refine VC<|a0 (hint+G) _ () ?_;dsimp only;cases e:U (hint+G)with
    |false=>
     rw[VA (_)];exact VF {M,O,G,M,a1,Z,Y,.inr {(),e}}
    |true=>
     rw[Vz (_)];exact VF {M,G,2*G+1,M,(),(),(),e}
  .rintro c st' ⟨rfl,O,G,rfl,a1,a2,Z,Y⟩;let em:max 0 n=n:=QV (Qf _);rw[em]at a2;exact{M,O,G,M,a1,Z,Y,.inl ()}
  .rintro c st' ⟨rfl,O,G,rfl,a1,Z,Y,a5⟩;dsimp only;refine VC<|xX U mono (λi lo hi R hn c1 c2 c3=>?_) () () (λi hi=>mono i (hint+O) () Z Y) (λi h1 h2=>?_) λk h1 h2 h3=>?_
   .dsimp only;by_cases z:lo>=hi
    .rw[VA z];exact VF<|c1 z
    .rw[Vz z];refine VC<|a0 _ _ () ?_;dsimp only;cases e:U (lo+(hi-lo)/2)with
     |true=>rw[VA M];exact VF<|c2 () e
     |false=>rw[Vz (_)];exact VF<|c3 () e
   .rcases a5 with z|⟨z1,z2⟩
    .lia
    .cases q:U i with
     |false=>rfl
     |true=>rw[mono (hint+G) i () h2 q]at z2;cases z2
   .exact VF<|h k h1 h2 h3
 |false=>
  rw[Vz (_)];refine VC (Wg (VT (I:=λi c st'=>st'=st/\∃O G,c=(none,O,G)/\O<G/\i+1<=G/\O<=hint/\U (hint-O)=false)
   (Q:=λc st'=>st'=st/\∃O G,c=(none,O,G)/\O<G/\O<=hint/\U (hint-O)=false/\(hint+1<=G\/(G<=hint/\U (hint-G)=true))) ?_ ?_ {M,0,1,M,(),(),(),e0}) ?_)
  .rintro i c st' aa ab ⟨rfl,O,G,rfl,a1,a2,Z,Y⟩;dsimp only;by_cases z:G>=hint+1
   .rw[VA z];exact VF {M,O,G,M,a1,Z,Y,.inl z}
   .rw[Vz z];refine VC<|a0 (hint-G) _ () ?_;dsimp only;cases e:U (hint-G)with
    |true=>
     rw[VA M];exact VF {M,O,G,M,a1,Z,Y,.inr {(),e}}
    |false=>
     rw[Vz (_)];exact VF {M,G,2*G+1,M,(),(),(),e}
  .rintro c st' ⟨rfl,O,G,rfl,a1,a2,Z,Y⟩;let em:max 0 n=n:=QV (Qf _);rw[em]at a2;exact{M,O,G,M,a1,Z,Y,.inl ()}
  .rintro c st' ⟨rfl,O,G,rfl,a1,Z,Y,a5⟩;dsimp only;refine VC<|xX U mono (λi lo hi R hn c1 c2 c3=>?_) () () (λi hi=>?_) (λi h1 h2=>?_) λk h1 h2 h3=>?_
   .dsimp only;by_cases z:lo>=hi
    .rw[VA z];exact VF<|c1 z
    .rw[Vz z];refine VC<|a0 _ _ () ?_;dsimp only;cases e:U (lo+(hi-lo)/2)with
     |true=>rw[VA M];exact VF<|c2 () e
     |false=>rw[Vz (_)];exact VF<|c3 () e
   .rcases a5 with z|⟨z1,z2⟩
    .lia
    .exact mono i (hint-G) () () z2
   .cases q:U i with
    |false=>rfl
    |true=>rw[mono (hint-O) i () h2 q]at Y;cases Y
   .exact VF<|h k h1 h2 h3
end
abbrev _root_.R7:=List Keyed
variable{A:RT}{a₀:RL}{x:Keyed}{blt:RY}{R:Keyed->SortSt->Prop}{all o ra rb:R7}{i n:Nat}{prog:RN}{Wn:Prop}{s:RD}{κ:SortKind}{st:SortSt}{r:Std.Legacy.Range}{α β:Type}{Q:Unit->SortSt->Prop}{E:RP}{w:RO}
noncomputable def Gq:Array Keyed->Array Keyed->StateT SortSt Sem (Array Keyed):=sortPriv%PySem.Builtin.mergeLo
noncomputable def Gr:Array Keyed->Array Keyed->StateT SortSt Sem (Array Keyed):=sortPriv%PySem.Builtin.mergeHi
abbrev PW(blt:RY)(l:R7):Prop:=l.Pairwise (le blt)
structure Lo(blt:RY)(all o ra rb:R7):Prop where
 perm:(o++(ra++rb)).Perm all
 srt:PW blt o
 low:∀x∈o,∀y∈ra++rb,le blt x y
theorem Lo.a{G:R7}(h:Lo blt all o (G++ra) rb)(hs:PW blt (G++ra))(hc:∀x∈G,∀y∈rb,le blt x y):Lo blt all (o++G) ra rb where
 perm:=by
  refine W2 ?_ h.perm;rw[Qi,Qi]
 srt:=Ql.mpr {h.srt,(Ql.mp hs).1,λx hx y hy=>h.low x hx y<|by simp[hy]}
 low:=λx hx y hy=>by
  rcases Q5.mp hx with q|q
  .exact h.low x q y<|by rcases Q5.mp hy with z|z<;>simp[z]
  .rcases Q5.mp hy with z|z
   .exact(Ql.mp hs).2.2 x q y z
   .exact hc x q y z
theorem Lo.b{G:R7}(h:Lo blt all o ra (G++rb))(hs:PW blt (G++rb))(hc:∀x∈G,∀y∈ra,le blt x y):Lo blt all (o++G) ra rb where
 perm:=by
  refine W2 ?_ h.perm;rw[Qi];refine Wd o ?_;rw[<-Qi,<-Qi];exact VZ rb Xb
 srt:=Ql.mpr {h.srt,(Ql.mp hs).1,λx hx y hy=>h.low x hx y<|by simp[hy]}
 low:=λx hx y hy=>by
  rcases Q5.mp hx with q|q
  .exact h.low x q y<|by rcases Q5.mp hy with z|z<;>simp[z]
  .rcases Q5.mp hy with z|z
   .exact hc x q y z
   .exact(Ql.mp hs).2.2 x q y z
theorem Lo.endA(h:Lo blt all o ra [])(hs:PW blt ra):(o++ra).Perm all/\PW blt (o++ra):=
 {by simpa using h.perm,Ql.mpr {h.srt,hs,λx hx y hy=>h.low x hx y<|by simp[hy]}}
theorem Lo.endB{z:Keyed}(h:Lo blt all o [z] rb)(hs:PW blt rb)(hz:∀x∈rb,le blt x z):(o++(rb++ [z])).Perm all/\PW blt (o++(rb++ [z])):=by
 refine{W2 (Wd o Xb) h.perm,Ql.mpr {h.srt,Ql.mpr {hs,Zf _ _,λx hx y hy=>?_},λx hx y hy=>h.low x hx y ?_}}
 .rw[Q7.mp hy];exact hz x hx
 .rcases Q5.mp hy with q|q<;>simp_all
theorem wn{a:RL}(h:i<a.size):a.toList.drop i=g a i::a.toList.drop (i+1):=by
 let e:=eC h;rw[<-QN]at e;let{h1,h2}:=Q1.mp e;rw[Za h1,h2]
theorem kR{a:RL}(h:x∈a.toList.drop i):∃j,i<=j/\j<a.size/\x=g a j:=by
 let{k,hk,e}:=Xi.mp h;rw[QF]at hk;let hs:i+k<a.size:=by rw[<-Qb];lia
 refine{i+k,(),hs,?_};let e2:=eC hs;rw[<-QN]at e2;rw[ZY]at e;rw[Q3 (by rwa[Qb])]at e2;rw[<-e];exact VB e2
theorem ii{a:RL}(h:On blt a 0 a.size)(i:Nat):PW blt (a.toList.drop i):=by
 refine Z1.mpr λj k G hk I=>?_;rw[QF,Qb]at G hk;let z:=eC (xs:=a) (i:=i+j) ();let e2:=eC (xs:=a) (i:=i+k) ();rw[<-QN,Q3 (by rw[Qb];lia)]at z e2;rw[ZY,ZY,VB z,VB e2];exact h _ _ (Qf _) () ()
theorem Ga{a:RL}(h:PW blt a.toList):On blt a 0 a.size:=λi j _ z I=>by
 let G:=eC (xs:=a) (i:=i) ();let e2:=eC (xs:=a) (i:=j) I;rw[<-QN,Q3 (by rw[Qb];lia)]at G e2;rw[<-VB G,<-VB e2];exact Z1.mp h i j _ _ z
theorem rF(a:RL)(i k:Nat):(a.extract i<|i+k).toList=(a.toList.drop i).take k:=by
 rw[Ze,Z2];congr 1;lia
theorem gW(a:RL)(i:Nat):(a.extract i).toList=a.toList.drop i:=by
 rw[Ze,Z2,Qx];rw[QF,Qb];exact Q4 _
theorem Gs{a:RL}{k:Nat}(h:x∈(a.toList.drop i).take k):∃j,j<k/\x=g a (i+j):=by
 let{j,z,e}:=Xi.mp h;rw[Q8,QF,Qb]at z;refine{j,(),?_};let e2:=eC (xs:=a) (i:=i+j) ();rw[<-QN,Q3 (by rw[Qb];lia)]at e2;rw[ZG,ZY]at e;rw[<-e];exact VB e2
theorem Bf(l:R7)(i k:Nat):l.drop i=(l.drop i).take k++l.drop (i+k):=by
 rw[<-Vs,QO]
theorem Dq{P H:α->Prop}(body:(∀x,H x->P x)->Wn)(last:∀x,H x->P x):Wn:=body last
theorem q9{P H:α->β->Prop}(body:(∀x y,H x y->P x y)->Wn)(last:∀x y,H x y->P x y):Wn:=body last
structure NQ(st st':SortSt):Prop where
 kind:kindOf st'=kindOf st
 arr:arrOf st'=arrOf st
 pend:pendingOf st'=pendingOf st
 fail:failedOf st'=failedOf st
theorem NQ.refl(st:SortSt):NQ st st:=⟨M,M,M,M⟩
section
theorem bK{arr:RL}(h:i<arr.size)(q:R (g arr i) st):wpS (model prog w) A E s (elem' arr i) R st:=by
 rw[elem'_eq,eC h];exact VF q
noncomputable def Cf:Nat->StateT SortSt Sem Unit:=sortPriv%PySem.Builtin.setMinGallop
theorem Fm{m:Nat}(h:∀st',NQ st st'->Q Unit.unit st'):wpS (model prog w) A E s (Cf m) Q st:=W5 (h _ ⟨M,M,M,M⟩)
theorem nmK{m:StateT SortSt Sem α}{k:α->StateT SortSt Sem β}{Q:β->SortSt->Prop}(h:let k':=k;wpS (model prog w) A E s (m>>=k') Q st):wpS (model prog w) A E s (m>>=k) Q st:=h
theorem nmF{γ:Type}{c:β}{f:Nat->β->StateT SortSt Sem (ForInStep β)}{k:β->StateT SortSt Sem γ}{Q:γ->SortSt->Prop}(h:let z:=f;let k':=k;wpS (model prog w) A E s (forIn r c z>>=k') Q st):wpS (model prog w) A E s (forIn r c f>>=k) Q st:=h
inductive MQ{δ:Type}(Q:Array Keyed->Prop)(I:Option (Array Keyed)×δ->Prop):Option (Array Keyed)×δ->Prop
 |ret{res x}(q:Q res):MQ Q I (some res,x)
 |go{c}(h:I c):MQ Q I c
inductive Pd(blt:RY)(a b:RL){τ:Type}(n:Nat):Option (Array Keyed)×Array Keyed×Nat×Nat×τ->Prop
 |mk{out ia ib x}(ha:ia+1<a.size)(hb:ib<b.size)(hn:n<=ia+ib)(lo:Lo blt (a.toList++b.toList) out.toList (a.toList.drop ia) (b.toList.drop ib)):Pd blt a b n (none,out,ia,ib,x)
theorem NQ.trans{st' st2:SortSt}(h:NQ st st')(k:NQ st' st2):NQ st st2:={k.kind.trans h.kind,k.arr.trans h.arr,k.pend.trans h.pend,k.fail.trans h.fail}
theorem Go{a:RL}(C:OL blt)(G:On blt a 0 a.size)(ka:Nat)(x:Keyed)(i j:Nat)(h1:i<=j)(h2:ka+j<a.size)(z:(!blt x (g a<|ka+j))=true):(!blt x (g a<|ka+i))=true:=by
 let z:blt x (g a<|ka+j)=false:=by simpa using z
 by_cases e:i=j
 .subst e;simpa using z
 .have:=C.trans (G (ka+i) (ka+j) (Qf _) () h2) z;simpa using this
theorem Gn{b:RL}(C:OL blt)(ob:On blt b 0 b.size)(G:Nat)(x:Keyed)(i j:Nat)(h1:i<=j)(h2:G+j<b.size)(I:blt (g b<|G+j) x=true):blt (g b<|G+i) x=true:=by
 by_cases e:i=j
 .subst e;exact I
 .let q:=ob (G+i) (G+j) (Qf _) () h2;cases z:blt (g b<|G+i) x with
  |true=>rfl
  |false=>
   let f:blt (g b<|G+j) x=false:=C.trans z q;rw[I]at f;cases f
variable(L:BD prog w A E s a₀ κ blt)
include L
theorem BX{a b:RL}{Q:Array Keyed->SortSt->Prop}(C:OL blt)(hK:kindOf st=κ)(hm:∀x,x∈a.toList++b.toList->x∈a₀)(oa:On blt a 0 a.size)(ob:On blt b 0 b.size)(ha:0<a.size)(hb:0<b.size)
  (a5:blt (g b 0) (g a 0)=true) (an:∀j,j<b.size->blt (g b j) (g a<|a.size-1)=true)
  (h:∀res st',NQ st st'->res.toList.Perm (a.toList++b.toList)->PW blt res.toList->Q res st'):wpS (model prog w) A E s (Gq a b) Q st:=by
 let ma:∀i,i<a.size->g a i∈a₀:=λi hi=>hm _ (by have:=yv hi;simp[this]);let mb:∀i,i<b.size->g b i∈a₀:=λi hi=>hm _ (by have:=yv hi;simp[this]);let ax:∀(o:R7)(G:Nat)(st':SortSt)(res:RL),NQ st st'->Lo blt (a.toList++b.toList) o (a.toList.drop G) []->res.toList=o++a.toList.drop G->Q res st':=λo G st' res lk lo e=>by
  let{p1,p2}:=lo.endA (ii oa G);exact h res st' lk (by rwa[e])<|by rwa[e]
 let b2:∀(o:R7)(O:Nat)(st':SortSt)(res:RL),NQ st st'->Lo blt (a.toList++b.toList) o (a.toList.drop<|a.size-1) (b.toList.drop O)->res.toList=o++(b.toList.drop O++a.toList.drop (a.size-1))->Q res st':=λo O st' res lk lo e=>by
  let ez:a.toList.drop (a.size-1)=[g a (a.size-1)]:=by
   rw[wn (),Zl (by rw[Qb];lia)]
  rw[ez]at lo e;let{p1,p2}:=lo.endB (ii ob O) (λx hx=>by
   let{j,_,hj,rfl}:=kR hx;exact C.of_lt<|an j hj)
  exact h res st' lk (by rwa[e])<|by rwa[e]
 let a6:∀(out:RL)(G O k:Nat),Lo blt (a.toList++b.toList) out.toList (a.toList.drop G) (b.toList.drop O)->(∀i,i<k->blt (g b O) (g a<|G+i)=false)->
   Lo blt (a.toList++b.toList) (out++a.extract G (G+k)).toList (a.toList.drop<|G+k) (b.toList.drop O):=λout G O k lo hk=>by
  rw[QQ,rF];let pa:=ii oa G;rw[Bf a.toList G k]at lo pa;refine lo.a pa λx hx y hy=>?_;let{i,hi,rfl}:=Gs hx;let{j,be,bl,rfl}:=kR hy;rcases Nat.eq_or_lt_of_le be with ej|ej
  .rw[<-ej];exact hk i hi
  .exact C.trans (hk i hi)<|ob O j (Qf _) ej bl
 let aa:∀(out:RL)(G O k:Nat),Lo blt (a.toList++b.toList) out.toList (a.toList.drop G) (b.toList.drop O)->(∀i,i<k->blt (g b<|O+i) (g a G)=true)->
   Lo blt (a.toList++b.toList) (out++b.extract O (O+k)).toList (a.toList.drop G) (b.toList.drop<|O+k):=λout G O k lo hk=>by
  rw[QQ,rF];let pb:=ii ob O;rw[Bf b.toList O k]at lo pb;refine lo.b pb λx hx y hy=>?_;let{i,hi,rfl}:=Gs hx;let{j,be,bl,rfl}:=kR hy;let l1:=C.of_lt (hk i hi);rcases Nat.eq_or_lt_of_le be with ej|ej
  .rwa[<-ej]
  .exact C.trans l1<|oa G j (Qf _) ej bl
 let one:∀(x:RL)(i:Nat),i<x.size->(x.extract i<|i+1)= #[g x i]:=λx i hi=>by
  apply Array.ext';rw[rF,wn hi];rfl
 let b3:∀(out:RL)(G O:Nat),G<a.size->O<b.size->Lo blt (a.toList++b.toList) out.toList (a.toList.drop G) (b.toList.drop O)->blt (g b O) (g a G)=true->
   Lo blt (a.toList++b.toList) (out.push<|g b O).toList (a.toList.drop G) (b.toList.drop<|O+1):=λout G O h1 h2 lo hk=>by
  have:=aa out G O 1 lo λi hi=>by rwa[Nat.lt_one_iff.mp hi]
  rwa [one b O h2,<-Xj]at this
 let b4:∀(out:RL)(G O:Nat),G<a.size->O<b.size->Lo blt (a.toList++b.toList) out.toList (a.toList.drop G) (b.toList.drop O)->blt (g b O) (g a G)=false->
   Lo blt (a.toList++b.toList) (out.push<|g a G).toList (a.toList.drop<|G+1) (b.toList.drop O):=λout G O h1 h2 lo hk=>by
  have:=a6 out G O 1 lo λi hi=>by rwa[Nat.lt_one_iff.mp hi]
  rwa [one a G h1,<-Xj]at this
 let endA:∀(out:RL)(G O:Nat)(st':SortSt),NQ st st'->b.size<=O->Lo blt (a.toList++b.toList) out.toList (a.toList.drop G) (b.toList.drop O)->Q (out++a.extract G++b.extract O) st':=λout G O st' lk hb lo=>by
  let en:b.toList.drop O=[]:=Zl (by rwa[Qb]);rw[en]at lo;refine ax _ G st' _ lk lo ?_;rw[QQ,QQ,gW,gW,en,Z6]
 let endB:∀(out:RL)(G O:Nat)(st':SortSt),NQ st st'->G+1=a.size->Lo blt (a.toList++b.toList) out.toList (a.toList.drop G) (b.toList.drop O)->Q (out++b.extract O++a.extract G) st':=λout G O st' lk ha lo=>by
  let en:G=a.size-1:=by rw[<-ha,Nat.add_sub_cancel]
  refine b2 out.toList O st' _ lk (by rwa[<-en]) ?_;rw[QQ,QQ,gW,gW,<-en,Qi]
 refine VC ?_;dsimp only;refine wpS_lift<|Wk {M,?_};refine nmK ?_;intro k0;refine VC<|bK hb ?_;let start:Lo blt (a.toList++b.toList) [g b 0] (a.toList.drop 0) (b.toList.drop 1):=by
  let l0:Lo blt (a.toList++b.toList) [] (a.toList.drop 0) ([g b 0]++b.toList.drop 1):=by
   refine{?_,VV,λx hx=>VE hx Zc};let e:=wn hb;rw[Zp]at e;rw[Zp,Vn,List.singleton_append,<-e]
  have:=l0.b (by have:=ii ob 0;rw[wn hb]at this;exact this) (λx hx y hy=>by
   rw[Q7.mp hx];let{j,_,hj,rfl}:=kR hy;by_cases j0:j=0
   .rw[j0];exact C.of_lt a5
   .exact C.trans (C.of_lt a5)<|oa 0 j (Q4 _) (Xp j0) hj)
  simpa using this
 dsimp only[k0];by_cases b1:1=b.size
 .let eb:(1==b.size)=true:=VN.mpr b1;rw[VA eb];refine VF ?_;let en:b.toList.drop 1=[]:=Zl (by rw[Qb];exact Z0 b1.symm);rw[en]at start;refine ax _ 0 st _ (NQ.refl _) start ?_;simp[b1]
 .let eb:¬(1==b.size)=true:=by simpa using b1
  rw[Vz eb];by_cases a1:0+1=a.size
  .let ea:(0+1==a.size)=true:=VN.mpr a1;rw[VA ea];refine VF ?_;let e0:a.size-1=0:=by rw[<-a1]
   refine b2 [g b 0] 1 st _ (NQ.refl _) (by rw[e0];exact start) ?_;rw[e0,QQ,QQ,gW,gW,Qi]
  .let ea:¬(0+1==a.size)=true:=by simpa using a1
   rw[Vz ea];refine nmK ?_;intro k1;refine VC<|Wj ?_;dsimp only[k1];refine nmF ?_;intro f1 k2;refine VC (Wg (VT (I:=λi c st'=>NQ st st'/\Pd blt a b i c) (Q:=λc st'=>MQ (Q · st') (λ_=>False) c) ?_ ?_ {NQ.refl _,QL ha a1,QL hb b1,Qf _,start}) ?_)
   .rintro i c st'- -⟨lk,@⟨out,G,O,mg,c9,hb1,hi,lo⟩⟩;let ca:kindOf st'=κ:=lk.kind.trans hK;dsimp only[f1];refine nmF ?_;intro f2 k3;refine VC (Wg (VT (I:=λ_ c st2=>st2=st'/\Pd blt a b i c) (Q:=λc st2=>st2=st'/\MQ (Q · st') (Pd blt a b i) c) ?_ (λc st2 h=>{h.1,.go h.2}) ⟨M,c9,hb1,hi,lo⟩) ?_)
    .rintro j c st2- -⟨rfl,@⟨out,ja,jb,x,ab,Z,U,lo⟩⟩;dsimp only[f2];let b5:=V9 ab;refine VC<|bK Z (VC<|bK b5<|VC<|L _ _ _ _ (mb jb Z) (ma ja b5) ca ?_);dsimp only;cases e:blt (g b jb) (g a ja)with
     |true=>
      rw[VA M];let a2:=b3 out ja jb b5 Z lo e;refine VC<|bK Z ?_;by_cases z:jb+1=b.size
      .rw[VA (VN.mpr z)];exact VF {M,.ret<|endA _ ja (jb+1) _ lk (Z0 z.symm) a2}
      .rw[Vz (by simpa using z)];let hz:jb+1<b.size:=QL Z z;let U:=Zg U;split
       .exact VF {M,.go ⟨ab,hz,U,a2⟩}
       .exact VF ⟨M,ab,hz,U,a2⟩
     |false=>
      rw[Vz (_)];let a2:=b4 out ja jb b5 Z lo e;refine VC<|bK b5 ?_;by_cases z:ja+1+1=a.size
      .rw[VA (VN.mpr z)];exact VF {M,.ret<|endB _ (ja+1) jb _ lk z a2}
      .rw[Vz (by simpa using z)];let hz:ja+1+1<a.size:=QL ab z;let U:i<=ja+1+jb:=by rw[Nat.add_right_comm];exact Zg U
       split
       .exact VF {M,.go ⟨hz,Z,U,a2⟩}
       .exact VF ⟨M,hz,Z,U,a2⟩
    .rintro c st2 ⟨rfl,⟨q⟩| @⟨_,@⟨out,ja,jb,x,ab,Z,U,lo⟩⟩⟩
     .exact VF<|.ret q
     .dsimp only[k3];refine nmK ?_;intro k5;refine VC<|wpS_lift (Wk {M,?_});dsimp only[k5];refine nmF ?_;intro f3 k6;refine VC (Wg (VT (I:=λj c a3=>NQ st a3/\Pd blt a b (i+j) c) (Q:=λc a3=>NQ st a3/\MQ (Q · a3) (Pd blt a b<|i+1) c) ?_ ?_ ⟨lk,ab,Z,U,lo⟩) ?_)
      .rintro j c a3- -⟨a4,@⟨out,ka,Y,⟨m',x⟩,bd,a0,U,lo⟩⟩;dsimp only[f3];apply Dq (α:=Nat) (H:=λ_=>True)
       .intro key;by_cases m1:m'>1
        .rw[VA m1];generalize m'-1=mm;exact key mm trivial
        .rw[Vz m1];exact key m' trivial
       intro mm _;refine nmK ?_;intro k7;refine VC<|Fm λcb lk4=>?_;replace lk4:=a4.trans lk4;let c3:kindOf cb=κ:=lk4.kind.trans hK;dsimp only[k7];refine nmK ?_;intro k8;refine VC<|bK a0 ?_;refine nmK ?_;intro k9;let cc:=V9 bd;refine VC<|gV L c3 (mb Y a0) (λi hi=>{Zb hi,ma _<|Zb hi}) (Va cc) (λi=>!blt (g b Y) (g a<|ka+i)) (λi hi=>M) (λi j h1 h2 h3=>Go C oa ka _ i j h1 (Zb h2) h3) λk cd bo c4=>?_;let c5:k<a.size-ka:=by
        rcases XH k (a.size-ka)with z|z
        .exact z
        .let f:=bo (a.size-1-ka) ();rw[show ka+(a.size-1-ka)=a.size-1 by lia,an Y a0]at f;cases f
       let c8:∀i,i<k->blt (g b Y) (g a<|ka+i)=false:=λi hi=>by have:=bo i hi;simpa using this
       let bw:blt (g b Y) (g a<|ka+k)=true:=by have:=c4 k (Q4 _) c5;simpa using this
       clear cd bo c4;dsimp only[k9];apply q9 (H:=λ(kc:Nat)(o':Array Keyed)=>ka<=kc/\kc+1<a.size/\Lo blt (a.toList++b.toList) o'.toList (a.toList.drop kc) (b.toList.drop Y)/\blt (g b Y) (g a kc)=true)
       .intro key;by_cases k0:k>0
        .rw[VA k0];let lo1:=a6 out ka Y k lo c8;by_cases z:ka+k+1=a.size
         .rw[VA (VN.mpr z)];exact VF {lk4,.ret<|endB _ (ka+k) Y _ lk4 z lo1}
         let kk:=Zb c5;let zz:¬ka+k=a.size:=QM kk;rw[Vz (by simpa using z),Vz (by simpa using zz)];let k5:ka<=ka+k/\ka+k+1<a.size:={Nat.le_add_right _ _,QL kk z};let bv:=bw;generalize out++a.extract ka (ka+k)=o' at lo1⊢;generalize ka+k=kc at lo1 bv k5⊢;exact key kc o' ⟨k5.1,k5.2,lo1,bv⟩
        .rw[Vz k0];let bv:=bw;rw[Nat.eq_zero_of_not_pos k0,ZX]at bv;exact key ka out {Q4 _,bd,lo,bv}
       intro kc o' hc;let{c1,c2,lo1,bw}:=hc;refine nmK ?_;intro ce;refine VC<|bK a0 ?_;let bb:=V9 c2;let bt:=b3 _ kc Y bb a0 lo1 bw;dsimp only[ce];by_cases z2:Y+1=b.size
       .rw[VA (VN.mpr z2)];exact VF {lk4,.ret<|endA _ kc (Y+1) _ lk4 (Z0 z2.symm) bt}
       rw[Vz (by simpa using z2)];refine nmK ?_;intro cg;refine VC<|bK bb ?_;refine nmK ?_;intro cf;let bx:Y+1<b.size:=QL a0 z2;refine VC<|gV L c3 (ma _ bb) (λi hi=>{Zb hi,mb _<|Zb hi}) (Va bx) (λi=>blt (g b<|Y+1+i)<|g a kc) (λi hi=>M) (λi j h1 h2 h3=>Gn C ob (Y+1) _ i j h1 (Zb h2) h3) λk2 h1 h2 h3=>?_;dsimp only[cf];apply q9 (H:=λ(kd:Nat)(o2:Array Keyed)=>Y+1<=kd/\kd<b.size/\Lo blt (a.toList++b.toList) o2.toList (a.toList.drop kc) (b.toList.drop kd)/\blt (g b kd) (g a kc)=false)
       .intro key;by_cases q0:k2>0
        .rw[VA q0];let ah:=aa _ kc (Y+1) k2 bt h2;by_cases z3:Y+1+k2=b.size
         .rw[VA (VN.mpr z3)];exact VF {lk4,.ret<|endA _ kc (Y+1+k2) _ lk4 (Z0 z3.symm) ah}
         rw[Vz (by simpa using z3)];let w3:=h3 k2 (Q4 _) ();let k5:Y+1<=Y+1+k2/\Y+1+k2<b.size:=();generalize o'.push (g b Y)++b.extract (Y+1) (Y+1+k2)=o2 at ah⊢;generalize Y+1+k2=kd at ah w3 k5⊢;exact key kd o2 ⟨k5.1,k5.2,ah,w3⟩
        .rw[Vz q0];let w3:blt (g b<|Y+1) (g a kc)=false:=h3 0 (Nat.le_of_not_lt q0) (Va bx);exact key (Y+1) _ {Q4 _,bx,bt,w3}
       intro kd o2 hd;let{d1,d2,ah,w3}:=hd;refine VC<|bK bb ?_;let c0:=b4 _ kc kd bb d2 ah w3;let U:i+(j+1)<=kc+1+kd:=();by_cases z4:kc+1+1=a.size
       .rw[VA (VN.mpr z4)];exact VF {lk4,.ret<|endB _ (kc+1) kd _ lk4 z4 c0}
       rw[Vz (by simpa using z4)];let hz:kc+1+1<a.size:=QL c2 z4;split
       .exact VF {lk4,.go {hz,d2,Qu (ZM (Nat.le_add_left 1 j) i) U,c0}}
       .exact VF ⟨lk4,hz,d2,U,c0⟩
      .rintro c a3 ⟨a4,@⟨_,ka,Y,_,_,_,U,_⟩⟩;let em:max 0 (a.size+b.size)=a.size+b.size:=QV (Qf _);rw[em]at U;lia
      .rintro c a3 ⟨a4,⟨q⟩| @⟨_,⟨bd,a0,U,lo⟩⟩⟩
       .exact VF<|.ret q
       .dsimp only[k6];exact VC<|W5 (VF {⟨a4.kind,a4.arr,a4.pend,a4.fail⟩,bd,a0,U,lo})
   .rintro c st' ⟨lk,@⟨_,G,O,_,_,_,hi,_⟩⟩;let em:max 0 (a.size+b.size)=a.size+b.size:=QV (Qf _);rw[em]at hi;lia
   .rintro c st' (⟨q⟩|⟨⟨⟩⟩);exact VF q
end
structure Hi(blt:RY)(all o ra rb:R7):Prop where
 perm:((ra++rb)++o).Perm all
 srt:PW blt o
 high:∀x∈ra++rb,∀y∈o,le blt x y
theorem Hi.a{G:R7}(h:Hi blt all o (ra++G) rb)(hs:PW blt (ra++G))(hc:∀x∈rb,∀y∈G,le blt x y):Hi blt all (G++o) ra rb where
 perm:=by
  refine W2 ?_ h.perm;rw[<-Qi];refine VZ o ?_;rw[Qi,Qi];exact Wd ra Xb
 srt:=Ql.mpr {(Ql.mp hs).2.1,h.srt,λx hx y hy=>h.high x (by simp[hx]) y hy}
 high:=λx hx y hy=>by
  rcases Q5.mp hy with q|q
  .rcases Q5.mp hx with z|z
   .exact(Ql.mp hs).2.2 x z y q
   .exact hc x z y q
  .exact h.high x (by rcases Q5.mp hx with z|z<;>simp[z]) y q
theorem Hi.b{G:R7}(h:Hi blt all o ra (rb++G))(hs:PW blt (rb++G))(hc:∀x∈ra,∀y∈G,le blt x y):Hi blt all (G++o) ra rb where
 perm:=by
  refine W2 ?_ h.perm;rw[<-Qi];refine VZ o ?_;rw[Qi]
 srt:=Ql.mpr {(Ql.mp hs).2.1,h.srt,λx hx y hy=>h.high x (by simp[hx]) y hy}
 high:=λx hx y hy=>by
  rcases Q5.mp hy with q|q
  .rcases Q5.mp hx with z|z
   .exact hc x z y q
   .exact(Ql.mp hs).2.2 x z y q
  .exact h.high x (by rcases Q5.mp hx with z|z<;>simp[z]) y q
theorem Fy{a:RL}(h:i<a.size):a.toList.take (i+1)=a.toList.take i++ [g a i]:=by
 let e:=eC h;rw[<-QN]at e;rw[Qo,e];rfl
theorem iw{a:RL}(h:x∈a.toList.take n):∃j,j<n/\j<a.size/\x=g a j:=by
 let{k,hk,e}:=Xi.mp h;rw[Q8,Qb]at hk;refine{k,(),(),?_};let e2:=eC (xs:=a) (i:=k) ();rw[<-QN,Q3 (by rw[Qb];lia)]at e2;rw[ZG]at e;rw[<-e];exact VB e2
theorem eK{a:RL}(h:x∈(a.extract i n).toList):∃j,i<=j/\j<n/\j<a.size/\x=g a j:=by
 rw[Ze,Z2]at h;let{k,hk,e}:=Xi.mp h;rw[Q8,QF,Qb]at hk;refine{i+k,(),(),(),?_};let e2:=eC (xs:=a) (i:=i+k) ();rw[<-QN,Q3 (by rw[Qb];lia)]at e2;rw[ZG,ZY]at e;rw[<-e];exact VB e2
theorem oi{a:RL}(h:On blt a 0 a.size)(n:Nat):PW blt (a.toList.take n):=by
 have:=ii h 0;rw[Zp]at this;exact List.Pairwise.sublist (Xu _ _) this
theorem As{a:RL}(h:i<=n):a.toList.take n=a.toList.take i++(a.extract i n).toList:=by
 rw[Ze,Z2];obtain⟨k,rfl⟩:∃k,n=i+k:={n-i,()};rw[List.take_add,show i+k-i=k by lia]
theorem Jl(a:RL)(n:Nat):(a.extract 0 n).toList=a.toList.take n:=by
 rw[Ze,Z2,Zp,Nat.sub_zero]
section
inductive Pe(blt:RY)(a b:RL){τ:Type}(n:Nat):Option (Array Keyed)×Nat×Nat×Array Keyed×τ->Prop
 |mk{na nb out x}(h1:1<=na)(h2:na<=a.size)(h3:2<=nb)(h4:nb<=b.size)(hn:na+nb+n<=a.size+b.size)(lo:Hi blt (a.toList++b.toList) out.reverse.toList (a.toList.take na) (b.toList.take nb)):Pe blt a b n (none,na,nb,out,x)
variable(L:BD prog w A E s a₀ κ blt)
include L
theorem BY{a b:RL}{Q:Array Keyed->SortSt->Prop}(C:OL blt)(hK:kindOf st=κ)(hm:∀x,x∈a.toList++b.toList->x∈a₀)(oa:On blt a 0 a.size)(ob:On blt b 0 b.size)(ha:0<a.size)(hb:0<b.size)
  (aa:blt (g b 0) (g a 0)=true) (c4:∀j,j<b.size->blt (g b j) (g a<|a.size-1)=true)
  (h:∀res st',NQ st st'->res.toList.Perm (a.toList++b.toList)->PW blt res.toList->Q res st'):wpS (model prog w) A E s (Gr a b) Q st:=by
 let ma:∀i,i<a.size->g a i∈a₀:=λi hi=>hm _ (by have:=yv hi;simp[this]);let mb:∀i,i<b.size->g b i∈a₀:=λi hi=>hm _ (by have:=yv hi;simp[this]);let ab:∀i,i<a.size->blt (g b 0) (g a i)=true:=λi hi=>by
  by_cases i0:i=0
  .rwa[i0]
  .cases z:blt (g b 0) (g a i)with
   |true=>rfl
   |false=>
    let f:blt (g b 0) (g a 0)=false:=C.trans (oa 0 i (Q4 _) () hi) z;rw[aa]at f;cases f
 let ah:∀(out:RL)(G O k:Nat),k<=G->G<=a.size->1<=O->O<=b.size->Hi blt (a.toList++b.toList) out.reverse.toList (a.toList.take G) (b.toList.take O)->(∀i,k<=i->i<G->blt (g b<|O-1) (g a i)=true)->
   Hi blt (a.toList++b.toList) (out++(a.extract k G).reverse).reverse.toList (a.toList.take k) (b.toList.take O):=λout G O k h1 h2 h3 h4 lo hk=>by
  let er:(out++(a.extract k G).reverse).reverse.toList=(a.extract k G).toList++out.reverse.toList:=by simp
  let pa:=oi oa G;rw[As h1]at lo pa;rw[er];refine lo.a pa λx hx y hy=>?_;let{i,be,bl,cp,rfl}:=eK hy;let{j,bo,c5,rfl}:=iw hx;let l1:=C.of_lt (hk i be bl);by_cases ej:j=O-1
  .rwa[ej]
  .exact C.trans (ob j (O-1) (Qf _) (QL (Xv bo) ej)<|QH h3 h4) l1
 let an:∀(out:RL)(G O k:Nat),k<=O->O<=b.size->1<=G->G<=a.size->Hi blt (a.toList++b.toList) out.reverse.toList (a.toList.take G) (b.toList.take O)->(∀i,k<=i->i<O->blt (g b i) (g a<|G-1)=false)->
   Hi blt (a.toList++b.toList) (out++(b.extract k O).reverse).reverse.toList (a.toList.take G) (b.toList.take k):=λout G O k h1 h2 h3 h4 lo hk=>by
  let er:(out++(b.extract k O).reverse).reverse.toList=(b.extract k O).toList++out.reverse.toList:=by simp
  let pb:=oi ob O;rw[As h1]at lo pb;rw[er];refine lo.b pb λx hx y hy=>?_;let{i,be,bl,cp,rfl}:=eK hy;let{j,bo,c5,rfl}:=iw hx;let l1:le blt (g a<|G-1) (g b i):=hk i be bl;by_cases ej:j=G-1
  .rwa[ej]
  .exact C.trans (oa j (G-1) (Qf _) (QL (Xv bo) ej)<|QH h3 h4) l1
 let one:∀(x:RL)(i:Nat),i<x.size->(x.extract i<|i+1).reverse= #[g x i]:=λx i hi=>by
  have:x.extract i (i+1)= #[g x i]:=by
   apply Array.ext';rw[rF,wn hi];rfl
  rw[this];rfl
 let b4:∀(out:RL)(G O:Nat),1<=G->G<=a.size->1<=O->O<=b.size->Hi blt (a.toList++b.toList) out.reverse.toList (a.toList.take G) (b.toList.take O)->blt (g b<|O-1) (g a<|G-1)=true->
   Hi blt (a.toList++b.toList) (out.push<|g a<|G-1).reverse.toList (a.toList.take<|G-1) (b.toList.take O):=λout G O h1 h2 h3 h4 lo hk=>by
  have:=ah out G O (G-1) (Vt _ _) h2 h3 h4 lo λi hi hj=>by rwa[Nat.le_antisymm (Xv hj) hi]
  rwa [show a.extract (G-1) G=a.extract (G-1) (G-1+1) by rw[Nat.sub_add_cancel h1],one a (G-1) (QH h1 h2),<-Xj]at this
 let b5:∀(out:RL)(G O:Nat),1<=G->G<=a.size->1<=O->O<=b.size->Hi blt (a.toList++b.toList) out.reverse.toList (a.toList.take G) (b.toList.take O)->blt (g b<|O-1) (g a<|G-1)=false->
   Hi blt (a.toList++b.toList) (out.push<|g b<|O-1).reverse.toList (a.toList.take G) (b.toList.take<|O-1):=λout G O h1 h2 h3 h4 lo hk=>by
  have:=an out G O (O-1) (Vt _ _) h4 h1 h2 lo λi hi hj=>by rwa[Nat.le_antisymm (Xv hj) hi]
  rwa [show b.extract (O-1) O=b.extract (O-1) (O-1+1) by rw[Nat.sub_add_cancel h3],one b (O-1) (QH h3 h4),<-Xj]at this
 let endA:∀(out:RL)(G O:Nat)(st':SortSt),NQ st st'->G=0->O<=b.size->Hi blt (a.toList++b.toList) out.reverse.toList (a.toList.take G) (b.toList.take O)->Q (a.extract 0 G++b.extract 0 O++out.reverse) st':=λout G O st' lk hn ce lo=>by
  subst hn;let e:(a.extract 0 0++b.extract 0 O++out.reverse).toList=b.toList.take O++out.reverse.toList:=by
   rw[QQ,QQ,Jl,Jl];rfl
  refine h _ st' lk ?_ ?_
  .rw[e];exact lo.perm
  .rw[e];exact Ql.mpr {oi ob O,lo.srt,λx hx y hy=>lo.high x (by simp[hx]) y hy}
 let endB:∀(out:RL)(G O:Nat)(st':SortSt),NQ st st'->O=1->G<=a.size->Hi blt (a.toList++b.toList) out.reverse.toList (a.toList.take G) (b.toList.take O)->Q (b.extract 0 O++a.extract 0 G++out.reverse) st':=λout G O st' lk hn cf lo=>by
  subst hn;let e:(b.extract 0 1++a.extract 0 G++out.reverse).toList=(b.toList.take 1++a.toList.take G)++out.reverse.toList:=by
   rw[QQ,QQ,Jl,Jl]
  refine h _ st' lk ?_ ?_
  .rw[e];exact W2 (VZ _ Xb) lo.perm
  .rw[e];refine Ql.mpr {Ql.mpr {oi ob 1,oi oa G,λx hx y hy=>?_},lo.srt,λx hx y hy=>lo.high x ?_ y hy}
   .let{i,be,bl,rfl}:=iw hx;let{j,bo,c5,rfl}:=iw hy;rw[show i=0 by lia];exact C.of_lt<|ab j c5
   .rcases Q5.mp hx with z|z
    .exact Q5.mpr<|.inr z
    .exact Q5.mpr<|.inl z
 refine VC ?_;dsimp only;refine wpS_lift<|Wk {M,?_};refine nmK ?_;intro k0;refine VC<|bK () ?_;let start:Hi blt (a.toList++b.toList) (#[g a (a.size-1)]:RL).reverse.toList (a.toList.take<|a.size-1) (b.toList.take b.size):=by
  let l0:Hi blt (a.toList++b.toList) [] (a.toList.take (a.size-1)++ [g a (a.size-1)]) (b.toList.take b.size):=by
   refine{?_,VV,λx _ y hy=>VE hy Zc};rw[<-Fy (),show a.size-1+1=a.size by lia,Z6];let e1:a.toList.take a.size=a.toList:=Qx (by rw[Qb];exact Q4 _);let e2:b.toList.take b.size=b.toList:=Qx (by rw[Qb];exact Q4 _);rw[e1,e2]
  have:=l0.a (by rw[<-Fy ()];exact oi oa _) (λx hx y hy=>by
   rw[Q7.mp hy];let{j,_,hj,rfl}:=iw hx;exact C.of_lt<|c4 j hj)
  exact this
 dsimp only[k0];by_cases a1:a.size-1=0
 .rw[VA (VN.mpr a1)];exact VF<|endA _ (a.size-1) b.size st (NQ.refl _) a1 (Q4 _) start
 .rw[Vz (by simpa using a1)];by_cases b1:b.size=1
  .rw[VA (VN.mpr b1)];exact VF<|endB _ (a.size-1) b.size st (NQ.refl _) b1 () start
  .rw[Vz (by simpa using b1)];refine nmK ?_;intro k1;refine VC<|Wj ?_;dsimp only[k1];refine nmF ?_;intro f1 k2;refine VC (Wg (VT (I:=λi c st'=>NQ st st'/\Pe blt a b i c) (Q:=λc st'=>MQ (Q · st') (λ_=>False) c) ?_ ?_ {NQ.refl _,(),(),(),Q4 _,(),start}) ?_)
   .rintro i c st'- -⟨lk,@⟨G,O,out,mg,cs,cf,hb1,ce,hi,lo⟩⟩;let ct:kindOf st'=κ:=lk.kind.trans hK;dsimp only[f1];refine nmF ?_;intro f2 k3;refine VC (Wg (VT (I:=λ_ c st2=>st2=st'/\Pe blt a b i c) (Q:=λc st2=>st2=st'/\MQ (Q · st') (Pe blt a b i) c) ?_ (λc st2 h=>{h.1,.go h.2}) ⟨M,cs,cf,hb1,ce,hi,lo⟩) ?_)
    .rintro j c st2- -⟨rfl,@⟨ja,jb,out,x,a3,U,bb,Y,Z,lo⟩⟩;dsimp only[f2];let c8:=ZZ bb;let bt:=QH c8 Y;let bv:=QH a3 U;refine VC<|bK bt (VC<|bK bv<|VC<|L _ _ _ _ (mb (jb-1) bt) (ma (ja-1) bv) ct ?_);dsimp only;cases e:blt (g b<|jb-1) (g a<|ja-1)with
     |true=>
      rw[VA M];let a4:=b4 out ja jb a3 U c8 Y lo e;refine VC<|bK bv ?_;by_cases z:ja-1=0
      .rw[VA (VN.mpr z)];exact VF {M,.ret<|endA _ (ja-1) jb _ lk z Y a4}
      .rw[Vz (by simpa using z)];let h1:=Xp z;let h2:=QU bv;let h3:ja-1+jb+i<=a.size+b.size:=Qu (XW (XW (Vt _ _) _) _) Z;split
       .exact VF {M,.go ⟨h1,h2,bb,Y,h3,a4⟩}
       .exact VF ⟨M,h1,h2,bb,Y,h3,a4⟩
     |false=>
      rw[Vz (_)];let a4:=b5 out ja jb a3 U c8 Y lo e;refine VC<|bK bt ?_;by_cases z:jb-1=1
      .rw[VA (VN.mpr z)];exact VF {M,.ret<|endB _ ja (jb-1) _ lk z U a4}
      .rw[Vz (by simpa using z)];let h1:2<=jb-1:=();let h2:=QU bt;let h3:ja+(jb-1)+i<=a.size+b.size:=Qu (XW (ZM (Vt _ _) _) _) Z;split
       .exact VF {M,.go ⟨a3,U,h1,h2,h3,a4⟩}
       .exact VF ⟨M,a3,U,h1,h2,h3,a4⟩
    .rintro c st2 ⟨rfl,⟨q⟩| @⟨_,@⟨ja,jb,out,x,a3,U,bb,Y,Z,lo⟩⟩⟩
     .exact VF<|.ret q
     .dsimp only[k3];refine nmK ?_;intro k5;refine VC<|wpS_lift (Wk {M,?_});dsimp only[k5];refine nmF ?_;intro f3 k6;refine VC (Wg (VT (I:=λj c a5=>NQ st a5/\Pe blt a b (i+j) c) (Q:=λc a5=>NQ st a5/\MQ (Q · a5) (Pe blt a b<|i+1) c) ?_ ?_ ⟨lk,a3,U,bb,Y,Z,lo⟩) ?_)
      .rintro j c a5- -⟨a6,@⟨ka,kb,out,⟨m',x⟩,bw,a0,c9,a2,Z,lo⟩⟩;dsimp only[f3];apply Dq (α:=Nat) (H:=λ_=>True)
       .intro key;by_cases m1:m'>1
        .rw[VA m1];generalize m'-1=mm;exact key mm trivial
        .rw[Vz m1];exact key m' trivial
       intro mm _;refine nmK ?_;intro k7;refine VC<|Fm λcu lk4=>?_;replace lk4:=a6.trans lk4;let cg:kindOf cu=κ:=lk4.kind.trans hK;dsimp only[k7];refine nmK ?_;intro k8;let ca:=ZZ c9;let bx:=QH ca a2;let up:∀{i m n},i<m->m<=n->0+i<n:=λh1 h2=>by rw[Xn];exact Qz h1 h2
       refine VC<|bK bx ?_;refine nmK ?_;intro k9;refine VC<|gV L cg (mb (kb-1) bx) (λi hi=>{up hi a0,ma _<|up hi a0}) (QH bw<|Q4 _) (λi=>!blt (g b<|kb-1) (g a<|0+i)) (λi hi=>M) (λi j h1 h2 h3=>Go C oa 0 _ i j h1 (up h2 a0) h3) λk ci cj ck=>?_;let ax:∀i,i<k->blt (g b<|kb-1) (g a i)=false:=λi hi=>by let f:=cj i hi;rw[Xn]at f;simpa using f
       let cn:∀i,k<=i->i<ka->blt (g b<|kb-1) (g a i)=true:=λi hi hj=>by let f:=ck i hi hj;rw[Xn]at f;simpa using f
       clear cj ck;dsimp only[k9];apply q9 (H:=λ(kc:Nat)(o':RL)=>0<kc/\kc<=ka/\(∀i,i<kc->blt (g b<|kb-1) (g a i)=false)/\Hi blt (a.toList++b.toList) o'.reverse.toList (a.toList.take kc) (b.toList.take kb))
       .intro key;by_cases k0:ka-k>0
        .rw[VA k0];let lo1:=ah out ka kb k ci a0 ca a2 lo cn;by_cases z:k=0
         .rw[VA (VN.mpr z)];exact VF {lk4,.ret<|endA _ k kb _ lk4 z a2 lo1}
         rw[Vz (by simpa using z)];generalize out++(a.extract k ka).reverse=o' at lo1⊢;obtain⟨kc,ek⟩:∃kc,kc=k:={_,M};rw[<-ek]at lo1⊢;exact key kc o' {by rw[ek];exact Xp z,by rwa[ek],by rwa[ek],lo1}
        .rw[Vz k0];let e0:k=ka:=();rw[e0];exact key ka out {bw,Q4 _,by rwa[<-e0],lo}
       intro kc o' hc;let{c1,c2,ax,lo1}:=hc;refine nmK ?_;intro cv;refine VC<|bK bx ?_;let c3:=Qu c2 a0;let b2:=QH c1 c3;let cb:=b5 _ kc kb c1 c3 ca a2 lo1 (ax (kc-1)<|QH c1<|Q4 _);dsimp only[cv];by_cases z2:kb-1=1
       .rw[VA (VN.mpr z2)];exact VF {lk4,.ret<|endB _ kc (kb-1) _ lk4 z2 c3 cb}
       rw[Vz (by simpa using z2)];refine nmK ?_;intro d4;let cc:1<kb-1:=();let bd:=QU bx;refine VC<|bK b2 ?_;refine nmK ?_;intro cy;refine VC<|gV L cg (ma _ b2) (λi hi=>{up hi bd,mb _<|up hi bd}) (QH (ZZ cc)<|Q4 _) (λi=>blt (g b<|0+i)<|g a<|kc-1) (λi hi=>M) (λi j h1 h2 h3=>Gn C ob 0 _ i j h1 (up h2 bd) h3) λk2 h1 h2 h3=>?_;let co:0<k2:=by
        rcases ZS k2 with z|z
        .let f:blt (g b<|0+0) (g a<|kc-1)=false:=h3 0 (Z0 z) (ZZ cc);rw[ZX,ab (kc-1) b2]at f;cases f
        .exact z
       let c0:∀i,i<k2->blt (g b i) (g a<|kc-1)=true:=λi hi=>by let f:=h2 i hi;rwa [Xn]at f
       let cz:∀i,k2<=i->i<kb-1->blt (g b i) (g a<|kc-1)=false:=λi hi hj=>by let f:=h3 i hi hj;rwa [Xn]at f
       clear h2 h3;dsimp only[cy];apply q9 (H:=λ(kd:Nat)(o2:RL)=>1<kd/\kd<=kb-1/\(∀i,i<kd->blt (g b i) (g a<|kc-1)=true)/\Hi blt (a.toList++b.toList) o2.reverse.toList (a.toList.take kc) (b.toList.take kd))
       .intro key;by_cases q0:kb-1-k2>0
        .rw[VA q0];let b3:=an _ kc (kb-1) k2 h1 bd c1 c3 cb cz;by_cases z3:k2=1
         .rw[VA (VN.mpr z3)];exact VF {lk4,.ret<|endB _ kc k2 _ lk4 z3 c3 b3}
         let zz:¬k2=0:=V6 co;rw[Vz (by simpa using z3),Vz (by simpa using zz)];generalize o'.push (g b<|kb-1)++(b.extract k2<|kb-1).reverse=o2 at b3⊢;obtain⟨kd,ed⟩:∃kd,kd=k2:={_,M};rw[<-ed]at b3⊢;exact key kd o2 {by rw[ed];exact QL co<|Ne.symm z3,by rwa[ed],by rwa[ed],b3}
        .rw[Vz q0];let e2:k2=kb-1:=();rw[e2];exact key (kb-1) _ {cc,Q4 _,by rwa[<-e2],cb}
       intro kd o2 hd;let{d1,d2,c0,b3}:=hd;refine VC<|bK b2 ?_;let d0:=ZZ d1;let d3:=Qu d2 bd;let cd:=b4 _ kc kd c1 c3 d0 d3 b3 (c0 (kd-1)<|QH d0<|Q4 _);by_cases z4:kc-1=0
       .rw[VA (VN.mpr z4)];exact VF {lk4,.ret<|endA _ (kc-1) kd _ lk4 z4 d3 cd}
       rw[Vz (by simpa using z4)];let hz:=Xp z4;let Z:kc-1+kd+(i+(j+1))<=a.size+b.size:=();split
       .exact VF {lk4,.go {hz,QU b2,d1,d3,Qu (ZM (ZM (Nat.le_add_left 1 j) i) _) Z,cd}}
       .exact VF {lk4,hz,QU b2,d1,d3,Z,cd}
      .rintro c a5 ⟨a6,@⟨ka,kb,_,_,_,_,_,_,Z,_⟩⟩;let em:max 0 (a.size+b.size)=a.size+b.size:=QV (Qf _);rw[em]at Z;lia
      .rintro c a5 ⟨a6,⟨q⟩| @⟨_,⟨bw,a0,c9,a2,Z,lo⟩⟩⟩
       .exact VF<|.ret q
       .dsimp only[k6];exact VC<|W5 (VF {⟨a6.kind,a6.arr,a6.pend,a6.fail⟩,bw,a0,c9,a2,Z,lo})
   .rintro c st' ⟨lk,@⟨_,_,_,_,_,_,_,_,hi,_⟩⟩;let em:max 0 (a.size+b.size)=a.size+b.size:=QV (Qf _);rw[em]at hi;lia
   .rintro c st' (⟨q⟩|⟨⟨⟩⟩);exact VF q
end
abbrev _root_.Sm:=List (Nat×Nat×Nat)
variable{A:RT}{p:Array (Nat×Nat×Nat)}{arr a₀ m xs:RL}{Q:Bool->SortSt->Prop}{blt:RY}{l:Sm}{at_ i lo n:Nat}{prog:RN}{s:RD}{κ:SortKind}{st:SortSt}{α:Type}{E:RP}{w:RO}
def PB(arr:RL)(at_:Nat)(m:RL):Array Keyed:=m.toList.zipIdx.foldl (λa p=>a.setIfInBounds (at_+p.2) p.1) arr
theorem GE:∀(l:R7)(j:Nat)(arr:RL)(at_:Nat),at_+j+l.length<=arr.size->
  ((l.zipIdx j).foldl (λa p=>a.setIfInBounds (at_+p.2) p.1) arr).toList=arr.toList.take (at_+j)++l++arr.toList.drop (at_+j+l.length)
 | [],j,arr,at_,h=>by simp
 |x::l,j,arr,at_,h=>by
  rw[List.zipIdx_cons,List.foldl_cons];let hl:at_+j<arr.size:=by simp at h;lia
  let z:=GE l (j+1) (arr.setIfInBounds (at_+j) x) at_ (by simp at h⊢;lia)
  rw[z,Vu];let G:(arr.toList.set (at_+j) x).take (at_+(j+1))=arr.toList.take (at_+j)++ [x]:=by
   rw[show at_+(j+1)=at_+j+1 by lia,Qo,List.take_set_of_le (Q4 _),XE (by rwa[Qb])];rfl
  let e2:(arr.toList.set (at_+j) x).drop (at_+(j+1)+l.length)=arr.toList.drop (at_+j+(x::l).length):=by
   rw[List.drop_set_of_lt ()];congr 1;simp;lia
  rw[G,e2,Qi,Qi,Qi];rfl
theorem A8(h:at_+m.size<=arr.size):(PB arr at_ m).toList=arr.toList.take at_++m.toList++arr.toList.drop (at_+m.size):=by
 have:=GE m.toList 0 arr at_ (by simpa using h)
 simpa[PB]using this
theorem zM(xs:RL)(k:Nat):g xs k=(xs.toList[k]?).getD dk:=by unfold g;rw[QN]
theorem ML(h:at_+m.size<=arr.size)(k:Nat):g (PB arr at_ m) k=if at_<=k/\k<at_+m.size then g m (k-at_)else g arr k:=by
 rw[zM,A8 h];let l1:(arr.toList.take at_).length=at_:=by rw[Q8,Qb];lia
 by_cases a:k<at_
 .rw[Vz (),Qi,QG (),Xx a,<-zM]
 .by_cases b:k<at_+m.size
  .rw[VA {(),b},Qi,QD (),l1,QG (by rw[Qb];lia),<-zM]
  .rw[Vz (),QD (by rw[Q6,l1,Qb];lia),Q6,l1,Qb,ZA,show at_+m.size+(k-(at_+m.size))=k by lia,<-zM]
theorem GD(h:at_+m.size<=arr.size)(p:m.toList.Perm ((arr.toList.drop at_).take m.size)):(PB arr at_ m).Perm arr:=by
 rw[Vv,A8 h];let e:arr.toList=arr.toList.take at_++((arr.toList.drop at_).take m.size++arr.toList.drop (at_+m.size)):=by
  rw[<-Vs,QO,QO]
 refine W2 ?_<|Wl e.symm;rw[Qi];exact Wd _<|VZ _ p
theorem oX(h:n<=arr.size){k:Nat}(hk:k<n-i):g (arr.extract i n) k=g arr (i+k):=by
 unfold g;rw[Array.getElem?_extract,VA ()]
theorem uT(h:n<=arr.size):(arr.extract i n).size=n-i:=by rw[Array.size_extract];lia
theorem zA(h:n<=arr.size)(o:On blt arr i n):On blt (arr.extract i n) 0 (arr.extract i n).size:=λa b _ z hb=>by
 rw[uT h]at hb;rw[oX h (),oX h hb];exact o _ _ () () ()
section
theorem Ie{x:SortSt}{Q:PUnit->SortSt->Prop}(h:Q ⟨⟩ x):wpS (model prog w) A E s (set x:StateT SortSt Sem PUnit) Q st:=by
 unfold wpS;rw[StateT.run_set];exact VQ ⟨M,h⟩
variable(L:BD prog w A E s a₀ κ blt)
include L
theorem BZ{G I pa sb U pb:Nat}(C:OL blt)(Wn:NE a₀ κ st)(hi:(pendingOf st)[i]?=some (G,I,pa))(O:(pendingOf st)[i+1]?=some (sb,U,pb))(hb:sb=G+I)(h1:1<=I)(h2:1<=U)(hz:sb+U<=a₀.size)
  (oa:On blt (arrOf st) G (G+I)) (ob:On blt (arrOf st) sb (sb+U))
  (h:∀st',NE a₀ κ st'->pendingOf st'=((pendingOf st).setIfInBounds i (G,I+U,pa)).eraseIdxIfInBounds (i+1)->On blt (arrOf st') G (G+(I+U))->(∀k,k<G\/G+(I+U)<=k->g (arrOf st') k=g (arrOf st) k)->Q true st'):
  wpS (model prog w) A E s (mergeAt' i) Q st:=by
 subst hb;let hsz:=Wn.size;let b3:((sortPriv%PySem.Builtin.SortState.a) st).size=a₀.size:=Wn.size;refine VC<|Wj ?_;dsimp only;rw[hi,O];dsimp only;refine VC<|Ie ?_;let B1:NE a₀ κ (SortSt.mk' (kindOf st) (arrOf st) (((pendingOf st).setIfInBounds i (G,I+U,pa)).eraseIdxIfInBounds<|i+1) (gallopOf st)<|failedOf st):=⟨Wn.kind,Wn.fine,Wn.perm⟩;refine VC<|bK () ?_;refine VC<|gV L B1.kind (Wn.mem ()) (λj O=>{(),Wn.mem ()}) () (λj=>!blt (g (arrOf st)<|G+I) (g (arrOf st)<|G+j)) (λj O=>M) (λx y h3 h4 h5=>?_) λk b4 an ax=>?_
 .let h5:blt (g (arrOf st)<|G+I) (g (arrOf st)<|G+y)=false:=by simpa using h5
  by_cases e:x=y
  .subst e;simpa using h5
  .have:=C.trans (oa (G+x) (G+y) () () ()) h5;simpa using this
 .dsimp only;let low:∀j,j<k->le blt (g (arrOf st)<|G+j) (g (arrOf st)<|G+I):=λj O=>by have:=an j O;simpa using this
  let up:∀j,k<=j->j<I->blt (g (arrOf st)<|G+I) (g (arrOf st)<|G+j)=true:=λj O b1=>by have:=ax j O b1;simpa using this
  let a2:∀j x,j<k->G+I<=x->x<G+I+U->le blt (g (arrOf st)<|G+j) (g (arrOf st) x):=λj x O hx Z=>by
   by_cases e:x=G+I
   .rw[e];exact low j O
   .exact C.trans (low j O)<|ob (G+I) x (Q4 _) () Z
  by_cases n0:I-k=0
  .rw[VA (VN.mpr n0)];refine VF<|h _ B1 M (λx y hx a0 hy=>?_) λ_ _=>M;by_cases c:y<G+I
   .exact oa x y hx a0 c
   .by_cases d:x<G+I
    .have:=a2 (x-G) y () () ();rwa [show G+(x-G)=x by lia]at this
    .exact ob x y () a0 ()
  .rw[Vz (by simpa using n0)];refine VC<|bK () ?_;rw[show G+k+(I-k)-1=G+I-1 by lia];refine VC<|gV L B1.kind (Wn.mem ()) (λj O=>{(),Wn.mem ()}) () (λj=>blt (g (arrOf st)<|G+I+j)<|g (arrOf st)<|G+I-1) (λj O=>M) (λx y h3 h4 h5=>?_) λm b5 b2 a6=>?_
   .by_cases e:x=y
    .subst e;exact h5
    .cases z:blt (g (arrOf st)<|G+I+x) (g (arrOf st)<|G+I-1)with
     |true=>rfl
     |false=>
      let f:blt (g (arrOf st)<|G+I+y) (g (arrOf st)<|G+I-1)=false:=C.trans z (ob (G+I+x) (G+I+y) () () ());rw[h5]at f;cases f
   .dsimp only;let a3:∀j,j<m->blt (g (arrOf st)<|G+I+j) (g (arrOf st)<|G+I-1)=true:=b2;let first:blt (g (arrOf st)<|G+I+0) (g (arrOf st)<|G+k+0)=true:=by
     rw[ZX,ZX];exact up k (Q4 _) ()
    let mp:0<m:=by
     rcases ZS m with z|z
     .let f:blt (g (arrOf st)<|G+I+0) (g (arrOf st)<|G+I-1)=false:=a6 0 () ();let q:=up (I-1) () ();rw[show G+(I-1)=G+I-1 by lia]at q;rw[ZX,q]at f;cases f
     .exact z
    let high:∀x,G+I+m<=x->x<G+I+U->le blt (g (arrOf st)<|G+I-1) (g (arrOf st) x):=λx hx Z=>by
     let f:blt (g (arrOf st)<|G+I+(x-(G+I))) (g (arrOf st)<|G+I-1)=false:=a6 (x-(G+I)) () ();rwa [show G+I+(x-(G+I))=x by lia]at f
    let a1:∀y x,G<=y->y<G+I->G+I+m<=x->x<G+I+U->le blt (g (arrOf st) y) (g (arrOf st) x):=λy x hy bb hx Z=>by
     by_cases e:y=G+I-1
     .rw[e];exact high x hx Z
     .exact C.trans (oa y (G+I-1) hy () ())<|high x hx Z
    let m0:¬m=0:=();rw[Vz (by simpa using m0)];let sx:((arrOf st).extract (G+k)<|G+I).size=G+I-(G+k):=uT ();let sy:((arrOf st).extract (G+I)<|G+I+m).size=G+I+m-(G+I):=uT ();let aa:On blt (arrOf st) (G+k) (G+I):=oa.sub () ();let ab:On blt (arrOf st) (G+I) (G+I+m):=ob.sub () ();let a4:∀(res:RL)(st2:SortSt),NQ (SortSt.mk' (kindOf st) (arrOf st) (((pendingOf st).setIfInBounds i (G,I+U,pa)).eraseIdxIfInBounds<|i+1) (gallopOf st)<|failedOf st) st2->res.toList.Perm (((arrOf st).extract (G+k)<|G+I).toList++((arrOf st).extract (G+I)<|G+I+m).toList)->PW blt res.toList->
      wpS (model prog w) A E s (modify (λs=>SortSt.mk' (kindOf s) (PB (arrOf s) (G+k) res) (pendingOf s) (gallopOf s)<|failedOf s)>>=λ_=>get>>=λx=>pure (failedOf x).isNone) Q st2:=λres st2 Y pm pw=>by
     let rs:res.size=I-k+m:=by
      have:=pm.length_eq;rw[Q6,Qb,Qb,Qb,sx,sy]at this;lia
     let rm:∀j,j<res.size->∃x,G+k<=x/\x<G+I+m/\g res j=g (arrOf st) x:=λj O=>by
      let mem:g res j∈res.toList:=by have:=yv O;simpa using this
      rcases Q5.mp (pm.mem_iff.mp mem)with q|q
      .let{x,x1,x2,_,x4}:=eK q;exact{x,(),(),x4}
      .let{x,x1,x2,_,x4}:=eK q;exact{x,(),(),x4}
     let ah:G+k+res.size<=(arrOf st2).size:=by rw[Y.arr];show G+k+res.size<=(arrOf st).size;lia
     refine VC<|W5 ?_;refine VC<|Wj (VF ?_);let hg:∀x,g (PB (arrOf st2) (G+k) res) x=if G+k<=x/\x<G+k+res.size then g res (x-(G+k))else g (arrOf st) x:=λx=>by
      rw[ML ah,Y.arr]
     let ef:(failedOf st2).isNone=true:=by
      rw[Y.fail];show(failedOf st).isNone=true;rw[Wn.fine];rfl
     show Q (failedOf st2).isNone _;rw[ef];let on:=Ga pw;refine h _ {Y.kind.trans Wn.kind,Y.fail.trans Wn.fine,?_} Y.pend ?_ ?_
     .refine(GD ah ?_).trans (by rw[Y.arr];exact Wn.perm);rw[Y.arr];show res.toList.Perm (((arrOf st).toList.drop<|G+k).take res.size);refine pm.trans<|Wl ?_;rw[Ze,Ze,Z2,Z2,rs,show G+I-(G+k)=I-k by lia,show G+I+m-(G+I)=m by lia,List.take_add,Vs,show G+k+(I-k)=G+I by lia]
     .intro x y hx a0 hy;show le blt (g (PB (arrOf st2) (G+k) res) x) (g (PB (arrOf st2) (G+k) res) y);rw[hg x,hg y];by_cases y1:G+k<=y/\y<G+k+res.size
      .rw[VA y1];by_cases x1:G+k<=x/\x<G+k+res.size
       .rw[VA x1];exact on _ _ (Qf _) () ()
       .rw[Vz x1];let{z,z1,z2,z3}:=rm (y-(G+k)) ();rw[z3];by_cases zz:z<G+I
        .exact oa x z hx () zz
        .have:=a2 (x-G) z () () ();rwa [show G+(x-G)=x by lia]at this
      .rw[Vz y1];by_cases x1:G+k<=x/\x<G+k+res.size
       .rw[VA x1];let{z,z1,z2,z3}:=rm (x-(G+k)) ();rw[z3];by_cases zz:z<G+I
        .exact a1 z y () zz () ()
        .exact ob z y () () ()
       .rw[Vz x1];by_cases yy:y<G+I
        .exact oa x y hx a0 yy
        .by_cases xx:x<G+I
         .exact a1 x y hx xx () ()
         .exact ob x y () a0 ()
     .intro x hx;show g (PB (arrOf st2) (G+k) res) x=g (arrOf st) x;rw[hg x,Vz ()]
    by_cases c:I-k<=m
    .rw[VA c];refine VC<|BX L C B1.kind (λx hx=>?_) (zA () aa) (zA () ab) (by rw[sx];lia) (by rw[sy];lia) ?_ ?_ λres st2 Y pm pw=>?_
     .rcases Q5.mp hx with q|q
      .let{j,_,_,a5,rfl}:=eK q;exact Wn.mem ()
      .let{j,_,_,a5,rfl}:=eK q;exact Wn.mem ()
     .rwa[oX () (),oX () ()]
     .intro j O;rw[sy]at O;rw[sx,oX () (),oX () (),show G+k+(G+I-(G+k)-1)=G+I-1 by lia];exact a3 j ()
     .exact a4 res st2 Y pm pw
    .rw[Vz c];refine VC<|BY L C B1.kind (λx hx=>?_) (zA () aa) (zA () ab) (by rw[sx];lia) (by rw[sy];lia) ?_ ?_ λres st2 Y pm pw=>?_
     .rcases Q5.mp hx with q|q
      .let{j,_,_,a5,rfl}:=eK q;exact Wn.mem ()
      .let{j,_,_,a5,rfl}:=eK q;exact Wn.mem ()
     .rwa[oX () (),oX () ()]
     .intro j O;rw[sy]at O;rw[sx,oX () (),oX () (),show G+k+(G+I-(G+k)-1)=G+I-1 by lia];exact a3 j ()
     .exact a4 res st2 Y pm pw
end
def M2(blt:RY)(xs:RL):List (Nat×Nat×Nat)->Nat->Nat->Prop
 | [],f,t=>f=t
 |(st,len,_)::r,f,t=>st=f/\1<=len/\On blt xs st (st+len)/\M2 blt xs r (st+len) t
theorem M2.le{xs:RL}:∀{l:Sm}{f t:Nat},M2 blt xs l f t->f+l.length<=t
 | [],f,t,h=>by cases h;simp
 |(st,len,p)::r,f,t,h=>by
  let{rfl,h1,_,z}:=h;have:=M2.le z;simp;lia
theorem M2.app{xs:RL}:∀{l r:Sm}{f t:Nat},M2 blt xs (l++r) f t↔∃m,M2 blt xs l f m/\M2 blt xs r m t
 | [],r,f,t=>{λh=>⟨f,M,h⟩,λ⟨m,e,h⟩=>by cases e;exact h}
 |(st,len,p)::l,r,f,t=>by
  constructor
  .rintro ⟨h1,h2,z,G⟩;let{m,a,b}:=M2.app.mp G;exact{m,⟨h1,h2,z,a⟩,b}
  .rintro ⟨m,⟨h1,h2,z,a⟩,b⟩;exact{h1,h2,z,M2.app.mpr ⟨m,a,b⟩}
theorem M2.congr{ys:RL}:∀{l:Sm}{f t:Nat},M2 blt xs l f t->(∀k,f<=k->k<t->g ys k=g xs k)->M2 blt ys l f t
 | [],f,t,h,_=>h
 |(st,len,p)::r,f,t,h,e=>by
  let{rfl,h1,h2,z}:=h;have:=z.le;exact{M,h1,h2.congr λk a b=>e k a (),z.congr λk a b=>e k () b}
theorem M2.pw{a b p q:Nat}{f t:Nat}(h:M2 blt xs (l++ [(a,b,p)]) f t):M2 blt xs (l++ [(a,b,q)]) f t:=by
 let{m,h1,h2}:=M2.app.mp h;exact M2.app.mpr ⟨m,h1,h2⟩
theorem kJ{q:Nat}(S:M2 blt xs p.toList 0 lo)(h:1<=n)(o:On blt xs lo (lo+n)):M2 blt xs (p.push (lo,n,q)).toList 0 (lo+n):=by
 rw[Vb];exact M2.app.mpr ⟨lo,S,M,h,o,M⟩
theorem AR(q:Array α)(x:α)(f:α->α):(q.push x).modify ((q.push x).size-1) f=q.push (f x):=by
 let e:(q.push x).size-1=q.size:=by simp
 rw[e];apply Array.ext
 .simp
 .intro i h1 h2;rw[Array.getElem_modify];by_cases hi:q.size=i
  .subst hi;simp
  .rw[Vz hi];have:i<q.size:=by simp at h2;lia
   rw[XT this,XT this]
theorem qW{pw:Nat}(z:1<=p.size)(S:M2 blt xs p.toList 0 lo):M2 blt xs (p.modify (p.size-1) λx=>(x.1,x.2.1,pw)).toList 0 lo:=by
 obtain⟨q,x,rfl⟩:∃q x,p=q.push x:={p.pop,p[p.size-1],by
  apply Array.ext
  .simp;lia
  .intro i h1 h2;by_cases hi:i<p.pop.size
   .rw[XT hi];simp
   .have:i=p.size-1:=by simp at h2 hi;lia
    subst this;rw[Array.getElem_push];rw[dif_neg (by simp)]}
 rw[AR,Vb];rw[Vb]at S;let{a,b,c}:=x;exact S.pw
theorem FE{l:List α}{x y:α}(h1:l[i]?=some x)(h2:l[i+1]?=some y):∃p r,l=p++x::y::r/\p.length=i:=by
 let{I,O}:=Q1.mp h1;let{U,e2}:=Q1.mp h2;refine{l.take i,l.drop<|i+2,?_,by rw[Q8];lia};let z:=Za I;let G:=Za U;rw[O]at z;rw[e2]at G
 calc l=l.take i++l.drop i:=(QO _ _).symm
  _=_:=by rw[z,G]
theorem GY{p r:List α}{x y v:α}:((p++x::y::r).set p.length v).eraseIdx (p.length+1)=p++v::r:=by
 rw[List.set_append_right _ _ (Q4 _),XI];rw[V5 (),show p.length+1-p.length=1 by lia];rfl
section
variable(L:BD prog w A E s a₀ κ blt)
include L
theorem r9(C:OL blt)(Wn:NE a₀ κ st)(S:M2 blt (arrOf st) (pendingOf st).toList 0 lo)(a0:lo<=a₀.size)(hi:i+1<(pendingOf st).size)
  (h:∀st',NE a₀ κ st'->M2 blt (arrOf st') (pendingOf st').toList 0 lo->(pendingOf st').size+1=(pendingOf st).size->(∀k,lo<=k->g (arrOf st') k=g (arrOf st) k)->Q true st'):
  wpS (model prog w) A E s (mergeAt' i) Q st:=by
 let O:(pendingOf st)[i]?=some ((pendingOf st)[i]'()):=getElem?_pos _ _ _;let U:(pendingOf st)[i+1]?=some ((pendingOf st)[i+1]'hi):=getElem?_pos _ _ _;obtain⟨⟨z,G,pa⟩,e1⟩:∃x,x=(pendingOf st)[i]'():={_,M};obtain⟨⟨sb,I,pb⟩,e2⟩:∃x,x=(pendingOf st)[i+1]'hi:={_,M};rw[<-e1]at O;rw[<-e2]at U;let t1:=O;let t2:=U;rw[<-QN]at t1 t2;let{p,r,Y,pl}:=FE t1 t2;rw[Y]at S;let{m,S1,S2}:=M2.app.mp S;let{rfl,n1,o1,rfl,n2,o2,S3}:=S2;let l3:=S3.le;let l1:=S1.le;refine BZ L C Wn O U M n1 n2 () o1 o2 λst' B' hp on keep=>?_;let ep:(pendingOf st').toList=p++(z,G+I,pa)::r:=by
  rw[hp,Array.toList_eraseIdxIfInBounds,Vu,Y,<-pl,GY]
 let Z:∀k,k<z\/z+G+I<=k->g (arrOf st') k=g (arrOf st) k:=λk hk=>keep k ();refine h st' B' ?_ ?_ λk hk=>Z k ()
 .rw[ep];refine M2.app.mpr {z,S1.congr λk a b=>Z k<|.inl b,M,(),on,?_};rw[show z+(G+I)=z+G+I by lia];exact S3.congr λk a b=>Z k (.inr a)
 .let a:=VS List.length ep;let b:=VS List.length Y;simp at a b;lia
theorem Ak{Q:Unit->SortSt->Prop}(C:OL blt)(Wn:NE a₀ κ st)(hp:pendingOf st= #[])(h2:1<=a₀.size)
  (h:∀st',NE a₀ κ st'->On blt (arrOf st') 0 a₀.size->Q Unit.unit st'):wpS (model prog w) A E s sortRuns' Q st:=by
 rw[sortRuns'_eq];refine VC<|Wj ?_;dsimp only;let hsz:=Wn.size;rw[hsz];refine VC (Wg (VT
  (I:=λi c st'=>∃lo,c=(none,lo)/\i<=lo/\lo<=a₀.size/\NE a₀ κ st'/\M2 blt (arrOf st') (pendingOf st').toList 0 lo)
  (Q:=λc st'=>c=(none,a₀.size)/\NE a₀ κ st'/\M2 blt (arrOf st') (pendingOf st').toList 0 a₀.size) ?step ?fin {0,M,Q4 _,Qf _,Wn,by rw[hp];exact M}) ?post)
 case fin=>
  rintro c st' ⟨lo,rfl,h1,h3,B',S⟩;let em:max 0 a₀.size=a₀.size:=QV (Qf _);rw[em]at h1;let e:lo=a₀.size:=();subst e;exact⟨M,B',S⟩
 case step=>
  rintro i c st' _ hi ⟨lo,rfl,h1,h3,B',S⟩;dsimp only;by_cases z:lo>=a₀.size
  .rw[VA z];let e:lo=a₀.size:=();subst e;exact VF ⟨M,B',S⟩
  .rw[Vz z];refine VC<|Fn L C B' () () λn st2 B2 p2 m1 m2 O2 k2=>?_;dsimp only;let S2:M2 blt (arrOf st2) (pendingOf st2).toList 0 lo:=by
    rw[p2];exact S.congr λk _ b=>k2 k b
   by_cases U:n<minRun' a₀.size a₀.size 0
   .rw[VA U];refine VC<|wpS_lift (Wk {M,?_});refine VC<|DY L C B2 m1 () () O2 λO B3 p3 O3 k3=>?_;rw[Vz (_)];let S3:M2 blt (arrOf O) (pendingOf O).toList 0 lo:=by
     rw[p3];exact S2.congr λk _ b=>k3 k b
    generalize hn:min (a₀.size-lo) (minRun' a₀.size a₀.size 0)=n' at O3;let a2:1<=n':=();let a3:lo+n'<=a₀.size:=();refine VC<|Wj ?_;cases eb:(pendingOf O).back? with
    |none=>
     dsimp only;exact VC<|W5 (VF {lo+n',M,(),(),⟨B3.kind,B3.fine,B3.perm⟩,kJ S3 () O3})
    |some tt=>
     let{s1,n1,p1}:=tt;dsimp only;let Z:1<=(pendingOf O).size:=by
      rcases ZS (pendingOf O).size with q|q
      .rw[Array.size_eq_zero_iff.mp q]at eb;cases eb
      .exact q
     refine VC (Wg (VT (I:=λ_ c G=>c=(none,Unit.unit)/\NE a₀ κ G/\M2 blt (arrOf G) (pendingOf G).toList 0 lo/\On blt (arrOf G) lo (lo+n')/\1<=(pendingOf G).size)
      (Q:=λc G=>c=(none,Unit.unit)/\NE a₀ κ G/\M2 blt (arrOf G) (pendingOf G).toList 0 lo/\On blt (arrOf G) lo (lo+n')/\1<=(pendingOf G).size) ?_ (λ_ _ q=>q) ⟨M,B3,S3,O3,Z⟩) ?_)
     .rintro j c G _ _ ⟨rfl,Y,S4,O4,z4⟩;refine VC<|Wj ?_;by_cases big:(pendingOf G).size>1
      .rw[VA big,getElem?_pos (pendingOf G) ((pendingOf G).size-2) ()];obtain⟨⟨u1,u2,a0⟩,eu⟩:∃x,x=(pendingOf G)[(pendingOf G).size-2]'(by(clear big Z eb a3 a2 hn p3 U m2 m1 p2 z h3 h1 hi hsz h2 hp;omega (config:={}))):={_,M};rw[<-eu];dsimp only;split
       .exact VF ⟨M,Y,S4,O4,z4⟩
       .refine VC<|r9 L C Y S4 () () λa4 B5 S5 z5 k5=>?_;rw[Vz (_)];exact VF {M,B5,S5,O4.congr λk a b=>k5 k a,()}
      .rw[Vz big];exact VF ⟨M,Y,S4,O4,z4⟩
     .rintro c G ⟨rfl,Y,S4,O4,z4⟩;dsimp only;refine VC<|W5 (VC<|W5<|VF {lo+n',M,(),(),⟨Y.kind,Y.fine,Y.perm⟩,?_});exact kJ (qW z4 S4) () O4
   .rw[Vz U];let B3:=B2;let S3:=S2;let O3:=O2;obtain⟨O,e3⟩:∃x,x=st2:={_,M};rw[<-e3]at B3 S3 O3⊢;refine VC<|Wj ?_;cases eb:(pendingOf O).back? with
    |none=>
     dsimp only;exact VC<|W5 (VF {lo+n,M,(),(),⟨B3.kind,B3.fine,B3.perm⟩,kJ S3 () O3})
    |some tt=>
     let{s1,n1,p1}:=tt;dsimp only;let Z:1<=(pendingOf O).size:=by
      rcases ZS (pendingOf O).size with q|q
      .rw[Array.size_eq_zero_iff.mp q]at eb;cases eb
      .exact q
     refine VC (Wg (VT (I:=λ_ c G=>c=(none,Unit.unit)/\NE a₀ κ G/\M2 blt (arrOf G) (pendingOf G).toList 0 lo/\On blt (arrOf G) lo (lo+n)/\1<=(pendingOf G).size)
      (Q:=λc G=>c=(none,Unit.unit)/\NE a₀ κ G/\M2 blt (arrOf G) (pendingOf G).toList 0 lo/\On blt (arrOf G) lo (lo+n)/\1<=(pendingOf G).size) ?_ (λ_ _ q=>q) ⟨M,B3,S3,O3,Z⟩) ?_)
     .rintro j c G _ _ ⟨rfl,Y,S4,O4,z4⟩;refine VC<|Wj ?_;by_cases big:(pendingOf G).size>1
      .rw[VA big,getElem?_pos (pendingOf G) ((pendingOf G).size-2) ()];obtain⟨⟨u1,u2,a0⟩,eu⟩:∃x,x=(pendingOf G)[(pendingOf G).size-2]'(by omega (config:={})):={_,M};rw[<-eu];dsimp only;split
       .exact VF ⟨M,Y,S4,O4,z4⟩
       .refine VC<|r9 L C Y S4 () () λa4 B5 S5 z5 k5=>?_;rw[Vz (_)];exact VF {M,B5,S5,O4.congr λk a b=>k5 k a,()}
      .rw[Vz big];exact VF ⟨M,Y,S4,O4,z4⟩
     .rintro c G ⟨rfl,Y,S4,O4,z4⟩;dsimp only;refine VC<|W5 (VC<|W5<|VF {lo+n,M,(),(),⟨Y.kind,Y.fine,Y.perm⟩,?_});exact kJ (qW z4 S4) () O4
 case post=>
  rintro c st' ⟨rfl,B',S⟩;dsimp only;let a1:=S.le;refine VC (Wg (VT (I:=λi c st2=>c=(none,Unit.unit)/\NE a₀ κ st2/\M2 blt (arrOf st2) (pendingOf st2).toList 0 a₀.size/\(pendingOf st2).size+i<=a₀.size+1)
   (Q:=λc st2=>c=(none,Unit.unit)/\NE a₀ κ st2/\M2 blt (arrOf st2) (pendingOf st2).toList 0 a₀.size/\(pendingOf st2).size<=1) ?_ ?_ {M,B',S,by rw[Qb]at a1;lia}) ?_)
  .rintro i c st2 _ hi ⟨rfl,B2,S2,z2⟩;refine VC<|Wj ?_;by_cases one:(pendingOf st2).size<=1
   .rw[VA one];exact VF ⟨M,B2,S2,one⟩
   .rw[Vz one];generalize a5:(if Option.any _ _=true then(pendingOf st2).size-2-1 else(pendingOf st2).size-2)=ix;let a6:∀bb:Bool,(if bb=true then(pendingOf st2).size-2-1 else(pendingOf st2).size-2)+1<(pendingOf st2).size:=λbb=>by
     cases bb with
     |true=>rw[VA M];lia
     |false=>rw[Vz (_)];lia
    let hx:ix+1<(pendingOf st2).size:=by
     rw[<-a5];exact a6 _
    refine VC<|r9 L C B2 S2 (Q4 _) hx λO B3 S3 z3 k3=>?_;rw[Vz (_)];exact VF {M,B3,S3,()}
  .rintro c st2 ⟨rfl,B2,S2,z2⟩;let em:max 0 a₀.size=a₀.size:=QV (Qf _);rw[em]at z2;exact{M,B2,S2,()}
  .rintro c st2 ⟨rfl,B2,S2,z2⟩;dsimp only;refine VF (h st2 B2 ?_)
   match hl:(pendingOf st2).toList,S2 with
   | [],S2=>
    let e:0=a₀.size:=S2;lia
   | [(a,b,p)],S2=>
    let{rfl,_,o,e}:=S2;let e:0+b=a₀.size:=e;rw[e]at o;exact o
   |_::_::_,_=>
    have:=VS List.length hl;simp at this;lia
end
variable{blt:RY}{vs:RJ}{E Q:RP}
section
variable{prog:RN}{w:RO}{A:RT}{s:RD}{κ:SortKind}
abbrev But(a:RC)(s s':RD):Prop:=∀b o,b≠a->s.heap.get? b=some o->s'.heap.get? b=some o
theorem Eb{a:RC}{n:Nat}{P:PySem.Fin->Shared->Prop}(U:s.heap.get? a=some (seqObj gs vs.toArray n))(hz:vs.length<=sizeLine)(C:OL blt)
  (Y:∀h':Heap,But a s {s with heap:=h'}->2<=vs.length->∀Q':SortKind->Shared->Prop,Q' κ {s with heap:=h'}->wpAny (model prog w) A (keyKind' vs.toArray) Q' E {s with heap:=h'})
  (L:∀h':Heap,But a s {s with heap:=h'}->BD prog w A E {s with heap:=h'} (pairsOf vs) κ blt)
  (h:∀out:Array Keyed,out.Perm (pairsOf vs)->PW blt out.toList->P (.done<|.ret .none) {s with heap:=sortedHeap s.heap a vs (out.map (·.2))}):wpAny (model prog w) A (Builtin.«list.sort» {[.ref a],[]}) P E s:=by
 let hv:vs.toArray.size=vs.length:=Qh;let ha:=VI U;rw[list_sort_plain];refine VG<|listItems_at U M (VG<|listUpdate_at U M ?_ (hsz:=by rwa[hv]));obtain⟨e1,G⟩:∃k,(s.heap.update a<|Obj.mapSeq λ_=> #[]).get? a=some (seqObj gs #[] k):={_,get?_update_seq U<|λ_=> #[]};refine VG<|seqEpoch_at G M (VG<|wpAny_newTuple ?_ (hsz:=hz));refine VG<|wpAny_newList (Wb ?_);generalize Z:((s.heap.update a<|Obj.mapSeq λ_=> #[]).push<|seqObj nI vs.toArray 0).push (seqObj gs #[] 0)=h6;let up:∀b o,(s.heap.update a<|Obj.mapSeq λ_=> #[]).get? b=some o->h6.get? b=some o:=λb o e=>by
  rw[<-Z];exact VD _<|VD _ e
 let z:=up a _ G;let I:But a s {s with heap:=h6}:=λb o hb e=>up b o (by exact(Wf _ _<|Ne.symm hb).trans e);let fin:∀out:Array Keyed,out.Perm (pairsOf vs)->PW blt out.toList->P (.done<|.ret .none) {s with heap:=h6.update a (Obj.mapSeq λ_=>out.map (·.2))}:=λout p q=>by
  have:=h out p q;unfold sortedHeap at this;rw[Z]at this;exact this
 let hsz2:∀out:Array Keyed,out.Perm (pairsOf vs)->(out.map (·.2)).size<=sizeLine+1:=λout p=>by
  have:=p.size_eq;rw[pairsOf_size]at this;rw[Array.size_map];lia
 dsimp only;by_cases h2:vs.toArray.size<2
 .rw[VA h2,VA h2];refine VG<|VQ ?_;rw[StateT.run_pure];refine VG<|VQ ?_;dsimp only;let pr:(SortSt.mk' general' (vs.toArray.zip vs.toArray) #[] 7 none|>arrOf).Perm (pairsOf vs):=Array.Perm.refl _;refine VG<|seqEpoch_at z M (VG<|listUpdate_at z M ?_ (hsz:=Qf _) (hsz2:=hsz2 _ pr));simp only[bne_self_eq_false,Zo,if_false];refine VQ<|fin _ pr ?_;let l1:(vs.toArray.zip vs.toArray).toList.length<=1:=by simp at h2⊢;lia
  show PW blt (vs.toArray.zip vs.toArray).toList;revert l1;generalize (vs.toArray.zip vs.toArray).toList=l;rcases l with _|⟨x,_|⟨y,t⟩⟩<;>intro l1<;>first|exact VV|exact Zf _ _|exact VE l1<|Nat.not_le_of_lt (Nat.succ_lt_succ<|Nat.succ_pos _)
 .rw[Vz h2,Vz h2];refine VG<|Y h6 I () _ ?_;refine VG (VY (Ak (L h6 I) (st:=SortSt.mk' κ (vs.toArray.zip vs.toArray) #[] 7 none) (Q:=λ_ st'=>NE (pairsOf vs) κ st'/\On blt (arrOf st') 0 (pairsOf vs).size) C
   {M,M,Array.Perm.refl _} M (by rw[pairsOf_size];lia) λst' Wn O=>⟨Wn,O⟩) ?_ λ_ _ e=>e)
  rintro ⟨⟨⟩,st'⟩ s' ⟨rfl,Wn,O⟩;dsimp only;refine VG<|seqEpoch_at z M (VG<|listUpdate_at z M ?_ (hsz:=Qf _) (hsz2:=hsz2 _ Wn.perm));rw[Wn.fine];simp only[bne_self_eq_false,Zo,if_false];refine VQ<|fin _ Wn.perm ?_;have:=ii (a:=arrOf st') (blt:=blt) (by rwa[Wn.size]) 0;rwa [Zp]at this
theorem sorted_any{l:RC}(hl:s.heap.IsList l vs.toArray)(hz:vs.length<=sizeLine)(C:OL blt)
  (G:∀h':Heap,(∀b o,s.heap.get? b=some o->h'.get? b=some o)->2<=vs.length->∀Q':SortKind->Shared->Prop,Q' κ {s with heap:=h'}->wpAny (model prog w) A.in1.in1 (keyKind' vs.toArray) Q' (λ_ _=>False) {s with heap:=h'})
  (L:∀h':Heap,(∀b o,s.heap.get? b=some o->h'.get? b=some o)->BD prog w A.in1.in1 (λ_ _=>False) {s with heap:=h'} (pairsOf vs) κ blt)
  (h:∀out:Array Keyed,out.Perm (pairsOf vs)->PW blt out.toList->Q (.ref<|s.heap.objs.size+1) {s with heap:=sortedAll s.heap vs (out.map (·.2))}):wpAny (model prog w) A (call (.builtin Pu) [.ref l]) Q E s:=by
 refine Calls.call_function_entry kind_sorted plain_sorted entry_sorted (args_sorted1 _) ?_;unfold Builtin.«sorted»;refine VG (m:=checkCount Pu 1 1 _)<|VQ (VG<|collect_list hl ?_ (hsz:=hz));refine VG<|wpAny_newList ?_ (hsz:=hz);generalize I:(s.heap.push<|seqObj gs #[] 0).update s.heap.objs.size (Obj.mapSeq (· ++vs.toArray))=h1;let z:h1.objs.size=s.heap.objs.size+1:=by rw[<-I,Heap.size_update,size_push']
 let O:∀b o,s.heap.get? b=some o->(h1.push<|seqObj gs vs.toArray 0).get? b=some o:=λb o e=>by
  refine VD _ ?_;rw[<-I];exact(Wf _ _<|Ne.symm<|QM<|VI e).trans<|VD _ e
 let new:(h1.push<|seqObj gs vs.toArray 0).get? (s.heap.objs.size+1)=some (seqObj gs vs.toArray 0):=by
  rw[<-z];exact VL _ M
 let keep:∀h':Heap,But (s.heap.objs.size+1) {s with heap:=h1.push (seqObj gs vs.toArray 0)} {s with heap:=h'}->∀b o,s.heap.get? b=some o->h'.get? b=some o:=λh' k b o e=>
  k b o (QM<|Nat.lt_succ_of_lt<|VI e) (O b o e)
 show wpAny _ _ _ _ _ {s with heap:=h1.push (seqObj gs vs.toArray 0)};rw[z];refine VG<|Wb (VY (wpAny_call_entry (E:=λ_ _=>False) slot_list_sort {_,new,M} entry_list_sort (Eb (κ:=κ) (blt:=blt) new hz C (λh' k=>G h'<|keep h' k) (λh' k=>L h'<|keep h' k) λout p q=>{_,M,?_})<|args_list_sort _) (λ_ _ q=>q) λ_ _ f=>f.elim);refine VQ {_,M,?_};have:=h out p q;unfold sortedAll at this;rw[I]at this;exact this
end
variable{blt:RY}{E:RP}
theorem A7:∀(a b:RF),HT.lexLt a b=true->HT.lexLt b a=false
 | [],[],h=>rfl
 | [],_::_,_=>rfl
 |_::_,[],h=>by rw[HT.lexLt_cons_nil]at h;cases h
 |x::xs,y::ys,h=>by
  rw[HT.lexLt_cons]at h⊢;by_cases e:x=y
  .rw[VA e]at h;rw[VA e.symm];exact A7 xs ys h
  .rw[Vz e]at h;rw[Vz (Ne.symm e)];have:=VH h;exact VM ()
theorem GC:∀(a b c:RF),HT.lexLt b a=false->HT.lexLt c b=false->HT.lexLt c a=false
 | [],b,[],_,_=>rfl
 |x::xs,[],c,h,_=>by rw[HT.lexLt_nil_cons]at h;cases h
 |a,y::ys,[],_,h=>by rw[HT.lexLt_nil_cons]at h;cases h
 | [],_,_::_,_,_=>HT.lexLt_cons_nil _ _
 |x::xs,y::ys,z::zs,h1,h2=>by
  rw[HT.lexLt_cons]at h1 h2⊢;by_cases G:y=x
  .rw[VA G]at h1;by_cases e2:z=y
   .rw[VA e2]at h2;rw[VA (e2.trans G)];exact GC xs ys zs h1 h2
   .rw[Vz e2]at h2;rw[Vz (by rwa[<-G])];have:=VX h2;exact VM ()
  .rw[Vz G]at h1;let O:=VX h1;by_cases e2:z=y
   .rw[VA e2]at h2;rw[Vz ()];exact VM ()
   .rw[Vz e2]at h2;let U:=VX h2;by_cases I:z=x
    .lia
    .rw[Vz I];exact VM ()
theorem cmp_of(k:Keyed->List Int):OL λp q=>HT.lexLt (k p) (k q):={λx y h=>A7 _ _ h,λx y z h1 h2=>GC _ _ _ h1 h2}
theorem runs_of{prog:RN}{w:RO}{A:RT}{s:RD}{a₀:RL}{κ:SortKind} 
  (h:∀(x y:Keyed)(E':Value->Shared->Prop)(Q:Bool->Shared->Prop),x∈a₀->y∈a₀->Q (blt x y) s->wpAny (model prog w) A (keyLt' κ x.1 y.1) Q E' s):BD prog w A E s a₀ κ blt:=by
 intro x y st Q hx hy hk q;rw[lt'_eq];refine VC<|Wj ?_;rw[hk];refine VC<|wpS_lift (wpAny_attempt<|h x y _ _ hx hy {M,?_});exact VF q
end Srt
namespace L2
open PySem PySem.Spec PyProof.Rows
variable{H:Hp}{B:RM}{xs:RG}{its:RJ}{s:RD}{W:St}{u:RI}
def Ob(u:RI):V:=(absV u).getD .non
def yW{x:V}(r:RelV x u):Ob u=x:=by unfold Ob;rw[r.abs];rfl
def CV:∀{xs:RG}{us:RJ},DJ xs us->us.map Ob=xs
 |_,_,.nil=>rfl
 |_,_,.cons r t=>by rw[Qv,yW r,CV t]
def uC{us:RJ}(h:DJ xs us)(hu:u∈us):∃x∈xs,RelV x u:=by
 induction h with
 |nil=>exact VE hu Zc
 |cons r t z=>
  rcases Qj.mp hu with e|e
  .subst e;exact{_,Qa,r}
  .let{x,h1,h2}:=z e;exact{x,Qd _ h1,h2}
def CW:∀{us:RJ},(∀u∈us,RelV (Ob u) u)->DJ (us.map Ob) us
 | [],_=> .nil
 |u::r,h=> .cons (h u Qa) (CW λv z=>h v<|Qd _ z)
section
variable{X:Cx}
def Ea{Q:VK}{p:RC}{κ:SortKind}{ky:V->List Int}(I:Inv X B W H s)(hz:xs.length<=sizeLine)(rv:DJ xs its)(hl:s.heap.IsList p its.toArray)
  (Z:∀h':Heap,(∀b o,s.heap.get? b=some o->h'.get? b=some o)->2<=its.length->∀Q':SortKind->Shared->Prop,Q' κ {s with heap:=h'}->wpAny (model X.prog X.w) X.A.in1.in1 (keyKind' its.toArray) Q' (λ_ _=>False) {s with heap:=h'})
  (a0:∀h':Heap,(∀b o,s.heap.get? b=some o->h'.get? b=some o)->∀(x y:V)(u v:RI)(E':RP)(Q':Bool->Shared->Prop),x∈xs->y∈xs->RelV x u->RelV y v->Q' (HT.lexLt (ky x)<|ky y) {s with heap:=h'}->wpAny (model X.prog X.w) X.A.in1.in1 (keyLt' κ u v) Q' E' {s with heap:=h'})
  (q:∀l ys,H l=none->ys.Perm xs->ys.Pairwise (λa b=>HT.lexLt (ky b) (ky a)=false)->Q (.ref l) (upd H l<|.lst ys)):
  Wq X (call (.builtin Pu) [.ref p]) (EP X B W Q) X.xe s:=by
 let hi:its.length<=sizeLine:=by rwa[<-rv.length]
 let mem:∀z:Keyed,z∈pairsOf its->z.1=z.2/\z.1∈its:=λz hz=>by
  have:z∈(pairsOf its).toList:=by simpa using hz
  rw[pairsOf_toList]at this;exact mem_zip_self this
 refine Srt.sorted_any (κ:=κ) (blt:=λa b=>HT.lexLt (ky<|Ob a.1)<|ky<|Ob b.1) hl hi (Srt.cmp_of λa=>ky<|Ob a.1) Z (λh' k=>Srt.runs_of λx y E' Q' hx hy q'=>?_) λout pm pw=>?_
 .let{x',a1,G}:=uC rv (mem x hx).2;let{y',a2,O}:=uC rv (mem y hy).2;rw[yW G,yW O]at q';exact a0 h' k x' y' x.1 y.1 E' Q' a1 a2 G O q'
 .let U:out.toList.Perm (its.zip its):=by
   have:=Vv.mp pm;rwa [pairsOf_toList]at this
  let Y:∀z∈out.toList,z.1=z.2/\z.1∈its:=λz hz=>mem_zip_self (U.mem_iff.mp hz);let e2:(out.map (·.2)).toList=out.toList.map (·.2):=Array.toList_map;let pv:((out.map (·.2)).toList).Perm its:=by
   rw[e2];refine(U.map _).trans<|Wl ?_;exact List.map_snd_zip<|Q4 _
  let hu:∀u∈(out.map (·.2)).toList,RelV (Ob u) u:=λu hu=>by
   let{x,_,r}:=uC rv (pv.mem_iff.mp hu);rwa[yW r]
  let vy:=CW hu;let fresh:H (s.heap.objs.size+1)=none:=I.hok.fresh (Zm _);let py:((out.map (·.2)).toList.map Ob).Perm xs:=by
   rw[<-CV rv];exact pv.map _
  let{e,at_}:=sortedAll_at s.heap its (out.map (·.2));refine{.ref<|s.heap.objs.size+1,upd H (s.heap.objs.size+1) (.lst ((out.map (·.2)).toList.map Ob)),I.laid (t':=s.toks) (λb o q=>sortedAll_old q) (Zm _) {?_,_,e,vy,?_},M,q _ _ fresh py ?_}
  .rwa[py.length_eq]
  .rw[at_,Array.toArray_toList]
  .rw[e2,QP];refine QK.mpr<|pw.imp_of_mem λ{a b} ha hb h=>?_;show HT.lexLt (ky<|Ob b.2) (ky<|Ob a.2)=false;rwa[<-(Y a ha).1,<-(Y b hb).1]
noncomputable def kRef(ky:Addr->List Int):V->List Int
 | .ref a=>ky a
 |_=> []
def Ek{as:RQ}{ys:RG}(h:ys.Perm (as.map V.ref)):∃bs:List Addr,ys=bs.map V.ref/\bs.Perm as:=by
 let e:ys=(ys.map λy=>match y with| .ref i=>i|_=>0).map V.ref:=by
  rw[QP];refine(List.map_id' ys).symm.trans<|Zw λy hy=>?_;let{i,_,rfl}:=Qe.mp (h.mem_iff.mp hy);rfl
 refine{_,e,?_};refine(h.map λy=>match y with| .ref i=>i|_=>0).trans<|Wl ?_;rw[QP];exact List.map_id' as
def B8{a:RC}(I:Inv X B W H s)(h:H a=some (.tup xs)){h':Heap}(k:∀b o,s.heap.get? b=some o->h'.get? b=some o):
  ∃(o:Obj)(its:RJ)(n:Nat),DJ xs its/\h'.get? a=some o/\o.cls= .type nI/\o.data= .seq its.toArray n:=by
 let{_,its,rv,o,e,c,n,d}:=(show N0 X.prog X.w H s.heap a (.tup xs) from I.hok a _ h);exact{o,its,n,rv,k _ _ e,c,d}
def Kq{x y:V}(r:DJ [x,y] its):∃u v,its=[u,v]/\RelV x u/\RelV y v:=tw r
end
end L2
namespace Srt
open PySem PyProof.Rows
end Srt
namespace L2
open PySem PySem.Spec PyProof.Rows
variable{C D d:RC}{X:Cx}{elt iter l tg:Expr}{H H1 H4:Hp}{Fin:Hp->Prop}{J:It}{R:It->Hp->Prop}{B:RM}{kvs:RV}{vs:Se}{cl:List (Str×Addr)}{elts ifs:Sa}{M' N':RS}{xs ys:RG}{ep i n:Nat}{ob:Obj}{pos px spos:Pos}{P:RN}{K:Wp}{scope:Scope}{s:RD}{W:St}{x y:Str}{nx:Sb}{Wn:St->VK->It->Hp->Prop}{te:TE}{g:TG}{wi:TI}{tb:TS}{tc:TT}{Q rt:VK}{RR:Value->Addr->Result->Shared->Prop}{w:RO}
def Ds{k:Key}{v:RI}(h:(bu P w).is k v=true):RelV (kV k) v:=by
 rw[Cw]at h;cases k with
 |inl i=>
  cases v with
  |int j t=>exact{t,by simp[m8,Value.isInt]at h;rw[h]}
  |_=>simp[m8,Value.isInt]at h
 |inr x=>
  cases v with
  |str y t=>exact{t,by simp[m8,Value.isStrOf]at h;rw[h]}
  |_=>simp[m8,Value.isStrOf]at h
inductive Mq(x:V)(vs:RG)(H:Hp)(Q:VK):Prop
 |mk(a kvs k v:_)(_:x= .ref a)(_:vs=[kV k])(_:H a=some (.dK kvs))(_:ay kvs k=some v)(_:Q v (upd H a<|.dK<|bG kvs k))
def Dg:PF X Px Mq:=by
 intro B s W H x vs v us Q I z rv h;let{a,kvs,k,y,rfl,rfl,G,hl,q}:=h;cases z;let{u,rfl,O}:=rv.one;exact J9 I G O hl (.inl M) λw' s' U Y=>{y,_,U,Y,q}
set_option tactic.hygienic true in
def ql{env:Env}:∀(l:List (Str×NameKind))(G:List (Str×Addr)),(∀p∈l,p.2= .free->∃c,env.cells.lookup p.1=some c)->
  ∃cl,(forIn l G (λp G=>if(p.2==NameKind.free)=true then cellOf env p.1>>=λa=>pure (ForInStep.yield ((p.1,a)::G))else pure (ForInStep.yield G)):Sem _)=pure cl/\
   (∀y c,cl.lookup y=some c->G.lookup y=some c\/env.cells.lookup y=some c)/\(∀y c,G.lookup y=some c->∃I,cl.lookup y=some I)/\(∀y,(y,NameKind.free)∈l->∃c,cl.lookup y=some c)
 | [],G,_=>{G,by rw[List.forIn_nil],λy c h=> .inl h,λy c h=>⟨c,h⟩,λy h=>nomatch h}
 |(n,k)::r,G,h=>by
  rw[List.forIn_cons];by_cases hk:k= .free
  .subst hk;let{c,hc}:=h (n,.free) Qa M;let hc:env.cells.lookup n=some c:=hc;let e:cellOf env n=pure c:=by unfold cellOf;rw[hc]
   let{cl,h1,h2,O,U}:=ql r ((n,c)::G) λp Y=>h p (Qd _ Y);refine{cl,?_,λy I hy=>?_,λy I hy=>?_,λy hy=>?_}
   .simp only[We,if_true,e,pure_bind];exact h1
   .rcases h2 y I hy with q|q
    .rw[ZJ]at q;split at q
     .rename_i z
      cases q;rw[VN]at z;subst z;exact .inr hc
     .exact .inl q
    .exact .inr q
   .by_cases z:y=n
    .exact O y c<|by rw[ZJ,z];simp
    .exact O y I<|by rwa[ZJ,VR.mpr z]
   .rcases Qj.mp hy with q|q
    .let Z:y=n:=(Wm q).1;exact O y c<|by rw[ZJ,Z];simp
    .exact U y q
  .let hb:(k==NameKind.free)=false:=by simpa using hk
   let{cl,h1,h2,O,U}:=ql r G λp Y=>h p (Qd _ Y);refine{cl,?_,h2,O,λy hy=>?_}
   .simp only[hb,Zo,if_false,pure_bind];exact h1
   .rcases Qj.mp hy with q|q
    .exact VE (Wm q).2.symm hk
    .exact U y q
def ww{env:Env}(h:∀p∈scope.names,p.2= .free->∃c,env.cells.lookup p.1=some c):
  ∃cl,closureFor scope env=pure cl/\(∀y c,cl.lookup y=some c->env.cells.lookup y=some c)/\(∀y,(y,NameKind.free)∈scope.names->∃c,cl.lookup y=some c):=by
 let{cl,h1,h2,_,G}:=ql scope.names [] h;refine{cl,?_,λy c hy=>(h2 y c hy).resolve_left λz=>by simp at z,G};unfold closureFor;simp only[bind_pure];exact h1
def O7(X:Cx)(M' N':RS)(scope:Scope)(cl:List (Str×Addr))(C:RC)(s₂:RD)(H₂:Hp)(fp:RQ):Cx:=
 {X with N:=M'++N',s₀:=s₂,H₀:=H₂,env:=compEnvC scope cl C X.env,outer:=X.stack,stack:=X.stack,ex:=fp,fn:=λ_=>false,pn:=[],xe:=λ_ _=>False}
structure Hc(X:Cx)(M' N':RS)(scope:Scope):Prop where
 kind:scope.kind= .function
 nd:(M'++N').Nodup
 ln:N'.length=X.N.length
 own:∀x∈M',scope.names.lookup x=some .local
 nocell:∀y∈scope.names,y.2≠ .cell
 names:∀y∈scope.names,y.2= .local->scope.names.lookup y.1=some .local
 free:∀y∈scope.names,y.2= .free->X.env.kindOf y.1=some .cell
 vis:∀(j:Nat)(y:Str),N'[j]?=some y->PX (relabel scope X.env) y->X.N[j]?=some y/\(y,NameKind.free)∈scope.names/\(relabel scope X.env).names.lookup y=some .cell
 cells:∀y,((relabel scope X.env).names.lookup y=some .cell\/(relabel scope X.env).names.lookup y=some .free)->(y,NameKind.free)∈scope.names
def Bu(n:Nat)(g:TG)(tc:TT)(te:TE)(W:St)(Q:VK)(J:It)(H1:Hp):Prop:=∀D,H1 D=none->∃Wo:Nat->Nat->St->List V->Hp->Prop,(∃m,Wo 0 m (List.replicate n none++W) [] (upd H1 D<|.lst []))/\∀i m τ ys H2,Wo i m τ ys H2->H2 D=some (.lst ys)->
 (J.stop i H2/\Q (.ref D) H2)\/(J.go i H2/\∀x H3,J.yld i H2 x H3->∃G:St->Hp->Prop,(∀τ2 H4,G τ2 H4->∃(Ny:VK)(Ns:Hp->Prop),(∀y H6,Ny y H6->H6 D=some (.lst ys)/\ys.length<sizeLine/\∃m',m'<m/\Wo (i+1) m' τ2 (ys++ [y]) (upd H6 D<|.lst<|ys++ [y]))/\
  (∀H5,Ns H5->H5 D=some (.lst ys)/\∃m',m'<m/\Wo (i+1) m' τ2 ys H5)/\tc τ2 H4 λb H5=>if b=true then te τ2 H5 Ny else Ns H5)/\g x τ H3 G)
def JL:TT:=λ_ H Q=>Q true H
def PTs(X:Cx)(ifs:Sa)(tc:TT):Prop:=∀(B:RM)(s:RD)(W:St)(H:Hp)(Q:Si),Inv X B W H s->tc W H Q->
 Wq X (forIn ifs true λc r=>if r=true then do let ok<-isTrue c X.env (eval c X.env);pure (ForInStep.yield ok)else pure (ForInStep.yield r)) (λb s'=>∃H',Inv X B W H' s'/\Q b H') X.xe s
def Da:PTs X [] JL:=λ_ _ _ H _ I h=>wpAny_tests_nil ⟨H,I,h⟩
def C9{c:Expr}(h:PT X c tc):PTs X [c] tc:=λB s W H Q I q=>wpAny_tests_one (h B s W H Q I q)
def Hc.pg{s₂:RD}{z:Hp}{fp:RQ}(S:Hc X M' N' scope)(h:M'[i]?=some x):PG (O7 X M' N' scope cl C s₂ z fp) (.Name x px) (fj i):=
 Db S.nd (by show(M'++N')[i]?=_;rwa[QG (Q1.mp h).1]) (.inl<|lookup_relabel_local<|S.own x<|Q2 h) (.inr<|lookup_relabel_local<|S.own x<|Q2 h)
structure Kl(X:Cx)(B:RM)(H:Hp)(C:RC):Prop where
 no:H C=none
 fr:C≠X.env.locals
 ab:X.s₀.heap.objs.size<=C
 ce:∀x c,X.env.cells.lookup x=some c->c≠C
 pi:∀p∈X.pn++B,p.1≠C
def yF(hc:X.calm=true)(S:Hc X M' N' scope)(hi:PI X tg iter wi)
  (hg:∀cl C s₂ a0 fp,PG (O7 X M' N' scope cl C s₂ a0 fp) tg g) (be:∀cl C s₂ a0 fp,PTs (O7 X M' N' scope cl C s₂ a0 fp) ifs tc) (he:∀cl C s₂ a0 fp,PE (O7 X M' N' scope cl C s₂ a0 fp) elt te)
  (a1:∀y c,cl.lookup y=some c->X.env.cells.lookup y=some c) (b1:∀y,(y,NameKind.free)∈scope.names->∃c,cl.lookup y=some c) (I:Inv X B W H s) (h:wi W H R) (hB:∀J H,R J H->Bu M'.length g tc te W Q J H)
  (hR:∀D C s4 H',Inv X B W H' s4->(∃m,s4.heap.Ns C m)->Kl X B H' C->Q (.ref D) H'->RR (.ref D) C (.ok .next) s4):
  Wq X (eval iter X.env) (λv s1=>Wq X (pyIter v) (λb2 U=>Wq X (newList []) (λacc s3=>
   Wq X (newFunctionEnv scope X.env.globals cl [] X.env.qual none .none<|some X.env) (λa6 s4=>
    codeAny (model X.prog X.w) X.A (.compStart (.ListComp elt [{tg,iter,ifs,0}] scope pos) 0 b2 acc {a6 with scope:=relabel scope X.env}) (RR acc a6.locals) s4) X.xe s3) X.xe U) X.xe s1) X.xe s:=by
 refine N4 (hi B s W H _ I h) λv s1 h1=>N4 h1 λb2 U h2=>?_;let{it,fp,tn,J,H2,e,O,T,st2,f2,h}:=h2;subst e;refine wpAny_newObj_type<|wpAny_newFunctionEnv S.nocell (by intro y hy;simp at hy) (λh₁ Y Z=>?_) S.kind;dsimp only at Y Z⊢;generalize hD:U.heap.objs.size=D at*;generalize ah:U.heap.push {cls:= .type gs,dict:=none,data:= .seq ([]:List Value).toArray}=h3 at Y Z⊢;let a3:h3.objs.size=D+1:=by rw[<-ah,Heap.size_push,hD]
 let fD:H2 D=none:=O.hok.fresh (Z0 hD);let{Wo,{m0,w0},turn}:=hB _ _ h D fD;generalize hC:h3.objs.size=C at*;let gD:U.heap.get? D=none:=Wa (Z0 hD);let gC:U.heap.get? C=none:=Wa (by rw[hD,a3];exact Zm _);let DC:D≠C:=by rw[a3];exact QM<|ZI _
 let bl:∀b o,U.heap.get? b=some o->h3.get? b=some o:=λb o e=>by rw[<-ah];exact VD _ e
 let aa:∀b o,h3.get? b=some o->h₁.get? b=some o:=λb o e=>Z.extBut b o (by intro z;have:=VI e;rw[z,hC]at this;exact VE this<|ZC _) (VD _ e);let up:∀b o,U.heap.get? b=some o->h₁.get? b=some o:=λb o e=>aa b o (bl b o e);let oD:h₁.get? D=some {cls:= .type gs,dict:=none,data:= .seq ([]:List Value).toArray}:=aa _ _ (by rw[<-ah,<-hD];exact VL _ M);let a5:∀b∈fp,b≠C/\b∉OX X.stack:=λb hb=>by
  let{o,e,_}:=T.obj _ _ st2 b hb;refine{λz=>(by rw[z,gC]at e;cases e),λz=>?_};rcases Qj.mp (O.stkSub b z)with q|q
  .exact(f2 b hb).2.1 q
  .exact(f2 b hb).2.2.1 q
 let fC:H2 C=none:=O.hok.fresh (by rw[hD,a3];exact Zm _);let ok:(O7 X M' N' scope cl C U H2 fp).Ok:=
  {mod:=O.ok.mod,kind:=S.kind,glob:=O.ok.glob,blt:=O.ok.blt,above:=by show U.heap.objs.size<=C;rw[hD,a3];exact Zm _
   inj:=λy z c h1 h2=>O.ok.inj y z c (a1 _ _ h1) (a1 _ _ h2),has:=λy hy=>b1 y (S.cells y hy),cab:=λy c z=>by cases z
   hd:=O.ok.hd,frames:=O.ok.frames,stk:= .inl M,exf:=λb hb=>{(a5 b hb).1,λy c e=>(f2 b hb).2.2.2.2.1 y c<|a1 y c e}
   bs:=O.bs,bsz:=Qu O.ok.bsz O.sz
   noex:=λb o e hb=>by
    rcases(f2 b hb).2.2.2.1 with q|q
    .exact O.ok.noex b o e q
    .exact VE (Qz (VI e)<|Qu O.ok.bsz q) (ZC _)
   exfs:=λb hb=>(a5 b hb).2,funs:=O.stack,frf:=O.stkFree}
 let c1:∀b u,H2 b=some u->b≠D:=λb u e=>al e fD;let I3:Inv (O7 X M' N' scope cl C U H2 fp) [] (List.replicate M'.length none++W) (upd H2 D<|.lst []) {U with heap:=h₁,toks:=U.toks+([]:Sg).length}:=
  {ok:=ok,os:=rfl,bare:=O.bare,base:=Un.laid up (Z0 hD) fD
   loc:={_,Y,λi y v e1 e2 e3=>by
    by_cases lt:i<M'.length
    .let e2:(List.replicate M'.length none++W)[i]?=some (some v):=e2;rw[QG (by rwa[Zq]),List.getElem?_replicate,VA lt]at e2;cases e2
    .let e1:(M'++N')[i]?=some y:=e1;let e2:(List.replicate M'.length none++W)[i]?=some (some v):=e2;rw[QD (Nat.not_lt.mp lt)]at e1;rw[QD (by rw[Zq];exact Nat.not_lt.mp lt),Zq]at e2;generalize i-M'.length=j at e1 e2;let{e1,q1,q2}:=S.vis j y e1 e3;let kc:=S.free _ q1 M;let{m,hn,hl}:=O.loc;let{u,r,l}:=hl j y v e1 e2 (.inr<|.inl kc);refine{u,r,?_};rcases l with⟨k,_⟩|⟨_,c,e,z⟩
     .rw[kc]at k;cases k
     .let{c',e'}:=b1 y q1;let ee:=a1 _ _ e';rw[e]at ee;cases ee;let{o,ho,hd}:=z;exact .inr {.inl q2,c,e',o,up _ _ ho,hd}}
   cell:=λy c e=>by
    let{v,o,ho,hd}:=O.cell y c (a1 _ _ e);exact{v,o,up _ _ ho,hd}
   free:=by show upd H2 D (.lst []) C=none;rwa[ae DC.symm]
   freeC:=λy c e=>by
    let q:=O.freeC y c (a1 _ _ e);let{v,o,ho,hd}:=O.cell y c (a1 _ _ e);rw[ae (λz=>by rw[z,gD]at ho;cases ho)];exact q
   pin:=λp hp=>VE (show p∈([]:RM) from hp) (by simp)
   hok:=O.hok.laid up (Z0 hD) {Qf _,[],0,.nil,oD}
   len:=by show(List.replicate M'.length none++W).length=(M'++N').length;rw[Q6,Q6,Zq,O.len,S.ln]}
 let a4:∀{H':Hp},(∀b∈fp,H' b=none)->∀b∈fp,BE (O7 X M' N' scope cl C U H2 fp) [] H' b:=λhn b hb=>
  {hn b hb,(a5 b hb).1,(a5 b hb).2,.inl hb,λy c e=>(f2 b hb).2.2.2.2.1 y c<|a1 _ _ e,λp hp=>VE (show p∈([]:RM) from hp)<|by simp}
 let b3:tn 0 h₁:=T.keep _ _ _ st2 λb hb o e=>up b o e;let ab:∀s3:Shared,s3={U with heap:=h₁,toks:=U.toks+([]:Sg).length}->
   codeAny (model X.prog X.w) X.A (.compLoop (.ListComp elt [{tg,iter,ifs,0}] scope pos) 0 (.ref it) (.ref D)<|compEnvC scope cl C X.env) (RR (.ref D) C) s3:=by
  rintro s3 rfl;refine codeAny_loop M (λn s'=>∃i τ ys H',Inv (O7 X M' N' scope cl C U H2 fp) [] τ H' s'/\tn i s'.heap/\(∀b∈fp,H' b=none)/\H' D=some (.lst ys)/\Wo i n τ ys H') ?_ m0
   {0,_,[],_,I3,b3,λb hb=>by rw[ae (λz=>by let{o,e,_}:=T.obj _ _ st2 b hb;rw[z,gD]at e;cases e)];exact(f2 b hb).1,ai,w0}
  rintro n s' ⟨i,τ,ys,H',I',st',b4,bo,w'⟩;show wpAny _ X.A ((compTurn (.ListComp elt [{tg,iter,ifs,0}] scope pos) 0 (.ref it) (.ref D)<|compEnvC scope cl C X.env).onRaise<|λx=>do noteFrame x (compEnvC scope cl C X.env);theTreesLotGoes x) _ _ s';refine wpAny_noted ?_;rw[compTurn_list];refine VG<|wpAny_standAt (VG ?_);rcases turn i n τ ys H' w' bo with⟨b5,qn⟩|⟨go,step⟩
  .refine N4 (T.done (O7 X M' N' scope cl C U H2 fp) M M M hc i [] s' _ H' _ I' (a4 b4) st' b5) λr s4 ⟨hr,I4⟩=>?_;subst hr;refine VQ ?_;let{m,hn,_}:=I4.loc;let IX:Inv X B W H' s4:=O.call' (s':=s4) I4.os (show Un (OX X.stack) fp H2 H' U.heap s4.heap from I4.base) I4.hok I4.bare λb hb=>{(f2 b hb).2.2.2.1,(f2 b hb).2.1,(f2 b hb).2.2.2.2.1,(f2 b hb).2.2.2.2.2};refine hR D C s4 H' IX ⟨m,hn⟩ {I4.free,λz=>?_,?_,λy c e z=>?_,λp hp z=>?_} qn
   .have:=O.lt;rw[<-z,a3,hD]at this;exact VE this<|Nat.not_lt.mpr (Zm _)
   .refine Qu O.sz ?_;rw[hD,a3];exact Zm _
   .let{v,o,ho,_}:=O.cell y c e;rw[z,gC]at ho;cases ho
   .let ho:=(O.pin p hp).1;rw[z,gC]at ho;cases ho
  .refine N4 (T.item (O7 X M' N' scope cl C U H2 fp) M M M hc i [] s' _ H' _ I' (a4 b4) st' go) λr s4 ⟨u,hr,h4⟩=>?_;subst hr;refine VG<|N4 h4 λ_ s5 a2=>?_;let{y,H5,I5,r5,y5,an,bt}:=a2;let bv:=I5.pinned (a4 bt) (T.obj _ _ an);let{G,hG,gq}:=step y H5 y5;refine VG<|VY (hg cl C U H2 fp _ s5 _ H5 y _ _ bv r5 gq) (λ_ s6 a2=>?_) λ_ _ f=>f.elim;let{bb,H6,I6,q6}:=a2;let fin:∀{bd:St}{H7:Hp}{s7:RD},Inv (O7 X M' N' scope cl C U H2 fp) ([]++vo fp s5.heap) bd H7 s7->tn (i+1) s7.heap/\∀b∈fp,H7 b=none:=λ{bd H7 s7} I7=>by
    refine{T.keep _ _ _ an λb hb o e=>(I7.pin (b,o)<|Qy _<|Qy _<|kQ hb e).1,λb hb=>?_};let{o,e,d}:=T.obj _ _ an b hb;exact(I7.pin (b,o)<|Qy _<|Qy _<|kQ hb e).2.1
   let{Ny,Ns,hy,hn,q6}:=hG _ _ q6;refine VG<|VY (be cl C U H2 fp _ s6 _ H6 _ I6 q6) (λb s7 ⟨H7,I7,q7⟩=>?_) λ_ _ f=>f.elim;cases b with
   |false=>
    rw[Vz Qc]at q7;let{bw,m',ax,w7}:=hn _ q7;exact VQ<|show _/\_ from{M,m',ax,i+1,bb,ys,_,I7.unpinned,(fin I7).1,(fin I7).2,bw,w7}
   |true=>
    rw[VA M]at q7;refine VG<|VG (VY (he cl C U H2 fp _ s7 _ H7 _ I7 q7) (λz s8 a2=>?_) λ_ _ f=>f.elim);let{y',H8,I8,r8,q8}:=a2;let{bx,c0,m',ax,w8}:=hy _ _ q8;refine VG<|VY (eJ (X:=O7 X M' N' scope cl C U H2 fp) _ s8 _ H8 (.ref D) [y'] (.ref D) [z] (λ_ H9=>H9=upd H8 D (.lst<|ys++ [y'])) I8 M (.cons r8 .nil) ⟨D,ys,y',M,M,bx,c0,M⟩) (λz9 s9 a2=>?_) λ_ _ f=>f.elim;let{_,H9,I9,_,e9}:=a2;subst e9;exact VQ<|VQ {M,m',ax,i+1,bb,ys++ [y'],_,I9.unpinned,(fin I9).1,(fin I9).2,ai,w8}
 exact codeAny_compStart_list (ab _ M)<|T.self _ 0 _ _ _ b3 (ab _ M)
def Inv.loose{h':Heap}(I:Inv X B W H s)(l:Kl X B H C)(z:Heap.SameBut C s.heap h'):Inv X B W H {s with heap:=h'}:=
 I.turned (t':=s.toks) (λb o hb e=>(z.2 b hb).trans e) l.no l.fr (.inr l.ab) l.ce l.pi
section
variable{py:Pos}
def AH(hB:∀W Q J H,Wn W Q J H->Bu M'.length g tc te W Q J H)(hc:X.calm=true)(S:Hc X M' N' scope)(hi:PI X tg iter wi)(hg:Hc X M' N' scope->∀cl C s₂ z fp,PG (O7 X M' N' scope cl C s₂ z fp) tg g)(O:∀cl C s₂ z fp,PTs (O7 X M' N' scope cl C s₂ z fp) ifs tc)(he:∀cl C s₂ z fp,PE (O7 X M' N' scope cl C s₂ z fp) elt te)
  (hs:∀x,foldedSetIterable iter X.env x=pure x:=by intro _;rfl):PE X (.ListComp elt [{tg,iter,ifs,0}] scope pos) (λW H Q=>wi W H<|Wn W Q):=by
 intro B s W H Q I h;let{cl,G,U,Y}:=ww (env:=X.env) (scope:=scope) λp hp hf=>I.ok.has p.1 (.inl<|S.free p hp hf);rw[eval_ListComp];refine wpAny_comprehension_free (use:=none) M hs G S.kind S.names<|yF hc S hi (hg S) O he U Y I h (hB _ _) λD C s4 H' I4 Z l q=>?_;let{m,Z}:=Z;exact{m,Z,λh' sb=>{.ref D,H',I4.loose l sb,M,q}}
def AG(hB:∀W Q J H,Wn W Q J H->Bu M'.length g tc te W Q J H)(hc:X.calm=true)(S:Hc X M' N' scope)(hi:PI X tg iter wi)(hg:Hc X M' N' scope->∀cl C s₂ G fp,PG (O7 X M' N' scope cl C s₂ G fp) tg g)(U:∀cl C s₂ G fp,PTs (O7 X M' N' scope cl C s₂ G fp) ifs tc)(he:∀cl C s₂ G fp,PE (O7 X M' N' scope cl C s₂ G fp) elt te)
  (hN:X.N.Nodup) (hy:X.N[i]?=some y) (hk:X.env.scope.names.lookup y=some .local) (Y:swapsWith (.ListComp elt [{tg,iter,ifs,0}] scope pos) (some<|.Name y py) spos.line X.env=pure true:=by rfl)
  (hs:∀x,foldedSetIterable iter X.env x=pure x:=by intro _;rfl):PS X (.Assign [.Name y py] (.ListComp elt [{tg,iter,ifs,0}] scope pos) spos) (D7 (λW H Q=>wi W H<|Wn W Q)<|fj i):=by
 intro B s W H D I h;let{cl,O,Z,a0}:=ww (env:=X.env) (scope:=scope) λp hp hf=>I.ok.has p.1 (.inl<|S.free p hp hf);rw[exec_Assign_Name_used _ _ _ _ Y];refine VG<|wpAny_standAt (VG ?_);show wpAny _ X.A (do let _<-comprehension (.ListComp elt [{tg,iter,ifs,0}] scope pos) scope X.env _ (newList []) false (eval iter X.env) (some<|assign (.Name y py) X.env)) _ _ s;refine VG (N4 (wpAny_comprehension_free (use:=some<|assign (.Name y py) X.env) (Q:=λ_ s'=>SP X B D .next s') M hs O S.kind S.names
  (yF (Q:=λv H'=>D.nx (W.set i<|some v) H') hc S hi (hg S) U he Z a0 I h (hB _ _) λD' C s4 H' I4 hn l q=>?_)) λ_ s' hq=>VQ<|VQ hq)
 let{m,hn}:=hn;show wpAny _ X.A (assign (.Name y py) X.env<|.ref D') _ _ _;refine wpAny_assign_Name<|yb (v:= .ref D') I4 hN hy (.inl hk) M (λs5 I5 a1=>?_) (.inr hk);let{a,sb,ha}:=a1;let ne:C≠a:=by
  rcases ha with z|z
  .rw[z];exact l.fr
  .exact Ne.symm<|l.ce _ _ z
 exact{m,hn.sameBut sb ne,λh' a2=>{_,H',I5.loose l a2,q}}
end
def zW(te:TE)(W:St)(Q:VK)(J:It)(H1:Hp):Prop:=∀D,H1 D=none->∃Wo:Nat->Nat->List V->Hp->Prop,(∃m,Wo 0 m [] (upd H1 D<|.lst []))/\∀i m ys H2,Wo i m ys H2->H2 D=some (.lst ys)->
 (J.stop i H2/\Q (.ref D) H2)\/(J.go i H2/\∀x H3,J.yld i H2 x H3->te (some x::W) H3 λy H4=>H4 D=some (.lst ys)/\ys.length<sizeLine/\∃m',m'<m/\Wo (i+1) m' (ys++ [y]) (upd H4 D<|.lst<|ys++ [y]))
def JP(wi:TI)(te:TE):TE:=λW H Q=>wi W H (zW te W Q)
def Kd(h:zW te W Q J H1):Bu 1 (fj 0) JL te W Q J H1:=λD hD=>by
 let{Wo,{O,U},turn}:=h D hD;refine{λi m I ys H=>(∃v,I=v::W)/\Wo i m ys H,{O,⟨none,M⟩,U},λi m I ys H2 w e=>?_};let{{v,rfl},w}:=w;rcases turn i m ys H2 w e with z|⟨go,z⟩
 .exact .inl z
 .refine .inr {go,λx H3 y=>{λG H4=>G=some x::W/\H4=H3,λG H4 e=>?_,M,M}};let{rfl,rfl}:=e;refine{λy H6=>H6 D=some (.lst ys)/\ys.length<sizeLine/\∃m',m'<m/\Wo (i+1) m' (ys++ [y]) (upd H6 D<|.lst<|ys++ [y]),λ_=>False,λy H6 n=>?_,λ_ n=>n.elim,?_}
  .let{Y,Z,m',n3,n4}:=n;exact{Y,Z,m',n3,{_,M},n4}
  .exact cC (Wn:=False)<|z x _ y
def iS(hc:X.calm=true)(S:Hc X [x] N' scope)(hi:PI X (.Name x px) iter wi)(he:∀cl C s₂ z fp,PE (O7 X [x] N' scope cl C s₂ z fp) elt te)
  (hs:∀x,foldedSetIterable iter X.env x=pure x:=by intro _;rfl):PE X (.ListComp elt [{.Name x px,iter,[],0}] scope pos) (JP wi te):=
 AH (Wn:=zW te) (λ_ _ _ _=>Kd) hc S hi (λS _ _ _ _ _=>S.pg M) (λ_ _ _ _ _=>Da) he hs
def IC{py:Pos}(hc:X.calm=true)(S:Hc X [x] N' scope)(hi:PI X (.Name x px) iter wi)(he:∀cl C s₂ z fp,PE (O7 X [x] N' scope cl C s₂ z fp) elt te)
  (hN:X.N.Nodup) (hy:X.N[i]?=some y) (hk:X.env.scope.names.lookup y=some .local) (G:swapsWith (.ListComp elt [{.Name x px,iter,[],0}] scope pos) (some<|.Name y py) spos.line X.env=pure true:=by rfl)
  (hs:∀x,foldedSetIterable iter X.env x=pure x:=by intro _;rfl):PS X (.Assign [.Name y py] (.ListComp elt [{.Name x px,iter,[],0}] scope pos) spos) (D7 (JP wi te)<|fj i):=
 AG (Wn:=zW te) (λ_ _ _ _=>Kd) hc S hi (λS _ _ _ _ _=>S.pg M) (λ_ _ _ _ _=>Da) he hN hy hk G hs
noncomputable def AF(scope dsc:Scope):List (Str×NameKind):=scope.names.map λp=>if(p.2==NameKind.free&&dsc.kind==ScopeKind.function&&dsc.names.lookup p.1==some NameKind.cell)=true then(p.1,NameKind.cell)else(p.1,p.2)
def Kb(M' N N':RS)(dsc:Scope)(scope:Scope):Bool:=
 (scope.kind==ScopeKind.function)&&decide (M'++N').Nodup&&(M'.all λx=>scope.names.lookup x==some NameKind.local)&&(scope.names.all λy=>y.2 !=NameKind.cell)&&(scope.names.all λy=>y.2 !=NameKind.local||scope.names.lookup y.1==some NameKind.local)
 &&(scope.names.all λy=>y.2 !=NameKind.free||dsc.names.lookup y.1==some NameKind.cell)&&(N'.all λy=>(AF scope dsc).lookup y !=some NameKind.local&&(AF scope dsc).lookup y !=some NameKind.free)&&decide (N'.length=N.length)&&(N'.zip N).all λp=>p.1==p.2||(AF scope dsc).lookup p.1==none
set_option tactic.hygienic true in
def qK{dsc:Scope}:∀{l:List (Str×NameKind)}{y:Str}{k:NameKind},(∀p∈l,p.2≠NameKind.cell)->(l.map λp=>if(p.2==NameKind.free&&dsc.kind==ScopeKind.function&&dsc.names.lookup p.1==some NameKind.cell)=true then(p.1,NameKind.cell)else(p.1,p.2)).lookup y=some k->(k= .cell\/k= .free)->(y,NameKind.free)∈l
 | [],y,k,_,h,_=>by simp at h
 |(n,kk)::r,y,k,hn,h,hk=>by
  rw[Qv]at h;by_cases c:(kk==NameKind.free&&dsc.kind==ScopeKind.function&&dsc.names.lookup n==some NameKind.cell)=true
  .dsimp only at h;rw[VA c,ZJ]at h;split at h
   .rename_i z
    rw[VN]at z;subst z;have:kk= .free:=by
     rw[QA,QA]at c;simpa using c.1.1
    rw[this];exact Qa
   .exact Qd _<|qK (λp G=>hn p<|Qd _ G) h hk
  .dsimp only at h;rw[Vz c,ZJ]at h;split at h
   .rename_i z
    rw[VN]at z;subst z;cases h;rcases hk with e|e
    .exact VE e<|hn _ Qa
    .rw[e];exact Qa
   .exact Qd _<|qK (λp G=>hn p<|Qd _ G) h hk
def Hc.of{dsc:Scope}{N:RS}(Y:X.N=N)(Z:X.env.scope=dsc)(h:Kb M' N N' dsc scope=true):Hc X M' N' scope:=by
 unfold Kb at h;simp only[QA]at h;let{{{{{{{{h1,h2},h3},h4},h5},h6},h7},h8},h9}:=h;let I:(relabel scope X.env).names=AF scope dsc:=by rw[<-Z];rfl
 let G:∀y∈scope.names,y.2≠NameKind.cell:=λy hy=>by have:=Zz.mp h4 y hy;simpa using this
 refine{by simpa using h1,VH h2,by rw[Y];exact VH h8,λx hx=>by simpa using Zz.mp h3 x hx,G,λy hy e=>?_,λy hy e=>?_,λj y U v=>?_,λy e=>?_}
 .have:=Zz.mp h5 y hy;rw[e]at this;simpa using this
 .have:=Zz.mp h6 y hy;rw[e]at this;show X.env.scope.names.lookup y.1=_;rw[Z];simpa using this
 .let O:=Zz.mp h7 y (Q2 U);let hz:∃z,N[j]?=some z/\(y,z)∈N'.zip N:=by
   let lj:=(Q1.mp U).1;let l8:N'.length=N.length:=VH h8;refine{N[j]'(),Q3 _,?_};refine Q2 (i:=j) ?_;rw[List.getElem?_zip_eq_some];exact{U,Q3 _}
  let{z,hz,mz}:=hz;let e9:=Zz.mp h9 _ mz;unfold PX at v;rw[I]at v⊢;let O:¬(AF scope dsc).lookup y=some NameKind.local/\¬(AF scope dsc).lookup y=some NameKind.free:=by simpa using O
  rcases v with v|v|v
  .exact VE v O.1
  .refine{?_,qK G v<|.inl M,v};rw[Y,hz];dsimp only at e9;rw[v,Bool.or_eq_true]at e9;rcases e9 with e9|e9
   .rw[VN]at e9;rw[e9]
   .cases e9
  .exact VE v O.2
 .let e:(AF scope dsc).lookup y=some .cell\/(AF scope dsc).lookup y=some .free:=by rwa[<-I]
  rcases e with e|e
  .exact qK G e<|.inl M
  .exact qK G e<|.inr M
abbrev _root_.Sf:=Nat->List V->Hp->Prop
def NL(n i:Nat)(ys:RG)(D:RC)(Pv:Sf):VK:=λy H4=>H4 D=some (.lst ys)/\ys.length<sizeLine/\∃m',m'<n-i/\m'=n-(i+1)/\i+1<=n/\Pv (i+1) (ys++ [y]) (upd H4 D<|.lst<|ys++ [y])
def NL.mk{Pv:Sf}{y:V}(hi:i<n)(h1:H4 D=some (.lst ys))(h2:ys.length<sizeLine)(z:Pv (i+1) (ys++ [y]) (upd H4 D<|.lst<|ys++ [y])):NL n i ys D Pv y H4:=
 {h1,h2,n-(i+1),(),M,hi,z}
def oA{a:RC}(Pv:Sf)(z:Pv 0 [] (upd H1 D<|.lst []))(hl:∀i ys H,i<=xs.length->Pv i ys H->DI K H a xs)
  (hs:∀i x ys H2,xs[i]?=some x->Pv i ys H2->H2 D=some (.lst ys)->te (some x::W) H2 (NL xs.length i ys D Pv))
  (hd:∀ys H2,Pv xs.length ys H2->H2 D=some (.lst ys)->Fin H2):
  ∃Wo:Nat->Nat->List V->Hp->Prop,(∃m,Wo 0 m [] (upd H1 D<|.lst []))/\∀i m ys H2,Wo i m ys H2->H2 D=some (.lst ys)->
   ((OY K a).stop i H2/\Fin H2)\/((OY K a).go i H2/\∀x H3,(OY K a).yld i H2 x H3->te (some x::W) H3 λy H4=>H4 D=some (.lst ys)/\ys.length<sizeLine/\∃m',m'<m/\Wo (i+1) m' (ys++ [y]) (upd H4 D<|.lst<|ys++ [y])):=by
 refine{λi m ys H=>m=xs.length-i/\i<=xs.length/\Pv i ys H,{xs.length,by simp,Qf _,z},?_};rintro i m ys H ⟨rfl,hi,p⟩ hD;let q:=hl i ys H hi p;by_cases lt:i<xs.length
 .refine .inr {{xs,xs[i],q,by simp[lt]},λx H' y=>?_};let{e,y}:=y;subst e;exact hs i x ys _ (y xs q) p hD
 .let e:i=xs.length:=();subst e;exact .inl {{xs,q,Q4 _},hd ys H p hD}
def iG{lo:Int}(Pv:Sf)(z:Pv 0 [] (upd H1 D<|.lst []))
  (hs:∀i ys H2,i<n->Pv i ys H2->H2 D=some (.lst ys)->te (some (.int<|lo+i)::W) H2 (NL n i ys D Pv))
  (hd:∀ys H2,Pv n ys H2->H2 D=some (.lst ys)->Fin H2):
  ∃Wo:Nat->Nat->List V->Hp->Prop,(∃m,Wo 0 m [] (upd H1 D<|.lst []))/\∀i m ys H2,Wo i m ys H2->H2 D=some (.lst ys)->
   ((Od lo n).stop i H2/\Fin H2)\/((Od lo n).go i H2/\∀x H3,(Od lo n).yld i H2 x H3->te (some x::W) H3 λy H4=>H4 D=some (.lst ys)/\ys.length<sizeLine/\∃m',m'<m/\Wo (i+1) m' (ys++ [y]) (upd H4 D<|.lst<|ys++ [y])):=by
 refine{λi m ys H=>m=n-i/\i<=n/\Pv i ys H,{n,by simp,Qf _,z},?_};rintro i m ys H ⟨rfl,hi,p⟩ hD;by_cases lt:i<n
 .refine .inr {lt,λx H' y=>?_};let{e,y}:=y;subst e y;exact hs i ys _ lt p hD
 .let e:i=n:=();subst e;exact .inl {Q4 _,hd ys H p hD}
def zV(tc:TT)(te:TE)(W:St)(Q:VK)(J:It)(H1:Hp):Prop:=∀D,H1 D=none->∃Wo:Nat->Nat->List V->Hp->Prop,(∃m,Wo 0 m [] (upd H1 D<|.lst []))/\∀i m ys H2,Wo i m ys H2->H2 D=some (.lst ys)->
 (J.stop i H2/\Q (.ref D) H2)\/(J.go i H2/\∀x H3,J.yld i H2 x H3->tc (some x::W) H3 λb H4=>if b=true then te (some x::W) H4 λy H5=>H5 D=some (.lst ys)/\ys.length<sizeLine/\∃m',m'<m/\Wo (i+1) m' (ys++ [y]) (upd H5 D<|.lst<|ys++ [y])else H4 D=some (.lst ys)/\∃m',m'<m/\Wo (i+1) m' ys H4)
def FA(wi:TI)(tc:TT)(te:TE):TE:=λW H Q=>wi W H (zV tc te W Q)
def Kc(h:zV tc te W Q J H1):Bu 1 (fj 0) tc te W Q J H1:=λD hD=>by
 let{Wo,{Z,w0},turn}:=h D hD;refine{λi m Y ys H=>(∃v,Y=v::W)/\Wo i m ys H,{Z,⟨none,M⟩,w0},λi m Y ys H2 w e=>?_};let{{v,rfl},w}:=w;rcases turn i m ys H2 w e with z|⟨go,z⟩
 .exact .inl z
 .refine .inr {go,λx H3 y=>{λG H4=>G=some x::W/\H4=H3,λG H4 e=>?_,M,M}};let{rfl,rfl}:=e;refine{_,_,λy H6 n=>?_,λH5 n=>?_,z x _ y}
  .let{I,n2,m',O,U}:=n;exact{I,n2,m',O,{_,M},U}
  .let{I,m',O,U}:=n;exact{I,m',O,{_,M},U}
def mM{G:Expr}(hc:X.calm=true)(S:Hc X [x] N' scope)(hi:PI X (.Name x px) iter wi)(I:∀cl C s₂ z fp,PT (O7 X [x] N' scope cl C s₂ z fp) G tc)(he:∀cl C s₂ z fp,PE (O7 X [x] N' scope cl C s₂ z fp) elt te)
  (hs:∀x,foldedSetIterable iter X.env x=pure x:=by intro _;rfl):PE X (.ListComp elt [{.Name x px,iter,[G],0}] scope pos) (FA wi tc te):=
 AH (Wn:=zV tc te) (λ_ _ _ _=>Kc) hc S hi (λS _ _ _ _ _=>S.pg M) (λ_ _ _ _ _=>C9<|I _ _ _ _ _) he hs
def FW{G:Expr}{py:Pos}(hc:X.calm=true)(S:Hc X [x] N' scope)(hi:PI X (.Name x px) iter wi)(I:∀cl C s₂ z fp,PT (O7 X [x] N' scope cl C s₂ z fp) G tc)(he:∀cl C s₂ z fp,PE (O7 X [x] N' scope cl C s₂ z fp) elt te)
  (hN:X.N.Nodup) (hy:X.N[i]?=some y) (hk:X.env.scope.names.lookup y=some .local) (O:swapsWith (.ListComp elt [{.Name x px,iter,[G],0}] scope pos) (some<|.Name y py) spos.line X.env=pure true:=by rfl)
  (hs:∀x,foldedSetIterable iter X.env x=pure x:=by intro _;rfl):PS X (.Assign [.Name y py] (.ListComp elt [{.Name x px,iter,[G],0}] scope pos) spos) (D7 (FA wi tc te)<|fj i):=
 AG (Wn:=zV tc te) (λ_ _ _ _=>Kc) hc S hi (λS _ _ _ _ _=>S.pg M) (λ_ _ _ _ _=>C9<|I _ _ _ _ _) he hN hy hk O hs
def Ni(n i:Nat)(ys:RG)(D:RC)(Pv:Sf)(H4:Hp):Prop:=H4 D=some (.lst ys)/\∃m',m'<n-i/\m'=n-(i+1)/\i+1<=n/\Pv (i+1) ys H4
def Ni.mk{Pv:Sf}(hi:i<n)(h1:H4 D=some (.lst ys))(z:Pv (i+1) ys H4):Ni n i ys D Pv H4:={h1,n-(i+1),(),M,hi,z}
def iH{a:RC}(Pv:Sf)(G:Pv 0 [] (upd H1 D<|.lst []))(hl:∀i ys H,i<=xs.length->Pv i ys H->DI K H a xs)
  (hs:∀i x ys H2,xs[i]?=some x->Pv i ys H2->H2 D=some (.lst ys)->tc (some x::W) H2 λb H4=>if b=true then te (some x::W) H4 (NL xs.length i ys D Pv)else Ni xs.length i ys D Pv H4)
  (hd:∀ys H2,Pv xs.length ys H2->H2 D=some (.lst ys)->Fin H2):
  ∃Wo:Nat->Nat->List V->Hp->Prop,(∃m,Wo 0 m [] (upd H1 D<|.lst []))/\∀i m ys H2,Wo i m ys H2->H2 D=some (.lst ys)->
   ((OY K a).stop i H2/\Fin H2)\/((OY K a).go i H2/\∀x H3,(OY K a).yld i H2 x H3->tc (some x::W) H3 λb H4=>if b=true then te (some x::W) H4 λy z=>z D=some (.lst ys)/\ys.length<sizeLine/\∃m',m'<m/\Wo (i+1) m' (ys++ [y]) (upd z D<|.lst<|ys++ [y])else H4 D=some (.lst ys)/\∃m',m'<m/\Wo (i+1) m' ys H4):=by
 refine{λi m ys H=>m=xs.length-i/\i<=xs.length/\Pv i ys H,{xs.length,by simp,Qf _,G},?_};rintro i m ys H ⟨rfl,hi,p⟩ hD;let q:=hl i ys H hi p;by_cases lt:i<xs.length
 .refine .inr {{xs,xs[i],q,by simp[lt]},λx H' y=>?_};let{e,y}:=y;subst e;exact hs i x ys _ (y xs q) p hD
 .let e:i=xs.length:=();subst e;exact .inl {{xs,q,Q4 _},hd ys H p hD}
noncomputable def Ol(a d:RC):HO:= .ext λh=>h.IsItemsView a d
def Itd(ob:Obj)(d:RC)(kvs:RV):It:=
 {λi H=>H d=some (.frz ob<|.dK kvs)/\i<kvs.length,λi H x H'=>∃p k v,x= .ref p/\H p=none/\kvs[i]?=some (k,v)/\H'=upd H p (.tup [kV k,v]),λi H=>H d=some (.frz ob<|.dK kvs)/\kvs.length<=i}
def LV(P:RN)(w:RO)(ob:Obj)(d:RC)(kvs:RV)(vs:Se)(ep:Nat):Prop:=
 KV kvs vs/\∀h:Heap,h.get? d=some ob->h.DictAt (bu P w) d vs ep
set_option tactic.hygienic true in
def KV.getI(h:KV kvs vs):∀{i:Nat}{k:Key}{v:V},kvs[i]?=some (k,v)->∃u,vs[i]?=some (k,u)/\RelV v u:=by
 induction h with
 |nil=>intro i k v e;simp at e
 |cons r t z=>
  rename_i p q ps qs
  intro i k v e;cases i with
  |zero=>
   simp at e;subst e;exact{q.2,by simp[show k=q.1 from r.1],r.2}
  |succ j=>
   let{u,h1,h2}:=z (i:=j) (by simpa using e);exact{u,by simpa using h1,h2}
def B7{x1}(it:RC)(D:LV P w ob d kvs vs ep):
  BC P w K (.Tuple elts x1 pos) (Itd ob d kvs) [it] it (λi h=>∃ok Y,IsItemIter h it d i vs.length ep ok Y) where
 mem:=by simp
 obj:=λi h st b hb=>by
  let{ok,Y,st}:=st;let z:b=it:=by simpa using hb
  subst z;exact{_,st,λv z=>by cases z}
 keep:=λi h h' st k=>by
  let{ok,Y,st}:=st;exact{ok,Y,k it (by simp) _ st}
 item:=by
  intro X hP hw hK hc i B s W H E I hf st hg;subst hP hw hK;let{ok,Y,st}:=st;let{hq,hi}:=hg;let fi:=hf it (by simp);let{G,_}:=I.hok d _ hq;let O:=D.2 s.heap G;obtain⟨⟨k,v⟩,hx⟩:∃kv,kvs[i]?=some kv:={kvs[i],by simp[hi]};let{u,hu,ru}:=KV.getI D.1 hx;refine wpAny_pyNext_items_item st O hu λkey h' a0 g1 g3 gz g5=>{_,M,?_};refine wpAny_letOwnedTupleGo_items g1 λh2 k1 k2=>?_;let rk:RelV (kV k) key:=Ds a0;let Z:H s.heap.objs.size=none:=I.hok.fresh (Q4 _);let a1:s.heap.objs.size≠it:=V6 (VI st);let keep:∀b o,b≠it->s.heap.get? b=some o->h2.get? b=some o:=λb o z q=>(k2.2 b z).trans (g5 b o z q);let U:h2.get? s.heap.objs.size=some {cls:= .type nI,data:= .seq #[key,u]}:=(k2.2 _ a1).trans g3;let PM:∀b v,H b=some v->b≠it:=λb v q z=>by rw[z,fi.1]at q;cases q
  let un:Un (OX X.stack) [it] H (upd H s.heap.objs.size<|.tup [kV k,v]) s.heap h2:=by
   refine{λb o q n hb hx=>keep b o (λz=>hx<|by simp[z]) q,λb o q n hb hx=>{o.slots,keep b o (λz=>hx<|by simp[z]) q},λb o q n hx=>?_,
    λb o q hx=>{o,keep b o (λz=>hx<|by simp[z]) q},λb ys q=>?_,λb o v q=>?_,λb ps q=>{#[],?_}}
   .rwa[ae (QM<|VI q)]
   .rw[ae (al q Z)];exact q
   .rw[ae (al q Z)];exact q
   .rw[ae (al q Z),q];simp
  let hok:NY X.prog X.w (upd H s.heap.objs.size<|.tup [kV k,v]) h2:=λb v' q=>by
   by_cases z:b=s.heap.objs.size
   .subst z;rw[ai]at q;cases q;exact{by show 2<=sizeLine;decide,[key,u],.cons rk<|.cons ru .nil,_,U,M,_,M}
   .rw[ae z]at q;refine(I.hok b v' q).stay (λc o hc r=>?_) (λc r=>by rwa[ae (al r Z)]) λc ys r=>by rwa[ae (al r Z)]
    rcases hc with rfl|hc
    .exact keep _ _ (PM _ _ q) r
    .exact keep _ _ (PM _ _ hc) r
  let I2:Inv X B W (upd H s.heap.objs.size<|.tup [kV k,v]) {s with heap:=h2}:=I.call' (s':={s with heap:=h2}) M un hok I.bare λb hb=>by
   let z:BE X B H b:=hf b hb;exact⟨z.2.2.2.1,z.2.1,z.2.2.2.2.1,z.2.2.2.2.2⟩
  refine{.ref s.heap.objs.size,_,I2,M,{_,k,v,M,Z,hx,M},⟨key,u,k1⟩,λb hb=>?_};let z:b=it:=by simpa using hb
  subst z;rw[ae (Ne.symm a1)];exact fi.1
 done:=by
  intro X hP hw hK hc i B s W H E I hf st hg;subst hP hw hK;let{ok,Y,st}:=st;let{hq,hi}:=hg;let{G,_}:=I.hok d _ hq;let O:=D.2 s.heap G;let{f0,f1,f2,f3,f4,f5}:=hf it (by simp);let hl:kvs.length=vs.length:=D.1.length;exact wpAny_pyNext_items_end (I.ok.hd hc) st O (by simp;lia) λh' eb=>{M,I.turned (t':=s.toks) (λb o hb e=>eb b o hb e) f0 f1 f3 f4 f5}
 self:=λ_ _ _ _ _ st h=>let⟨_,_,st⟩:=st;PySem.W.kcp_self st h
inductive KN(x:V)(vs:RG)(H:Hp)(Q:VK):Prop
 |mk(d kvs:_)(_:x= .ref d)(_:vs=[])(_:H d=some (.dK kvs))(_:∀a,H a=none->Q (.ref a) (upd H a<|Ol a d))
def vK:PF X "dict.items" KN:=by
 intro B s W H x vs v us Q I G rv h;let{d,kvs,rfl,rfl,hd,q}:=h;cases G;cases rv;let{z,lo,O,U,dd}:=iW I.hok hd;refine Wi ZT dd.typeIs PySem.F.entry_dict_items (PySem.F.args_dict_items_1 _) (meets_dict_items (bu X.prog X.w) d lo) {⟨O,dd⟩,?_};let new:(s.heap.push {cls:= .type "dict_items",data:= .fields #[.ref d]}).get? s.heap.objs.size=some {cls:= .type "dict_items",data:= .fields #[.ref d]}:=VL _ M;refine{.ref s.heap.objs.size,_,I.laid (t':=s.toks) (λb o e=>VD _ e) (Q4 _) (show N0 X.prog X.w _ _ _ (Ol s.heap.objs.size d) from{{_,new,M,M},{_,new},λh1 h2 p k=>?_}),M,q _<|I.hok.fresh (Q4 _)};let{o,e,c}:=p;exact{o,k o e,c}
def Inv.freeze{H:Hp}{d:RC}{kvs:RV}(I:Inv X B W H s)(hd:H d=some (.dK kvs))(G:s.heap.get? d=some ob):Inv X B W (upd H d<|.frz ob<|.dK kvs) s:=by
 let own:∀b y,H b=some (.own y)->upd H d (.frz ob<|.dK kvs) b=some (.own y):=λb y q=>by rw[ae (λz=>by rw[z,hd]at q;cases q)];exact q
 let tup:∀b xs,H b=some (.tup xs)->upd H d (.frz ob<|.dK kvs) b=some (.tup xs):=λb xs q=>by rw[ae (λz=>by rw[z,hd]at q;cases q)];exact q
 let non:∀b,H b=none->upd H d (.frz ob<|.dK kvs) b=none:=λb q=>by rw[ae (λz=>by rw[z,hd]at q;cases q)];exact q
 refine{I.ok,I.os,I.bare,{I.base.keep,I.base.slot,λb o e n hx=>non b<|I.base.free b o e n hx,I.base.there,λb xs e=>tup b xs<|I.base.tups b xs e,λb o u e=>?_,λb ps e=>?_},I.loc,I.cell,non _ I.free,λx c e=>non c<|I.freeC x c e,λp O=>?_,λb o e=>?_,I.len}
 .have:=I.base.frzs b o u e;rwa[ae (λz=>by rw[z,hd]at this;cases this)]
 .let{m,q}:=I.base.tbls b ps e;exact{m,by rw[ae (λz=>by rw[z,hd]at q;cases q)];exact q}
 .let{h1,h2,U}:=I.pin p O;exact{h1,non _ h2,U}
 .by_cases z:b=d
  .subst z;rw[ai]at e;cases e;exact{G,(I.hok b _ hd).stay (λ_ _ _ q=>q) (λc q=>own c b q) tup}
  .rw[ae z]at e;exact(I.hok b o e).stay (λ_ _ _ q=>q) (λc q=>own c b q) tup
def Inv.thaw{H:Hp}{d:RC}{kvs:RV}(I:Inv X B W H s)(hd:H d=some (.frz ob<|.dK kvs))(G:∀o u,X.H₀ d≠some (.frz o u)):Inv X B W (upd H d<|.dK kvs) s:=by
 let own:∀b y,H b=some (.own y)->upd H d (.dK kvs) b=some (.own y):=λb y q=>by rw[ae (λz=>by rw[z,hd]at q;cases q)];exact q
 let tup:∀b xs,H b=some (.tup xs)->upd H d (.dK kvs) b=some (.tup xs):=λb xs q=>by rw[ae (λz=>by rw[z,hd]at q;cases q)];exact q
 let non:∀b,H b=none->upd H d (.dK kvs) b=none:=λb q=>by rw[ae (λz=>by rw[z,hd]at q;cases q)];exact q
 refine{I.ok,I.os,I.bare,{I.base.keep,I.base.slot,λb o e n hx=>non b<|I.base.free b o e n hx,I.base.there,λb xs e=>tup b xs<|I.base.tups b xs e,λb o u e=>?_,λb ps e=>?_},I.loc,I.cell,non _ I.free,λx c e=>non c<|I.freeC x c e,λp O=>?_,λb o e=>?_,I.len}
 .have:=I.base.frzs b o u e;rwa[ae (λz=>by rw[z]at e;exact G _ _ e)]
 .let{m,q}:=I.base.tbls b ps e;exact{m,by rw[ae (λz=>by rw[z,hd]at q;cases q)];exact q}
 .let{h1,h2,U}:=I.pin p O;exact{h1,non _ h2,U}
 .by_cases z:b=d
  .subst z;rw[ai]at e;cases e;let{_,q}:=I.hok b _ hd;exact N0.stay (show N0 X.prog X.w H s.heap b (.dK kvs) from q) (λ_ _ _ q=>q) (λc q=>own c b q) tup
  .rw[ae z]at e;exact(I.hok b o e).stay (λ_ _ _ q=>q) (λc q=>own c b q) tup
def Inv.noFrz{H:Hp}{d:RC}{kvs:RV}(I:Inv X B W H s)(hd:H d=some (.dK kvs)):∀o u,X.H₀ d≠some (.frz o u):=λo u e=>by
 have:=I.base.frzs d o u e;rw[hd]at this;cases this
def Lu(te:TE):TI:=λW H R=>te W H λx H1=>∃a d kvs,x= .ref a/\H1 a=some (Ol a d)/\H1 d=some (.dK kvs)/\∀ob,R (Itd ob d kvs) (upd H1 d<|.frz ob<|.dK kvs)
def vq{x1}(hl:PE X l te):PI X (.Tuple elts x1 pos) l (Lu te):=by
 intro B s W H R I h;refine N4 (hl B s W H _ I h) λv s1 O=>?_;let{x,H1,U,r1,q1}:=O;let{a,d,kvs,e,ha,hd,q}:=q1;subst e;cases r1;let{z,lo,vs,Y,dd}:=iW U.hok hd;let{ep,G}:=dd.dictAt;let{vw,_,_}:=(show N0 X.prog X.w H1 s1.heap a (Ol a d) from U.hok a _ ha);let{ob,es,Z,rest}:=id G;refine wpAny_pyIter_items vw G ?_;let If:=U.freeze hd Z;refine{s1.heap.objs.size,[s1.heap.objs.size],_,_,_,M,If.kept (t':=s1.toks) λb o e=>VD _ e,B7 _ {Y,λh e=>⟨ob,es,e,rest⟩},{_,_,VL _ M},λb hb=>?_,q ob};let e:b=s1.heap.objs.size:=by simpa using hb
 subst e;exact If.fpOk (Q4 _) (If.hok.fresh<|Q4 _)
inductive L7(t:TS)(D:rZ)(W:St)(H:Hp):Prop
 |mk(d kvs:_)(_:H d=some (.dK kvs))(_:t {λσ' H'=>∃ob,H' d=some (.frz ob<|.dK kvs)/\D.nx σ' (upd H' d<|.dK kvs),λv H'=>∃ob,H' d=some (.frz ob<|.dK kvs)/\D.rt v (upd H' d<|.dK kvs),λσ' H'=>∃ob,H' d=some (.frz ob<|.dK kvs)/\D.bk σ' (upd H' d<|.dK kvs),λσ' H'=>∃ob,H' d=some (.frz ob<|.dK kvs)/\D.ct σ' (upd H' d<|.dK kvs)} W H)
def uw{st:Stmt}{t:TS}(h:PS X st t):PS X st (L7 t):=by
 intro B s W H D I ⟨d,kvs,hd,q⟩;let U:=I.noFrz hd;refine N4 (h B s W H _ I q) λf s1 Y=>?_;cases f with
 |next=>let{z,H7,G,ob,e,O}:=Y;exact{z,_,G.thaw e U,O}
 |cont=>let{z,H7,G,ob,e,O}:=Y;exact{z,_,G.thaw e U,O}
 |brk=>let{z,H7,G,ob,e,O}:=Y;exact{z,_,G.thaw e U,O}
 |ret v=>let{Z,z,H7,G,r7,ob,e,O}:=Y;exact{Z,z,_,G.thaw e U,r7,O}
def qf(Pv:Sd)(O:Pv 0 W H)(hl:∀i W H,i<=kvs.length->Pv i W H->H d=some (.frz ob<|.dK kvs))
  (hs:∀i k v p W H,kvs[i]?=some (k,v)->Pv i W H->H p=none->g (.ref p) W (upd H p<|.tup [kV k,v]) λG H2=>tb {Pv<|i+1,rt,nx,Pv<|i+1} G H2) (hd:∀W H,Pv kvs.length W H->nx W H):
  ∃Wo:Nat->Nat->St->Hp->Prop,(∃m,Wo 0 m W H)/\∀i m W H,Wo i m W H->
   ((Itd ob d kvs).stop i H/\nx W H)\/((Itd ob d kvs).go i H/\∃N:St->Hp->Prop,(∀I H',N I H'->∃m',m'<m/\Wo (i+1) m' I H')/\∀x H',(Itd ob d kvs).yld i H x H'->g x W H' λG H2=>tb ⟨N,rt,nx,N⟩ G H2):=by
 refine{λi m W H=>m=kvs.length-i/\i<=kvs.length/\Pv i W H,{kvs.length,by simp,Qf _,O},?_};rintro i m W H ⟨rfl,hi,p⟩;let q:=hl i W H hi p;by_cases lt:i<kvs.length
 .refine .inr {⟨q,lt⟩,Pv<|i+1,λI H' z=>{kvs.length-(i+1),(),M,lt,z},λx H' y=>?_};let{U,k,v,rfl,Y,e,rfl}:=y;exact hs i k v U W H e p Y
 .let e:i=kvs.length:=();subst e;exact .inl {{q,Q4 _},hd W H p}
section
variable(K:Wp)(hK:X.K=K)
include hK
theorem xP:i6 X (.builtin "len") (λxs H Q=>∃p ys,xs=[.ref p]/\(DI K H p ys\/Na K H p ys)/\Q (.int ys.length) H):=by subst hK;exact aE
theorem GJ:IxR X (rIxL K):=by subst hK;exact aX
theorem zI:IxR X (rIxT K):=by subst hK;exact bE
end
def yG(hc:X.calm=true):i6 X (.builtin "min") (λxs H Q=>∃(p:RC)(ns:RF),xs=[.ref p]/\DI X.K H p (ns.map V.int)/\0<ns.length/\∀M',M'∈ns->(∀a∈ns,M'<=a)->Q (.int M') H):=by
 intro B s W H xs us Q I r h;let{p,ns,rfl,hq,G,q}:=h;let{u,rfl,U}:=tx r;cases U;let{its,rv,pl,hz}:=I.list hq;let hi:IntsAre its ns:=wc rv;let{xs,e}:=hi.allInts.items;let z:ns=xs.toList.map (·.1):=by
  rw[<-hi.numsOf,<-nums_intItems,<-e]
 let hsz:0<xs.size:=by
  let O:=G;rw[z,Q0,Qb]at O;exact O
 let hl:=pl.isList;rw[e]at hl;refine min_intList (I.ok.hd hc) hl hsz λv h' tk Y hk=>?_;let{t,rfl}:=intItems_at Y;let{h1,h2}:=argBest_lt (numAt xs) (xs.size-1);refine{.int _,H,I.kept (t':=tk) hk,⟨t,M⟩,q _ ?_ λa ha=>?_}
 .rw[z,numAt_eq];exact getD_mem<|by rw[Q0,Qb];lia
 .rw[z]at ha;let{j,Z,rfl}:=mem_getD ha;rw[Q0,Qb]at Z;rw[<-numAt_eq];exact h2 j ()
def yi{y:Int}:∀{ns:RF}{m:Nat},m<ns.idxOf y->(h:m<ns.length)->ns[m]≠y
 | [],m,_,h=>by simp at h
 |a::r,m,lt,h=>by
  rw[List.idxOf_cons]at lt;by_cases c:a=y
  .rw[c]at lt;simp at lt
  .have:(a==y)=false:=VR.mpr c;rw[this]at lt;cases m with
   |zero=>exact c
   |succ j=>exact yi (ns:=r) (m:=j) (by simpa using lt)<|by simpa using h
def yA:∀(ns:RF)(i:Nat),(ns.eraseIdx i).map V.int=(ns.map V.int).eraseIdx i
 | [],_=>rfl
 |_::_,0=>rfl
 |a::r,i+1=>by
  show V.int a::(r.eraseIdx i).map V.int=V.int a::(r.map V.int).eraseIdx i;rw[yA r i]
inductive Iy(x:V)(vs:RG)(H:Hp)(Q:VK):Prop
 |mk(l:RC)(xs:RG)(k:Int)(y:V)(_:x= .ref l)(_:vs=[.int k,y])(_:H l=some (.lst xs))(_:0<=k)(_:k<=(xs.length:Int))(_:xs.length<sizeLine)(_:Q .non (upd H l<|.lst (xs.take k.toNat++y::xs.drop k.toNat)))
def yj:MtM X "list.insert" Iy:=by
 intro B s W H x vs v us Q I Y rv h;let{l,xs,k,y,rfl,rfl,O,h0,hk,hz,q}:=h;cases Y;let{u1,u,rfl,{t,rfl},Z}:=rv.two;let{z,its,n,r,hl,e}:=I.lstM O;let G:¬(!Builtin.List.listFitsIndex k)=true:=by
  let U:=vU;rw[fitsIndex_both () ()];exact Qc
 let hsz:its.toArray.size<=sizeLine:=by rw[Qh];lia
 refine call_meets F.slot_list_insert {_,e,M} F.entry_list_insert (F.args_list_insert_3 _ _ _) (AutoListH.list_insert_list_int_val_1 l its.toArray n k t u G hsz) {e,?_};refine{.non,_,I.lset (its':=its.take k.toNat++u::its.drop k.toNat) O e ?_ ((r.take k.toNat).append<|.cons Z<|r.drop k.toNat) ?_,M,q}
 .let e0:(if k<0 then(k+((its.toArray.size:Nat):Int)).toNat else min k.toNat its.toArray.size)=k.toNat:=by
   rw[Vz (),Qh];lia
  show(its.toArray.extract 0 _).push u++its.toArray.extract _=_;rw[e0];simp;exact Qx<|by rw[QF];lia
 .rw[Q6,Qr,Q8,QF];lia
inductive Ix(x:V)(vs:RG)(H:Hp)(Q:VK):Prop
 |mk(l:RC)(ns:RF)(y:Int)(_:x= .ref l)(_:vs=[.int y])(_:H l=some (.lst<|ns.map V.int))(_:y∈ns)(_:Q .non (upd H l<|.lst<|(ns.erase y).map V.int))
def Ev:MtM X "list.remove" Ix:=by
 intro B s W H x vs v us Q I rx rv h;let{l,ns,y,rfl,rfl,hH,hy,q}:=h;cases rx;let{u,rfl,ru}:=rv.one;let{t,rfl}:=ru;let{z,its,n,r,hl,e}:=I.lstM hH;let hi:IntsAre its ns:=wc r;let at_:∀(m:Nat)(O:m<its.toArray.size),∃t',its.toArray[m]=Value.int (ns.getD m 0) t':=λm O=>by
  let G:m<ns.length:=by rw[Qh,<-hl,Q0]at O;exact O
  let{w,hw,Y}:=r.get (i:=m) (x:= .int<|ns.getD m 0) (by rw[Qp,Q3 G,Qn,Q3 G];rfl);let{t',rfl}:=Y;refine{t',?_};have:=(Q1.mp hw).2;simpa using this
 let hx:ns.idxOf y<ns.length:=List.idxOf_lt_length_of_mem hy;let ga:∀m,m<ns.length->ns.getD m 0=ns[m]!:=λm O=>by simp[O]
 refine call_meets F.slot_list_remove {_,e,M} F.entry_list_remove (F.args_list_remove_2 _ _) (MeetsSeq.list_remove l its.toArray n (.int y t) (λv=>match v with| .int i _=>i==y|_=>false) (λv hv=>?_) (ns.idxOf y) (by rwa[Qh,<-hl,Q0]) ?_ (λm O lt=>?_)<|by rw[Qh];lia) {e,?_}
 .let{m,O,Z}:=Array.getElem_of_mem hv;let{t',U}:=at_ m O
  rw[<-Z,U];exact MeetsSeq.EqGives.int _ _ _ _
 .let{t',U}:=at_ (ns.idxOf y) (by rwa[Qh,<-hl,Q0])
  rw[U];show(ns.getD (ns.idxOf y) 0==y)=true;rw[Qn,Q3 hx,Option.getD_some,List.getElem_idxOf hx];exact We y
 .let{t',U}:=at_ m O
  rw[U];show(ns.getD m 0==y)=false;let G:m<ns.length:=();rw[Qn,Q3 G,Option.getD_some];exact VR.mpr<|λw=>yi lt G w
 .let ee:ns.erase y=ns.eraseIdx (ns.idxOf y):=(List.erase_eq_eraseIdx_of_idxOf M);let Z:(ns.eraseIdx<|ns.idxOf y).map V.int=(ns.map V.int).eraseIdx (ns.idxOf y):=yA _ _;rw[ee,Z]at q;refine{.non,_,I.lset (its':=its.eraseIdx<|ns.idxOf y) hH e ?_ (r.eraseIdx<|ns.idxOf y) ?_,M,q}
  .show its.toArray.eraseIdxIfInBounds (ns.idxOf y)=(its.eraseIdx<|ns.idxOf y).toArray;rw[Vf]
  .have:=sQ (ns.map V.int) (ns.idxOf y);lia
def Itk(ob:Obj)(d:RC)(kvs:RV):It:=
 {λi H=>H d=some (.frz ob<|.dK kvs)/\i<kvs.length,λi H x H'=>H'=H/\∃k v,kvs[i]?=some (k,v)/\x=kV k,λi H=>H d=some (.frz ob<|.dK kvs)/\kvs.length<=i}
def D5(it:RC)(D:LV P w ob d kvs vs ep):
  BC P w K tg (Itk ob d kvs) [it] it (λi h=>h.IsKeyIter it d i vs.length ep) where
 mem:=by simp
 obj:=λi h st b hb=>by
  let z:b=it:=by simpa using hb
  subst z;let{o,e,c,dd}:=st;exact{o,e,λv z=>by rw[dd]at z;cases z}
 keep:=λi h h' st k=>by
  let{o,e,r}:=st;exact{o,k it (by simp) _ e,r}
 item:=by
  intro X Y hw hK hc i B s W H E I hf st Z;subst Y hw hK;let{hq,hi}:=Z;let{f0,f1,f2,f3,f4,f5}:=hf it (by simp);let{G,_}:=I.hok d _ hq;let O:=D.2 s.heap G;obtain⟨⟨k,v⟩,hx⟩:∃kv,kvs[i]?=some kv:={kvs[i],by simp[hi]};let{u,hu,ru}:=KV.getI D.1 hx;refine wpAny_pyNext_dict_item st O hu λkey h' U st' sb=>?_;let I1:Inv X B W H {s with heap:=h'}:=I.turned (t':=s.toks) (λb o hb e=>(sb.2 b hb).trans e) f0 f1 f3 f4 f5;let{o,e,c,dd}:=id st';exact{key,M,yu (s:={s with heap:=h'}) e c dd (_) {kV k,H,I1,Ds U,⟨M,k,v,hx,M⟩,st',λb hb=>(hf b hb).1}}
 done:=by
  intro X Y hw hK hc i B s W H E I hf st Z;subst Y hw hK;let{hq,hi}:=Z;let{G,_}:=I.hok d _ hq;let O:=D.2 s.heap G;let{f0,f1,f2,f3,f4,f5}:=hf it (by simp);let hl:kvs.length=vs.length:=D.1.length;exact wpAny_pyNext_dict_end (I.ok.hd hc) st O (by simp;lia) λh' eb=>{M,I.turned (t':=s.toks) (λb o hb e=>eb b o hb e) f0 f1 f3 f4 f5}
 self:=λ_ _ _ _ _ st h=>wpAny_pyIter_keyiter st h
def MK(te:TE):TI:=λW H R=>te W H λx H1=>∃d kvs,x= .ref d/\H1 d=some (.dK kvs)/\∀ob,R (Itk ob d kvs) (upd H1 d<|.frz ob<|.dK kvs)
def IE(hl:PE X l te):PI X tg l (MK te):=by
 intro B s W H R I h;refine N4 (hl B s W H _ I h) λv s1 O=>?_;let{x,H1,I1,r1,q1}:=O;let{d,kvs,e,hd,q}:=q1;subst e;cases r1;let{z,lo,vs,U,dd}:=iW I1.hok hd;let{ep,G}:=dd.dictAt;let{ob,es,Y,rest}:=id G;refine wpAny_pyIter_dict lo G ?_;let Z:=I1.freeze hd Y;refine{s1.heap.objs.size,[s1.heap.objs.size],_,_,_,M,Z.kept (t':=s1.toks) λb o e=>VD _ e,D5 _ {U,λh e=>⟨ob,es,e,rest⟩},{_,VL _ M,M,M},λb hb=>?_,q ob};let e:b=s1.heap.objs.size:=by simpa using hb
 subst e;exact Z.fpOk (Q4 _)<|Z.hok.fresh (Q4 _)
def wx:i6 X (.type zm) (λxs H Q=>∃d kvs,xs=[.ref d]/\H d=some (.dK kvs)/\∀p,H p=none->Q (.ref p) (upd H p<|.dK kvs)):=by
 intro B s W H xs us Q I r h;let{d,kvs,rfl,hd,q}:=h;let{u,rfl,O}:=tx r;cases O;let{z,lo,vs,G,dd}:=iW I.hok hd;refine kt_call_dict lo dd (by rwa[<-G.length]) λh' U hs=>?_;let{_,Y,_}:=wq (P:=X.prog) (w:=X.w) (H:=H) s.heap I.big;refine{.ref s.heap.objs.size,_,I.laid (a:=s.heap.objs.size) (o:= .dK kvs) (t':=s.toks) (λb o e=>(hs.2 b<|QM<|VI e).trans<|VD _ e) (Q4 _) ⟨z,Y,vs,G,U⟩,M,q _<|I.hok.fresh (Q4 _)}
def EM(Pv:Sd)(O:Pv 0 W H)(hl:∀i W H,i<=kvs.length->Pv i W H->H d=some (.frz ob<|.dK kvs))
  (hs:∀i k v W H,kvs[i]?=some (k,v)->Pv i W H->g (kV k) W H λG H2=>tb {Pv<|i+1,rt,nx,Pv<|i+1} G H2) (hd:∀W H,Pv kvs.length W H->nx W H):
  ∃Wo:Nat->Nat->St->Hp->Prop,(∃m,Wo 0 m W H)/\∀i m W H,Wo i m W H->
   ((Itk ob d kvs).stop i H/\nx W H)\/((Itk ob d kvs).go i H/\∃N:St->Hp->Prop,(∀I H',N I H'->∃m',m'<m/\Wo (i+1) m' I H')/\∀x H',(Itk ob d kvs).yld i H x H'->g x W H' λG H2=>tb ⟨N,rt,nx,N⟩ G H2):=by
 refine{λi m W H=>m=kvs.length-i/\i<=kvs.length/\Pv i W H,{kvs.length,by simp,Qf _,O},?_};rintro i m W H ⟨rfl,hi,p⟩;let q:=hl i W H hi p;by_cases lt:i<kvs.length
 .refine .inr {⟨q,lt⟩,Pv<|i+1,λI H' z=>{kvs.length-(i+1),(),M,lt,z},λx H' y=>?_};let{rfl,k,v,e,rfl}:=y;exact hs i k v W _ e p
 .let e:i=kvs.length:=();subst e;exact .inl {{q,Q4 _},hd W H p}
inductive Iw(x:V)(vs:RG)(H:Hp)(Q:VK):Prop
 |mk(a kvs k y:_)(_:x= .ref a)(_:vs=[kV k,y])(_:H a=some (.dK kvs))(_:kvs.length<sizeLine)(_:(∀v,ay kvs k=some v->Q v H))(_:(ay kvs k=none->Q y (upd H a<|.dK<|bf kvs k y)))
def Eu:PF X "dict.setdefault" Iw:=by
 intro B s W H x vs v us Q I rx rv h;let{a,kvs,k,y,rfl,rfl,Y,hl,q1,q2}:=h;cases rx;let{u,r,rfl,ru,Z}:=tw rv;let{z,hd,ws,O,dd}:=iW I.hok Y;let G:=O.val k;refine Wi Vo dd.typeIs PySem.F.entry_dict_setdefault (PySem.F.args_dict_setdefault_3 _ _ _) (kt_meets_setdefault (bu X.prog X.w) a (re ru) hd r) {ws,dd,by rwa[<-O.length],λv hv=>?_,λhn h' U hs=>?_}
 .rw[hv]at G;cases e:ay kvs k with
  |none=>rw[e]at G;exact G.elim
  |some x=>
   rw[e]at G;exact{x,H,I.tok _,G,q1 x e}
 .rw[hn]at G;cases e:ay kvs k with
  |some x=>rw[e]at G;exact G.elim
  |none=>
   let he:∃q,h'.get? a=some q:=let⟨q,_,_,hq,_⟩:=U;⟨q,hq⟩
   let lp:=b6 kvs k y;exact{y,_,rC I (by rw[Y];exact VU) hs he<|zQ () hd (O.put k Z) U,Z,q2 e}
def sM(kvs more:RV):List (Key×V):=more.foldl (λacc p=>bf acc p.1 p.2) kvs
set_option tactic.hygienic true in
def KV.mrg{more:RV}{z:Se}(h:KV more z):∀{kvs:RV}{G:Se},KV kvs G->KV (sM kvs more) (merged G z):=by
 induction h with
 |nil=>intro kvs G r;exact r
 |cons r t I=>
  rename_i p q ps qs
  intro kvs G rw;let e:p.1=q.1:=r.1;have:=I (rw.put p.1 r.2);rw[e]at this;show KV (sM (bf kvs p.1 p.2) ps) _;rwa[e]
def vN:∀{more kvs:RV},(sM kvs more).length<=kvs.length+more.length
 | [],_=>Q4 _
 |p::r,kvs=>by
  let h1:=vN (more:=r) (kvs:=bf kvs p.1 p.2);let h2:=b6 kvs p.1 p.2;show(sM (bf kvs p.1 p.2) r).length<=_;rw[Qr];lia
inductive rUpd(x:V)(vs:RG)(H:Hp)(Q:VK):Prop
 |mk(d o kvs more:_)(_:x= .ref d)(_:vs=[.ref o])(_:d≠o)(_:H d=some (.dK kvs))(_:H o=some (.dK more))(_:kvs.length+more.length<=sizeLine)(_:Q .non (upd H d<|.dK<|sM kvs more))
def Et:PF X "dict.update" rUpd:=by
 intro B s W H x vs v us Q I rx rv h;let{d,o,kvs,more,rfl,rfl,ne,hd,ho,hl,q}:=h;cases rx;let{u,rfl,ru}:=tx rv;cases ru;let{z,lo,ws,O,dd}:=iW I.hok hd;let{z2,Y,Z,G,a0}:=iW I.hok ho;refine Wi PySem.F.slot_dict_update dd.typeIs PySem.F.entry_dict_update (PySem.F.args_dict_update_2 _ _) (meets_dict_update (bu X.prog X.w) d o ne Y) {ws,Z,dd,a0,by rwa[<-O.length,<-G.length],λh' U _ hs=>?_};let he:∃q,h'.get? d=some q:=let⟨q,_,_,hq,_⟩:=U;⟨q,hq⟩
 exact{.non,_,rC I (by rw[hd];exact VU) hs he<|zQ (Qu vN hl) lo (G.mrg O) U,M,q}
end L2
namespace PySem
open PySem.Spec
variable{E:RP}
section
variable{prog:RN}{w:RO}{A:RT}{s:RD}
def G2:typeLookup (.type gs) "keys"=pure none:=am_miss_of_fast ∅
def G4{a:RC}{o:Obj}{xs:R'}{k:Nat}{Q:Option Value->Shared->Prop}(hx:s.heap.get? a=some o)(hc:o.cls= .type gs)(z:o.data= .seq xs k)(hd:o.dict=none)(O:A.handled=none)
  (h:∀h' tk,(∀b ob,s.heap.get? b=some ob->h'.get? b=some ob)->Q none {s with heap:=h',toks:=tk}):
  wpAny (model prog w) A (getAttr? (.ref a) "keys") Q E s:=by
 let{c,U,Y,Z}:=o;simp only at hc z hd;subst hc z hd;let{hp,g,d,tk,os}:=s;let I:∀G,(⟨hp,g,d,G,os⟩:RD).TypeIs (.ref a) gs:=λ_=>{_,hx,M};let f1:=sub_AttributeError;let f3:=F.slot_list_getattribute.lookup;let f4:=F.slot_list_getattribute.bind (.ref a);let f5:=am_list_getattr_none;unfold getAttr? getAttrBy? getAttrBy
 repeat (any_goals (first|assumption|exact I _|((with_reducible show wpAny _ _ (call (Value.builtin "list.__getattribute__") _ _) _ _ _);refine call_meets F.slot_list_getattribute (I _) am_entry_list_getattribute (F.args_list_getattribute_2 _ _) (meets_getattribute_miss_list a xs k Z "keys" _ G2 ∅) {hx,O,λh' G e hx'=>?_})|wp_step))
 let{t',u',he}:=hx'.there;show wpAny _ _ (getattributeRaised _ _ _ _ _ _ _) _ _ _;unfold getattributeRaised
 repeat (any_goals (first|assumption|wp_step))
 exact h _ _ hx'.keeps
end
namespace F
def entry_dict_update_loop:entryFor table Pj=some Builtin.«dict.update.loop»:=entryFor_of_tree (by kernel_rfl)
def plain_dict_update_loop:plainId Pj=true:=by decide+kernel
end F
section
variable{prog:RN}{w:RO}{K:Type}[DecidableEq K]{knd:KeyKind prog w K}{A:RT}{R:Result->Shared->Prop}{s:RD}
def G1{E:RP}{p:RC}{k v:RI}{Q:List Value->Shared->Prop}(z:s.heap.IsTuple p #[k,v])(h:Q [k,v] s):wpAny (model prog w) A (Builtin.Dict.pairItems<|.ref p) Q E s:=by
 let{o,G,hc,n,hd}:=z;let I:s.TypeIs (.ref p) nI:={_,G,hc};unfold Builtin.Dict.pairItems;refine VG<|wpAny_typeOf I ?_;let e:((Value.type nI==Value.type gs)||(Value.type nI==Value.type nI))=true:=by decide
 rw[VA e];let{z,g,d,tk,os}:=s;let{c,O,U,Y}:=o;simp only at hc hd;subst hc hd
 repeat (any_goals (first|assumption|wp_step))
def G3{I ax D:RC}{items:R'}{ps:List (K×Value)}{h₀:Heap}(hh:A.handled=none)(a1:ax≠I)(G:D≠I)(a2:D≠ax)(n0:h₀.get? D=none)(n1:h₀.get? I=none)(hl:ps.length<=sizeLine)
  (hi:∀(j:Nat)(v:RI),items[j]?=some v->∃p k key x,v= .ref p/\ps[j]?=some (k,x)/\knd.is k key=true/\h₀.IsTuple p #[key,x]) (hs:ps.length=items.size):
  ∀(n i:Nat)(s:RD),items.size-i=n->i<=items.size->s.heap.IsListIter I ax i->s.heap.IsList ax items->(∀b o,h₀.get? b=some o->s.heap.get? b=some o)->s.heap.DictOf knd D (merged []<|ps.take i)->
   (∀h' tk,(∀b o,h₀.get? b=some o->h'.get? b=some o)->h'.DictOf knd D (merged [] ps)->R (.ok<|.ret .none) {s with heap:=h',toks:=tk})->
   codeAny (model prog w) A (.builtin Pj {[.ref D,.ref I,rawInt i,.none],[]}) R s:=by
 intro n
 induction n with
 |zero=>
  intro i s hn hi' it il kp dd hR;let e:i=items.size:=();subst e;refine codeAny_builtin F.entry_dict_update_loop ?_;rw[Around.under_plainId F.plain_dict_update_loop _];show wpAny _ A.in1 (pyNext (.ref I)>>=_) _ _ s;let a3:A.in1.handled=none:=by simp[hh]
  refine VG<|wpAny_pyNext_list_end a3 it il (by simp) λh' Y=>?_;show wpAny _ A.in1 (Builtin.Dict.addKeywords D []>>=_) _ _ _;refine VG<|VQ (VQ ?_);rw[Qx (Z0 hs)]at dd;refine hR h' s.toks (λb o e=>Y b o (λz=>by rw[z,n1]at e;cases e)<|kp b o e) ?_;exact dd.at λo e=>Y D o G e
 |succ n ih=>
  intro i s hn hi' it il kp dd hR;let O:i<items.size:=();refine codeAny_builtin F.entry_dict_update_loop ?_;rw[Around.under_plainId F.plain_dict_update_loop _];show wpAny _ A.in1 (pyNext (.ref I)>>=_) _ _ s;refine VG<|wpAny_pyNext_list_item it il (x:=items[i]) (by simp[O]) λh' Z U=>?_;let{p,k,key,x,ev,ep,hk,tp}:=hi i items[i] (by simp[O]);rw[ev];let a0:∀b o,h₀.get? b=some o->h'.get? b=some o:=λb o e=>U.extBut b o (λz=>by rw[z,n1]at e;cases e) (kp b o e);let a4:h'.IsTuple p #[key,x]:=tp.at λo e=>a0 p o e;show wpAny _ A.in1 (holding [Value.ref p] _>>=_) _ _ _;refine VG<|Wb (VG<|wpAny_tryCatch<|G1 a4 ?_);show wpAny _ _ (holding [key,x]<|dictSet D key x) _ _ _;refine Wb<|wpAny_dictSet_pairs hk (kvs:=merged []<|ps.take i) ?_ (λh2 d2 s2=>?_) ?_
  .exact dd.at λo e=>U.extBut D o G e
  .refine VQ {plainId_quiet F.plain_dict_update_loop _,ih (i+1) _ () O ?_ ?_ ?_ ?_ λh3 tk k3 d3=>hR h3 tk k3 d3}
   .exact Z.at λo e=>(s2.2 I<|Ne.symm G).trans e
   .exact(il.at λo e=>U.extBut ax o a1 e).at λo e=>(s2.2 ax<|Ne.symm a2).trans e
   .exact λb o e=>(s2.2 b<|λz=>by rw[z,n0]at e;cases e).trans (a0 b o e)
   .rwa[merged_take_succ _ _ _ _ ep]
  .have:=merged_length_le [] (ps.take i);rw[Q8]at this;simp only[XQ]at this;lia
end
variable{E Q:RP}
section
variable{prog:RN}{w:RO}{K:Type}[DecidableEq K]{knd:KeyKind prog w K}{A:RT}{s:RD}
def G5{l:RC}{items:R'}{ps:List (K×Value)}(U:A.handled=none)(hl:PlainL s.heap l items)(hsz:ps.length<=sizeLine)
  (hi:∀(j:Nat)(v:RI),items[j]?=some v->∃p k key x,v= .ref p/\ps[j]?=some (k,x)/\knd.is k key=true/\s.heap.IsTuple p #[key,x]) (hs:ps.length=items.size)
  (h:∀h' tk,h'.DictOf knd s.heap.objs.size (merged [] ps)->(∀b o,s.heap.get? b=some o->h'.get? b=some o)->Q (.ref s.heap.objs.size) {s with heap:=h',toks:=tk}):
  wpAny (model prog w) A (call (.type zm) [.ref l]) Q E s:=by
 refine callType_codes (Q₁:=λobj s₁=>obj= .ref s.heap.objs.size/\s₁={s with heap:=s.heap.push {cls:= .type zm,data:= .dict #[]}}) F.kt_called_dict (F.kt_typeCall_dict_1 _) F.entry_dict_init (kt_code_dict_new _ ⟨M,M⟩) ?_;rintro obj s₁ ⟨rfl,rfl⟩;let z:(s.heap.push {cls:= .type zm,data:= .dict #[]}).DictOf knd s.heap.objs.size []:=Heap.DictOf.new s.heap;let{o,n,Y,hc,hd,I}:=hl;let G:(s.heap.push {cls:= .type zm,data:= .dict #[]}).get? l=some o:=VD _ Y;let lD:l<s.heap.objs.size:=VI Y;refine{z.typeIs,F.args_dict_init_2 _ _,?_};unfold Builtin.«dict.__init__»;refine VG ?_;unfold Builtin.Dict.selfAndRest;refine VG<|wpAny_notOrdered_dict z.typeIs ?_;show wpAny _ _ (pure (s.heap.objs.size,[Value.ref l])) _ _ _;refine VQ ?_;show wpAny _ _ (Builtin.Dict.updateFrom "dict.__init__" s.heap.objs.size (.ref l) [] .none) _ _ _;unfold Builtin.Dict.updateFrom;refine VG<|wpAny_typeOf (show Shared.TypeIs _ (.ref l) gs from{_,G,hc}) ?_;rw[VA (_)];refine VG<|G4 G hc I hd U λh1 a0 O=>?_;simp only[Option.isNone_none,if_true];refine VG<|Wk ?_;let l1:h1.IsList l items:={_,O _ _ G,hc,n,I};refine VG<|wpAny_pyIter_list l1 ?_;let D1:h1.DictOf knd s.heap.objs.size []:=z.at λo e=>O _ _ e;let sl:l<h1.objs.size:=VI (O _ _ G);let Z:s.heap.objs.size<h1.objs.size:=by let{o',_,_,e,_}:=D1;exact VI e
 refine VQ {by first|rfl|exact plainId_quiet F.plain_dict_update_loop _,?_};refine G3 (knd:=knd) (h₀:=s.heap) (ax:=l) (by simp[U]) (QM sl) (QM Z) (V6 lD) (Wa<|Q4 _) (Wa<|QU Z) hsz hi hs _ 0 _ M (Qf _) ?_ ?_ ?_ ?_ ?_
 .exact{_,VL _ M,M,M}
 .exact l1.push _
 .exact λb o e=>VD _ (O _ _<|VD _ e)
 .exact D1.push _
 .exact λh' tk kp dd=>{M,h h' tk dd kp}
end
end PySem
namespace L2
open PySem PySem.Spec PyProof.Rows
variable{d:RC}{X:Cx}{tg:Expr}{H:Hp}{hi lo st:Int}{R:It->Hp->Prop}{B:RM}{kvs:RV}{vs:Se}{ob:Obj}{P:RN}{K:Wp}{s:RD}{W:St}{nx:Sb}{g:TG}{tb:TS}{rt:VK}{E:RP}{w:RO}
def Bi(I:Inv X B W H s):∀{ts:List (Addr×Key×V)}{us:RJ},DJ (ts.map λe=>V.ref e.1) us->(∀e∈ts,Na X.K H e.1 [kV e.2.1,e.2.2])->∃ps:List (Key×Value),KV (ts.map (·.2)) ps/\∀(j:Nat)(v:RI),us[j]?=some v->∃p k key x,v= .ref p/\ps[j]?=some (k,x)/\(bu X.prog X.w).is k key=true/\s.heap.IsTuple p #[key,x]
 | [],_,.nil,_=>{[],.nil,λj v h=>by cases j<;>cases h}
 |e::r,_,.cons h1 h2,tu=>by
  let{ps,kv,g}:=Bi I h2 λy hy=>tu y (Qd _ hy);cases h1;let{its,rv,z,_}:=I.tuple (tu e Qa);let{a,b,rfl,ra,rb}:=Kq rv;refine{(e.2.1,b)::ps,.cons ⟨M,rb⟩ kv,λj v h=>?_};cases j with
  |zero=>cases h;exact{_,_,_,_,M,M,re ra,z}
  |succ j=>exact g j v h
def CL(G:X.A.handled=none):i6 X (.type zm) (λxs H Q=>∃(a:RC)(ts:List (Addr×Key×V)),xs=[.ref a]/\DI X.K H a (ts.map λe=>V.ref e.1)/\(∀e∈ts,Na X.K H e.1 [kV e.2.1,e.2.2])/\∀p,H p=none->Q (.ref p) (upd H p (.dK (sM [] (ts.map (·.2)))))):=by
 intro B s W H xs us Q I r h;let{a,ts,rfl,hl,tu,q}:=h;let{u,rfl,O}:=tx r;cases O;let{its,rv,pl,z}:=I.list hl;let{ps,kv,g}:=Bi I rv tu;let l1:ts.length=ps.length:=by have:=kv.length;rwa [Q0]at this
 let l2:ts.length=its.length:=by have:=rv.length;rwa [Q0]at this
 rw[Q0]at z;refine G5 (knd:=bu X.prog X.w) (ps:=ps) G pl () (λj v e=>g j v<|by simpa using e) (by rw[Qh];lia) λh' tk dd U=>?_;let{_,Y,_}:=wq (P:=X.prog) (w:=X.w) (H:=H) s.heap I.big;let Z:(sM [] (ts.map (·.2))).length<=sizeLine:=by
  have:=vN (kvs:=[]) (more:=ts.map (·.2));rw[Q0]at this;simp only[XQ]at this;lia
 refine{.ref s.heap.objs.size,_,I.laid (a:=s.heap.objs.size) (o:= .dK (sM [] (ts.map (·.2)))) (t':=tk) U (Q4 _) {Z,Y,_,kv.mrg .nil,dd},M,q _<|I.hok.fresh (Q4 _)}
inductive Mp(x y:V)(H:Hp)(Q:VK):Prop
 |mk(a b:RC)(ka kb:RV)(_:x= .ref a)(_:y= .ref b)(_:H a=some (.dK ka))(_:H b=some (.dK kb))(_:ka.length=kb.length)(_:(∀p∈ka,Fl p.2/\ay kb p.1=some p.2))(_:Q (.bl true) H)
def DG{A:RT}{I:RV}{z:Se}(rb:KV I z):∀{ka:RV}{O:Se},KV ka O->(∀p∈ka,Fl p.2/\ay I p.1=some p.2)->PySem.W.KeqHits A s z O true
 | [],_,.nil,_=> .nil
 |(k,v)::r,(k',u)::wr,.cons h1 h2,g=>by
  let{f,e}:=g (k,v) Qa;let{G,rv}:=h1;let G:k=k':=G;subst G;let{y,hy,U}:=Nd.some_of (v:=v) (o:=valueAt z k) (by rw[<-e];exact rb.val k);exact .hit (e:=true) (b:=true) hy (Jh f rv U)<|DG rb h2 λq hq=>g q (Qd _ hq)
def IG(hu:X.A.units+20<cLine):Nu X (compareOp .Eq) Mp:=by
 intro B s W H x y v u Q I rx ry h;let{a,b,ka,kb,rfl,rfl,ha,hb,l,g,q}:=h;cases rx;cases ry;let{z,lo,vs,O,dd}:=iW I.hok ha;let{z2,U,Z,G,Y}:=iW I.hok hb;let l1:ka.length=vs.length:=O.length;let l2:kb.length=Z.length:=G.length;let hl:vs.length=Z.length:=();refine PySem.W.keq_eq (r:=true) lo U dd Y () (λe=>DG G O g) {.bl true,H,I,?_,q};show Value.bool _=Value.bool _;simp[hl]
noncomputable def PJ(a d:RC):HO:= .ext λh=>h.IsValuesView a d
def Itw(ob:Obj)(d:RC)(kvs:RV):It:=
 {λi H=>H d=some (.frz ob<|.dK kvs)/\i<kvs.length,λi H x H'=>H'=H/\∃k,kvs[i]?=some (k,x),λi H=>H d=some (.frz ob<|.dK kvs)/\kvs.length<=i}
def DZ{ep:Nat}(it:RC)(D:LV P w ob d kvs vs ep):
  BC P w K tg (Itw ob d kvs) [it] it (λi h=>h.IsValIter it d i vs.length ep) where
 mem:=by simp
 obj:=λi h st b hb=>by
  let z:b=it:=by simpa using hb
  subst z;let{o,e,c,dd}:=st;exact{o,e,λv z=>by rw[dd]at z;cases z}
 keep:=λi h h' st k=>by
  let{o,e,r}:=st;exact{o,k it (by simp) _ e,r}
 item:=by
  intro X U hw hK hc i B s W H E I hf st Y;subst U hw hK;let{hq,hi}:=Y;let{Z,f1,f2,f3,f4,f5}:=hf it (by simp);let{G,_}:=I.hok d _ hq;let O:=D.2 s.heap G;obtain⟨⟨k,v⟩,hx⟩:∃kv,kvs[i]?=some kv:={kvs[i],by simp[hi]};let{u,hu,ru}:=KV.getI D.1 hx;refine wpAny_pyNext_values_item st O hu λh' st' sb=>?_;let I1:Inv X B W H {s with heap:=h'}:=I.turned (t':=s.toks) (λb o hb e=>(sb.2 b hb).trans e) Z f1 f3 f4 f5;let{o,e,c,dd}:=id st';exact{u,M,yu (s:={s with heap:=h'}) e c dd (_) {v,H,I1,ru,⟨M,k,hx⟩,st',λb hb=>(hf b hb).1}}
 done:=by
  intro X U hw hK hc i B s W H E I hf st Y;subst U hw hK;let{hq,hi}:=Y;let{G,_}:=I.hok d _ hq;let O:=D.2 s.heap G;let{Z,f1,f2,f3,f4,f5}:=hf it (by simp);let hl:kvs.length=vs.length:=D.1.length;exact wpAny_pyNext_values_end (I.ok.hd hc) st O (by simp;lia) λh' eb=>{M,I.turned (t':=s.toks) (λb o hb e=>eb b o hb e) Z f1 f3 f4 f5}
 self:=λ_ _ _ _ _ st h=>wpAny_pyIter_valiter st h
inductive Mn(x:V)(vs:RG)(H:Hp)(Q:VK):Prop
 |mk(d kvs:_)(_:x= .ref d)(_:vs=[])(_:H d=some (.dK kvs))(_:∀a,H a=none->Q (.ref a) (upd H a<|PJ a d))
def Es:PF X "dict.values" Mn:=by
 intro B s W H x vs v us Q I G rv h;let{d,kvs,rfl,rfl,hd,q}:=h;cases G;cases rv;let{z,lo,O,U,dd}:=iW I.hok hd;refine Wi PySem.F.slot_dict_values dd.typeIs PySem.F.entry_dict_values (PySem.F.args_dict_values_1 _) (meets_dict_values (bu X.prog X.w) d lo) {⟨O,dd⟩,?_};let new:(s.heap.push {cls:= .type "dict_values",data:= .fields #[.ref d]}).get? s.heap.objs.size=some {cls:= .type "dict_values",data:= .fields #[.ref d]}:=VL _ M;refine{.ref s.heap.objs.size,_,I.laid (t':=s.toks) (λb o e=>VD _ e) (Q4 _) (show N0 X.prog X.w _ _ _ (PJ s.heap.objs.size d) from{{_,new,M,M},{_,new},λh1 h2 p k=>?_}),M,q _<|I.hok.fresh (Q4 _)};let{o,e,c}:=p;exact{o,k o e,c}
def MG(te:TE):TI:=λW H R=>te W H λx H1=>∃a d kvs,x= .ref a/\H1 a=some (PJ a d)/\H1 d=some (.dK kvs)/\∀ob,R (Itw ob d kvs) (upd H1 d<|.frz ob<|.dK kvs)
def ID{l:Expr}{te:TE}(hl:PE X l te):PI X tg l (MG te):=by
 intro B s W H R I h;refine N4 (hl B s W H _ I h) λv s1 O=>?_;let{x,H1,U,r1,q1}:=O;let{a,d,kvs,e,ha,hd,q}:=q1;subst e;cases r1;let{z,lo,vs,Y,dd}:=iW U.hok hd;let{ep,G}:=dd.dictAt;let{vw,_,_}:=(show N0 X.prog X.w H1 s1.heap a (PJ a d) from U.hok a _ ha);let{ob,es,Z,rest}:=id G;refine wpAny_pyIter_values vw G ?_;let If:=U.freeze hd Z;refine{s1.heap.objs.size,[s1.heap.objs.size],_,_,_,M,If.kept (t':=s1.toks) λb o e=>VD _ e,DZ _ {Y,λh e=>⟨ob,es,e,rest⟩},{_,VL _ M,M,M},λb hb=>?_,q ob};let e:b=s1.heap.objs.size:=by simpa using hb
 subst e;exact If.fpOk (Q4 _)<|If.hok.fresh (Q4 _)
def GU(Pv:Sd)(O:Pv 0 W H)(hl:∀i W H,i<=kvs.length->Pv i W H->H d=some (.frz ob<|.dK kvs))
  (hs:∀i k v W H,kvs[i]?=some (k,v)->Pv i W H->g v W H λG H2=>tb {Pv<|i+1,rt,nx,Pv<|i+1} G H2) (hd:∀W H,Pv kvs.length W H->nx W H):
  ∃Wo:Nat->Nat->St->Hp->Prop,(∃m,Wo 0 m W H)/\∀i m W H,Wo i m W H->
   ((Itw ob d kvs).stop i H/\nx W H)\/((Itw ob d kvs).go i H/\∃N:St->Hp->Prop,(∀I H',N I H'->∃m',m'<m/\Wo (i+1) m' I H')/\∀x H',(Itw ob d kvs).yld i H x H'->g x W H' λG H2=>tb ⟨N,rt,nx,N⟩ G H2):=by
 refine{λi m W H=>m=kvs.length-i/\i<=kvs.length/\Pv i W H,{kvs.length,by simp,Qf _,O},?_};rintro i m W H ⟨rfl,hi,p⟩;let q:=hl i W H hi p;by_cases lt:i<kvs.length
 .refine .inr {⟨q,lt⟩,Pv<|i+1,λI H' z=>{kvs.length-(i+1),(),M,lt,z},λx H' y=>?_};let{rfl,k,e}:=y;exact hs i k x W _ e p
 .let e:i=kvs.length:=();subst e;exact .inl {{q,Q4 _},hd W H p}
def E6(lo st:Int)(n:Nat):It:={λi _=>i<n,λi H x H'=>H'=H/\x= .int (lo+i*st),λi _=>n<=i}
def An(it:RC)(lo st:Int)(n:Nat):BC P w K tg (E6 lo st n) [it] it (λi h=>IsRangeIter h it (lo+(i:Nat)*st) ((n:Int)-(i:Nat)) st) where
 mem:=by simp
 obj:=λi h G b hb=>by
  let e:b=it:=by simpa using hb
  subst e;exact{_,G,λv z=>by
   let z':Data.fields _=Data.cell v:=z;cases z'}
 keep:=λi h h' G k=>k it (by simp) _ G
 item:=by
  intro X O hw hK hc i B s W H E I hf G U;subst O hw hK;let{Y,Z,f2,f3,f4,f5}:=hf it (by simp);let Wo:=Walks.range (prog:=X.prog) (w:=X.w) (I.ok.hd hc) it lo st n;refine Wo.item i s _ _ U G λv h' tk hv st' kk=>?_;let{t,rfl}:=hv;let I1:Inv X B W H {s with heap:=h',toks:=tk}:=I.turned (λb o hb e=>kk b o (by simpa using hb) e) Y Z f3 f4 f5;exact{_,M,yu (s:={s with heap:=h',toks:=tk}) (n:="range_iterator") st' M M (_) {.int<|lo+i*st,H,I1,⟨t,M⟩,⟨M,M⟩,st',λb hb=>(hf b hb).1}}
 done:=by
  intro X O hw hK hc i B s W H E I hf G U;subst O hw hK;let{Y,Z,f2,f3,f4,f5}:=hf it (by simp);exact wpAny_pyNext_range_end (I.ok.hd hc) G (by have:n<=i:=U;lia) λh' eb=>{M,I.turned (t':=s.toks) (λb o hb e=>eb b o hb e) Y Z f3 f4 f5}
 self:=λ_ _ _ _ _ G h=>wpAny_pyIter_rangeiter G h
noncomputable def qk(lo hi st:Int):Nat:=(Builtin.Range.rangeSize lo hi st).toNat
def oQ(h:0<st):Builtin.Range.rangeSize lo hi st=if lo<hi then(hi-lo-1)/st+1 else 0:=by
 unfold Builtin.Range.rangeSize;rw[VA h]
def zq(h:0<st)(z:0<=lo)(h1:0<=hi):0<=Builtin.Range.rangeSize lo hi st/\Builtin.Range.rangeSize lo hi st<=hi:=by
 rw[oQ h];split
 .let a:0<=(hi-lo-1)/st:=XR () ();let b:(hi-lo-1)/st<=hi-lo-1:=Int.ediv_le_self _ ();lia
 .lia
def Eh{t u v:Tok}{tk:Nat}(I:Inv X B W H s)(h1:0<=lo)(h2:lo<2^30)(Y:0<=hi)(Z:hi<2^30)(U:0<st)(h6:st<2^30)
  (q:R (E6 lo st<|qk lo hi st) H):Wq X (pyIter<|.ref s.heap.objs.size) (PIE X B W tg R) E {s with heap:=s.heap.push {cls:= .type o0,data:= .fields #[.int lo t,.int hi u,.int st v]},toks:=tk}:=by
 let bd:=zq (lo:=lo) (hi:=hi) U h1 Y;refine wpAny_pyIter_range (IsRange.new ..) ?_ ?_
 .unfold Builtin.Range.small;simp only[Builtin.Range.rangeFitsLong,QA,Bool.or_eq_true,VO,VN,U,if_true];generalize Builtin.Range.rangeSize lo hi st=n at bd⊢;let z:(2:Int)^63=9223372036854775808:=by decide
  let G:(2:Int)^30=1073741824:=by decide
  rw[G]at h2 Z h6
  try rw[z]
  lia
 let O:Inv X B W H {s with heap:=s.heap.push {cls:= .type o0,data:= .fields #[.int lo t,.int hi u,.int st v]},toks:=tk}:=I.kept λb o e=>VD _ e;refine{(s.heap.push {cls:= .type o0,data:= .fields #[.int lo t,.int hi u,.int st v]}).objs.size,[(s.heap.push {cls:= .type o0,data:= .fields #[.int lo t,.int hi u,.int st v]}).objs.size],_,_,H,M,
  O.kept (t':=tk) λb o e=>VD _ e,An _ lo st<|qk lo hi st,?_,λb hb=>?_,q}
 .let e1:lo+((0:Nat):Int)*st=lo:=by simp
  let e2:((qk lo hi st:Nat):Int)-((0:Nat):Int)=Builtin.Range.rangeSize lo hi st:=by unfold qk;lia
  show IsRangeIter _ _ (lo+((0:Nat):Int)*st) (((qk lo hi st:Nat):Int)-((0:Nat):Int)) st;rw[e1,e2];exact VL _ M
 .let e:b=(s.heap.push {cls:= .type o0,data:= .fields #[.int lo t,.int hi u,.int st v]}).objs.size:=by simpa using hb
  subst e;exact O.fpOk (Q4 _)<|O.hok.fresh (Q4 _)
def MH(ta:TA):TI:=λW H R=>ta W H λvs H1=>∃i j k:Int,vs=[.int i,.int j,.int k]/\(0<=i/\i<2^30/\0<=j/\j<2^30/\0<k/\k<2^30)/\R (E6 i k<|qk i j k) H1
def Ej{a b c:Expr}{ta:TA}{p pos:Pos}(Z:Gl X o0)(hm:X.mg o0=none)(ha:PA X [a,b,c] ta)(hs:starEach [a,b,c] X.env=[(false,eval a X.env),(false,eval b X.env),(false,eval c X.env)]:=by rfl)
  (z:starEach [b,c] X.env=[(false,eval b X.env),(false,eval c X.env)]:=by rfl):PI X tg (.Call (.Name o0 p) [a,b,c] [] pos) (MH ta):=by
 intro B s W H R I h;refine Call_<|sR I Z hm boot_range (PyProof.Rows.callWith_type1 (N4 (ha pos B s W H _ I h) λus s1 O=>?_) (by rw[hs,z])<|by rw[z];rfl);let{vs,H1,I1,r1,U}:=O;let{i,j,k,e,{U,q2,q3,q4,q5,q6},q}:=U;subst e;cases r1 with
 |cons r G=>
  cases G with
  |cons r' G=>
   cases G with
   |cons Y G=>
    cases G;let{t,rfl}:=r;let{t',rfl}:=r';let{a0,rfl}:=Y;exact call_range_3 () (Eh I1 U q2 q3 q4 q5 q6 q)<|.inl (PyProof.noPylong_small ())
def Bc{n:Nat}(Pv:Sd)(O:Pv 0 W H)
  (hs:∀i W H,i<n->Pv i W H->g (.int<|lo+i*st) W H λz H2=>tb {Pv<|i+1,rt,nx,Pv<|i+1} z H2) (hd:∀W H,Pv n W H->nx W H):
  ∃Wo:Nat->Nat->St->Hp->Prop,(∃m,Wo 0 m W H)/\∀i m W H,Wo i m W H->
   ((E6 lo st n).stop i H/\nx W H)\/((E6 lo st n).go i H/\∃N:St->Hp->Prop,(∀G H',N G H'->∃m',m'<m/\Wo (i+1) m' G H')/\∀x H',(E6 lo st n).yld i H x H'->g x W H' λz H2=>tb ⟨N,rt,nx,N⟩ z H2):=by
 refine{λi m W H=>m=n-i/\i<=n/\Pv i W H,{n,by simp,Qf _,O},?_};rintro i m W H ⟨rfl,hi,p⟩;by_cases I:i<n
 .refine .inr {I,Pv<|i+1,λG H' U=>{n-(i+1),(),M,I,U},λx H' y=>?_};let{e,y}:=y;subst e y;exact hs i W _ I p
 .let e:i=n:=();subst e;exact .inl {Q4 _,hd W H p}
open Srt
section
variable{X:Cx}
def K3f(H:Hp)(a:RC)(k:RF):Prop:=∃i j m:Int,H a=some (.tup [.int i,.int j,.int m])/\k=[i,j,m]
def uD{x y z:V}{its:RJ}(r:DJ [x,y,z] its):∃u v w,its=[u,v,w]/\RelV x u/\RelV y v/\RelV z w:=by
 cases r with
 |cons r1 r=>
  let{v,w,rfl,h2,G}:=tw r;exact{_,v,w,M,r1,h2,G}
def xO:i6 X (.builtin Pu) (λvs H Q=>∃(p:RC)(as:RQ)(ky:Addr->List Int),vs=[.ref p]/\DI X.K H p (as.map V.ref)/\(∀a∈as,K3f H a (ky a))/\
  ∀(l:RC)(bs:RQ),H l=none->bs.Perm as->bs.Pairwise (λa b=>HT.lexLt (ky b) (ky a)=false)->Q (.ref l) (upd H l<|.lst<|bs.map V.ref)):=by
 intro B s W H xs us Q I r h;let{p,as,ky,rfl,hq,hk,q}:=h;let{u,rfl,ru}:=tx r;cases ru;let{its,rv,pl,hz}:=I.list hq;refine Ea (κ:=tuples'<|Value.type Po !=Value.type nI) (ky:=kRef ky) I hz rv pl.isList (λh' k h2 Q' G=>?_) (λh' k x y u v E' Q' hx hy rx ry G=>?_) λl ys hl pm pw=>?_
 .let tups:∀(bs:RQ)(U:RJ),(∀a∈bs,K3f H a (ky a))->DJ (bs.map V.ref) U->∃fs:List Value,PySem.W.KatTups h' U fs/\(∀f∈fs,∃i t,f=Value.int i t)/\fs.length=U.length:=by
   intro bs
   induction bs with
   |nil=>intro U _ r;cases r;exact{[],.nil,λ_ h=>VE h Zc,M}
   |cons a bs ih=>
    intro U hk r;cases r with
    |cons r1 r2=>
     cases r1;let{fs,t,hi,hl}:=ih _ (λb hb=>hk b<|Qd _ hb) r2;let{i,j,m,ha,_}:=hk a Qa;let{o,Y,n,O,e,c,d}:=B8 I ha k;let{u1,u2,u3,rfl,q1,q2,q3}:=uD O;let{Z,rfl}:=q1;refine{Value.int i Z::fs,.cons e c d M t,λf hf=>?_,by rw[Qr,Qr,hl]};rcases Qj.mp hf with z|z
     .exact⟨i,Z,z⟩
     .exact hi f z
  let{fs,t,hi,hl}:=tups as its hk rv;refine PySem.W.kat_kind (T:= .type Po) t () (λv hv=>?_) ∅ G;let{i,t,rfl}:=hi v hv;exact PySem.W.Looks.of_pure M
 .let{a,ha,rfl}:=Qe.mp hx;let{b,hb,rfl}:=Qe.mp hy;cases rx;cases ry;let{i,j,m,ea,ka}:=hk a ha;let{i',j',m',eb,kb}:=hk b hb;let G:Q' (HT.lexLt (ky a)<|ky b) {s with heap:=h'}:=G;rw[ka,kb,HT.lexLt_cons,HT.lexLt_cons,HT.lexLt_cons,HT.lexLt_nil_nil]at G;let{o,a2,n,a0,e1,c1,d1}:=B8 I ea k;let{u1,u2,u3,rfl,{Z,rfl},{t2,rfl},{t5,rfl}}:=uD a0;let{o',Y,n',O,e2,c2,d2}:=B8 I eb k;let{w1,w2,w3,rfl,{t3,rfl},{t4,rfl},{t6,rfl}}:=uD O;refine PySem.W.kat_lt e1 d1 e2 d2<|Vg (SeqAt.EqAt.int_int _ _ _ _ _ _ _ _<|Vw (λe=>Vp ?_)<|λe=>Vx ?_)
  .rw[VA (VN.mp e)]at G;refine Vg<|SeqAt.EqAt.int_int _ _ _ _ _ _ _ _ (Vw (λe=>Vp ?_)<|λe=>Vx ?_)
   .rw[VA (VN.mp e)]at G;refine Vg<|SeqAt.EqAt.int_int _ _ _ _ _ _ _ _ (Vw (λe=>Vp ?_)<|λe=>Vx ?_)
    .rw[VA (VN.mp e)]at G;exact PySem.W.kat_nil<|by simpa using G
    .rw[Vz (VR.mp e)]at G;exact PySem.W.kat_one _ _<|lt_int G
   .rw[Vz (VR.mp e)]at G;exact PySem.W.kat_one _ _<|lt_int G
  .rw[Vz (VR.mp e)]at G;exact oneLt_int G
 .let{bs,rfl,a1}:=Ek pm;exact q l bs hl a1<|QK.mp pw
end
end L2
namespace L2
open PySem PySem.Spec PyProof.Rows
variable{tg:Expr}{K:Wp}
def Itv(K:Wp)(a:RC)(n:Nat):It:=
 {λi H=>i<n/\∃xs x,DI K H a xs/\xs[n-1-i]?=some x,λi H x H'=>H'=H/\∀xs,DI K H a xs->xs[n-1-i]?=some x,λi _=>n<=i}
def Fu{P:RN}{w:RO}(a it:RC)(n:Nat):BC P w K tg (Itv K a n) [it] it (λi h=>i<=n/\h.IsRevIter it a ((n:Int)-1-(i:Int))) where
 mem:=by simp
 obj:=λi h st b hb=>by
  let e:b=it:=by simpa using hb
  subst e;let{_,o,e,c,d}:=st;exact{o,e,λv z=>by rw[d]at z;cases z}
 keep:=λi h h' st k=>{st.1,st.2.at λo e=>k it (by simp) o e}
 item:=by
  intro X O hw hK hc i B s W H E I hf st U;subst O hw hK;let{hi,xs,x,hq,hx}:=U;let{its,rv,p,hz}:=I.list hq;let{u,hu,ru}:=rv.get hx;let{Y,Z,f2,f3,f4,f5}:=hf it (by simp);let e1:(n:Int)-1-(i:Int)=((n-1-i:Nat):Int):=();let G:=st.2;rw[e1]at G;refine wpAny_pyNext_rev_item G p.isList (x:=u) (by simpa using hu) λh' st' sb=>?_;let e2:((n-1-i:Nat):Int)-1=(n:Int)-1-((i+1:Nat):Int):=();rw[e2]at st';let I1:Inv X B W H {s with heap:=h'}:=I.turned (t':=s.toks) (λb o hb e=>(sb.2 b hb).trans e) Y Z f3 f4 f5;let{o,e,c,d}:=id st';exact{u,M,yu (s:={s with heap:=h'}) e c d (_) {x,H,I1,ru,{M,λys hy=>by rwa[I.list_inj hy hq]},⟨hi,st'⟩,λb hb=>(hf b hb).1}}
 done:=by
  intro X O hw hK hc i B s W H E I hf st U;subst O hw hK;let{Y,Z,f2,f3,f4,f5}:=hf it (by simp);let G:=st.2;let hn:n<=i:=U;let e:(n:Int)-1-(i:Int)= -1:=by have:=st.1;lia
  rw[e]at G;exact wpAny_pyNext_rev_end (I.ok.hd hc) G λh' eb=>{M,I.turned (t':=s.toks) (λb o hb e=>eb b o hb e) Y Z f3 f4 f5}
 self:=λ_ _ _ _ _ st h=>wpAny_pyIter_revIter st.2 h
section
variable{X:Cx}
def iRev(K:Wp)(ta:TA):TI:=λW H R=>ta W H λvs H1=>∃a xs,vs=[.ref a]/\DI K H1 a xs/\R (Itv K a xs.length) H1
def KS{a:Expr}{ta:TA}{p pos:Pos}(O:Gl X Rm)(U:X.mg Rm=none)(ha:PA X [a] ta)(hs:starEach [a] X.env=[(false,eval a X.env)]:=by rfl):PI X tg (.Call (.Name Rm p) [a] [] pos) (iRev X.K ta):=by
 intro B s W H R I h;refine Call_<|sR I O U Boot.«reversed» (PyProof.Rows.callWith_type1 (N4 (ha pos B s W H _ I h) λus s1 G=>?_) hs M);let{vs,H1,z,r1,Y}:=G;let{b,xs,e,hq,q}:=Y;subst e;cases r1 with
 |cons r Z=>
  cases Z;cases r;let{its,rv,p,hz}:=z.list hq;let hl:=rv.length;refine call_reversed_list p.isList ?_;refine wpAny_pyIter_revIter (l:=b) (i:=(its.toArray.size:Int)-1) {_,VL _ M,M,M} ?_;refine{s1.heap.objs.size,[s1.heap.objs.size],_,_,H1,M,z.kept (t':=s1.toks) λb o e=>VD _ e,Fu b _ xs.length,{Qf _,?_},λb hb=>?_,q}
  .let e:(xs.length:Int)-1-((0:Nat):Int)=(its.toArray.size:Int)-1:=by simp;lia
   rw[e];exact{_,VL _ M,M,M}
  .let e:b=s1.heap.objs.size:=by simpa using hb
   subst e;exact z.fpOk (Q4 _)<|z.hok.fresh (Q4 _)
end
def EU{a D:RC}{xs:RG}{te:TE}{tc:TT}{W:St}{H1:Hp}{Fin:Hp->Prop}(Pv:Sf)(G:Pv 0 [] (upd H1 D<|.lst []))(hl:∀i ys H,i<=xs.length->Pv i ys H->DI K H a xs)
  (hs:∀i x ys H2,xs.reverse[i]?=some x->Pv i ys H2->H2 D=some (.lst ys)->tc (some x::W) H2 λb H4=>if b=true then te (some x::W) H4 (NL xs.length i ys D Pv)else Ni xs.length i ys D Pv H4)
  (hd:∀ys H2,Pv xs.length ys H2->H2 D=some (.lst ys)->Fin H2):
  ∃Wo:Nat->Nat->List V->Hp->Prop,(∃m,Wo 0 m [] (upd H1 D<|.lst []))/\∀i m ys H2,Wo i m ys H2->H2 D=some (.lst ys)->
   ((Itv K a xs.length).stop i H2/\Fin H2)\/((Itv K a xs.length).go i H2/\∀x H3,(Itv K a xs.length).yld i H2 x H3->tc (some x::W) H3 λb H4=>if b=true then te (some x::W) H4 λy z=>z D=some (.lst ys)/\ys.length<sizeLine/\∃m',m'<m/\Wo (i+1) m' (ys++ [y]) (upd z D<|.lst<|ys++ [y])else H4 D=some (.lst ys)/\∃m',m'<m/\Wo (i+1) m' ys H4):=by
 refine{λi m ys H=>m=xs.length-i/\i<=xs.length/\Pv i ys H,{xs.length,by simp,Qf _,G},?_};rintro i m ys H ⟨rfl,hi,p⟩ hD;let q:=hl i ys H hi p;by_cases lt:i<xs.length
 .refine .inr {{lt,xs,xs[xs.length-1-i]'(),q,Q3 _},λx H' y=>?_};let{e,y}:=y;subst e;exact hs i x ys _ (by rw[List.getElem?_reverse lt];exact y xs q) p hD
 .let e:i=xs.length:=();subst e;exact .inl {Q4 _,hd ys H p hD}
open SeqAt
section
variable{X:Cx}{B:RM}{W:St}{H:Hp}{s:RD}
inductive KO(x:V)(vs:RG)(H:Hp)(Q:VK):Prop
 |mk(a kvs k y:_)(_:x= .ref a)(_:vs=[kV k,y])(_:H a=some (.dK kvs))(_:(∀v,ay kvs k=some v->Q v (upd H a<|.dK<|bG kvs k)))(_:(ay kvs k=none->Q y H))
def Gj:PF X Px KO:=by
 intro B s W H x vs v us Q I Y rv h;let{a,kvs,k,y,rfl,rfl,O,Z,q2}:=h;cases Y;let{u,r,rfl,U,rr}:=tw rv;cases l:ay kvs k with
 |some v=>exact J9 I O U l (.inr ⟨r,M⟩) λw' s4 z G=>{v,_,z,G,Z v l}
 |none=>exact LD I O U l λs4 z=>{y,H,z,rr,q2 l}
end
end L2
namespace SW
open PySem L2
set_option maxHeartbeats 0
abbrev _root_.RE:=Addr->Prop
abbrev _root_.RH:=List (Int×V)
abbrev _root_.RZ:=List (List Int)
variable{C a b c dd dx p q r tb:RC}{F F':RE}{t:N6}{X X':NG}{o:HO}{x':NF}{H H' H1:Hp}{Wo hi k lo m:Int}{R:R3}{T kv' ps qs:RH}{kvs:RV}{ls:RZ}{fs:RW}{A:RQ}{L:List Cp}{ds l mo:List DR}{ks ns x y:RF}{pa':List Pk}{ts:List Tp}{xs:RG}{i i0 j n:Nat}{E:Nat->Prop}{K:Wp}{st:Hm}{W:St}{f:Str}{α β:Type}{a' av e ta v:V}{Q:VK}
structure Txt(K:Wp)(mg:RU)(t:N6):Prop where
 AV:mg "Token"=some (.ref t.gU)
 kP:mg "BySlots"=some (.ref t.aQ)
 AU:mg "Up"=some (.ref t.dE)
 MX:mg "Down"=some (.ref t.cz)
 MW:mg "Page"=some (.ref t.bI)
 LZ:mg "Copier"=some (.ref t.aW)
 LY:mg "Leaves"=some (.ref t.bB)
 MC:mg "Makes"=some (.ref t.gj)
 MB:mg "Slots"=some (.ref t.aY)
 MD:mg "House"=some (.ref t.a6)
 AX:mg "turned"=some (.ref t.Bz)
 wI:NC K "turned" "turned" vi t.Bz t.wt
 Bv:Binds K t.wt [Pl] []
 Ez:mg "mark_of"=some (.ref t.yP)
 yT:NC K "mark_of" "mark_of" sv t.yP t.sX
 EY:Binds K t.sX [eH] []
 CB:mg "place_of"=some (.ref t.wB)
 wK:NC K "place_of" "place_of" pU t.wB t.qh
 CM:Binds K t.qh [eH] []
 yq:mg "slot_of"=some (.ref t.yN)
 tq:NC K "slot_of" "slot_of" sr t.yN t.sV
 yL:Binds K t.sV [eH,sD] []
 IY:mg Rn=some (.ref t.rJ)
 Ad:NC K Rn Rn kq t.rJ t.kW
 Jo:Binds K t.kW [Rt,sD] []
 Ey:mg "slot_at"=some (.ref t.yO)
 yS:NC K "slot_at" "slot_at" ss t.yO t.sW
 EX:Binds K t.sW [wF,sD] []
 La:mg "is_whole"=some (.ref t.wC)
 CO:NC K "is_whole" "is_whole" pV t.wC t.qi
 LH:Binds K t.qi [Py] []
 jU:mg "is_from"=some (.ref t.yR)
 gY:NC K "is_from" "is_from" sC t.yR t.sZ
 jY:Binds K t.sZ [Py,zk] []
 jN:NC K nz "Token.__init__" jc t.jM t.jx
 pc:Binds K t.jx [et,Pr,rD,u4] []
 Fi:OF K nz "BySlots.__init__" gx t.lQ t.cP
 lN:Binds K t.cP [et,rD,u4] []
 Fb:NC K Rj "BySlots.holds" fP t.kg t.f9
 jZ:Binds K t.f9 [et,eH] []
 LT:OF K nz "Up.__init__" pW t.wE t.iC
 wA:Binds K t.iC [et,rD,u4] []
 Km:NC K Rj "Up.holds" mB t.tO t.nE
 nN:Binds K t.nE [et,eH] []
 JI:OF K nz "Down.__init__" kH t.rW t.fF
 Jx:Binds K t.fF [et,rD,u4] []
 Ic:NC K Rj "Down.holds" jq t.pK t.jK
 jL:Binds K t.jK [et,eH] []
 M8:mg "ask"=some (.ref t.Kh)
 MS:OF K "ask" "ask" FM t.Kh t.Bk
 LJ:iM K t.Bk [nj,eR,gt,"sieve"] [.non]
 Fe:mg Ra=some (.ref t.lO)
 uu:NC K Ra Ra gv t.lO t.gG
 Ff:Binds K t.gG [wG,eR,gt] []
 Gy:mg Rc=some (.ref t.nR)
 wL:NC K Rc Rc eQ t.nR t.iz
 He:Binds K t.iz [nj,eR,gt] []
 Gz:mg Re=some (.ref t.nS)
 wM:NC K Re Re eS t.nS t.iA
 Hf:Binds K t.iA [hL,eR,gt] []
 J6:mg "keys_near"=some (.ref t.tK)
 BF:NC K "keys_near" "keys_near" mj t.tK t.ni
 Ke:Binds K t.ni [hL,eR,wb] []
 Gx:mg Rf=some (.ref t.nQ)
 wJ:NC K Rf Rf g9 t.nQ t.iy
 Hd:Binds K t.iy [eR,eH] []
 MY:mg "parts"=some (.ref t.DQ)
 JA:NC K "parts" "parts" qH t.DQ t.zR
 MZ:Binds K t.zR [eR,gt] []
 zF:mg "bound"=some (.ref t.DS)
 uB:NC K "bound" "bound" zo t.DS t.zS
 zZ:Binds K t.zS [eR,"j",gt] []
 EA:mg "is_left"=some (.ref t.yQ)
 yU:NC K "is_left" "is_left" sw t.yQ t.sY
 EZ:Binds K t.sY [eR,eH] []
 GA:mg "change"=some (.ref t.BA)
 BG:NC K "change" "change" vj t.BA t.wu
 Hg:Binds K t.wu [vm,Pm] []
 JF:NC K nz "Page.__init__" kE t.rS t.lE
 Ju:Binds K t.lE [et,eR] []
 JE:NC K "read" "Page.read" kD t.rR t.lz
 Jt:Binds K t.lz [et,nj,gt] []
 E8:NC K "in_piece" "Page.in_piece" fL t.j8 t.fZ
 E1:Binds K t.fZ [et,eH] []
 Fh:NC K "outcome" "Page.outcome" gw t.lP t.gH
 Fg:Binds K t.gH [et] []
 Hs:OF K nz "Copier.__init__" ie t.nY t.fG
 ut:iM K t.fG [et,nj,eR,Ru] [.non]
 BW:NC K "open_page" "Copier.open_page" dH t.gN t.dM
 BR:Binds K t.dM [et] []
 BV:OF K "read_page" "Copier.read_page" dG t.gM t.cn
 BQ:Binds K t.cn [et,gt] []
 BI:NC K "close_page" "Copier.close_page" dn t.gu t.dA
 By:Binds K t.dA [et] []
 E9:NC K "follow" "Copier.follow" fN t.j9 t.f7
 tm:Binds K t.f7 [et,"steps"] []
 Ai:NC K "follow_mark" "Copier.follow_mark" cR t.fJ t.cU
 Ah:Binds K t.cU [et,Pl] []
 yV:NC K "follow_change" "Copier.follow_change" cr t.eL t.cy
 yM:Binds K t.cy [et,Pm] []
 Ht:NC K "copy" "Copier.copy" ig t.nZ t.iF
 Hk:Binds K t.iF [et] []
 Fa:NC K "covers" "Copier.covers" fO t.kf t.f8
 E2:Binds K t.f8 [et,eH] []
 Hr:NC K "left" "Copier.left" hZ t.nW t.iE
 nP:Binds K t.iE [et] []
 Ho:NC K nz "Leaves.__init__" hV t.nU t.iD
 Hh:Binds K t.iD [et] []
 HY:NC K "add" "Leaves.add" gf t.pG t.jG
 HJ:Binds K t.jG [et,eH] []
 DW:NC K "discard" "Leaves.discard" eV t.i4 t.fA
 DM:Binds K t.fA [et,eH] []
 HX:NC K "has" "Leaves.has" ji t.pF t.jF
 xS:Binds K t.jF [et,eH] []
 DV:NC K "from_on" "Leaves.from_on" cW t.iZ t.fw
 DL:Binds K t.fw [et,eH,wb] []
 BU:NC K "down_from" "Leaves.down_from" b9 t.gL t.dL
 BP:Binds K t.dL [et,eH,wb] []
 DU:NC K "leaf_of" "Leaves.leaf_of" eU t.iY t.fu
 c8:Binds K t.fu [et,eH] []
 BS:NC K "part_leaf" "Leaves.part_leaf" dF t.gK t.dJ
 BO:Binds K t.dJ [et,rD] []
 BH:NC K "join_small" "Leaves.join_small" dj t.gr t.dz
 nO:Binds K t.dz [et,rD] []
 HW:NC K nz "Makes.__init__" jh t.pE t.jE
 HI:Binds K t.jE [et] []
 HV:NC K "note" "Makes.note" jg t.pD t.jD
 HH:Binds K t.jD [et,"moment",pq] []
 tG:mg "empty_row"=some (.ref t.tL)
 n8:NC K "empty_row" "empty_row" iR t.tL t.nu
 tJ:Binds K t.nu [sD] []
 HS:NC K nz "Slots.__init__" je t.pB t.jB
 HF:Binds K t.jB [et] []
 JB:NC K Rg "Slots.put" kA t.rO t.lh
 Jr:Binds K t.lh [et,eH,pq] []
 HU:NC K Pn "Slots.drop" jf t.pC t.jC
 HG:Binds K t.jC [et,eH] []
 JD:NC K "get" "Slots.get" kC t.rQ t.lw
 Js:Binds K t.lw [et,eH] []
 JC:NC K "has" "Slots.has" kB t.rP t.lq
 z8:Binds K t.lq [et,eH] []
 HR:NC K "rows" "Slots.rows" gd t.pA t.jA
 xR:Binds K t.jA [et] []
 HQ:NC K "span" "Slots.span" dN t.pj t.jz
 HE:Binds K t.jz [et,zk,Rh] []
 HP:NC K "stop" "Slots.stop" jd t.pf t.jy
 xQ:Binds K t.jy [et,wF] []
 E7:NC K "cell_of" "Slots.cell_of" fK t.j7 t.fY
 gb:Binds K t.fY [et,eH] []
 DT:NC K "lying_at" "Slots.lying_at" eT t.iX t.ft
 DK:Binds K t.ft [et,wF] []
 CQ:NC K "move_slot" "Slots.move_slot" d9 t.iJ t.eD
 qm:Binds K t.eD [et] []
 CS:NC K "begin_row" "Slots.begin_row" eh t.iK t.eE
 qo:Binds K t.eE [et] []
 HZ:NC K nz "House.__init__" jj t.pH t.jH
 HK:Binds K t.jH [et] []
 JG:NC K Rg "House.put" kF t.rT t.lF
 Jv:Binds K t.lF [et,eH,pq] []
 Ia:NC K Pn "House.drop" jo t.pI t.jI
 HL:Binds K t.jI [et,eH] []
 JH:NC K "get" "House.get" kG t.rV t.lG
 Jw:Binds K t.lG [et,eH] []
 DX:NC K "lay_mark" "House.lay_mark" eY t.i5 t.fB
 rG:Binds K t.fB [et] []
 Hq:OF K "diary" "House.diary" hX t.nV t.fE
 Hj:Binds K t.fE [et,zk] []
 ur:iM K t.fE [et,zk] [(.int<|0)]
 Ib:NC K "done" "House.done" jp t.pJ t.jJ
 xT:Binds K t.jJ [et,Pm,pq] []
 bX:mg Ri=some (.ref t.nT)
 bJ:NC K Ri Ri hJ t.nT t.iB
 bY:Binds K t.iB [ge,oZ] []
 zH:mg Ro=some (.ref t.rM)
 rY:NC K Ro Ro ku t.rM t.kZ
 z7:Binds K t.kZ [ff,oZ] []
 zG:mg Rp=some (.ref t.rL)
 rX:NC K Rp Rp kt t.rL t.kY
 z6:Binds K t.kY [nG] []
 Lb:mg "_law_run"=some (.ref t.wD)
 CP:NC K "_law_run" "_law_run" hI t.wD t.qj
 LI:Binds K t.qj [ff] []
 AZ:mg "_law_deed"=some (.ref t.tN)
 tQ:NC K "_law_deed" "_law_deed" mw t.tN t.nC
 Bx:Binds K t.nC [hW,jX,ff] []
 HA:mg Rl=some (.ref t.pe)
 xW:NC K Rl Rl i9 t.pe t.jw
 HC:Binds K t.jw [ge] []
 IZ:mg Rq=some (.ref t.rK)
 Ae:NC K Rq Rq kr t.rK t.kX
 Jp:Binds K t.kX [fx] []
 Ja:mg Rr=some (.ref t.rN)
 Af:NC K Rr Rr kx t.rN t.lg
 Jq:Binds K t.lg [fx,nG] []
 AY:mg "_law_page"=some (.ref t.tM)
 tP:NC K "_law_page" "_law_page" mq t.tM t.nB
 Bw:Binds K t.nB [nJ,hW,jX,ff,u5] []
 M7:mg "law"=some (.ref t.Kg)
 MR:NC K "law" "law" AC t.Kg t.DH
 Fc:Bt K t.aQ Pr
 ju:Bt K t.aQ rD
 cu:Bt K t.aQ u4
 bL:O9 K t.aQ
 vO:Mk K t.aQ t.lQ
 kh:XIs K t.aQ
 qd:PySem.W.kitOne K (.ref t.aQ) (.ref t.aQ)=some true
 HB:PySem.W.kitOne K (.ref t.aQ) (.ref t.dE)=some false
 jT:bN K t.aQ Rj t.kg
 K8:Bt K t.dE Pr
 qV:Bt K t.dE rD
 jS:Bt K t.dE u4
 iI:O9 K t.dE
 J0:Mk K t.dE t.wE
 lI:XIs K t.dE
 xN:PySem.W.kitOne K (.ref t.dE) (.ref t.aQ)=some false
 A9:PySem.W.kitOne K (.ref t.dE) (.ref t.dE)=some true
 mY:bN K t.dE Rj t.tO
 IP:Bt K t.cz Pr
 iu:Bt K t.cz rD
 iU:Bt K t.cz u4
 cK:O9 K t.cz
 MV:Mk K t.cz t.rW
 dQ:XIs K t.cz
 uo:PySem.W.kitOne K (.ref t.cz) (.ref t.aQ)=some false
 vV:PySem.W.kitOne K (.ref t.cz) (.ref t.dE)=some false
 jv:bN K t.cz Rj t.pK
 oV:Bt K t.bI "asked"
 cQ:Bt K t.bI Pp
 jt:Bt K t.bI "ahead"
 oU:Bt K t.bI "noted"
 dX:Bt K t.bI "closing"
 bx:O9 K t.bI
 MU:Mk K t.bI t.rS
 IU:bN K t.bI "read" t.rR
 Ew:bN K t.bI "in_piece" t.j8
 Fd:bN K t.bI "outcome" t.lP
 dZ:Bt K t.aW nj
 uk:Bt K t.aW "first"
 du:Bt K t.aW "rest"
 eB:Bt K t.aW "followed"
 fV:Bt K t.aW "copied"
 bW:Bt K t.aW z9
 aJ:O9 K t.aW
 LX:Mk K t.aW t.nY
 BN:bN K t.aW "open_page" t.gN
 BM:bN K t.aW "read_page" t.gM
 AW:bN K t.aW "close_page" t.gu
 sP:bN K t.aW "follow" t.j9
 Ag:bN K t.aW "follow_mark" t.fJ
 yp:bN K t.aW "follow_change" t.eL
 Gv:bN K t.aW "copy" t.nZ
 Ex:bN K t.aW "covers" t.kf
 m7:bN K t.aW "left" t.nW
 aB:Bt K t.bB hL
 aM:O9 K t.bB
 LW:Mk K t.bB t.nU
 Hy:bN K t.bB "add" t.pG
 Dm:bN K t.bB "discard" t.i4
 xL:bN K t.bB "has" t.pF
 Dl:bN K t.bB "from_on" t.iZ
 BL:bN K t.bB "down_from" t.gL
 c4:bN K t.bB "leaf_of" t.iY
 BK:bN K t.bB "part_leaf" t.gK
 mZ:bN K t.bB "join_small" t.gr
 xH:Bt K t.gj "made"
 Bp:O9 K t.gj
 Mz:Mk K t.gj t.pE
 Hx:bN K t.gj "note" t.pD
 aV:Bt K t.aY vm
 bR:Bt K t.aY Pf
 bH:Bt K t.aY RB
 aF:O9 K t.aY
 My:Mk K t.aY t.pB
 IS:bN K t.aY Rg t.rO
 Hw:bN K t.aY Pn t.pC
 IT:bN K t.aY "get" t.rQ
 zE:bN K t.aY "has" t.rP
 xK:bN K t.aY "rows" t.pA
 Hv:bN K t.aY "span" t.pj
 xJ:bN K t.aY "stop" t.pf
 fW:bN K t.aY "cell_of" t.j7
 Dk:bN K t.aY "lying_at" t.iX
 p8:bN K t.aY "move_slot" t.iJ
 qa:bN K t.aY "begin_row" t.iK
 kO:Bt K t.a6 "now"
 Gi:Bt K t.a6 Rz
 dt:Bt K t.a6 wG
 gB:Bt K t.a6 hL
 fS:Bt K t.a6 Rv
 ir:Bt K t.a6 RA
 xI:Bt K t.a6 "past"
 Er:Bt K t.a6 "holders"
 aP:O9 K t.a6
 MA:Mk K t.a6 t.pH
 IV:bN K t.a6 Rg t.rT
 Hz:bN K t.a6 Pn t.pI
 IW:bN K t.a6 "get" t.rV
 qY:bN K t.a6 "lay_mark" t.i5
 vS:bN K t.a6 "diary" t.nV
 xM:bN K t.a6 "done" t.pJ
 oT:Hn K t.gU nz (.ref t.jM)
 g_BITS:∃tk,mg "BITS"=some (.int 16 tk)
 g_PLACES:∃tk,mg "PLACES"=some (.int 65536 tk)
 g_STRETCHES_A_KEY:∃tk,mg "STRETCHES_A_KEY"=some (.int 4 tk)
 g_MOST_IN_LEAF:∃tk,mg "MOST_IN_LEAF"=some (.int 8 tk)
 g_LEAST_IN_TWO:∃tk,mg "LEAST_IN_TWO"=some (.int 5 tk)
 g_LEAST_SIZE:∃tk,mg "LEAST_SIZE"=some (.int 4 tk)
 g_GREATEST_SIZE:∃tk,mg "GREATEST_SIZE"=some (.int 256 tk)
 M1:mg Rb=none
 Fk:mg zm=none
 M3:mg Po=none
 dB:mg wy=none
 bS:mg "len"=none
 M0:mg gs=none
 Fj:mg "max"=none
 Aj:mg "min"=none
 iN:mg o0=none
 Kn:mg Rm=none
 L4:mg Pu=none
def Ee:ar [Pl,Rx,"rest","step"] [Pl] (ak vi):=NB
def Ci:ar [eH] [eH] (ak sv):=NB
def AA:ar [eH] [eH] (ak pU):=NB
def Cg:ar [eH,sD] [eH,sD] (ak sr):=NB
def xa:ar [Rt,sD,zk] [Rt,sD] (ak kq):=NB
def Ch:ar [wF,sD] [wF,sD] (ak ss):=NB
def AB:ar [Py] [Py] (ak pV):=NB
def Cl:ar [Py,zk] [Py,zk] (ak sC):=NB
def uY:ar [et,Pr,rD,u4] [et,Pr,rD,u4] (ak jc):=NB
def Nb:ar [et,rD,u4] [et,rD,u4] (ak gx):=NB
def qG:ar [et,eH] [et,eH] (ak fP):=NB
def Nz:ar [et,rD,u4] [et,rD,u4] (ak pW):=NB
def zl:ar [et,eH] [et,eH] (ak mB):=NB
def Nn:ar [et,rD,u4] [et,rD,u4] (ak kH):=NB
def vh:ar [et,eH] [et,eH] (ak jq):=NB
def Oj:ar [nj,eR,gt,"sieve",z9] [nj,eR,gt,"sieve"] (ak FM):=NB
def Nc:ar [wG,eR,gt,"rows",Pw,"gone","stop"] [wG,eR,gt] (ak gv):=NB
def t7:ar [nj,eR,gt,z9] [nj,eR,gt] (ak eQ):=NB
def Nh:ar [hL,eR,gt,wb,"held",z9] [hL,eR,gt] (ak eS):=NB
def zg:ar [hL,eR,wb] [hL,eR,wb] (ak mj):=NB
def tZ:ar [eR,eH] [eR,eH] (ak g9):=NB
def FK:ar [eR,gt] [eR,gt] (ak qH):=NB
def FL:ar [eR,"j",gt] [eR,"j",gt] (ak zo):=NB
def Cj:ar [eR,eH] [eR,eH] (ak sw):=NB
def Ef:ar [vm,Pm] [vm,Pm] (ak vj):=NB
def xo:ar [et,eR] [et,eR] (ak kE):=NB
def xn:ar [et,nj,gt,"answer"] [et,nj,gt] (ak kD):=NB
def qD:ar [et,eH] [et,eH] (ak fL):=NB
def sk:ar [et,vm,Pm] [et] (ak gw):=NB
def Nf:ar [et,nj,eR,Ru] [et,nj,eR,Ru] (ak ie):=NB
def mi:ar [et] [et] (ak dH):=NB
def NS:ar [et,gt,z9] [et,gt] (ak dG):=NB
def lV:ar [et,z9] [et] (ak dn):=NB
def qE:ar [et,"steps","rows",Pm] [et,"steps"] (ak fN):=NB
def ko:ar [et,Pl,z9] [et,Pl] (ak cR):=NB
def i8:ar [et,Pm,eH,z9] [et,Pm] (ak cr):=NB
def uc:ar [et] [et] (ak ig):=NB
def qF:ar [et,eH] [et,eH] (ak fO):=NB
def ub:ar [et] [et] (ak hZ):=NB
def ua:ar [et] [et] (ak hV):=NB
def vd:ar [et,eH,rD,"leaf"] [et,eH] (ak gf):=NB
def pS:ar [et,eH,rD] [et,eH] (ak eV):=NB
def vc:ar [et,eH,rD] [et,eH] (ak ji):=NB
def NX:ar [et,eH,wb,Rx,rD] [et,eH,wb] (ak cW):=NB
def NT:ar [et,eH,wb,Rx,rD] [et,eH,wb] (ak b9):=NB
def pR:ar [et,eH,zk,Rh,"middle"] [et,eH] (ak eU):=NB
def mh:ar [et,rD,"leaf","middle"] [et,rD] (ak dF):=NB
def lU:ar [et,rD,"both"] [et,rD] (ak dj):=NB
def vb:ar [et] [et] (ak jh):=NB
def va:ar [et,"moment",pq] [et,"moment",pq] (ak jg):=NB
def zh:ar [sD] [sD] (ak iR):=NB
def u8:ar [et] [et] (ak je):=NB
def xj:ar [et,eH,pq,"cell"] [et,eH,pq] (ak kA):=NB
def u9:ar [et,eH] [et,eH] (ak jf):=NB
def xl:ar [et,eH,"cell"] [et,eH] (ak kC):=NB
def xk:ar [et,eH] [et,eH] (ak kB):=NB
def u7:ar [et] [et] (ak gd):=NB
def u0:ar [et,zk,Rh,Pp,Pw,u4,Rs] [et,zk,Rh] (ak dN):=NB
def uZ:ar [et,wF,sD] [et,wF] (ak jd):=NB
def qC:ar [et,eH,"old",Rt,"new"] [et,eH] (ak fK):=NB
def pQ:ar [et,wF,sD,Pp,Pm,Rt,eH,pq] [et,wF] (ak eT):=NB
def oI:ar [et,"old","new",eH,pq] [et] (ak d9):=NB
def oJ:ar [et,sD] [et] (ak eh):=NB
def ve:ar [et] [et] (ak jj):=NB
def xp:ar [et,eH,pq] [et,eH,pq] (ak kF):=NB
def vf:ar [et,eH] [et,eH] (ak jo):=NB
def xq:ar [et,eH] [et,eH] (ak kG):=NB
def pT:ar [et] [et] (ak eY):=NB
def Ng:ar [et,zk] [et,zk] (ak hX):=NB
def vg:ar [et,Pm,pq,eH] [et,Pm,pq] (ak jp):=NB
def t9:ar [ge,oZ] [ge,oZ] (ak hJ):=NB
def xg:ar [ff,oZ,v7] [ff,oZ] (ak ku):=NB
def xf:ar [nG,"_law_mark"] [nG] (ak kt):=NB
def NA:ar [ff,K',v7,Pz,Pq] [ff] (ak hI):=NB
def zj:ar [hW,jX,ff,"_law_keys",oZ,xU] [hW,jX,ff] (ak mw):=NB
def uX:ar [ge,v7,ff,"_law_low"] [ge] (ak i9):=NB
def xb:ar [fx] [fx] (ak kr):=NB
def xh:ar [fx,nG] [fx,nG] (ak kx):=NB
def zi:ar [nJ,hW,jX,ff,u5] [nJ,hW,jX,ff,u5] (ak mq):=NB
def OV:ar [ge,hW,jX,fx,u5,x5,ff,O',nJ,oZ,nG,xU,P'] [ge] (ak AC):=NB
def Sc:V->Prop
 | .non=>True| .bl _=>True| .int _=>True| .str _=>True|_=>False
def T0(z:Int):Sc (.int z):=VU
noncomputable def isW:V->Bool
 | .int _=>true|_=>false
def Fr(F F':RE)(H H':Hp):Prop:=∀b o,¬F b->H b=some o->H' b=some o/\¬F' b
def Fr.refl:Fr F F H H:=λ_ _ n e=>⟨e,n⟩
def Fr.trans{z:RE}{H'':Hp}(x:Fr F F' H H')(y:Fr F' z H' H''):Fr F z H H'':=λb o n e=>y b o (x b o n e).2 (x b o n e).1
def Fr.of_same(s:Ck H H'):Fr F F H H':=λb o n e=>{s b o e,n}
noncomputable def az(kv:RH):List (Key×V):=kv.map λp=>(Sum.inl p.1,p.2)
def M9{kv:RH}:ay (az kv) (Sum.inl k:Key)=ay kv k:=by
 induction kv with
 |nil=>rfl
 |cons p r G=>
  show ay ((Sum.inl p.1,p.2)::az r) (Sum.inl k:Key)=_;by_cases e:p.1=k
  .rw[bn e,bn (by show(Sum.inl p.1:Key)=_;rw[e])]
  .rw[bh e,bh (by show ¬(Sum.inl p.1:Key)=_;exact λz=>e<|Sum.inl.inj z),G]
def EC{kv:RH}:((az kv).any λx=>decide (x.1=(Sum.inl k:Key)))=kv.any λx=>decide (x.1=k):=by
 rw[dh,dh,M9]
def cw{kv:RH}:bf (az kv) (Sum.inl k:Key) v=az (bf kv k v):=by
 unfold bf;rw[EC];by_cases c:(kv.any λx=>decide (x.1=k))=true
 .rw[VA c,VA c];unfold az;rw[QP,QP];refine Zw λp _=>?_;show(if(Sum.inl p.1:Key)=Sum.inl k then _ else _)=_;by_cases e:p.1=k
  .rw[VA (by rw[e])];simp[e]
  .rw[Vz λz=>e (Sum.inl.inj z)];simp[e]
 .rw[Vz c,Vz c];unfold az;rw[Q9];rfl
def qb{kv:RH}:bG (az kv) (Sum.inl k:Key)=az (bG kv k):=by
 unfold bG az;rw[List.filter_map];congr 1;refine Vc λp _=>?_;show decide ((Sum.inl p.1:Key)≠Sum.inl k)=_;by_cases e:p.1=k
 .rw[e];simp
 .have:¬(Sum.inl p.1:Key)=Sum.inl k:=λz=>e (Sum.inl.inj z);simp[e,this]
def a8{kv:RH}:(az kv).length=kv.length:=Q0 _
def mJ{f:Str}{v:V}:∀fs:List (Str×V),(bD f v fs).length<=fs.length+1
 | []=>Q4 _
 |(g,x)::r=>by
  rw[bD];split
  .rw[Qr,Qr];lia
  .have:=mJ (f:=f) (v:=v) r;rw[Qr,Qr];lia
section
variable{κ:Type}[DecidableEq κ]{kv:List (κ×V)}{k j:κ}
def eF:∀{kv:List (κ×V)},ay (bG kv k) j=if j=k then none else ay kv j
 | []=>by
  show ay ([]:List (κ×V)) j=_;rw[jO];split<;>rfl
 |p::r=>by
  by_cases e:p.1=k
  .rw[sU e,eF];by_cases z:j=k
   .rw[VA z,VA z]
   .rw[Vz z,Vz z,bh λy=>z (y.symm.trans e)]
  .rw[oz e];by_cases y:p.1=j
   .rw[bn y,bn y,Vz λz=>e (y.trans z)]
   .rw[bh y,bh y,eF]
def HM:∀{kv:List (κ×V)},k∈kv.map (·.1)↔(ay kv k).isSome=true
 | []=>by simp[jO]
 |p::r=>by
  by_cases e:p.1=k
  .rw[bn e];simp[e]
  .rw[bh e,<-HM];simp[Ne.symm e]
def rc:(bf kv k v).map (·.1)=if(ay kv k).isSome=true then kv.map (·.1)else kv.map (·.1)++ [k]:=by
 unfold bf;rw[dh];by_cases c:(ay kv k).isSome=true
 .rw[VA c,VA c,QP];refine Zw λp _=>?_;show(if p.1=k then(p.1,v)else p).1=p.1;split<;>rfl
 .rw[Vz c,Vz c,Q9];rfl
def vJ(h:(kv.map (·.1)).Nodup):((bf kv k v).map (·.1)).Nodup:=by
 cases e:ay kv k with
 |none=>exact IM v h e
 |some x=>rwa[rc,e]
def gl:∀{l S:List κ},l.Nodup->(∀x∈l,x∈S)->l.length<=S.length
 | [],_,_,_=>Qf _
 |x::xs,S,hn,hs=>by
  let{h1,h2}:=QR.mp hn;let hx:x∈S:=hs x Qa;have:=gl (S:=S.erase x) h2 λy hy=>(List.mem_erase_of_ne λz=>h1<|by rwa[<-z]).mpr (hs y<|Qd _ hy);rw[List.length_erase_of_mem hx]at this;have:=List.length_pos_of_mem hx;rw[Qr];lia
def ME{S:List κ}(z:(kv.map (·.1)).Nodup)(hs:∀x∈kv.map (·.1),x∈S):kv.length<=S.length:=by
 have:=gl z hs;rwa [Q0]at this
end
def P1(K:Wp)(F:RE)(H:Hp)(a:RC)(xs:RG):Prop:=(Rd H a (.lst xs)/\¬F a)\/∀H',DI K H' a xs
def P1.sq(h:P1 K F H a xs):DI K H a xs:=by
 rcases h with h|h
 .exact .inl h.1
 .exact h H
def P1.of(h:DI K H a xs)(n:∀o,H a=some o->¬F a):P1 K F H a xs:=by
 rcases h with h|h
 .rcases h with h|⟨o,h⟩
  .exact .inl {.inl h,n _ h}
  .exact .inl {.inr ⟨o,h⟩,n _ h}
 .exact .inr λ_=> .inr h
def P1.fr(h:P1 K F H a xs)(f:Fr F F' H H'):P1 K F' H' a xs:=by
 rcases h with⟨h,n⟩|h
 .rcases h with h|⟨o,h⟩
  .exact .inl {.inl (f _ _ n h).1,(f _ _ n h).2}
  .exact .inl {.inr {o,(f _ _ n h).1},(f _ _ n h).2}
 .exact .inr h
structure Hm where
 kv:List (Int×V)
 size:Int
 nxt:Option Int
 mv:Int
noncomputable def Hm.new:Hm:={[],4,none,0}
noncomputable def Hm.one(s:Hm):Hm:=match s.nxt with
 |none=>s
 |some m=>if s.mv+1=s.size then{s with size:=m,nxt:=none,mv:=0}else{s with mv:=s.mv+1}
noncomputable def Hm.three(s:Hm):Hm:=match s.nxt with
 |some _=>s
 |none=>if s.size<(s.kv.length:Int)/\s.size<256 then{s with nxt:=some (2*s.size),mv:=0}else if 4*(s.kv.length:Int)<s.size/\4<s.size then{s with nxt:=some (s.size/2),mv:=0}else s
def Hm.put(s:Hm)(k:Int)(v:V):Hm:=Hm.three {s.one with kv:=bf s.kv k v}
def Hm.drop(s:Hm)(k:Int):Hm:=Hm.three {s.one with kv:=bG s.kv k}
noncomputable def Hm.rows(s:Hm):List Int:=match s.nxt with
 |none=> [s.size]
 |some m=> [s.size,m]
noncomputable def Hm.moved(s:Hm):Int:=match s.nxt with
 |none=>0
 |some _=>s.mv
structure OM where
 tb:Addr
 r0:Addr
 r1:Addr
 A0:List Addr
 A1:List Addr
 C0:List (List<|Int×V)
 C1:List (List<|Int×V)
 n:Int
noncomputable def Nt(tb:RC)(sh n:Int):List (Str×V):=[(vm,.ref tb),(Pf,.int sh),(RB,.int n)]
def gi{k:Str}{r:RW}:((k,v)::r).lookup k=some v:=by
 let hb:(k==k)=true:=VN.mpr M;simp only[List.lookup,hb]
def bF{k m:Str}{r:RW}(h:m≠k):((k,v)::r).lookup m=r.lookup m:=by
 let hb:(m==k)=false:=VR.mpr h;simp only[List.lookup,hb]
section
variable{tb':RC}{sh sh' n n':Int}{m:Str}
def iQ:(Nt tb sh n).lookup (vm:Str)=some (.ref tb):=gi
def Az:(Nt tb sh n).lookup (Pf:Str)=some (.int sh):=by unfold Nt;rw[bF ∅,gi]
def qA:(Nt tb sh n).lookup (RB:Str)=some (.int n):=by unfold Nt;rw[bF ∅,bF ∅,gi]
def NoM(m:Str):Prop:=m≠(vm:Str)/\m≠(Pf:Str)/\m≠(RB:Str)
instance:Decidable (NoM m):=by unfold NoM;infer_instance
def JR(h:NoM m):(Nt tb sh n).lookup m=none:=by unfold Nt;rw[bF h.1,bF h.2.1,bF h.2.2];rfl
def Ms:bD (vm:Str) (.ref tb') (Nt tb sh n)=Nt tb' sh n:=by unfold Nt;rw[bD,VA M]
def JV:bD (Pf:Str) (.int sh') (Nt tb sh n)=Nt tb sh' n:=by unfold Nt;rw[bD,Vz ∅,bD,VA M]
def JW:bD (RB:Str) (.int n') (Nt tb sh n)=Nt tb sh n':=by unfold Nt;rw[bD,Vz ∅,bD,Vz ∅,bD,VA M]
def qz:(Nt tb sh n).length<1000:=by show 3<1000;decide
end
structure N7(H:Hp)(r:RC)(A:RQ)(C:List (List<|Int×V))(sz:Int):Prop where
 lst:H r=some (.lst<|A.map V.ref)
 la:(A.length:Int)=sz
 lc:(C.length:Int)=sz
 cell:∀(j:Nat)(b:RC)(kv:RH),A[j]?=some b->C[j]?=some kv->H b=some (.dK<|az kv)
 ndk:∀(j:Nat)(kv:RH),C[j]?=some kv->(kv.map (·.1)).Nodup
 inj:∀(i j:Nat)(b:RC),A[i]?=some b->A[j]?=some b->i=j
 home:∀(j:Nat)(kv:RH),C[j]?=some kv->∀p∈kv,p.1%65536%sz=(j:Int)
def N7.has{C:List (List<|Int×V)}{sz:Int}(h:N7 H r A C sz)(hb:b∈A):∃(j:Nat)(kv:RH),A[j]?=some b/\C[j]?=some kv/\H b=some (.dK<|az kv):=by
 let{j,G,e}:=QC hb;let hc:j<C.length:=by have:=h.la;have:=h.lc;lia
 let z:A[j]?=some b:=by rw[Q3 G,e]
 let e2:C[j]?=some C[j]:=Q3 hc;exact{j,C[j],z,e2,h.cell j b _ z e2}
def N7.frame{C:List (List<|Int×V)}{sz:Int}(h:N7 H r A C sz)(f:∀b,b=r\/b∈A->H' b=H b):N7 H' r A C sz:=
 {by rw[f r (.inl M)];exact h.lst,h.la,h.lc,λj b kv z e2=>by rw[f b (.inr<|Q2 z)];exact h.cell j b kv z e2,h.ndk,h.inj,h.home}
def N7.notr{C:List (List<|Int×V)}{sz:Int}(h:N7 H r A C sz)(hb:b∈A){x:RC}(e:H x=some o)(ne:∀kvs,o≠ .dK kvs):b≠x:=λz=>by
 let{j,kv,_,_,q}:=h.has hb;rw[z,e]at q;cases q;exact ne _ M
def N7.set{C:List (List<|Int×V)}{sz:Int}(h:N7 H r A C sz)(I:A[j]?=some c)(nd:(kv'.map (·.1)).Nodup)(O:∀p∈kv',p.1%65536%sz=(j:Int)):
  N7 (upd H c<|.dK<|az kv') r A (C.set j kv') sz:=by
 let hc:r≠c:=(h.notr (Q2 I) h.lst<|λ_ z=>by cases z).symm;refine{by rw[ae hc];exact h.lst,h.la,by rw[QJ];exact h.lc,λi b kv G e2=>?_,λi kv e=>?_,h.inj,λi kv e=>?_}
 .rw[Qs]at e2;by_cases z:j=i
  .subst z;rw[I]at G;cases G;rw[VA M]at e2;split at e2
   .cases e2;exact ai
   .cases e2
  .rw[Vz z]at e2;rw[ae λy=>z (h.inj j i c I<|by rwa[<-y])];exact h.cell i b kv G e2
 .rw[Qs]at e;by_cases z:j=i
  .rw[VA z]at e;split at e
   .cases e;exact nd
   .cases e
  .rw[Vz z]at e;exact h.ndk i kv e
 .rw[Qs]at e;by_cases z:j=i
  .subst z;rw[VA M]at e;split at e
   .cases e;exact O
   .cases e
  .rw[Vz z]at e;exact h.home i kv e
def No(a:RC)(st:Hm)(d:OM):Addr->Prop:=λb=>b=a\/b=d.tb\/b=d.r0\/b∈d.A0\/(st.nxt.isSome=true/\b=d.r1)\/b∈d.A1
def IsCell(d:OM)(st:Hm)(k:Int)(c:RC)(kv:RH):Prop:=
 (st.moved<=k%65536%st.size/\d.A0[(k%65536%st.size).toNat]?=some c/\d.C0[(k%65536%st.size).toNat]?=some kv)\/
 (∃m,st.nxt=some m/\k%65536%st.size<st.moved/\d.A1[(k%65536%m).toNat]?=some c/\d.C1[(k%65536%m).toNat]?=some kv)
structure N9(st:Hm):Prop where
 pw:st.size∈([4,8,16,32,64,128,256]:RF)
 nx:∀m,st.nxt=some m->m∈([4,8,16,32,64,128,256]:RF)/\0<=st.mv/\st.mv<st.size/\(m=2*st.size\/2*m=st.size)
def mG{x:Int}(h:x∈([4,8,16,32,64,128,256]:List Int)):x=4\/x=8\/x=16\/x=32\/x=64\/x=128\/x=256:=by simpa using h
def bO{x:Int}(h:x∈([4,8,16,32,64,128,256]:List Int)):4<=x/\x<=256:=by
 rcases mG h with h|h|h|h|h|h|h<;>lia
structure NR(t:N6)(H:Hp)(a:RC)(st:Hm)(d:OM):Prop where
 obj:∃dx,H a=some (.ins t.aY dx<|Nt d.tb st.moved d.n)
 tbl:H d.tb=some (.lst<|match st.nxt with|none=> [.ref d.r0]|some _=> [.ref d.r0,.ref d.r1])
 row0:N7 H d.r0 d.A0 d.C0 st.size
 row1:match st.nxt with|none=>d.A1=[]/\d.C1=[]|some m=>N7 H d.r1 d.A1 d.C1 m
 dis:∀b,b∈d.A0->b∉d.A1
 tr:d.tb≠d.r0
 tr1:st.nxt.isSome=true->d.tb≠d.r1/\d.r0≠d.r1
 old:∀(j:Nat)(kv:RH),d.C0[j]?=some kv->(j:Int)<st.moved->kv=[]
 new:∀(j:Nat)(kv:RH),d.C1[j]?=some kv->∀p∈kv,p.1%65536%st.size<st.moved
 val:∀(k:Int)(c:RC)(kv:RH),IsCell d st k c kv->ay kv k=ay st.kv k
section
variable{d:OM}
def NR.frame(h:NR t H a st d)(f:∀b,No a st d b->H' b=H b):NR t H' a st d:=by
 let{dx,z}:=h.obj;refine{{dx,by rwa[f a (.inl M)]},by rw[f d.tb (.inr<|.inl M)];exact h.tbl,h.row0.frame λb hb=>f b ?_,?_,h.dis,h.tr,h.tr1,h.old,h.new,h.val}
 .rcases hb with hb|hb
  .exact .inr<|.inr (.inl hb)
  .exact .inr<|.inr (.inr<|.inl hb)
 .let r1:=h.row1;let G:=f;unfold No at G;cases e:st.nxt with
  |none=>rw[e]at r1;exact r1
  |some m=>
   rw[e]at r1;refine N7.frame (H:=H) r1 λb hb=>f b ?_;unfold No;rw[e];rcases hb with hb|hb
   .exact .inr<|.inr (.inr<|.inr<|.inl ⟨M,hb⟩)
   .exact .inr<|.inr (.inr<|.inr<|.inr hb)
def NR.dom(h:NR t H a st d)(hb:No a st d b):∃o,H b=some o:=by
 let{dx,z}:=h.obj;rcases hb with rfl|rfl|rfl|hb|⟨hs,rfl⟩|hb
 .exact{_,z}
 .exact{_,h.tbl}
 .exact{_,h.row0.lst}
 .let{_,_,_,_,q}:=h.row0.has hb;exact{_,q}
 .let r1:=h.row1;cases e:st.nxt with
  |none=>rw[e]at hs;cases hs
  |some m=>rw[e]at r1;exact{_,r1.lst}
 .let r1:=h.row1;cases e:st.nxt with
  |none=>rw[e]at r1;rw[r1.1]at hb;cases hb
  |some m=>rw[e]at r1;let{_,_,_,_,q}:=r1.has hb;exact{_,q}
def NR.at(h:NR t H a st d){kv:RH}(G:IsCell d st k c kv):H c=some (.dK<|az kv)/\No a st d c/\(kv.map (·.1)).Nodup:=by
 rcases G with⟨_,z,e2⟩|⟨m,I,_,z,e2⟩
 .exact{h.row0.cell _ _ _ z e2,.inr<|.inr<|.inr<|.inl<|Q2 z,h.row0.ndk _ _ e2}
 .let r1:=h.row1;rw[I]at r1;exact{r1.cell _ _ _ z e2,.inr<|.inr<|.inr<|.inr<|.inr<|Q2 z,r1.ndk _ _ e2}
def sO(z:4<=m):0<=k%65536%m/\k%65536%m<m/\((k%65536%m).toNat:Int)=k%65536%m:=by
 let h1:=Qg (k%65536) (show m≠0 by lia);let h2:=Qk (k%65536) (show 0<m by lia);exact{h1,h2,Xm h1}
def dI{l:List α}{z:Int}(G:0<=z)(h1:z<(l.length:Int)):∃x,l[z.toNat]?=some x:={l[z.toNat]'(),Q3 ()}
def NR.cell(h:NR t H a st d)(z:N9 st)(k:Int):∃c kv,IsCell d st k c kv:=by
 let{s4,_}:=bO z.pw;let{I,O,m2}:=sO (k:=k) s4;by_cases c:st.moved<=k%65536%st.size
 .let{x,G}:=dI (l:=d.A0) I (by rwa[h.row0.la]);let{y,e2}:=dI (l:=d.C0) I (by rwa[h.row0.lc]);exact{x,y,.inl ⟨c,G,e2⟩}
 .cases e:st.nxt with
  |none=>
   exfalso;have:st.moved=0:=by unfold Hm.moved;rw[e]
   lia
  |some m=>
   let{Z,_}:=z.nx m e;let{s5,_}:=bO Z;let{U,Y,n2}:=sO (k:=k) s5;let r1:=h.row1;rw[e]at r1;let{x,G}:=dI (l:=d.A1) U (by rwa[r1.la]);let{y,e2}:=dI (l:=d.C1) U (by rwa[r1.lc]);exact{x,y,.inr {m,e,(),G,e2}}
def IsCell.uniq{U:RC}{kv:RH}(x:IsCell d st k c kv)(y:IsCell d st k U kv'):c=U/\kv=kv':=by
 rcases x with⟨Y,O,e2⟩|⟨m,Z,Y,O,e2⟩<;>rcases y with⟨g0,z,G⟩|⟨m',I,g0,z,G⟩
 .rw[O]at z;rw[e2]at G;cases z;cases G;exact⟨M,M⟩
 .lia
 .lia
 .rw[Z]at I;cases I;rw[O]at z;rw[e2]at G;cases z;cases G;exact⟨M,M⟩
def NR.setN(h:NR t H a st d){n:Int}:NR t (upd H a<|.ins t.aY dx<|Nt d.tb st.moved n) a st {d with n:=n}:=by
 let{O,G}:=h.obj;let I:d.tb≠a:=cM h.tbl G (by intro z;cases z);refine{⟨dx,ai⟩,by show upd H a _ d.tb=_;rw[ae I];exact h.tbl,h.row0.frame λb hb=>ae ?_,?_,h.dis,h.tr,h.tr1,h.old,h.new,h.val}
 .rcases hb with rfl|hb
  .exact cM h.row0.lst G<|by intro z;cases z
  .exact h.row0.notr hb G<|λ_ z=>by cases z
 .let r1:=h.row1;cases e:st.nxt with
  |none=>rw[e]at r1;exact r1
  |some m=>
   rw[e]at r1;refine N7.frame (H:=H) r1 λb hb=>ae ?_;rcases hb with rfl|hb
   .exact cM r1.lst G<|by intro z;cases z
   .exact r1.notr hb G<|λ_ z=>by cases z
def NR.setCell(h:NR t H a st d)(z:N9 st){kv kvs:RH}(ic:IsCell d st k c kv)(nd:(kv'.map (·.1)).Nodup)(hm:∀p∈kv',p∈kv\/p.1=k)
  (hk:ay kv' k=ay kvs k) (ho:∀j,j≠k->ay kv' j=ay kv j/\ay kvs j=ay st.kv j):
  ∃d',NR t (upd H c<|.dK<|az kv') a {st with kv:=kvs} d'/\d'.n=d.n/\∀b,No a {st with kv:=kvs} d' b↔No a st d b:=by
 let{hc,hf,_}:=h.at ic;let{dx,a1}:=h.obj;let{s4,_}:=bO z.pw;let{m0,m1,m2}:=sO (k:=k) s4;let na:a≠c:=cM a1 hc (by intro z;cases z);let nt:d.tb≠c:=cM h.tbl hc (by intro z;cases z);let nr:d.r0≠c:=cM h.row0.lst hc (by intro z;cases z);let a0:∀(d':OM)(j:Int)(b:RC)(x:RH),IsCell d' {st with kv:=kvs} j b x->(∀y,IsCell d st j b y->(x=y/\b≠c)\/(x=kv'/\y=kv))->(∃y,IsCell d st j b y)->ay x j=ay kvs j:=λd' j b x hx f ⟨y,hy⟩=>by
  by_cases e:j=k
  .subst e;let{rfl,rfl}:=IsCell.uniq hy ic;rcases f y hy with⟨_,z⟩|⟨rfl,_⟩
   .exact VE M z
   .exact hk
  .rw[(ho j e).2];rcases f y hy with⟨rfl,_⟩|⟨rfl,rfl⟩
   .exact h.val j b x hy
   .rw[(ho j e).1];exact h.val j b y hy
 rcases ic with⟨h0,e1,e2⟩|⟨m,em,h0,e1,e2⟩
 .let Y:c∈d.A0:=Q2 e1;let Z:∀p∈kv',p.1%65536%st.size=((k%65536%st.size).toNat:Int):=λp hp=>by
   rcases hm p hp with q|q
   .exact h.row0.home _ _ e2 p q
   .rw[q,m2]
  refine⟨{d with C0:=d.C0.set (k%65536%st.size).toNat kv'},{{dx,by rwa[ae na]},by show upd H c _ d.tb=_;rw[ae nt];exact h.tbl,h.row0.set e1 nd Z,?_,h.dis,h.tr,h.tr1,λj x e lt=>?_,h.new,λj b x hx=>?_},M,λb=>Iff.rfl⟩
  .let r1:=h.row1;show match st.nxt with|none=>_|some m=>_
   cases e:st.nxt with
   |none=>rw[e]at r1;exact r1
   |some m=>
    rw[e]at r1;refine N7.frame (H:=H) r1 λb hb=>ae ?_;rcases hb with rfl|hb
    .exact cM r1.lst hc<|by intro z;cases z
    .exact λy=>h.dis c Y (y▸hb)
  .let e:(d.C0.set (k%65536%st.size).toNat kv')[j]?=some x:=e;let lt:(j:Int)<st.moved:=lt;rw[Qs]at e;by_cases q:(k%65536%st.size).toNat=j
   .exfalso;lia
   .rw[Vz q]at e;exact h.old j x e lt
  .refine a0 _ j b x hx (λy hy=>?_) ?_
   .rcases hx with⟨U,G,O⟩|⟨m',I,U,G,O⟩
    .let O:(d.C0.set (k%65536%st.size).toNat kv')[(j%65536%st.size).toNat]?=some x:=O;let G:d.A0[(j%65536%st.size).toNat]?=some b:=G;let U:st.moved<=j%65536%st.size:=U;rcases hy with⟨_,y1,y2⟩|⟨_,_,y0,_,_⟩
     .rw[Qs]at O;by_cases q:(k%65536%st.size).toNat=(j%65536%st.size).toNat
      .rw[VA q]at O;split at O
       .cases O;rw[<-q,e2]at y2;cases y2;exact .inr ⟨M,M⟩
       .cases O
      .rw[Vz q,y2]at O;cases O;exact .inl {M,λw=>q<|h.row0.inj _ _ c e1 (by rwa[<-w])}
     .lia
    .let G:d.A1[(j%65536%m').toNat]?=some b:=G;let O:d.C1[(j%65536%m').toNat]?=some x:=O;let U:j%65536%st.size<st.moved:=U;let I:st.nxt=some m':=I;rcases hy with⟨y0,_,_⟩|⟨m2,e3,y0,y1,y2⟩
     .lia
     .rw[I]at e3;cases e3;rw[O]at y2;cases y2;exact .inl {M,λw=>h.dis c Y<|w▸Q2 G}
   .let{b',y,hy}:=h.cell z j;have:b'=b:=by
     rcases hx with⟨U,G,O⟩|⟨m',I,U,G,O⟩<;>rcases hy with⟨y0,y1,y2⟩|⟨m3,e3,y0,y1,y2⟩
     .let G:d.A0[(j%65536%st.size).toNat]?=some b:=G;rw[y1]at G;exact VB G
     .let U:st.moved<=j%65536%st.size:=U;lia
     .let U:j%65536%st.size<st.moved:=U;lia
     .let I:st.nxt=some m':=I;rw[I]at e3;cases e3;let G:d.A1[(j%65536%m').toNat]?=some b:=G;rw[y1]at G;exact VB G
    subst this;exact⟨y,hy⟩
 .let r1:=h.row1;rw[em]at r1;let Y:c∈d.A1:=Q2 e1;let{pm,_}:=z.nx m em;let{s5,_}:=bO pm;let{n0,n1,n2}:=sO (k:=k) s5;let Z:∀p∈kv',p.1%65536%m=((k%65536%m).toNat:Int):=λp hp=>by
   rcases hm p hp with q|q
   .exact r1.home _ _ e2 p q
   .rw[q,n2]
  refine⟨{d with C1:=d.C1.set (k%65536%m).toNat kv'},{{dx,by rwa[ae na]},by show upd H c _ d.tb=_;rw[ae nt];exact h.tbl,h.row0.frame λb hb=>ae ?_,?_,h.dis,h.tr,h.tr1,h.old,λj x e p hp=>?_,λj b x hx=>?_},M,λb=>Iff.rfl⟩
  .rcases hb with rfl|hb
   .exact nr
   .exact λy=>h.dis b hb (y▸Y)
  .show match st.nxt with|none=>_|some m=>_
   rw[em];exact r1.set e1 nd Z
  .let e:(d.C1.set (k%65536%m).toNat kv')[j]?=some x:=e;show p.1%65536%st.size<st.moved;rw[Qs]at e;by_cases q:(k%65536%m).toNat=j
   .rw[VA q]at e;split at e
    .cases e;rcases hm p hp with q|q
     .exact h.new _ _ e2 p q
     .rwa[q]
    .cases e
   .rw[Vz q]at e;exact h.new j x e p hp
  .refine a0 _ j b x hx (λy hy=>?_) ?_
   .rcases hx with⟨U,G,O⟩|⟨m',I,U,G,O⟩
    .let G:d.A0[(j%65536%st.size).toNat]?=some b:=G;let O:d.C0[(j%65536%st.size).toNat]?=some x:=O;let U:st.moved<=j%65536%st.size:=U;rcases hy with⟨_,y1,y2⟩|⟨_,_,y0,_,_⟩
     .rw[O]at y2;cases y2;exact .inl {M,λw=>h.dis b (Q2 G)<|w▸Y}
     .lia
    .let I:st.nxt=some m':=I;rw[em]at I;cases I;let O:(d.C1.set (k%65536%m).toNat kv')[(j%65536%m).toNat]?=some x:=O;let G:d.A1[(j%65536%m).toNat]?=some b:=G;let U:j%65536%st.size<st.moved:=U;rcases hy with⟨y0,_,_⟩|⟨m2,e3,y0,y1,y2⟩
     .lia
     .rw[em]at e3;cases e3;rw[Qs]at O;by_cases q:(k%65536%m).toNat=(j%65536%m).toNat
      .rw[VA q]at O;split at O
       .cases O;rw[<-q,e2]at y2;cases y2;exact .inr ⟨M,M⟩
       .cases O
      .rw[Vz q,y2]at O;cases O;exact .inl {M,λw=>q<|r1.inj _ _ c e1 (by rwa[<-w])}
   .let{b',y,hy}:=h.cell z j;have:b'=b:=by
     rcases hx with⟨U,G,O⟩|⟨m',I,U,G,O⟩<;>rcases hy with⟨y0,y1,y2⟩|⟨m3,e3,y0,y1,y2⟩
     .let G:d.A0[(j%65536%st.size).toNat]?=some b:=G;rw[y1]at G;exact VB G
     .let U:st.moved<=j%65536%st.size:=U;lia
     .let U:j%65536%st.size<st.moved:=U;lia
     .let I:st.nxt=some m':=I;rw[I]at e3;cases e3;let G:d.A1[(j%65536%m').toNat]?=some b:=G;rw[y1]at G;exact VB G
    subst this;exact⟨y,hy⟩
end
def vQ{kv:RH}{p:Int×V}(h:p∈bf kv k v):p∈kv\/p.1=k:=by
 unfold bf at h;split at h
 .let{q,hq,e}:=Qe.mp h;by_cases z:q.1=k
  .rw[VA z]at e;rw[<-e];exact .inr z
  .rw[Vz z]at e;rw[<-e];exact .inl hq
 .rcases Q5.mp h with h|h
  .exact .inl h
  .rw[Q7.mp h];exact .inr M
def IQ{kv:RH}{p:Int×V}(h:p∈kv):(ay kv p.1).isSome=true:=HM.mp (Qe.mpr ⟨p,h,M⟩)
def gE(m:Int)(C:List (List<|Int×V))(p:Int×V):List (List<|Int×V):=C.set (p.1%65536%m).toNat (bf (C.getD (p.1%65536%m).toNat []) p.1 p.2)
def Gm{C:List (List<|Int×V)}{p:Int×V}:(gE m C p).length=C.length:=QJ
def Di{m:Int}:∀{kv:RH}{C:List (List<|Int×V)},(kv.foldl (gE m) C).length=C.length
 | [],_=>rfl
 |p::r,C=>by rw[List.foldl_cons,Di,Gm]
def AQ{C:List (List<|Int×V)}{p:Int×V}{y:RH}(e:C[j]?=some y):(gE m C p)[j]?=some (if(p.1%65536%m).toNat=j then bf y p.1 p.2 else y):=by
 unfold gE;rw[Qs];by_cases z:(p.1%65536%m).toNat=j
 .let G:j<C.length:=(Q1.mp e).1;rw[VA z,VA z,VA (by rwa[z]),Qn,z,e];rfl
 .rw[Vz z,Vz z,e]
set_option tactic.hygienic true in
def zD{m:Int}:∀{kv:RH}{C:List (List<|Int×V)}{j:Nat}{y:RH},(kv.map (·.1)).Nodup->C[j]?=some y->∃x,(kv.foldl (gE m) C)[j]?=some x/\
  (∀p∈x,p∈y\/p.1∈kv.map (·.1))/\∀k,ay x k=if(k%65536%m).toNat=j then(ay kv k).or (ay y k)else ay y k
 | [],C,j,y,_,e=>{y,e,λp G=> .inl G,λk=>by rw[jO];simp}
 |p::r,C,j,y,nd,e=>by
  let{I,O}:=QR.mp (show(p.1::r.map (·.1)).Nodup from nd);let{x,h1,h2,U}:=zD (m:=m) O (AQ (m:=m) (p:=p) e);refine{x,h1,λq hq=>?_,λk=>?_}
  .rcases h2 q hq with z|z
   .split at z
    .rcases vQ z with z|z
     .exact .inl z
     .exact .inr<|Qe.mpr ⟨p,Qa,z.symm⟩
    .exact .inl z
   .exact .inr<|Qd _ z
  .rw[U k];by_cases z:(k%65536%m).toNat=j
   .rw[VA z,VA z];by_cases w:p.1=k
    .subst w;have:ay r p.1=none:=by
      cases q:ay r p.1 with
      |none=>rfl
      |some v=>exact VE (uv q) I
     rw[this,bn M,VA z,de,VA M];rfl
    .rw[bh w];congr 1;split
     .rw[de,Vz (Ne.symm w)]
     .rfl
   .rw[Vz z,Vz z];split
    .rename_i w
     rw[de,Vz (λy=>z<|by rwa[y])]
    .rfl
def N7.mov{C:List (List<|Int×V)}{sz:Int}{y:RH}(h:N7 H r A C sz)(s4:4<=sz)(I:A[(k%65536%sz).toNat]?=some c)(G:C[(k%65536%sz).toNat]?=some y):
  N7 (upd H c<|.dK<|az<|bf y k v) r A (gE sz C (k,v)) sz:=by
 let e:gE sz C (k,v)=C.set (k%65536%sz).toNat (bf y k v):=by
  unfold gE;rw[Qn];show C.set (k%65536%sz).toNat (bf (C[(k%65536%sz).toNat]?.getD []) k v)=_;rw[G];rfl
 rw[e];let{Y,Z,O}:=sO (k:=k) s4;refine h.set I (vJ<|h.ndk _ _ G) λp U=>?_;rcases vQ U with z|z
 .exact h.home _ _ G p z
 .rw[z,O]
section
variable{d:OM}
def Hm.moved_some(e:st.nxt=some m):st.moved=st.mv:=by unfold Hm.moved;rw[e]
def Hm.moved_none(e:st.nxt=none):st.moved=0:=by unfold Hm.moved;rw[e]
def NR.movVal(h:NR t H a st d)(z:N9 st)(G:st.nxt=some m){kv:RH}(I:d.C0[st.mv.toNat]?=some kv)(hk:k%65536%st.size<=st.mv){x:RH}
  (ex:(kv.foldl (gE m) d.C1)[(k%65536%m).toNat]?=some x):ay x k=ay st.kv k:=by
 let{pm,v0,v1,_}:=z.nx m G;let{s4,_}:=bO z.pw;let{s5,_}:=bO pm;let r1:=h.row1;rw[G]at r1;let{n0,n1,n2}:=sO (k:=k) s5;let{m0,m1,m2}:=sO (k:=k) s4;let{y,O}:=dI (l:=d.C1) n0 (by rwa[r1.lc]);let{c1,U}:=dI (l:=d.A1) n0 (by rwa[r1.la]);let{x',e',_,hv}:=zD (m:=m) (h.row0.ndk _ _ I) O;rw[ex]at e';cases e';rw[hv k,VA M];let hm:=Hm.moved_some G;by_cases c:k%65536%st.size=st.mv
 .let{b0,Y}:=dI (l:=d.A0) m0 (by rwa[h.row0.la]);let Z:IsCell d st k b0 kv:= .inl {(),Y,by rw[c];exact I};let yn:ay y k=none:=by
   cases q:ay y k with
   |none=>rfl
   |some v=>
    let{p,hp,e}:=Qe.mp (uv q);have:=h.new _ _ O p hp;rw[e]at this;lia
  rw[h.val k b0 kv Z,yn];simp
 .let Z:IsCell d st k c1 y:= .inr {m,G,(),U,O};let kn:ay kv k=none:=by
   cases q:ay kv k with
   |none=>rfl
   |some v=>
    let{p,hp,e}:=Qe.mp (uv q);have:=h.row0.home _ _ I p hp;rw[e]at this;lia
  rw[kn,h.val k c1 y Z];rfl
def dS{l:List α}{x y:α}(e:(l.set i x)[j]?=some y):(i=j/\y=x)\/(i≠j/\l[j]?=some y):=by
 rw[Qs]at e;by_cases z:i=j
 .rw[VA z]at e;split at e
  .cases e;exact .inl ⟨z,M⟩
  .cases e
 .rw[Vz z]at e;exact .inr ⟨z,e⟩
def NR.one(h:NR t H a st d)(z:N9 st)(Y:st.nxt=some m){kv:RH}(ek:d.C0[st.mv.toNat]?=some kv){b':RC}(nl:st.mv+1≠st.size)
  (ha:H' a=some (.ins t.aY dx<|Nt d.tb (st.mv+1) d.n)) (ht:H' d.tb=H d.tb) (h0:H' d.r0=some (.lst<|(d.A0.set st.mv.toNat b').map V.ref)) (hb:H' b'=some (.dK [])) (hF:¬No a st d b')
  (hA:∀(j:Nat) b,d.A0[j]?=some b->j≠st.mv.toNat->H' b=H b) (hr:N7 H' d.r1 d.A1 (kv.foldl (gE m) d.C1) m):
  NR t H' a st.one {d with A0:=d.A0.set st.mv.toNat b',C0:=d.C0.set st.mv.toNat [],C1:=kv.foldl (gE m) d.C1}:=by
 let{pm,v0,v1,_}:=z.nx m Y;let a1:st.one={st with mv:=st.mv+1}:=by unfold Hm.one;rw[Y];exact Vz nl
 let G:({st with mv:=st.mv+1}:Hm).moved=st.mv+1:=Hm.moved_some (st:={st with mv:=st.mv+1}) Y;let hm:=Hm.moved_some Y;let a2:b'∉d.A0:=λq=>hF (.inr<|.inr<|.inr<|.inl q);let a3:b'∉d.A1:=λq=>hF (.inr<|.inr<|.inr<|.inr<|.inr q);rw[a1];let r1:=h.row1;rw[Y]at r1;refine{{dx,by rwa[G]},by rw[ht];exact h.tbl,{h0,by rw[QJ];exact h.row0.la,by rw[QJ];exact h.row0.lc,λj b x Z e2=>?_,λj x e=>?_,λi j b Z e2=>?_,λj x e p hp=>?_},?_,λb a4 hb1=>?_,h.tr,h.tr1,λj x e lt=>?_,λj x e p hp=>?_,λk c x ic=>?_}
 .rcases dS Z with⟨q,rfl⟩|⟨q,Z⟩
  .rcases dS e2 with⟨_,rfl⟩|⟨q2,_⟩
   .exact hb
   .exact VE q q2
  .rcases dS e2 with⟨q2,_⟩|⟨_,e2⟩
   .exact VE q2 q
   .rw[hA j b Z (Ne.symm q)];exact h.row0.cell j b x Z e2
 .rcases dS e with⟨_,rfl⟩|⟨_,e⟩
  .exact QZ
  .exact h.row0.ndk j x e
 .let Z:(d.A0.set st.mv.toNat b')[i]?=some b:=Z;let e2:(d.A0.set st.mv.toNat b')[j]?=some b:=e2;rcases dS Z with⟨q,y1⟩|⟨q,O⟩<;>rcases dS e2 with⟨q2,y2⟩|⟨q2,I⟩
  .exact q.symm.trans q2
  .rw[y1]at I;exact VE (Q2 I) a2
  .rw[y2]at O;exact VE (Q2 O) a2
  .exact h.row0.inj i j b O I
 .rcases dS e with⟨_,rfl⟩|⟨_,e⟩
  .cases hp
  .exact h.row0.home j x e p hp
 .show match st.nxt with|none=>_|some m=>_
  rwa[Y]
 .let{j,hj,e}:=QC (show b∈d.A0.set st.mv.toNat b' from a4);rcases dS (Q1.mpr ⟨hj,e⟩)with⟨_,rfl⟩|⟨_,e⟩
  .exact a3 hb1
  .exact h.dis b (Q2 e) hb1
 .rw[G]at lt;rcases dS e with⟨_,rfl⟩|⟨q,e⟩
  .rfl
  .exact h.old j x e ()
 .rw[G];show p.1%65536%st.size<st.mv+1;obtain⟨y,ey⟩:∃y,d.C1[j]?=some y:=by
   let hj:j<(kv.foldl (gE m) d.C1).length:=(Q1.mp e).1;rw[Di]at hj;exact{_,Q3 hj}
  let{x',e',a0,_}:=zD (m:=m) (h.row0.ndk _ _ ek) ey;let e:(kv.foldl (gE m) d.C1)[j]?=some x:=e;rw[e]at e';cases e';rcases a0 p hp with q|q
  .have:=h.new j y ey p q;lia
  .let{p',a0,e3}:=Qe.mp q;have:=h.row0.home _ _ ek p' a0;rw[e3]at this;lia
 .show ay x k=ay st.kv k;rcases ic with⟨g0,O,I⟩|⟨m',U,g0,O,I⟩
  .rw[G]at g0;let g0:st.mv+1<=k%65536%st.size:=g0;let O:(d.A0.set st.mv.toNat b')[(k%65536%st.size).toNat]?=some c:=O;let I:(d.C0.set st.mv.toNat [])[(k%65536%st.size).toNat]?=some x:=I;rcases dS O with⟨q,_⟩|⟨_,O⟩
   .lia
   .rcases dS I with⟨q,_⟩|⟨_,I⟩
    .lia
    .exact h.val k c x<|.inl {(),O,I}
  .rw[G]at g0;let U:st.nxt=some m':=U;rw[Y]at U;cases U;let g0:k%65536%st.size<st.mv+1:=g0;exact h.movVal z Y ek () I
def NR.last(h:NR t H a st d)(z:N9 st)(U:st.nxt=some m){kv:RH}(Y:d.C0[st.mv.toNat]?=some kv){tb':RC}(l:st.mv+1=st.size)
  (ha:H' a=some (.ins t.aY dx<|Nt tb' 0 d.n)) (Z:H' tb'=some (.lst [.ref d.r1])) (hn:tb'≠d.r1) (hr:N7 H' d.r1 d.A1 (kv.foldl (gE m) d.C1) m):
  NR t H' a st.one {tb',d.r1,d.r1,d.A1,[],kv.foldl (gE m) d.C1,[],d.n}:=by
 let G:st.one={st with size:=m,nxt:=none,mv:=0}:=by unfold Hm.one;rw[U];exact VA l
 let{s4,_}:=bO z.pw;rw[G];refine{⟨dx,ha⟩,Z,hr,⟨M,M⟩,(λb _ q=>by cases q),hn,(λq=>by cases q),λj x e lt=>?_,(λj x e=>by simp at e),λk c x ic=>?_}
 .let lt:(j:Int)<0:=lt;lia
 .rcases ic with⟨g0,f1,I⟩|⟨m',O,_⟩
  .let I:(kv.foldl (gE m) d.C1)[(k%65536%m).toNat]?=some x:=I;let{m0,m1,m2}:=sO (k:=k) s4;exact h.movVal z U Y () I
  .cases O
def NR.begin(h:NR t H a st d)(Z:st.nxt=none)(ha:H' a=H a)(ht:H' d.tb=some (.lst [.ref d.r0,.ref r]))(h0:∀b,b=d.r0\/b∈d.A0->H' b=H b)
  (hr:N7 H' r A (List.replicate m.toNat []) m) (nr:¬No a st d r) (nA:∀b∈A,¬No a st d b):NR t H' a {st with nxt:=some m,mv:=0} {d with r1:=r,A1:=A,C1:=List.replicate m.toNat []}:=by
 let{dx,O}:=h.obj;let U:=Hm.moved_none Z;refine{{dx,by rw[ha];rw[U]at O;exact O},ht,h.row0.frame h0,hr,λb q q2=>nA b q2<|.inr<|.inr<|.inr<|.inl q,h.tr,λ_=>{λq=>nr<|.inr<|.inl q.symm,λq=>nr<|.inr (.inr<|.inl q.symm)},λj x e lt=>?_,λj x e p hp=>?_,λk c x ic=>?_}
 .let lt:(j:Int)<0:=lt;lia
 .have:=Zu (Q2 e);subst this;cases hp
 .rcases ic with⟨G,Y,I⟩|⟨m',a0,G,Y,I⟩
  .refine h.val k c x<|.inl {?_,Y,I};rwa[U]
  .let G:k%65536%st.size<0:=G;let I:(List.replicate m.toNat ([]:RH))[(k%65536%m').toNat]?=some x:=I;have:0<=k%65536%st.size:=by
    let z:(0:Int)<=st.size:=by rw[<-h.row0.la];lia
    rcases Int.lt_or_eq_of_le z with q|q
    .exact Qg _ ()
    .rw[<-q,Int.emod_zero];exact Qg _ (_)
   lia
def NR.fresh(ha:H a=some (.ins t.aY dx<|Nt tb 0 0))(I:H tb=some (.lst [.ref r]))(O:N7 H r A (List.replicate 4 []) 4)(n:tb≠r):NR t H a Hm.new {tb,r,r,A,[],List.replicate 4 [],[],0}:=by
 refine{⟨dx,ha⟩,I,O,⟨M,M⟩,(λb _ q=>by cases q),n,(λq=>by cases q),λj x e lt=>?_,(λj x e=>by simp at e),λk c x U=>?_}
 .let lt:(j:Int)<0:=lt;lia
 .rcases U with⟨Y,Z,z⟩|⟨m',G,_⟩
  .let z:(List.replicate 4 ([]:RH))[(k%65536%4).toNat]?=some x:=z;have:=Zu (Q2 z);subst this;rfl
  .cases G
def NR.short(h:NR t H a st d)(z:N9 st){kv:RH}(ic:IsCell d st k c kv):kv.length<=st.kv.length:=by
 let{_,_,nd}:=h.at ic;let sub:∀x∈kv.map (·.1),x∈st.kv.map (·.1):=λx hx=>by
  let{p,I,e}:=Qe.mp hx;subst e;refine HM.mpr ?_;let hs:=IQ I;have:∃O,IsCell d st p.1 O kv:=by
   rcases ic with⟨g0,U,G⟩|⟨m,Y,g0,U,G⟩
   .let{s4,_}:=bO z.pw;let{m0,m1,m2}:=sO (k:=k) s4;let e:=h.row0.home _ _ G p I;rw[m2]at e;exact{c,.inl {by rwa[e],by rwa[e],by rwa[e]}}
   .let{pm,_}:=z.nx m Y;let{s5,_}:=bO pm;let{n0,n1,n2}:=sO (k:=k) s5;let r1:=h.row1;rw[Y]at r1;let e:=r1.home _ _ G p I;rw[n2]at e;exact{c,.inr {m,Y,h.new _ _ G p I,by rwa[e],by rwa[e]}}
  let{O,Z}:=this;rwa[<-h.val p.1 O kv Z]
 have:=gl nd sub;rw[Q0,Q0]at this;exact this
end
def AO{m:Int}:∀{kv:RH}{C:List (List<|Int×V)}{j:Nat}{x y:RH},C[j]?=some y->(kv.foldl (gE m) C)[j]?=some x->x.length<=y.length+kv.length
 | [],C,j,x,y,e,f=>by
  let f:C[j]?=some x:=f;rw[e]at f;cases f;exact Q4 _
 |p::r,C,j,x,y,e,f=>by
  let h:=AO (m:=m) (AQ (m:=m) (p:=p) e) f;let l:=b6 y p.1 p.2;rw[Qr];split at h<;>lia
section
variable{d:OM}
def NR.short0(h:NR t H a st d)(z:N9 st){kv:RH}(e:d.C0[j]?=some kv):kv.length<=st.kv.length:=by
 cases kv with
 |nil=>exact Qf _
 |cons p r=>
  let I:=h.row0.home j _ e p Qa;let O:¬(j:Int)<st.moved:=λq=>by have:=h.old j _ e q;cases this
  let ej:(p.1%65536%st.size).toNat=j:=();let G:j<d.A0.length:=by
   have:=h.row0.la;have:=h.row0.lc;have:=(Q1.mp e).1;lia
  exact h.short z (k:=p.1) (c:=d.A0[j])<|.inl {(),by rw[ej];exact Q3 G,by rwa[ej]}
def NR.short1(h:NR t H a st d)(z:N9 st)(G:st.nxt=some m){kv:RH}(e:d.C1[j]?=some kv):kv.length<=st.kv.length:=by
 let r1:=h.row1;rw[G]at r1;cases kv with
 |nil=>exact Qf _
 |cons p r=>
  let U:=r1.home j _ e p Qa;let I:=h.new j _ e p Qa;let ej:(p.1%65536%m).toNat=j:=();let O:j<d.A1.length:=by
   have:=r1.la;have:=r1.lc;have:=(Q1.mp e).1;lia
  exact h.short z (k:=p.1) (c:=d.A1[j])<|.inr {m,G,I,by rw[ej];exact Q3 O,by rwa[ej]}
end
def N9.new:N9 Hm.new:={(_),λm e=>by cases e}
def N9.kv{kvs:RH}(z:N9 st):N9 {st with kv:=kvs}:=⟨z.pw,z.nx⟩
set_option tactic.hygienic true in
def N9.one(z:N9 st):N9 st.one:=by
 unfold Hm.one;cases e:st.nxt with
 |none=>exact z
 |some m=>
  let{G,O,U,I}:=z.nx m e;show N9 (if _ then _ else _);split
  .exact{G,λm' q=>by cases q}
  .rename_i c
   refine{z.pw,λm' q=>?_};let q:some m=some m':=q;cases q;exact{G,by show 0<=st.mv+1;lia,by show st.mv+1<st.size;lia,I}
def Mr{x:Int}(h:x∈([4,8,16,32,64,128,256]:List Int))(c:x<256):2*x∈([4,8,16,32,64,128,256]:RF):=by
 rcases mG h with rfl|rfl|rfl|rfl|rfl|rfl|rfl<;>first|decide|exact VE c (_)
def JU{x:Int}(h:x∈([4,8,16,32,64,128,256]:List Int))(c:4<x):x/2∈([4,8,16,32,64,128,256]:RF)/\2*(x/2)=x:=by
 rcases mG h with rfl|rfl|rfl|rfl|rfl|rfl|rfl<;>first|decide|exact VE c (_)
def JT{x:Int}(h:x∈([4,8,16,32,64,128,256]:List Int)):0<x:=by
 rcases mG h with rfl|rfl|rfl|rfl|rfl|rfl|rfl<;>decide
set_option tactic.hygienic true in
def N9.three(z:N9 st):N9 st.three:=by
 unfold Hm.three;cases e:st.nxt with
 |some m=>exact z
 |none=>
  show N9 (if _ then _ else _);split
  .rename_i c
   refine{z.pw,λm' q=>?_};cases q;exact{Mr z.pw c.2,Zn _,JT z.pw,.inl M}
  .split
   .rename_i c
    refine{z.pw,λm' q=>?_};cases q;exact{(JU z.pw c.2).1,Zn _,JT z.pw,.inr (JU z.pw c.2).2}
   .exact z
def NW(_K:Wp)(t:N6)(H:Hp)(a:RC)(F:RE)(st:Hm):Prop:=
 ∃d,NR t H a st d/\(∀b,F b↔No a st d b)/\d.n=(st.kv.length:Int)/\(st.kv.map (·.1)).Nodup/\N9 st
def NW.ins(h:NW K t H a F st):∃dx fs,H a=some (.ins t.aY dx fs)/\∀m,NoM m->fs.lookup m=none:=by
 let{d,hb,_}:=h;let{dx,z}:=hb.obj;exact{dx,_,z,λm G=>JR G}
def NW.dom(h:NW K t H a F st)(hb:F b):∃o,H b=some o:=by
 let{d,h1,h2,_}:=h;exact h1.dom<|(h2 b).mp hb
def NW.frame(h:NW K t H a F st)(f:∀b,F b->H' b=H b):NW K t H' a F st:=by
 let{d,h1,h2,z}:=h;exact{d,h1.frame λb hb=>f b<|(h2 b).mpr hb,h2,z}
def NW.same(h:NW K t H a F st)(s:Ck H H'):NW K t H' a F st:=h.frame λb hb=>by
 let{o,e}:=h.dom hb;rw[e];exact s b o e
def NW.out(h:NW K t H a F st)(e:H p=none):¬F p:=λz=>by
 let{o,q}:=h.dom z;rw[q]at e;cases e
def NW.upd(h:NW K t H a F st)(e:¬F p):NW K t (L2.upd H p o) a F st:=h.frame λb hb=>ae λz=>e (z▸hb)
def NW.new(h:NW K t H a F st)(e:H p=none):NW K t (L2.upd H p o) a F st:=h.upd (h.out e)
def uK(K:Wp)(t:N6):Sp:=λvs H Q _=>∃(a dx:RC),vs=[.ref a]/\H a=some (.ins t.aY dx [])/\H dx=some (.own a)/\∀H' F,NW K t H' a F Hm.new->Fr (λb=>b=a\/b=dx) F H H'->Q .non H'
def wT(K:Wp)(t:N6):Sp:=λvs H Q _=>∃(a:RC)(k i:Int)(F:RE)(st:Hm),vs=[.ref a,.int k,.int i]/\NW K t H a F st/\0<=k/\st.kv.length<4096/\
 ∀H' F',NW K t H' a F' (st.put k<|.int i)->Fr F F' H H'->Q .non H'
def uL(K:Wp)(t:N6):Sp:=λvs H Q E=>∃(a:RC)(k:Int)(F:RE)(st:Hm),vs=[.ref a,.int k]/\NW K t H a F st/\0<=k/\
 ((ay st.kv k).isSome=true->st.kv.length<4096/\∀H' F',NW K t H' a F' (st.drop k)->Fr F F' H H'->Q .non H')/\(ay st.kv k=none->False)
def wV(K:Wp)(t:N6):Sp:=λvs H Q E=>∃(a:RC)(k:Int)(F:RE)(st:Hm),vs=[.ref a,.int k]/\NW K t H a F st/\0<=k/\
 (∀v,ay st.kv k=some v->∀H' F',NW K t H' a F' st->Fr F F' H H'->Q v H')/\(ay st.kv k=none->False)
def wU(K:Wp)(t:N6):Sp:=λvs H Q _=>∃(a:RC)(k:Int)(F:RE)(st:Hm),vs=[.ref a,.int k]/\NW K t H a F st/\0<=k/\
 ∀H' F',NW K t H' a F' st->Fr F F' H H'->Q (.bl (ay st.kv k).isSome) H'
def uJ(K:Wp)(t:N6):Sp:=λvs H Q _=>∃(a:RC)(F:RE)(st:Hm),vs=[.ref a]/\NW K t H a F st/\
 ∀H' F' l,NW K t H' a F' st->Fr F F' H H'->H l=none->¬F' l->H' l=some (.lst<|st.rows.map V.int)->Q (.ref l) H'
def db(l:RF):Prop:=l.Pairwise (· < ·)
structure NO(ls:RZ):Prop where
 ne:∀l∈ls,l≠[]
 le:∀l∈ls,l.length<=8
 nb:∀(i:Nat)(x y:RF),ls[i]?=some x->ls[i+1]?=some y->5<=x.length+y.length
 up:db ls.flatten
def NO.nil:NO []:={(λ_ h=>by cases h),(λ_ h=>by cases h),(λi x y e=>by simp at e),VV}
def LE(e:ls[i]?=some x):ls=ls.take i++x::ls.drop (i+1):=by
 let{h,e}:=Q1.mp e;rw[<-e,<-Za h,QO]
def gS(e:ls[i]?=some x):ls.flatten=(ls.take i).flatten++(x++(ls.drop<|i+1).flatten):=by
 conv=>lhs;rw[LE e]
 rw[Zj,Zh]
def OG{a b c:RF}:db (a++(b++c))↔db a/\db b/\db c/\(∀x∈a,∀y∈b,x<y)/\(∀x∈a,∀y∈c,x<y)/\∀x∈b,∀y∈c,x<y:=by
 unfold db;rw[Ql,Ql];constructor
 .rintro ⟨h1,⟨h2,I,O⟩,G⟩;exact{h1,h2,I,λx hx y hy=>G x hx y<|Xg _ hy,λx hx y hy=>G x hx y<|Qy _ hy,O}
 .rintro ⟨h1,h2,I,O,G,U⟩;refine{h1,⟨h2,I,U⟩,λx hx y hy=>?_};rcases Q5.mp hy with z|z
  .exact O x hx y z
  .exact G x hx y z
structure NU(ls:RZ)(k:Int)(i:Nat):Prop where
 le:i<=ls.length
 lo:∀(j:Nat)(x:RF),j<i->ls[j]?=some x->∀y∈x,y<k
 hi:∀x,ls[i]?=some x->∃y∈x,k<=y
def Ar{y:Int}(h:y∈(ls.take i).flatten):∃(j:Nat)(x:RF),j<i/\ls[j]?=some x/\y∈x:=by
 let{x,hx,hy}:=Vh.mp h;let{j,z,e}:=QC hx;rw[Q8]at z;rw[ZG]at e;exact{j,x,(),Q1.mpr {(),e},hy}
def NU.ahead(h:NU ls k i):∀y∈(ls.take i).flatten,y<k:=λy hy=>by
 let{j,x,z,e,hx}:=Ar hy;exact h.lo j x z e y hx
def NU.behind(o:NO ls)(h:NU ls k i):∀y∈(ls.drop<|i+1).flatten,k<y:=λy hy=>by
 cases e:ls[i]? with
 |none=>
  have:ls.length<=i:=Zr.mp e;rw[Zl ()]at hy;cases hy
 |some x=>
  let{z,hz,le}:=h.hi x e;let up:=o.up;rw[gS e]at up;have:=(OG.mp up).2.2.2.2.2 z hz y hy;lia
def NU.mem(o:NO ls)(h:NU ls k i):k∈ls.flatten↔∃x,ls[i]?=some x/\k∈x:=by
 constructor
 .intro hk;cases e:ls[i]? with
  |none=>
   let l:ls.length<=i:=Zr.mp e;have:ls.take i=ls:=Qx l;have:=h.ahead k (by rwa[this]);lia
  |some x=>
   rw[gS e]at hk;rcases Q5.mp hk with z|z
   .have:=h.ahead k z;lia
   .rcases Q5.mp z with z|z
    .exact⟨x,M,z⟩
    .have:=h.behind o k z;lia
 .rintro ⟨x,e,hk⟩;exact Vh.mpr {x,Q2 e,hk}
def Bm:∀{l:RF}{k:Int},db l->k∉l->(∀x∈l.take (l.filter<|λz=>decide (z<k)).length,x<k)/\∀x∈l.drop (l.filter<|λz=>decide (z<k)).length,k<x
 | [],k,_,_=>{λx h=>by simp at h,λx h=>by simp at h}
 |a::r,k,up,nk=>by
  let{h1,h2}:=ZB.mp up;let nr:k∉r:=λz=>nk (Qd _ z);let O:a≠k:=λz=>nk (by rw[z];exact Qa);by_cases c:a<k
  .let{G,I}:=Bm h2 nr;rw[Xc,VA (by simpa using c),Qr,V1,List.drop_succ_cons];refine{λx hx=>?_,I};rcases Qj.mp hx with rfl|hx
   .exact c
   .exact G x hx
  .have:(a::r).filter (λz=>decide (z<k))=[]:=by
    rw[X0];intro x hx;rcases Qj.mp hx with rfl|hx
    .simpa using c
    .have:=h1 x hx;simp;lia
   rw[this];refine{λx hx=>by simp at hx,λx hx=>?_};let hx:x∈a::r:=by simpa using hx
   rcases Qj.mp hx with rfl|hx
   .lia
   .have:=h1 x hx;lia
noncomputable def gp(l:RF)(k:Int):List Int:=l.take (l.filter<|λz=>decide (z<k)).length++k::l.drop (l.filter<|λz=>decide (z<k)).length
def GL{l:RF}:(gp l k).length=l.length+1:=by
 let h:=Qm (λz=>decide (z<k)) l;unfold gp;rw[Q6,Qr,Q8,QF];lia
def OA{l:RF}{x:Int}:x∈gp l k↔x=k\/x∈l:=by
 unfold gp;rw[Q5,Qj];have:x∈l↔x∈l.take (l.filter<|λz=>decide (z<k)).length\/x∈l.drop (l.filter<|λz=>decide (z<k)).length:=by
  rw[<-Q5,QO]
 rw[this];constructor
 .rintro (h|h|h)
  .exact .inr<|.inl h
  .exact .inl h
  .exact .inr<|.inr h
 .rintro (h|h|h)
  .exact .inr<|.inl h
  .exact .inl h
  .exact .inr<|.inr h
def EI{l:RF}(up:db l)(I:k∉l):db (gp l k):=by
 let{h1,h2}:=Bm up I;let G:db (l.take (l.filter<|λz=>decide (z<k)).length++l.drop (l.filter<|λz=>decide (z<k)).length):=by rwa[QO]
 let{O,U,Y}:=Ql.mp G;unfold gp;refine Ql.mpr {O,ZB.mpr ⟨h2,U⟩,λx hx y hy=>?_};rcases Qj.mp hy with rfl|hy
 .exact h1 x hx
 .exact Y x hx y hy
structure Ov(ls:RZ)(k:Int)(i:Nat)(x:RF):Prop where
 at_:ls[i]?=some x
 lo:∀y∈(ls.take i).flatten,y<k
 hi:∀y∈(ls.drop<|i+1).flatten,k<y
def NU.add(o:NO ls)(h:NU ls k i)(ne:ls≠[]):∃x,Ov ls k (min i<|ls.length-1) x:=by
 let hl:0<ls.length:=Z8.mpr ne;by_cases c:i<ls.length
 .have:min i (ls.length-1)=i:=();rw[this];exact{ls[i],Q3 c,h.ahead,h.behind o}
 .let le:=h.le;have:min i (ls.length-1)=ls.length-1:=();rw[this];let z:ls.length-1<ls.length:=();refine{ls[ls.length-1],Q3 z,λy hy=>?_,λy hy=>?_}
  .let{j,x,G,e,hx}:=Ar hy;exact h.lo j x () e y hx
  .rw[Zl ()]at hy;cases hy
def ze(e:ls[i]?=some x):ls.set i y=ls.take i++y::ls.drop (i+1):=by
 let hi:=(Q1.mp e).1;rw[List.set_eq_take_append_cons_drop,VA hi]
def qB(e:ls[i]?=some x):(ls.set i y).flatten=(ls.take i).flatten++(y++(ls.drop<|i+1).flatten):=by
 rw[ze e,Zj,Zh]
def Ov.set(o:NO ls)(h:Ov ls k i x)(G:k∉ls.flatten):db (ls.set i<|gp x k).flatten/\∀z,z∈(ls.set i<|gp x k).flatten↔z=k\/z∈ls.flatten:=by
 let up:=o.up;rw[gS h.at_]at up G;let{I,O,U,Y,Z,u6}:=OG.mp up;let nx:k∉x:=λz=>G (Qy _<|Xg _ z);rw[qB h.at_,gS h.at_];refine{OG.mpr {I,EI O nx,U,λa ha b hb=>?_,Z,λa ha b hb=>?_},λz=>?_}
 .rcases OA.mp hb with rfl|hb
  .exact h.lo a ha
  .exact Y a ha b hb
 .rcases OA.mp ha with rfl|ha
  .exact h.hi b hb
  .exact u6 a ha b hb
 .rw[Q5,Q5,Q5,Q5,OA];constructor
  .rintro (h|(h|h)|h)
   .exact .inr<|.inl h
   .exact .inl h
   .exact .inr<|.inr (.inl h)
   .exact .inr<|.inr (.inr h)
  .rintro (h|h|h|h)
   .exact .inr<|.inl (.inl h)
   .exact .inl h
   .exact .inr<|.inl (.inr h)
   .exact .inr<|.inr h
def rf{z:RF}(e:ls[i]?=some x)(f:(ls.set i y)[j]?=some z):(i=j/\z=y)\/(i≠j/\ls[j]?=some z):=by
 rw[Qs]at f;by_cases c:i=j
 .rw[VA c]at f;split at f
  .cases f;exact .inl ⟨c,M⟩
  .cases f
 .rw[Vz c]at f;exact .inr ⟨c,f⟩
def ux{z:RF}(e:ls[i]?=some x)(h:z∈ls.set i y):z=y\/z∈ls:=by
 let{j,G,I}:=QC h;rcases rf e (Q1.mpr ⟨G,I⟩)with⟨_,q⟩|⟨_,q⟩
 .exact .inl q
 .exact .inr<|Q2 q
def NO.grown(o:NO ls)(e:ls[i]?=some x)(l1:x.length<=y.length)(O:y.length<=8)(up:db (ls.set i y).flatten):NO (ls.set i y):=by
 let hx:=o.ne x (Q2 e);let px:0<x.length:=Z8.mpr hx;refine{λl hl=>?_,λl hl=>?_,λj a b f g=>?_,up}
 .rcases ux e hl with rfl|hl
  .exact Zs ()
  .exact o.ne l hl
 .rcases ux e hl with rfl|hl
  .exact O
  .exact o.le l hl
 .rcases rf e f with⟨c,h1⟩|⟨c,z⟩<;>rcases rf e g with⟨G,h2⟩|⟨G,I⟩
  .lia
  .subst c;have:=o.nb i x b e I;rw[h1];lia
  .rw[G]at e;have:=o.nb j a x z e;rw[h2];lia
  .exact o.nb j a b z I
set_option tactic.hygienic true in
def NO.parted{a b:RF}(o:NO ls)(e:ls[i]?=some x)(U:a.length=4)(Y:b.length=5)(up:db (ls.set i<|a++b).flatten):
  NO ((ls.set i a).take (i+1)++b::(ls.set i a).drop (i+1))/\((ls.set i a).take (i+1)++b::(ls.set i a).drop (i+1)).flatten=(ls.set i<|a++b).flatten:=by
 let hi:=(Q1.mp e).1;let lt:(ls.take i).length=i:=by rw[Q8];lia
 let O:(ls.set i a).take (i+1)++b::(ls.set i a).drop (i+1)=ls.take i++a::b::ls.drop (i+1):=by
  rw[ze (y:=a) e];let h1:(ls.take i++a::ls.drop (i+1)).take (i+1)=ls.take i++ [a]:=by
   rw[List.take_append,lt,Qx ()];have:i+1-i=1:=();rw[this];rfl
  let h2:(ls.take i++a::ls.drop (i+1)).drop (i+1)=ls.drop (i+1):=by
   rw[List.drop_append,lt,Zl ()];have:i+1-i=1:=();rw[this];rfl
  rw[h1,h2,Qi];rfl
 let e2:(ls.take i++a::b::ls.drop (i+1)).flatten=(ls.set i<|a++b).flatten:=by
  rw[qB e,Zj,Zh,Zh,Qi]
 rw[O];refine{{λl hl=>?_,λl hl=>?_,λj p q f g=>?_,by rwa[e2]},e2}
 .rcases Q5.mp hl with h|h
  .exact o.ne l<|QX h
  .rcases Qj.mp h with rfl|h
   .exact Zs ()
   .rcases Qj.mp h with rfl|h
    .exact Zs ()
    .exact o.ne l<|Xk h
 .rcases Q5.mp hl with h|h
  .exact o.le l<|QX h
  .rcases Qj.mp h with rfl|h
   .lia
   .rcases Qj.mp h with rfl|h
    .lia
    .exact o.le l<|Xk h
 .let look:∀(j:Nat)(p:RF),(ls.take i++a::b::ls.drop (i+1))[j]?=some p->(j<i/\ls[j]?=some p)\/(j=i/\p=a)\/(j=i+1/\p=b)\/(i+2<=j/\ls[j-1]?=some p):=λj p f=>by
   rw[XX,lt]at f;split at f
   .rename_i c
    rw[Xq,VA c]at f;exact .inl ⟨c,f⟩
   .rename_i c
    rcases(show j=i\/j=i+1\/i+2<=j by lia)with rfl|rfl|h
    .have:j-j=0:=();rw[this]at f;cases f;exact .inr<|.inl ⟨M,M⟩
    .have:i+1-i=1:=();rw[this]at f;cases f;exact .inr<|.inr (.inl ⟨M,M⟩)
    .obtain⟨n,rfl⟩:∃n,j=i+2+n:={j-(i+2),()};have:i+2+n-i=n+1+1:=();rw[this,XB,XB,ZA]at f;refine .inr<|.inr (.inr {h,?_});have:i+2+n-1=i+1+n:=();rw[this];exact f
  let pos:∀(j:Nat)(p:RF),ls[j]?=some p->1<=p.length:=λj p f=>Z8.mpr (o.ne p<|Q2 f);rcases look j p f with⟨c,z⟩|⟨c,h1⟩|⟨c,h1⟩|⟨c,z⟩<;>rcases look (j+1) q g with⟨I,G⟩|⟨I,h2⟩|⟨I,h2⟩|⟨I,G⟩<;>(try rw[h1])<;>(try rw[h2])<;>(try lia)
  .exact o.nb j p q z G
  .have:=pos j p z;lia
  .have:j+1-1=j-1+1:=();rw[this]at G;exact o.nb (j-1) p q z G
def lvF(L:RC):List (Str×V):=[(hL,.ref L)]
def c6{L:RC}:(lvF L).lookup (hL:Str)=some (.ref L):=by
 let hb:((hL:Str)==(hL:Str))=true:=VN.mpr M;unfold lvF;simp only[List.lookup,hb]
def J7{L:RC}{m:Str}(h:m≠(hL:Str)):(lvF L).lookup m=none:=by
 let hb:(m==(hL:Str))=false:=VR.mpr h;unfold lvF;simp only[List.lookup,hb]
structure Nk(t:N6)(H:Hp)(a L:RC)(A:RQ)(ls:RZ):Prop where
 obj:∃dx,H a=some (.ins t.bB dx<|lvF L)
 lst:H L=some (.lst<|A.map V.ref)
 len:A.length=ls.length
 leaf:∀(j:Nat)(b:RC)(l:RF),A[j]?=some b->ls[j]?=some l->H b=some (.lst<|l.map V.int)
 inj:∀(i j:Nat)(b:RC),A[i]?=some b->A[j]?=some b->i=j
 nL:L∉A
def O8(a L:RC)(A:RQ):Addr->Prop:=λb=>b=a\/b=L\/b∈A
section
variable{L:RC}
def Nk.at(h:Nk t H a L A ls)(e:ls[i]?=some x):∃c,A[i]?=some c/\H c=some (.lst<|x.map V.int):=by
 let hi:i<A.length:=by rw[h.len];exact(Q1.mp e).1
 exact{A[i],Q3 hi,h.leaf i _ x (Q3 hi) e}
def Nk.has(h:Nk t H a L A ls)(hb:b∈A):∃(j:Nat)(l:RF),A[j]?=some b/\ls[j]?=some l/\H b=some (.lst<|l.map V.int):=by
 let{j,z,e}:=QC hb;let hc:j<ls.length:=by rwa[<-h.len]
 let G:A[j]?=some b:=by rw[Q3 z,e]
 exact{j,ls[j],G,Q3 hc,h.leaf j b _ G<|Q3 hc}
def Nk.frame(h:Nk t H a L A ls)(f:∀b,O8 a L A b->H' b=H b):Nk t H' a L A ls:=by
 let{dx,G}:=h.obj;exact{{dx,by rwa[f a (.inl M)]},by rw[f L (.inr<|.inl M)];exact h.lst,h.len,λj b l z e2=>by rw[f b (.inr<|.inr<|Q2 z)];exact h.leaf j b l z e2,h.inj,h.nL}
def Nk.dom(h:Nk t H a L A ls)(hb:O8 a L A b):∃o,H b=some o:=by
 let{dx,z}:=h.obj;rcases hb with rfl|rfl|hb
 .exact{_,z}
 .exact{_,h.lst}
 .let{_,_,_,_,q}:=h.has hb;exact{_,q}
def Nk.same(h:Nk t H a L A ls)(s:Ck H H'):Nk t H' a L A ls:=h.frame λb hb=>by
 let{o,e}:=h.dom hb;rw[e,s b o e]
def Nk.out(h:Nk t H a L A ls)(n:H p=none):¬O8 a L A p:=λz=>by
 let{o,e}:=h.dom z;rw[n]at e;cases e
def Nk.write(h:Nk t H a L A ls)(G:A[i]?=some c)(ex:ls[i]?=some x):Nk t (upd H c<|.lst<|y.map V.int) a L A (ls.set i y):=by
 let{dx,O}:=h.obj;let hc:=h.leaf i c x G ex;let U:=Q2 G;refine{{dx,by rwa[ae (cM O hc<|by intro z;cases z)]},by rw[ae (λz=>h.nL<|by rwa[z])];exact h.lst,by rw[QJ];exact h.len,λj b l I e2=>?_,h.inj,h.nL};rw[Qs]at e2;by_cases z:i=j
 .subst z;rw[G]at I;cases I;rw[VA M]at e2;split at e2
  .cases e2;exact ai
  .cases e2
 .rw[Vz z]at e2;rw[ae (λy=>z<|h.inj i j c G<|by rw[<-y];exact I)];exact h.leaf j b l I e2
def Nk.swap(h:Nk t H a L A ls){n:RC}(ec:A[i]?=some c)(ex:ls[i]?=some x)(Y:H n=some (.lst<|y.map V.int))(I:¬O8 a L A n):Nk t (upd H L<|.lst<|(A.set i n).map V.ref) a L (A.set i n) (ls.set i y):=by
 let{dx,O}:=h.obj;let nA:n∉A:=λz=>I (.inr<|.inr z);let U:n≠L:=λz=>I (.inr<|.inl z);refine{{dx,by rwa[ae (cM O h.lst<|by intro z;cases z)]},ai,by rw[QJ,QJ];exact h.len,λj b l G e2=>?_,λj k b G e2=>?_,λz=>?_}
 .rw[Qs]at G e2;by_cases z:i=j
  .rw[VA z]at G e2;split at G
   .cases G;split at e2
    .cases e2;rwa[ae U]
    .cases e2
   .cases G
  .rw[Vz z]at G e2;rw[ae (λy=>h.nL<|by rw[<-y];exact Q2 G)];exact h.leaf j b l G e2
 .rw[Qs]at G e2;by_cases z:i=j
  .rw[VA z]at G;split at G
   .cases G;by_cases w:i=k
    .exact z.symm.trans w
    .rw[Vz w]at e2;exact VE (Q2 e2) nA
   .cases G
  .rw[Vz z]at G;by_cases w:i=k
   .rw[VA w]at e2;split at e2
    .cases e2;exact VE (Q2 G) nA
    .cases e2
   .rw[Vz w]at e2;exact h.inj j k b G e2
 .let{j,Z,e}:=QC z;let G:=Q1.mpr ⟨Z,e⟩;rw[Qs]at G;by_cases w:i=j
  .rw[VA w]at G;split at G
   .cases G;exact U M
   .cases G
  .rw[Vz w]at G;exact h.nL<|Q2 G
set_option tactic.hygienic true in
def NV{l:List α}{x y:α}(hi:i<=l.length)(e:(l.take i++x::l.drop i)[j]?=some y):(j<i/\l[j]?=some y)\/(j=i/\y=x)\/(i<j/\l[j-1]?=some y):=by
 let lt:(l.take i).length=i:=by rw[Q8];lia
 rw[XX,lt]at e;split at e
 .rename_i c
  rw[Xq,VA c]at e;exact .inl ⟨c,e⟩
 .rename_i c
  rcases(show j=i\/i<j by lia)with rfl|h
  .have:j-j=0:=();rw[this]at e;cases e;exact .inr<|.inl ⟨M,M⟩
  .obtain⟨n,rfl⟩:∃n,j=i+1+n:={j-(i+1),()};have:i+1+n-i=n+1:=();rw[this,XB,ZA]at e;have:i+1+n-1=i+n:=();exact .inr<|.inr {h,by rwa[this]}
def Nk.insert(h:Nk t H a L A ls){n:RC}(hi:i<=A.length)(hn:H n=some (.lst<|y.map V.int))(nF:¬O8 a L A n):
  Nk t (upd H L<|.lst<|(A.take i++n::A.drop i).map V.ref) a L (A.take i++n::A.drop i) (ls.take i++y::ls.drop i):=by
 let{dx,ho}:=h.obj;let nA:n∉A:=λz=>nF (.inr<|.inr z);let nL:n≠L:=λz=>nF (.inr<|.inl z);let Y:i<=ls.length:=by rwa[<-h.len]
 refine{{dx,by rwa[ae (cM ho h.lst<|by intro z;cases z)]},ai,?_,λj b l Z e2=>?_,λj k b Z e2=>?_,λz=>?_}
 .have:=h.len;rw[Q6,Q6,Qr,Qr,Q8,Q8,QF,QF];lia
 .rcases NV hi Z with⟨O,G⟩|⟨O,G⟩|⟨O,G⟩<;>rcases NV Y e2 with⟨U,I⟩|⟨U,I⟩|⟨U,I⟩<;>(try lia)
  .rw[ae (λy=>h.nL<|by rw[<-y];exact Q2 G)];exact h.leaf j b l G I
  .rwa[G,I,ae nL]
  .rw[ae (λy=>h.nL<|by rw[<-y];exact Q2 G)];exact h.leaf (j-1) b l G I
 .rcases NV hi Z with⟨O,G⟩|⟨O,G⟩|⟨O,G⟩<;>rcases NV hi e2 with⟨U,I⟩|⟨U,I⟩|⟨U,I⟩
  .exact h.inj j k b G I
  .rw[I]at G;exact VE (Q2 G) nA
  .have:=h.inj _ _ b G I;lia
  .rw[G]at I;exact VE (Q2 I) nA
  .lia
  .rw[G]at I;exact VE (Q2 I) nA
  .have:=h.inj _ _ b G I;lia
  .rw[I]at G;exact VE (Q2 G) nA
  .have:=h.inj _ _ b G I;lia
 .rcases Q5.mp z with z|z
  .exact h.nL<|QX z
  .rcases Qj.mp z with z|z
   .exact nL z.symm
   .exact h.nL<|Xk z
set_option tactic.hygienic true in
def oy{l:List α}{y:α}(e:(l.eraseIdx i)[j]?=some y):(j<i/\l[j]?=some y)\/(i<=j/\l[j+1]?=some y):=by
 rw[List.getElem?_eraseIdx]at e;split at e
 .rename_i c;exact .inl ⟨c,e⟩
 .rename_i c;exact .inr {(),e}
def Nk.erase(h:Nk t H a L A ls):Nk t (upd H L<|.lst<|(A.eraseIdx i).map V.ref) a L (A.eraseIdx i) (ls.eraseIdx i):=by
 let{dx,Z}:=h.obj;refine{{dx,by rwa[ae (cM Z h.lst<|by intro z;cases z)]},ai,?_,λj b l O e2=>?_,λj k b O e2=>?_,λz=>h.nL<|Zd z}
 .rw[XY,XY,h.len]
 .let bA:b∈A:=Zd (Q2 O);rw[ae (λy=>h.nL<|by rwa[<-y])];rcases oy O with⟨U,G⟩|⟨U,G⟩<;>rcases oy e2 with⟨Y,I⟩|⟨Y,I⟩<;>(try lia)
  .exact h.leaf j b l G I
  .exact h.leaf (j+1) b l G I
 .rcases oy O with⟨U,G⟩|⟨U,G⟩<;>rcases oy e2 with⟨Y,I⟩|⟨Y,I⟩
  .exact h.inj j k b G I
  .have:=h.inj _ _ b G I;lia
  .have:=h.inj _ _ b G I;lia
  .have:=h.inj _ _ b G I;lia
end
def yc(up:db ls.flatten)(ex:ls[i]?=some x)(z:ls[j]?=some y)(h:i<j):∀p∈x,∀q∈y,p<q:=λp G q hq=>by
 rw[gS ex]at up;refine(OG.mp up).2.2.2.2.2 p G q<|Vh.mpr {y,?_,hq};refine Q2 (i:=j-(i+1)) ?_;rw[ZA];have:i+1+(j-(i+1))=j:=();rwa[this]
def Iv(up:db ls.flatten)(ex:ls[i]?=some x):db x:=by
 rw[gS ex]at up;exact(OG.mp up).2.1
def GH(up:db x)(ne:x≠[]):∃m,x[x.length-1]?=some m/\m∈x/\∀y∈x,y<=m:=by
 let hl:=Z8.mpr ne;let z:x.length-1<x.length:=();refine{x[x.length-1],Q3 z,Zy z,λy hy=>?_};let{j,G,e}:=QC hy;rcases(show j=x.length-1\/j<x.length-1 by lia)with h|h
 .subst h;rw[e];exact Zn _
 .have:=Z1.mp up j (x.length-1) G z h;rw[e]at this;lia
structure Pa(ls:RZ)(E:Nat->Prop):Prop where
 ne:∀l∈ls,l≠[]
 le:∀l∈ls,l.length<=8
 nb:∀(i:Nat)(x y:RF),ls[i]?=some x->ls[i+1]?=some y->E i\/5<=x.length+y.length
 up:db ls.flatten
def Pa.ok(h:Pa ls E)(no:∀i,¬E i):NO ls:={h.ne,h.le,λi x y z e2=>(h.nb i x y z e2).resolve_left<|no i,h.up}
noncomputable def oW(ls:RZ)(i:Nat):List (List Int):=match ls[i]?,ls[i+1]? with
 |some x,some y=>if x.length+y.length<5 then(ls.set i<|x++y).eraseIdx (i+1)else ls
 |_,_=>ls
set_option tactic.hygienic true in
def vY(h:ls.length<=i+1):oW ls i=ls:=by
 unfold oW;have:ls[i+1]?=none:=Zr.mpr h;rw[this];split
 .rename_i h2;cases h2
 .rfl
def Ba(ex:ls[i]?=some x)(z:ls[i+1]?=some y):oW ls i=if x.length+y.length<5 then(ls.set i<|x++y).eraseIdx (i+1)else ls:=by
 unfold oW;rw[ex,z]
def EG:(oW ls i).length<=ls.length/\ls.length<=(oW ls i).length+1:=by
 unfold oW;split
 .split
  .rw[XY,QJ];split<;>lia
  .lia
 .lia
set_option tactic.hygienic true in
def vX{z v:RF}(e:((ls.set i z).eraseIdx<|i+1)[j]?=some v):(j<i/\ls[j]?=some v)\/(j=i/\v=z)\/(i<j/\ls[j+1]?=some v):=by
 rw[List.getElem?_eraseIdx]at e;split at e
 .rename_i c
  rw[Qs]at e;by_cases h:i=j
  .rw[VA h]at e;split at e
   .cases e;exact .inr<|.inl ⟨h.symm,M⟩
   .cases e
  .rw[Vz h]at e;exact .inl {(),e}
 .rename_i c
  rw[Qs,Vz ()]at e;exact .inr<|.inr {(),e}
def EF(ex:ls[i]?=some x)(z:ls[i+1]?=some y):((ls.set i<|x++y).eraseIdx<|i+1).flatten=ls.flatten:=by
 let hi:=(Q1.mp ex).1;let lt:(ls.take i).length=i:=by rw[Q8];lia
 let hy:ls.drop (i+1)=y::ls.drop (i+2):=by
  let{h,e}:=Q1.mp z;rw[<-e,<-Za h]
 let G:(ls.set i<|x++y).eraseIdx (i+1)=ls.take i++(x++y)::ls.drop (i+2):=by
  rw[ze ex,hy,V5 (),lt];have:i+1-i=1:=();rw[this];rfl
 rw[G,gS ex,hy,Zj,Zh,Zh,Qi]
def Pa.join(h:Pa ls E)(I:∀j,E j->j=i\/j+1=i):Pa (oW ls i) (λj=>j+1=i/\E j)/\(oW ls i).flatten=ls.flatten:=by
 cases ex:ls[i]? with
 |none=>
  let hl:ls.length<=i:=Zr.mp ex;rw[vY ()];refine{{h.ne,h.le,λj x y G e2=>?_,h.up},M};rcases h.nb j x y G e2 with z|z
  .rcases I j z with rfl|w
   .rw[ex]at G;cases G
   .exact .inl ⟨w,z⟩
  .exact .inr z
 |some x=>
  cases O:ls[i+1]? with
  |none=>
   let hl:ls.length<=i+1:=Zr.mp O;rw[vY hl];refine{{h.ne,h.le,λj x' y G e2=>?_,h.up},M};rcases h.nb j x' y G e2 with z|z
   .rcases I j z with rfl|w
    .rw[O]at e2;cases e2
    .exact .inl ⟨w,z⟩
   .exact .inr z
  |some y=>
   rw[Ba ex O];by_cases c:x.length+y.length<5
   .rw[VA c];let fl:=EF ex O;let mem:∀v∈(ls.set i<|x++y).eraseIdx (i+1),v=x++y\/v∈ls:=λv Z=>by
     let{j,hj,e}:=QC Z;rcases vX (Q1.mpr ⟨hj,e⟩)with⟨_,q⟩|⟨_,q⟩|⟨_,q⟩
     .exact .inr<|Q2 q
     .exact .inl q
     .exact .inr<|Q2 q
    let px:=Z8.mpr (h.ne x<|Q2 ex);let a0:(x++y).length=x.length+y.length:=Q6;refine{{λv Z=>?_,λv Z=>?_,λj u v G e2=>?_,by rw[fl];exact h.up},fl}
    .rcases mem v Z with rfl|q
     .exact Zs ()
     .exact h.ne v q
    .rcases mem v Z with rfl|q
     .lia
     .exact h.le v q
    .rcases vX G with⟨c1,U⟩|⟨c1,U⟩|⟨c1,U⟩<;>rcases vX e2 with⟨c2,Y⟩|⟨c2,Y⟩|⟨c2,Y⟩<;>(try lia)
     .rcases h.nb j u v U Y with z|z
      .rcases I j z with w|w
       .lia
       .lia
      .exact .inr z
     .rcases h.nb j u x U (by rwa[c2])with z|z
      .exact .inl ⟨c2,z⟩
      .rw[Y];exact .inr ()
     .let e3:ls[i+1+1]?=some v:=by rwa[<-c1]
      rcases h.nb (i+1) y v O e3 with z|z
      .rcases I (i+1) z with w|w<;>lia
      .rw[U];exact .inr ()
     .rcases h.nb (j+1) u v U Y with z|z
      .rcases I (j+1) z with w|w<;>lia
      .exact .inr z
   .rw[Vz c];refine{{h.ne,h.le,λj u v G e2=>?_,h.up},M};rcases h.nb j u v G e2 with z|z
    .rcases I j z with w|w
     .subst w;rw[ex]at G;rw[O]at e2;cases G;cases e2;exact .inr ()
     .exact .inl ⟨w,z⟩
    .exact .inr z
def Cv{l:RF}(h:db l):l.Nodup:=h.imp λh=>Int.ne_of_lt h
def NO.gone(o:NO ls)(ex:ls[i]?=some x)(hk:k∈x):db (ls.set i<|x.erase k).flatten/\∀z,z∈(ls.set i<|x.erase k).flatten↔z≠k/\z∈ls.flatten:=by
 let up:=o.up;rw[gS ex]at up;let{U,G,Y,I,Z,O}:=OG.mp up;let sub:(x.erase k).Sublist x:=List.erase_sublist;let nx:=Cv G;rw[qB ex,gS ex];refine{OG.mpr {U,G.sublist sub,Y,λa ha b hb=>I a ha b<|sub.subset hb,Z,λa ha b hb=>O a (sub.subset ha) b hb},λz=>?_};rw[Q5,Q5,Q5,Q5,nx.mem_erase_iff];constructor
 .rintro (h|⟨h1,h2⟩|h)
  .have:=I z h k hk;exact{(),.inl h}
  .exact{h1,.inr<|.inl h2}
  .have:=O k hk z h;exact{(),.inr<|.inr h}
 .rintro ⟨h0,h|h|h⟩
  .exact .inl h
  .exact .inr<|.inl ⟨h0,h⟩
  .exact .inr<|.inr h
def NO.shrunk(o:NO ls)(ex:ls[i]?=some x)(G:y≠[])(U:y.length<=x.length)(up:db (ls.set i y).flatten):Pa (ls.set i y) (λj=>j=i\/j+1=i):=by
 let hx:=o.le x (Q2 ex);refine{λl hl=>?_,λl hl=>?_,λj a b f g=>?_,up}
 .rcases ux ex hl with rfl|hl
  .exact G
  .exact o.ne l hl
 .rcases ux ex hl with rfl|hl
  .lia
  .exact o.le l hl
 .rcases rf ex f with⟨c,_⟩|⟨c,I⟩
  .exact .inl<|.inl c.symm
  .rcases rf ex g with⟨z,_⟩|⟨z,O⟩
   .exact .inl<|.inr z.symm
   .exact .inr<|o.nb j a b I O
def NO.out(o:NO ls)(ex:ls[i]?=some x)(Y:x.length=1)(up:db (ls.set i []).flatten):NO (ls.eraseIdx i)/\(ls.eraseIdx i).flatten=(ls.set i []).flatten:=by
 let hi:=(Q1.mp ex).1;let lt:(ls.take i).length=i:=by rw[Q8];lia
 let I:ls.eraseIdx i=ls.take i++ls.drop (i+1):=List.eraseIdx_eq_take_drop_succ _ _;let fl:(ls.eraseIdx i).flatten=(ls.set i []).flatten:=by
  rw[I,qB ex,Zj];rfl
 refine{{λl hl=>o.ne l<|Zd hl,λl hl=>o.le l<|Zd hl,λj a b f g=>?_,by rwa[fl]},fl};rcases oy f with⟨O,z⟩|⟨O,z⟩<;>rcases oy g with⟨U,G⟩|⟨U,G⟩
 .exact o.nb j a b z G
 .let e2:j+1=i:=();subst e2;let h1:=o.nb j a x z ex;let h2:=o.nb (j+1) x b ex G;lia
 .lia
 .exact o.nb (j+1) a b z G
def Nx(_K:Wp)(t:N6)(H:Hp)(a:RC)(F:RE)(ks:RF):Prop:=∃L A ls,Nk t H a L A ls/\NO ls/\ls.flatten=ks/\∀b,F b↔O8 a L A b
def Nx.ins(h:Nx K t H a F ks):∃dx fs,H a=some (.ins t.bB dx fs)/\∀m,m≠(hL:Str)->fs.lookup m=none:=by
 let{L,A,ls,hb,_}:=h;let{dx,z}:=hb.obj;exact{dx,_,z,λm G=>J7 G}
def Nx.dom(h:Nx K t H a F ks)(hb:F b):∃o,H b=some o:=by
 let{L,A,ls,h1,_,_,h2}:=h;exact h1.dom<|(h2 b).mp hb
def Nx.frame(h:Nx K t H a F ks)(f:∀b,F b->H' b=H b):Nx K t H' a F ks:=by
 let{L,A,ls,h1,z,G,h2}:=h;exact{L,A,ls,h1.frame λb hb=>f b<|(h2 b).mpr hb,z,G,h2}
def Nx.out(h:Nx K t H a F ks)(e:H p=none):¬F p:=λz=>by
 let{o,q}:=h.dom z;rw[q]at e;cases e
def tU(K:Wp)(t:N6):Sp:=λvs H Q _=>∃(a dx:RC),vs=[.ref a]/\H a=some (.ins t.bB dx [])/\H dx=some (.own a)/\∀H' F,Nx K t H' a F []->Fr (λb=>b=a\/b=dx) F H H'->Q .non H'
def uO(K:Wp)(t:N6):Sp:=λvs H Q _=>∃(a:RC)(k:Int)(F:RE)(ks:RF),vs=[.ref a,.int k]/\Nx K t H a F ks/\∀H' F',Nx K t H' a F' ks->Fr F F' H H'->Q (.bl<|decide (k∈ks)) H'
def uP(K:Wp)(t:N6):Sp:=λvs H Q E=>∃(a:RC)(k:Int)(F:RE)(ks:RF),vs=[.ref a,.int k]/\Nx K t H a F ks/\ks.length<4096/\
 (k∉ks->∀H' F' ks',Nx K t H' a F' ks'->(∀z,z∈ks'↔z=k\/z∈ks)->Fr F F' H H'->Q .non H')/\(k∈ks->False)
def pO(K:Wp)(t:N6):Sp:=λvs H Q E=>∃(a:RC)(k:Int)(F:RE)(ks:RF),vs=[.ref a,.int k]/\Nx K t H a F ks/\ks.length<4096/\
 (k∈ks->∀H' F' ks',Nx K t H' a F' ks'->(∀z,z∈ks'↔z≠k/\z∈ks)->Fr F F' H H'->Q .non H')/\(k∉ks->False)
def NO.short(o:NO ls):ls.length<=ls.flatten.length:=by
 let h:=o.ne;clear o
 induction ls with
 |nil=>exact Q4 _
 |cons x r z=>
  have:=Z8.mpr (h x Qa);have:=z λl hl=>h l (Qd _ hl);rw[Zh,Q6,Qr];lia
def pN(K:Wp)(t:N6):Sp:=λvs H Q _=>∃(a:RC)(k n:Int)(F:RE)(ks:RF),vs=[.ref a,.int k,.int n]/\Nx K t H a F ks/\ks.length<4096/\0<=n/\
 ∀(H':Hp)(l:RC),Ck H H'->H l=none->H' l=some (.lst<|((ks.filter λz=>decide (k<=z)).take n.toNat).map V.int)->Q (.ref l) H'
def rE{n:Int}(h:0<=n):oK xs none (some n)=xs.take n.toNat:=by
 unfold oK HT.sIx;simp only[Zp,Nat.sub_zero];rw[Vz ()];rcases Nat.le_total n.toNat xs.length with c|c
 .rw[Zt c]
 .rw[Vi c,Qw,Qx c]
def EL(o:NO ls)(h:NU ls k i0):∀z∈(ls.take i0).flatten,¬k<=z:=λz hz=>by
 have:=h.ahead z hz;lia
noncomputable def eO(k:R8)(z:Int):Bool:=match k with|none=>true|some k=>decide (z<=k)
def vDn:Option Int->V|none=> .non|some k=> .int k
def l6(K:Wp)(t:N6):Sp:=λvs H Q _=>∃(a:RC)(k:R8)(n:Int)(F:RE)(ks:RF),vs=[.ref a,vDn k,.int n]/\Nx K t H a F ks/\ks.length<4096/\0<=n/\
 ∀(H':Hp)(l:RC),Ck H H'->H l=none->H' l=some (.lst<|((ks.reverse.filter<|eO k).take n.toNat).map V.int)->Q (.ref l) H'
noncomputable def Hm.low(s:Hm):Int:=match s.nxt with
 |none=>s.size
 |some m=>if m<s.size then m else s.size
def GB{M':Int}(h:M'∈st.rows)(l:∀x∈st.rows,M'<=x):M'=st.low:=by
 unfold Hm.rows at h l;unfold Hm.low;cases e:st.nxt with
 |none=>rw[e]at h;simpa using h
 |some m=>
  rw[e]at h l;let h:M'=st.size\/M'=m:=by simpa using h
  let l1:=l st.size (by simp);let z:=l m (by simp);show M'=if m<st.size then m else st.size
  split<;>lia
def gF(z:N9 st):st.low∈([4,8,16,32,64,128,256]:RF):=by
 unfold Hm.low;cases e:st.nxt with
 |none=>exact z.pw
 |some m=>
  show(if m<st.size then m else st.size)∈_;split
  .exact(z.nx m e).1
  .exact z.pw
def vn{x:Int}(h:x∈([4,8,16,32,64,128,256]:List Int)):∃a b,Row x a b:=by
 rcases mG h with h|h|h|h|h|h|h<;>subst h
 .exact{_,_,pX (k:=0) (_)}
 .exact{_,_,pX (k:=1) (_)}
 .exact{_,_,pX (k:=2) (_)}
 .exact{_,_,pX (k:=3) (_)}
 .exact{_,_,pX (k:=4) (_)}
 .exact{_,_,pX (k:=5) (_)}
 .exact{_,_,pX (k:=6) (_)}
def yZ{S p:Int}{a b:Nat}(R:Row S a b)(G:0<=p)(h1:p<65536):tz (tz p%S)+65536/S=(p/(65536/S)+1)*(65536/S):=by
 let hs:=R.st_has (m:=tz p) (sd p);rw[CY G h1]at hs;let I:=R.slot (s:=tz p%S) (R.mod0 _) (R.mod1 _);let w:=R.width;let z:=R.wpos';rw[I.1,<-w]at hs⊢;have:p/(65536/S)=rz a (tz p%S):=by
  let k0:=Qg p (QY z);let O:=Qk p z;let k2:=XS p (65536/S);exact R.between z (x:=p/(65536/S)) (y:=rz a<|tz p%S) (p:=p) () () hs.1 hs.2
 rw[this,Int.add_mul,Int.one_mul,V8]
def uH(K:Wp)(t:N6):Sp:=λvs H Q _=>∃(a:RC)(p:Int)(F:RE)(st:Hm),vs=[.ref a,.int p]/\NW K t H a F st/\0<=p/\p<65536/\
 ∀H' F',NW K t H' a F' st->Fr F F' H H'->Q (.int<|(p/(65536/st.low)+1)*(65536/st.low)) H'
structure xV(kd:Str)(fs:RW)(a e:V):Prop where
 ki:fs.lookup (Pr:Str)=some (.str kd)
 at_:fs.lookup (rD:Str)=some a
 end_:fs.lookup (u4:Str)=some e
 wo:fs.lookup ("words":Str)=none
 ho:fs.lookup (Rj:Str)=none
def PY(a e:V):Prop:=∃i j,a= .int i/\e= .int j/\0<=i/\i<=j/\j<=65536
def OH(a e:V):Prop:=∃i,a= .int i/\0<=i/\(e= .non\/∃j,e= .int j/\i<=j)
def OJ(a e:V):Prop:=∃j,e= .int j/\0<=j/\(a= .non\/∃i,a= .int i/\j<=i)
def OE(p:RC)(H H':Hp):Prop:=∀b o,H b=some o->b≠p->H' b=some o
def Av:Sp:=λvs H Q _=>∃x,vs=[x]/\Sc x/\Q (.bl<|isW x) H
noncomputable def isF(lo:Int):V->Bool
 | .int i=>decide (lo<=i)|_=>false
def Cd:Sp:=λvs H Q _=>∃x lo,vs=[x,.int lo]/\Sc x/\Q (.bl<|isF lo x) H
def g7(K:Wp):Sp:=λvs H Q _=>∃(p C dx:RC)(kd:Str)(a e:V),vs=[.ref p,.str kd,a,e]/\H p=some (.ins C dx [])/\O9 K C/\Bt K C Pr/\Bt K C rD/\Bt K C u4/\∀H' fs,OE p H H'->H' p=some (.ins C dx fs)->xV kd fs a e->Q .non H'
def Ay(C N:RC)(kd:Str)(ok:V->V->Prop):Sp:=λvs H Q E=>∃(p dx:RC)(a e:V),vs=[.ref p,a,e]/\H p=some (.ins C dx [])/\Sc a/\Sc e/\
 (ok a e->∀H' fs,OE p H H'->H' p=some (.ins C dx fs)->xV kd fs a e->Q .non H')/\(¬ok a e->False)
def sj(t:N6):Sp:=Ay t.aQ t.oE wG PY
def Ax(t:N6):Sp:=Ay t.dE t.oE "up" OH
def w6(t:N6):Sp:=Ay t.cz t.oE Ry OJ
def O6(kd:Int)(a e:V):Prop:=(kd=0/\PY a e)\/(kd=1/\OH a e)\/(kd=2/\OJ a e)
def hS:V->V->Int->Bool
 | .int i,.int j,k=>decide (i<=tz (k%65536))&&decide (tz (k%65536)<j)
 |_,_,_=>false
noncomputable def hU:V->V->Int->Bool
 | .int i,.int j,k=>decide (i<=k)&&decide (k<j)
 | .int i,.non,k=>decide (i<=k)
 |_,_,_=>false
noncomputable def hD:V->V->Int->Bool
 | .int i,.int j,k=>decide (j<=k)&&decide (k<=i)
 | .non,.int j,k=>decide (j<=k)
 |_,_,_=>false
def hN(kd:Int):V->V->Int->Bool:=if kd=0 then hS else if kd=1 then hU else hD
def Ce(C:RC)(kd:Str)(ok:V->V->Prop)(h:V->V->Int->Bool):Sp:=λvs H Q _=>∃(p dx:RC)(fs:RW)(a e:V)(k:Int),vs=[.ref p,.int k]/\H p=some (.ins C dx fs)/\xV kd fs a e/\ok a e/\0<=k/\∀H',Ck H H'->Q (.bl<|h a e k) H'
def eP(t:N6):Sp:=Ce t.aQ wG PY hS
def dC(t:N6):Sp:=Ce t.dE "up" OH hU
def cq(t:N6):Sp:=Ce t.cz Ry OJ hD
def PD(t:N6)(kd:Int):Addr:=if kd=0 then t.aQ else if kd=1 then t.dE else t.cz
noncomputable def kdS(kd:Int):Str:=if kd=0 then wG else if kd=1 then "up" else Ry
def oh{x:RC}(h1:H x=none)(h2:H dx=none)(k:OE x (upd (upd H dx<|.own x) x<|.ins C dx []) H'):Ck H H':=λb o q=>by
 refine k b o ?_<|al q h1;rw[ae (al q h1),ae (al q h2)];exact q
def spHN(t:N6)(kd:Int):Sp:=if kd=0 then eP t else if kd=1 then dC t else cq t
def NM(t:N6)(H:Hp)(p:RC)(kd:Int)(a e:V):Prop:=∃(dx:RC)(fs:RW),H p=some (.ins (PD t kd) dx fs)/\xV (kdS kd) fs a e
def NM.same{kd:Int}{a:V}(h:NM t H p kd a e)(s:Ck H H'):NM t H' p kd a e:=by
 let{dx,fs,h1,h2}:=h;exact{dx,fs,s _ _ h1,h2}
def O6.sc{kd:Int}{a:V}(h:O6 kd a e):Sc a/\Sc e:=by
 rcases h with⟨_,i,j,rfl,rfl,_⟩|⟨_,i,rfl,_,rfl|⟨j,rfl,_⟩⟩|⟨_,j,rfl,_,rfl|⟨i,rfl,_⟩⟩<;>exact⟨VU,VU⟩
def O6.kd{kd:Int}{a:V}(h:O6 kd a e):kd=0\/kd=1\/kd=2:=by
 rcases h with⟨h,_⟩|⟨h,_⟩|⟨h,_⟩
 .exact .inl h
 .exact .inr<|.inl h
 .exact .inr<|.inr h
def O6.s{a:V}(h:O6 0 a e):PY a e:=by
 rcases h with⟨_,h⟩|⟨h,_⟩|⟨h,_⟩
 .exact h
 .cases h
 .cases h
def O6.u{a:V}(h:O6 1 a e):OH a e:=by
 rcases h with⟨h,_⟩|⟨_,h⟩|⟨h,_⟩
 .cases h
 .exact h
 .cases h
def O6.d{a:V}(h:O6 2 a e):OJ a e:=by
 rcases h with⟨h,_⟩|⟨h,_⟩|⟨_,h⟩
 .cases h
 .cases h
 .exact h
def dHN{kd:Int}(h:kd=0\/kd=1\/kd=2):DOr (D1 t.aQ<|eP t) (DOr (D1 t.dE<|dC t)<|D1 t.cz<|cq t) (PD t kd) (spHN t kd):=by
 rcases h with rfl|rfl|rfl
 .exact .inl ⟨M,M⟩
 .exact .inr<|.inl ⟨M,M⟩
 .exact .inr<|.inr ⟨M,M⟩
def zb{kd:Int}{a:V}{E:XK}(z:O6 kd a e)(h:H p=some (.ins (PD t kd) dx fs))(f:xV (kdS kd) fs a e)(G:0<=k)
  (q:∀H',Ck H H'->Q (.bl<|hN kd a e k) H'):spHN t kd [.ref p,.int k] H Q E:=by
 rcases z.kd with rfl|rfl|rfl
 .exact⟨p,dx,fs,a,e,k,M,h,f,z.s,G,q⟩
 .exact⟨p,dx,fs,a,e,k,M,h,f,z.u,G,q⟩
 .exact⟨p,dx,fs,a,e,k,M,h,f,z.d,G,q⟩
structure Tp where
 p:Addr
 k:Int
 v:V
def Tp.kv(e:Tp):Int×V:=(e.k,e.v)
structure PgA(H H':Hp)(F F':RE)(r g:RC)(v:V)(ts:List Tp):Prop where
 tu:H' r=some (.tup [.ref g,v])
 li:H' g=some (.lst<|ts.map λe=>V.ref e.p)
 rw:∀e∈ts,H' e.p=some (.tup [.int e.k,e.v])/\¬F' e.p
 nr:(¬F r->H r=none)/\¬F' r
 ng:(¬F g->H g=none)/\¬F' g
section
variable{P:RN}{w:RO}{mg:RU}{base:Heap}
variable{K:Wp}{t:N6}(T:Txt K mg t)
def D8:Sp:=λvs H Q _=>∃n:Int,vs=[.int n]/\0<=n/\Q (.int<|tz n) H
def Cb:Sp:=λvs H Q _=>∃k:Int,vs=[.int k]/\Q (.int<|k%65536) H
def Au:Sp:=λvs H Q _=>∃k:Int,vs=[.int k]/\Q (.int<|tz<|k%65536) H
def B9:Sp:=λvs H Q _=>∃k n:Int,vs=[.int k,.int n]/\0<n/\Q (.int<|k%65536%n) H
def Ca:Sp:=λvs H Q _=>∃p n:Int,vs=[.int p,.int n]/\0<=p/\0<n/\Q (.int<|tz p%n) H
def wO:Sp:=λvs H Q _=>∃s n:Int,vs=[.int s,.int n]/\0<=s/\0<n/\n<1073741824/\∀p,H p=none->Q (.ref p) (upd H p<|.tup [.int (tz s),.int (tz s+65536/n)])
def sH:Bs P w K mg base N8 1 t.Bz t.wt [Pl] D8:=by
 let{G,z}:=T.g_BITS;refine T.wI.okl Ee λs H vs Q E O h _=>?_;intro X;let{n,rfl,U,k}:=h;refine aj (ND 1 af)
   (aj (ND 2 Ac)
   (aj (eZ VP M (eG {_} T.iN (ac (cm (v:= .int 16) {_} z {_,M}) ag)) (OQ 3)
    (jQ (ND 1<|ao bi (ao cI E5 af)<|ao aT HN af)
    (aD<|ND 2<|ao aR HN af)))
   (aw (aK E5) ?_)))
 intros
 let I:((n.toNat/2^0:Nat):Int)=n:=by rw[Nat.pow_zero,Nat.div_one];lia
 refine{_,M,16,M,(_),(_),yw (n:=16) (λi W H'=>∃v,H'=H/\W=[some (.int n),some (.int ((rv i n.toNat:Nat):Int)),some (.int ((n.toNat/2^i:Nat):Int)),v]) ?_ ?_ ?_}
 .refine{none,M,?_};rw[I];rfl
 .rintro i W H' hi ⟨v,rfl,rfl⟩;refine{_,M,_,_,M,M,.inr {(_),(_)},_,M,_,_,M,M,(by show(0:Int)<2;decide),_,_,M,M,_,M,_,_,M,M,{(_),(_)},?_};refine{some<|.int<|0+(i:Int),M,?_};rw[<-D0 i n.toNat,<-D3 i n.toNat];rfl
 .rintro W H' ⟨v,rfl,rfl⟩;unfold tz at k;exact{_,M,k}
def vx:Bs P w K mg base N8 1 t.yP t.sX [eH] Cb:=by
 let{G,z}:=T.g_PLACES;refine T.yT.okl Ci λs H vs Q E I h _=>?_;intro X;let{n,rfl,k}:=h;refine{_,(aD<|aK<|ao aT Ac<|cm (v:= .int 65536) {_} z {_,M})
  ,?_}
 exact{_,M,_,_,M,M,(by show(0:Int)<65536;decide),k}
def tE:Bs P w K mg base N8 2 t.wB t.qh [eH] Au:=by
 refine T.wK.okl AA λs H vs Q E z h _=>?_;intro X;let{n,rfl,k}:=h;refine{_,(aD<|aK<|aI (sH T) z.mo {_} T.AX T.wI.kp T.Bv .nil au (ac (aI (vx T) z.mo {_} T.Ez T.yT.kp T.EY .nil au (ac Ac ag)) ag))
  ,?_}
 exact{_,M,_,M,_,M,Qg _ (_),k}
def vt:Bs P w K mg base N8 2 t.yN t.sV [eH,sD] B9:=by
 refine T.tq.okl Cg λs H vs Q E z h _=>?_;intro X;let{n,m,rfl,G,k}:=h;refine{_,(aD<|aK<|ao aT (aI (vx T) z.mo {_} T.Ez T.yT.kp T.EY .nil au (ac Ac ag)) E5)
  ,?_}
 exact{_,M,_,M,_,M,_,_,M,M,G,k}
def vv:Bs P w K mg base N8 2 t.yO t.sW [wF,sD] Ca:=by
 refine T.yS.okl Ch λs H vs Q E z h _=>?_;intro X;let{n,m,rfl,G,I,k}:=h;refine{_,(aD<|aK<|ao aT (aI (sH T) z.mo {_} T.AX T.wI.kp T.Bv .nil au (ac Ac ag)) E5)
  ,?_}
 exact{_,M,_,M,G,_,M,_,_,M,M,I,k}
def xv:Bs P w K mg base N8 2 t.rJ t.kW [Rt,sD] wO:=by
 let{G,z}:=T.g_PLACES;refine T.Ad.okl xa λs H vs Q E I h _=>?_;intro X;let{n,m,rfl,O,U,h1,k}:=h;refine aj (ND 2<|aI (sH T) I.mo {_} T.AX T.wI.kp T.Bv .nil au (ac Ac ag))
   (aw (aK<|cG<|ac HN<|ac (ao bi HN<|ao aR (cm (v:= .int 65536) {_} z {_,M}) E5) ag) ?_)
 intros
 exact{_,M,_,M,O,_,M,_,M,_,M,_,_,M,M,⟨U,h1⟩,_,_,M,M,(by show 2<=sizeLine;decide),λp Y=>k p Y}
def Ec(h:n<=4096):n<sizeLine:=Xo h (_)
def y7:Sp:=λvs H Q _=>∃n:Int,vs=[.int n]/\0<=n/\n<=1000/\∀H' r A,Ck H H'->H r=none->(∀b∈A,H b=none)->N7 H' r A (List.replicate n.toNat []) n->Q (.ref r) H'
set_option tactic.hygienic true in
def qQ:Bs P w K mg base N8 1 t.tL t.nu [sD] y7:=by
 refine T.n8.okl zh λs H vs Q E hr h _=>?_;intro X;let{n,rfl,n0,n1,q}:=h;refine{_,(aD<|aK<|iS M (Hc.of (M':=[Rt]) (N:=[sD]) (N':=[sD]) (dsc:=ak iR) M M ∅) (eG {_} T.iN (ac Ac ag))<|λ_ _ _ _ _=>e7)
  ,?_}
 refine{_,M,n,M,(),(),λD hD=>?_};refine iG (n:=n.toNat) (lo:=0) (λi ys H3=>Ck H H3/\∃as:List Addr,ys=as.map V.ref/\as.length=i/\(∀b∈as,H b=none/\b≠D/\H3 b=some (.dK []))/\∀(x y:Nat)(b:RC),as[x]?=some b->as[y]?=some b->x=y)
  {am hD,[],M,M,(λb hb=>by cases hb),λx y b e=>by simp at e} (λi ys H3 hi ⟨s3,as,Y,Z,hb,inj⟩ G=>?_) (λys H3 ⟨s3,as,Y,Z,hb,inj⟩ G=>?_)
 .intro c O;let cD:c≠D:=(al G O).symm;let I:c∉as:=λz=>by
   have:=(hb c z).2.2;rw[O]at this;cases this
  let nH:H c=none:=by
   cases e:H c with
   |none=>rfl
   |some o=>rw[s3 c o e]at O;cases O
  refine NL.mk hi (by rwa[ae cD.symm]) (by rw[Y,Q0];exact bQ ()) {bT (s3.trans<|am O) hD,as++ [c],by rw[Y,Q9];rfl,by rw[Q6,Z];rfl,λb a0=>?_,λx y b e1 e2=>?_}
  .rcases Q5.mp a0 with z|z
   .let{h1,h2,h3}:=hb b z;exact{h1,h2,by rwa[ae h2,ae (λw=>I<|by rw[<-w];exact z)]}
   .rw[Q7.mp z];exact{nH,cD,by rw[ae cD,ai]}
  .let U:∀x:Nat,(as++ [c])[x]?=some b->as[x]?=some b\/(x=as.length/\b=c):=λx e=>by
    rw[XX]at e;split at e
    .exact .inl e
    .rename_i w
     have:x-as.length=0:=by
      rcases ZS (x-as.length)with z|z
      .exact z
      .rw[ZF (by simp;lia)]at e;cases e
     rw[this]at e;cases e;exact .inr {(),M}
   rcases U x e1 with f1|⟨f1,g1⟩<;>rcases U y e2 with f2|⟨f2,g2⟩
   .exact inj x y b f1 f2
   .subst g2;exact VE (Q2 f1) I
   .subst g1;exact VE (Q2 f2) I
   .lia
 .refine q H3 D as s3 hD (λb z=>(hb b z).1) {by rw[G,Y],by rw[Z];lia,by rw[Zq];lia,λj b kv e1 e2=>?_,λj kv e=>?_,inj,λj kv e p hp=>?_}
  .rw[Zu (Q2 e2)];exact(hb b<|Q2 e1).2.2
  .rw[Zu (Q2 e)];exact QZ
  .rw[Zu (Q2 e)]at hp;cases hp
def qu(t:N6):Sp:=λvs H Q _=>∃(a:RC)(k:Int)(st:Hm)(d:OM),vs=[.ref a,.int k]/\NR t H a st d/\N9 st/\∀c kv,IsCell d st k c kv->Q (.ref c) H
def oG(t:N6):Sp:=λvs H Q _=>∃(a:RC)(st:Hm)(d:OM),vs=[.ref a]/\NR t H a st d/\N9 st/\st.kv.length<4096/\∀H' d',NR t H' a st.one d'->d'.n=d.n->Fr (No a st d) (No a st.one d') H H'->Q .non H'
def oH(t:N6):Sp:=λvs H Q _=>∃(a:RC)(st:Hm)(d:OM),vs=[.ref a]/\NR t H a st d/\N9 st/\d.n=(st.kv.length:Int)/\∀H' d',NR t H' a st.three d'->d'.n=d.n->Fr (No a st d) (No a st.three d') H H'->Q .non H'
def vT{z:Int}(G:0<=z)(e:A[z.toNat]?=some c):OR (A.map V.ref) z=some (.ref c):=by
 let{j,rfl}:=Z7 G;refine rH ?_;rw[Qp];let e:A[j]?=some c:=e;rw[e];rfl
def cZ:Bs P w K mg base N8 3 t.j7 t.fY [et,eH] (qu t):=by
 refine T.E7.okl qC λs H vs Q E Y h _=>?_;intro X;let{a,k,st,d,rfl,hb,z,q}:=h;refine aj (ND 2<|aS aX (aq Ac M) af<|λ_ _=>M)
   (aj (ND 3<|aI (vt T) Y.mo {_} T.yq T.tq.kp T.yL .nil au (ac E5<|ac (aG aE {_} T.bS bq (ac HN ag)) ag))
   (aj (aU (aA yg NJ (aq Ac M)<|aC _)
    (aD<|aK<|aS aX HN NJ<|λ_ _=>M)
    aL)
   (aj (ND 4<|aS aX (aq Ac M) af<|λ_ _=>M)
   (aw (aK<|aS aX Nl (aI (vt T) Y.mo {_} T.yq T.tq.kp T.yL .nil au (ac E5<|ac (aG aE {_} T.bS bq (ac Nl ag)) ag))<|λ_ _=>M) ?_))))
 intros
 let{dx,I}:=hb.obj;let{s4,s5}:=bO z.pw;let{O,Z,m2}:=sO (k:=k) s4;let t0:∃xs,H d.tb=some (.lst xs)/\OR xs 0=some (.ref d.r0):=by
  refine{_,hb.tbl,?_};cases st.nxt<;>rfl
 let{xs,hx,x0}:=t0;let a0:∀{Q':VK},Q' (.ref d.tb) H->tFld K (Kv 0) vm [some (.ref a),some (.int k),none,none,none] H Q':=λ{Q'} q=>{_,M,a,_,dx,_,_,M,I,T.aF,T.aV,iQ,q};let la:((d.A0.map V.ref).length:Int)=st.size:=by rw[Q0];exact hb.row0.la
 refine{_,M,a,_,dx,_,_,M,I,T.aF,T.aV,iQ,d.tb,_,_,_,M,M,DI.of hx,x0,?_};refine{_,M,_,M,d.r0,_,M,.inl<|DI.of hb.row0.lst,k,_,M,by rw[la];lia,?_};dsimp only;rw[la];refine{_,M,_,M,a,_,dx,_,_,M,I,T.aF,T.bR,Az,_,_,M,M,_,M,cT (λc=>?_)<|λc=>?_}
 .let c:=VH c;let{x,G}:=dI (l:=d.A0) O (by rwa[hb.row0.la]);let{y,e2}:=dI (l:=d.C0) O (by rwa[hb.row0.lc]);exact{_,M,_,M,d.r0,_,_,_,M,M,DI.of hb.row0.lst,vT O G,q x y<|.inl ⟨c,G,e2⟩}
 .let c:¬st.moved<=k%65536%st.size:=λz=>c (VJ z);cases e:st.nxt with
  |none=>rw[Hm.moved_none e]at c;exact VE O c
  |some m=>
   let hm:=Hm.moved_some e;let{pm,_}:=z.nx m e;let{s6,_}:=bO pm;let{U,n1,n2}:=sO (k:=k) s6;let r1:=hb.row1;rw[e]at r1;let ht:=hb.tbl;rw[e]at ht;let lb:((d.A1.map V.ref).length:Int)=m:=by rw[Q0];exact r1.la
   let{x,G}:=dI (l:=d.A1) U (by rwa[r1.la]);let{y,e2}:=dI (l:=d.C1) U (by rwa[r1.lc]);refine{_,M,a,_,dx,_,_,M,I,T.aF,T.aV,iQ,d.tb,_,_,_,M,M,DI.of ht,M,?_};refine{_,M,_,M,_,M,d.r1,_,M,.inl<|DI.of r1.lst,k,_,M,by rw[lb];lia,?_};dsimp only;rw[lb];exact{d.r1,_,_,_,M,M,DI.of r1.lst,vT U G,q x y<|.inr {m,e,(),G,e2}}
def a9(h:n<=100000):n<sizeLine:=Xo h (_)
def Ln{z:Int}(G:0<=z)(h1:z<n):Oc n z=some z.toNat:=by unfold Oc;rw[VA G,VA h1]
def ou{kv:RH}{k:Key}(e:(az kv)[i]?=some (k,v)):∃n:Int,k=Sum.inl n/\kv[i]?=some (n,v):=by
 unfold az at e;rw[Qp]at e;cases q:kv[i]? with
 |none=>rw[q]at e;cases e
 |some p=>rw[q]at e;cases e;exact⟨p.1,M,M⟩
def Fx{kv:RH}{C:List (List<|Int×V)}{p:Int×V}(e:kv[i]?=some p):(kv.take<|i+1).foldl (gE m) C=gE m ((kv.take i).foldl (gE m) C) p:=by
 rw[Qo,e,X1];rfl
def gI:Bs P w K mg base N8 3 t.iJ t.eD [et] (oG t):=by
 refine T.CQ.okl oI λs H vs Q E hr h _=>?_;intro X;let{a,st,d,rfl,hb,z,hl,q}:=h;refine aj (aU (aA cY (aG aE {_} T.bS bq (ac (aq Ac M) ag)) af<|aC _)
    (aD oj)
    aL)
   (aj (ND 1<|aS aX (aq Ac M) af<|λ_ _=>M)
   (aj (ND 2<|aS aX (aq Ac M) af<|λ_ _=>M)
   (bV (λx=>(uw (eZ VP M (vq<|zx QW ZT XC vK<|aS aX E5 (aq Ac M)<|λ_ _=>M) (Cr M<|jR (OQ 3)<|jR (OQ 4) zt)
    x))) ?_)))
 refine aw (kL (iV hr) (aS aX HN (aI (vt T) hr.mo {_} T.yq T.tq.kp T.yL .nil au (ac NJ<|ac (aG aE {_} T.bS bq (ac HN ag)) ag))<|λ_ _=>M) NJ Nl M) ?_
 intros
 refine aj (Co e7<|Cs E5 (aq Ac M) uV)
   (aj (gX Ac af we)
   (aw (aU (aA cY (aq Ac M) (aG aE {_} T.bS bq (ac E5 ag))<|aC _)
    (jQ (ba Ac (cH<|ac HN ag) M)
    (aD<|ba Ac af M))
    aL) ?_))
 intros
 let{dx,ho}:=hb.obj;let ht:=hb.tbl;cases e:st.nxt with
 |none=>
  rw[e]at ht;refine{_,M,a,_,dx,_,_,M,ho,T.aF,T.aV,iQ,d.tb,_,M,.inl<|DI.of ht,M,_,M,jV M ?_};let e1:st.one=st:=by unfold Hm.one;rw[e]
  rw[e1]at q;exact q H d hb M Fr.refl
 |some m=>
  rw[e]at ht;refine{_,M,a,_,dx,_,_,M,ho,T.aF,T.aV,iQ,d.tb,_,M,.inl<|DI.of ht,M,_,M,bz (λz=>by cases z) ?_};refine{_,M,a,_,dx,_,_,M,ho,T.aF,T.aV,iQ,d.tb,_,_,_,M,M,DI.of ht,M,?_};refine{_,M,a,_,dx,_,_,M,ho,T.aF,T.aV,iQ,d.tb,_,_,_,M,M,DI.of ht,M,?_};let{pm,v0,v1,_}:=z.nx m e;let{s4,s5}:=bO z.pw;let{s6,s7}:=bO pm;let hm:=Hm.moved_some e;rw[hm]at ho;let r1:=hb.row1;rw[e]at r1;let{c0,ec}:=dI (l:=d.A0) v0 (by rwa[hb.row0.la]);let{kv,ek}:=dI (l:=d.C0) v0 (by rwa[hb.row0.lc]);let I:=hb.row0.cell _ _ _ ec ek;let lb:((d.A1.map V.ref).length:Int)=m:=by rw[Q0];exact r1.la
  let a5:c0∉d.A1:=hb.dis c0 (Q2 ec);let ah:d.r1≠c0:=cM r1.lst I (by intro z;cases z);let be:=hb.short0 z ek;let a6:∀b,b=d.r1\/b∈d.A1->∃o,H b=some o:=λb hb1=>by
   rcases hb1 with rfl|hb1
   .exact{_,r1.lst}
   .let{_,_,_,_,w}:=r1.has hb1;exact{_,w}
  refine{c0,az kv,I,_,M,_,M,a,_,dx,_,_,M,ho,T.aF,T.bR,Az,d.r0,_,_,_,M,M,DI.of hb.row0.lst,vT v0 ec,.inr<|.inr<|.inl {M,.inl {_,I}},c0,az kv,M,M,I,λvw nv=>?_};let b2:upd H vw (Ol vw c0) c0=some (.dK<|az kv):=by rw[ae (al I nv)];exact I
  refine{vw,c0,az kv,M,ai,b2,λob=>?_};refine qf (λi W H'=>∃v3 v4,W=[some (.ref a),some (.ref d.r0),some (.ref d.r1),v3,v4]/\N7 H' d.r1 d.A1 ((kv.take i).foldl (gE m) d.C1) m/\H' c0=some (.frz ob<|.dK<|az kv)/\∀b o,b∉d.A1->b≠c0->H b=some o->H' b=some o)
   {_,_,M,?_,ai,λb o _ n2 e=>?_} (λi W H' _ ⟨_,_,_,_,hf,_⟩=>hf) (λi k v p W H' ei ⟨v3,v4,aa,hr,hf,hk⟩ np=>?_) (λW H' ⟨v3,v4,aa,hr,hf,hk⟩=>?_)
  .refine N7.frame (H:=H) r1 λb hb1=>?_;let{o,w}:=a6 b hb1;let n2:b≠c0:=by
    rcases hb1 with rfl|hb1
    .exact ah
    .exact λz=>a5 (z▸hb1)
   rw[ae n2,ae (al w nv)]
  .rwa[ae n2,ae (al e nv)]
  .subst aa;let{n,rfl,en}:=ou ei;let a0:N7 (upd H' p<|.tup [kV (Sum.inl n),v]) d.r1 d.A1 ((kv.take i).foldl (gE m) d.C1) m:=hr.frame λb hb1=>ae λw=>by
    have:∃o,H' b=some o:=by
     rcases hb1 with rfl|hb1
     .exact{_,hr.lst}
     .let{_,_,_,_,w}:=hr.has hb1;exact{_,w}
    let{o,q}:=this;rw[w,np]at q;cases q
   let{n0,n1,n2}:=sO (k:=n) s6;let{c,e1}:=dI (l:=d.A1) n0 (by rwa[a0.la]);let{y,e2}:=dI (l:=(kv.take i).foldl (gE m) d.C1) n0 (by rwa[a0.lc]);let{y0,e3}:=dI (l:=d.C1) n0 (by rwa[r1.lc]);let yl:=AO e3 e2;let bl:=hb.short1 z e e3;let tl:(kv.take i).length<=kv.length:=by rw[Q8];lia
   let hc:=a0.cell _ _ _ e1 e2;let cA:c∈d.A1:=Q2 e1;refine{p,_,M,Na.of ai,M,_,_,M,_,_,M,M,?_};refine{_,M,_,M,_,M,_,M,d.r1,_,M,.inl<|DI.of a0.lst,n,_,M,by rw[lb];lia,?_};dsimp only;rw[lb];refine{d.r1,_,_,_,M,M,DI.of a0.lst,vT n0 e1,_,M,c,_,M,O1.k (k:=Sum.inl n) hc (by rw[a8];exact a9 ()),?_};rw[cw];let pn:∀b o,H' b=some o->b≠p:=λb o q=>al q np;refine{_,_,M,?_,?_,λb o nA nc q=>?_}
   .rw[Fx en];exact a0.mov s6 e1 e2
   .rwa[ae (λw=>a5<|by rw[w];exact cA),ae (pn _ _ hf)]
   .let q:=hk b o nA nc q;rw[ae (λw=>nA<|by rw[w];exact cA),ae (pn _ _ q)];exact q
  .subst aa;rw[a8,Qw]at hr;refine{ob,hf,λb' O=>?_};let hF:∀b,¬No a st d b->b∉d.A1/\b≠c0/\b≠a/\b≠d.r0/\b≠d.tb/\b≠d.r1:=λb n=>
    {λq=>n<|.inr<|.inr<|.inr<|.inr<|.inr q,λq=>n<|.inr<|.inr<|.inr<|.inl<|q▸Q2 ec,λq=>n<|.inl q,λq=>n<|.inr<|.inr<|.inl q,λq=>n<|.inr<|.inl q,λq=>n<|.inr (.inr<|.inr<|.inr<|.inl {by rw[e];rfl,q})}
   let a2:∀b o,H b=some o->(∀kvs,o≠ .dK kvs)->b∉d.A1:=λb o q ne w=>(r1.notr w q ne) M;let K1:∀b o,b∉d.A1->b≠c0->H b=some o->upd H' c0 (.dK<|az kv) b=some o:=λb o n1 n2 q=>by rw[ae n2];exact hk b o n1 n2 q
   let a1:N7 (upd H' c0<|.dK<|az kv) d.r1 d.A1 (kv.foldl (gE m) d.C1) m:=hr.frame λb hb1=>ae (by
    rcases hb1 with rfl|hb1
    .exact ah
    .exact λw=>a5<|w▸hb1)
   let an:upd H' c0 (.dK<|az kv) c0=some (.dK<|az kv):=ai;generalize upd H' c0 (.dK<|az kv)=H3 at O K1 a1 an⊢;let U:=K1 a _ (a2 _ _ ho<|λ_ w=>by cases w) (cM ho I<|by intro w;cases w) ho;let a3:=hb.row0.lst;let G:=K1 d.r0 _ (a2 _ _ a3<|λ_ w=>by cases w) (cM a3 I<|by intro w;cases w) a3;let ab:=K1 d.tb _ (a2 _ _ ht<|λ_ w=>by cases w) (cM ht I<|by intro w;cases w) ht;let b3:¬No a st d b':=λw=>by
    rcases w with w|w|w|w|⟨_,w⟩|w
    .rw[w,U]at O;cases O
    .rw[w,ab]at O;cases O
    .rw[w,G]at O;cases O
    .let{j,b4,f1,f2,f3}:=hb.row0.has w;by_cases y:b'=c0
     .rw[y,an]at O;cases O
     .rw[K1 b' _ (hb.dis b' w) y f3]at O;cases O
    .rw[w,a1.lst]at O;cases O
    .let{_,_,_,_,w'}:=a1.has w;rw[w']at O;cases O
   let lA:((d.A0.map V.ref).length:Int)=st.size:=by rw[Q0];exact hb.row0.la
   let bo:∀{x:RC}{o:HO},H3 x=some o->x≠b':=λq=>al q O;refine{_,M,_,M,a,_,dx,_,_,M,(by rwa[ae (bo U)]),T.aF,T.bR,Az,d.r0,_,_,_,M,M,(by rwa[ae (bo G)]),Ln v0 (by rwa[lA]),?_};let g0:H3 d.r1=some (.lst<|d.A1.map V.ref):=a1.lst;let ra:d.r0≠a:=cM a3 ho (by intro w;cases w);let b5:d.r0≠d.r1:=(hb.tr1<|by rw[e];rfl).2;let t1:d.tb≠d.r1:=(hb.tr1<|by rw[e];rfl).1;let ta:d.tb≠a:=cM ht ho (by intro w;cases w);let ax:d.r1≠a:=cM r1.lst ho (by intro w;cases w);let Z:∀b∈d.A1,b≠b'/\b≠d.r0/\b≠a:=λb w=>by
    let{_,_,_,_,f}:=a1.has w;exact{bo f,cM f G (by intro w;cases w),cM f U<|by intro w;cases w}
   let es:(d.A0.map V.ref).set st.mv.toNat (V.ref b')=(d.A0.set st.mv.toNat b').map V.ref:=by rw[Vd]
   rw[es];let b1:upd (upd H3 b'<|.dK []) d.r0 (.lst<|(d.A0.set st.mv.toNat b').map V.ref) a=some (.ins t.aY dx<|Nt d.tb st.mv d.n):=by rwa[ae ra.symm,ae (bo U)]
   refine{_,M,a,_,dx,_,_,M,b1,T.aF,T.bR,Az,_,_,M,M,dx,_,b1,qz,?_};rw[JV];let a4:∀{o:HO},upd (upd (upd H3 b'<|.dK []) d.r0<|.lst<|(d.A0.set st.mv.toNat b').map V.ref) a o d.r0=some (.lst<|(d.A0.set st.mv.toNat b').map V.ref):=by
    intro o;rw[ae ra,ai]
   let lS:(((d.A0.set st.mv.toNat b').map V.ref).length:Int)=st.size:=by rw[Q0,QJ];exact hb.row0.la
   refine{_,M,a,_,dx,_,_,M,ai,T.aF,T.bR,Az,_,M,d.r0,_,M,.inl<|DI.of a4,M,_,M,?_};rw[lS];let Y:∀{o:HO},N7 (upd (upd (upd H3 b'<|.dK []) d.r0<|.lst<|(d.A0.set st.mv.toNat b').map V.ref) a o) d.r1 d.A1 (kv.foldl (gE m) d.C1) m:=λ{o}=>a1.frame λb hb1=>by
    have:b≠b'/\b≠d.r0/\b≠a:=by
     rcases hb1 with rfl|hb1
     .exact{bo g0,b5.symm,ax}
     .exact Z b hb1
    rw[ae this.2.2,ae this.2.1,ae this.1]
   let K6:∀{o':HO}(b:RC)(o:HO),¬No a st d b->H b=some o->upd (upd (upd H3 b'<|.dK []) d.r0<|.lst<|(d.A0.set st.mv.toNat b').map V.ref) a o' b=some o:=λ{o'} b o n q=>by
    let{f1,f2,f3,f4,_}:=hF b n;let q3:=K1 b o f1 f2 q;rwa[ae f3,ae f4,ae (bo q3)]
   refine cT (λc=>?_)<|λc=>?_
   .let c:st.mv+1=st.size:=V.int.inj (VH c);refine{_,M,(by show 1<=sizeLine;decide),λtb' nt=>{_,M,a,_,dx,_,M,(by rw[ae (al ai nt)];exact ai),T.aF,T.aV,qz,?_}};rw[Ms];refine{_,M,a,_,dx,_,M,ai,T.aF,T.bR,qz,?_};rw[JV,dR];let bb:tb'≠a:=(al ai nt).symm;let bd:tb'≠d.r1:=(al (Y (o:= .ins t.aY dx<|Nt d.tb (st.mv+1) d.n)).lst nt).symm;refine q _ _ (hb.last z e ek (tb':=tb') (dx:=dx) c ai (by rw[ae bb];exact ai) bd ?_) M<|λb o n w=>?_
    .refine(Y (o:= .ins t.aY dx<|Nt d.tb (st.mv+1) d.n)).frame λb hb1=>?_;have:b≠a:=by
      rcases hb1 with rfl|hb1
      .exact ax
      .exact(Z b hb1).2.2
     rw[ae this,ae (λw=>?_)];obtain⟨o,f⟩:∃o,upd (upd (upd H3 b'<|.dK []) d.r0<|.lst<|(d.A0.set st.mv.toNat b').map V.ref) a (.ins t.aY dx<|Nt d.tb (st.mv+1) d.n) b=some o:=by
      rcases hb1 with rfl|hb1
      .exact{_,Y.lst}
      .let{_,_,_,_,f}:=Y.has hb1;exact{_,f}
     rw[w,nt]at f;cases f
    .let{f1,f2,f3,f4,f5,f6}:=hF b n;let k6:=K6 (o':= .ins t.aY dx<|Nt d.tb (st.mv+1) d.n) b o n w;let bt:b≠tb':=al k6 nt;refine{by rwa[ae f3,ae bt],λy=>?_};rcases y with y|y|y|y|⟨_,y⟩|y
     .exact f3 y
     .exact bt y
     .exact f6 y
     .exact f1 y
     .exact f6 y
     .cases y
   .let c:st.mv+1≠st.size:=λw=>c (VJ<|by rw[w]);refine q _ _ (hb.one z e ek (b':=b') (dx:=dx) c ai (by rw[ae ta,ae hb.tr,ae (bo ab),ab,hb.tbl,e]) a4 ?_ b3 (λj b f1 f2=>?_) Y) M<|λb o n w=>{K6 b o n w,λy=>?_}
    .let n1:b'≠a:=(bo U).symm;let n2:b'≠d.r0:=(bo G).symm;rw[ae n1,ae n2];exact ai
    .let bA:=Q2 f1;let{_,b4,_,_,f}:=hb.row0.has bA;let nc:b≠c0:=λw=>f2 (hb.row0.inj j _ c0 (w▸f1) ec);let f3:=K1 b _ (hb.dis b bA) nc f;rw[ae (cM f3 U<|by intro w;cases w),ae (cM f3 G<|by intro w;cases w),ae (bo f3),f3,f]
    .let{f1,f2,f3,f4,f5,f6}:=hF b n;rcases y with y|y|y|y|⟨_,y⟩|y
     .exact f3 y
     .exact f5 y
     .exact f4 y
     .let{j,hj,ej}:=QC (show b∈d.A0.set st.mv.toNat b' from y);rcases dS (Q1.mpr ⟨hj,ej⟩)with⟨_,g⟩|⟨_,g⟩
      .have:=K1 b o f1 f2 w;rw[g,O]at this;cases this
      .exact n<|.inr (.inr<|.inr<|.inl<|Q2 g)
     .exact f6 y
     .exact f1 y
def gJ:Bs P w K mg base N8 2 t.iK t.eE [et] (oH t):=by
 let{U,G}:=T.g_GREATEST_SIZE;let{Z,I}:=T.g_LEAST_SIZE;refine T.CS.okl oJ λs H vs Q E hr h _=>?_;intro X;let{a,st,d,rfl,hb,z,hn,q}:=h;refine aj (aU (aA cY (aG aE {_} T.bS bq (ac (aq Ac M) ag)) af<|aC _)
    (aD oj)
    aL)
   (aj (ND 1<|aG aE {_} T.bS bq (ac (aS aX (aq Ac M) af<|λ_ _=>M) ag))
   (Ge (λx y=>aU (PW.pt<|jr (aA F9 (aq Ac M) E5<|aC _)<|gO<|aA eI E5 (cm (v:= .int 256) {_} G {_,M})<|aC _) x y) ?_))
 refine aw (aN<|dO Qq Z3 Z4 eJ (aq Ac M)<|ac (aI (qQ T) hr.mo {_} T.tG T.n8.kp T.tJ .nil au (ac (ao cI E5 af) ag)) ag) ?_
 intros
 refine mX (λx=>aU (PW.pt<|jr (aA eI (ao cI af<|aq Ac M) E5<|aC _)<|gO<|aA F9 E5 (cm (v:= .int 4) {_} I {_,M})<|aC _) x aL) ?_;refine aw (aN<|dO Qq Z3 Z4 eJ (aq Ac M)<|ac (aI (qQ T) hr.mo {_} T.tG T.n8.kp T.tJ .nil au (ac (ao aR E5 af) ag)) ag) ?_
 intros
 let{dx,O}:=hb.obj;let Y:=hb.tbl;cases e:st.nxt with
 |some m=>
  rw[e]at Y;refine{_,M,a,_,dx,_,_,M,O,T.aF,T.aV,iQ,d.tb,_,M,.inl<|DI.of Y,M,_,M,jV M ?_};let e1:st.three=st:=by unfold Hm.three;rw[e]
  rw[e1]at q;exact q H d hb M Fr.refl
 |none=>
  rw[e]at Y;refine{_,M,a,_,dx,_,_,M,O,T.aF,T.aV,iQ,d.tb,_,M,.inl<|DI.of Y,M,_,M,bz (λz=>by cases z) ?_};let la:((d.A0.map V.ref).length:Int)=st.size:=by rw[Q0];exact hb.row0.la
  let{a4,a5}:=bO z.pw;refine{_,M,a,_,dx,_,_,M,O,T.aF,T.aV,iQ,d.tb,_,_,_,M,M,DI.of Y,M,d.r0,_,M,.inl<|DI.of hb.row0.lst,?_};dsimp only;rw[la];let fin:∀{m:Int}{H':Hp}{r:RC}{A:RQ},st.three={st with nxt:=some m,mv:=0}->Ck H H'->H r=none->(∀b∈A,H b=none)->N7 H' r A (List.replicate m.toNat []) m->H' d.tb=some (.lst [.ref d.r0])/\Q .non (upd H' d.tb<|.lst<|[.ref d.r0]++ [.ref r]):=λ{m H' r A} e3 s nr nA hr=>by
   let a1:=s _ _ Y;let a0:∀b,No a st d b->∃o,H b=some o:=λb w=>hb.dom w;let a2:¬No a st d r:=λw=>by let{o,q}:=a0 r w;rw[nr]at q;cases q
   let a3:∀b∈A,¬No a st d b:=λb hA w=>by let{o,q}:=a0 b w;rw[nA b hA]at q;cases q
   refine{a1,?_};let sb:=hb.begin (H':=upd H' d.tb<|.lst [.ref d.r0,.ref r]) e (m:=m) (r:=r) (A:=A) (by rw[ae (cM O Y<|by intro w;cases w),s _ _ O,O]) ai (λb hb1=>?_) (hr.frame λb hb1=>ae ?_) a2 a3
   .rw[<-e3]at sb;refine q _ _ sb M λb o n w=>{?_,λy=>?_}
    .rw[ae (λv=>n<|.inr<|.inl v)];exact s _ _ w
    .rw[e3]at y;rcases y with y|y|y|y|⟨_,y⟩|y
     .exact n<|.inl y
     .exact n<|.inr (.inl y)
     .exact n<|.inr (.inr<|.inl y)
     .exact n<|.inr (.inr<|.inr<|.inl y)
     .let y:b=r:=y;rw[y,nr]at w;cases w
     .rw[nA b y]at w;cases w
   .let{o,q}:=a0 b (by
     rcases hb1 with w|w
     .exact .inr<|.inr (.inl w)
     .exact .inr<|.inr<|.inr<|.inl w)
    have:b≠d.tb:=by
     rcases hb1 with w|w
     .rw[w];exact hb.tr.symm
     .exact hb.row0.notr w Y<|λ_ z=>by cases z
    rw[ae this,s _ _ q,q]
   .rcases hb1 with w|w
    .rw[w];exact λv=>by rw[v,Y]at nr;cases nr
    .exact λv=>by have:=nA b w;rw[v,Y]at this;cases this
  by_cases cA:st.size<d.n/\st.size<256
  .let e3:st.three={st with nxt:=some (2*st.size),mv:=0}:=by
    unfold Hm.three;rw[e];exact VA<|by rwa[<-hn]
   refine{_,M,a,_,dx,_,_,M,O,T.aF,T.bH,qA,_,M,_,_,M,M,_,M,lY cA.1 {_,M,_,_,M,M,_,M,lY cA.2 ?_}};refine{_,M,a,_,dx,_,_,M,O,T.aF,T.aV,iQ,.inl {M,_,DI.of Y},_,M,_,_,M,M,.inr {(_),(_)},_,M,(),(),λH' r A s nr nA hr=>?_};let{f1,f2}:=fin (m:=st.size*2) (by rw[e3,V8]) s nr nA hr;exact{d.tb,_,_,M,M,f1,bQ (by show 1<=1000;decide),f2}
  .by_cases cB:4*d.n<st.size/\4<st.size
   .let e3:st.three={st with nxt:=some (st.size/2),mv:=0}:=by
     unfold Hm.three;rw[e];exact(Vz<|by rwa[<-hn]).trans<|VA (by rwa[<-hn])
    let c1:¬st.size<d.n:=();refine{_,M,a,_,dx,_,_,M,O,T.aF,T.bH,qA,_,M,_,_,M,M,_,M,bz c1 ?_};refine{_,M,a,_,dx,_,_,M,O,T.aF,T.bH,qA,_,_,M,M,.inl {(_),(_)},_,M,_,_,M,M,_,M,lY cB.1 {_,M,_,_,M,M,_,M,lY cB.2 ?_}};refine{_,M,a,_,dx,_,_,M,O,T.aF,T.aV,iQ,.inl {M,_,DI.of Y},_,M,_,_,M,M,{(_),(_)},_,M,(),(),λH' r A s nr nA hr=>?_};let{f1,f2}:=fin (m:=st.size/2) e3 s nr nA hr;exact{d.tb,_,_,M,M,f1,bQ (by show 1<=1000;decide),f2}
   .let e3:st.three=st:=by
     unfold Hm.three;rw[e];exact(Vz<|by rwa[<-hn]).trans<|Vz (by rwa[<-hn])
    rw[e3]at q;let q0:=q H d hb M Fr.refl;by_cases c1:st.size<d.n
    .let c2:¬st.size<256:=λw=>cA ⟨c1,w⟩;let c3:¬4*d.n<st.size:=();refine{_,M,a,_,dx,_,_,M,O,T.aF,T.bH,qA,_,M,_,_,M,M,_,M,lY c1 {_,M,_,_,M,M,_,M,bz c2 ?_}};exact{_,M,a,_,dx,_,_,M,O,T.aF,T.bH,qA,_,_,M,M,.inl {(_),(_)},_,M,_,_,M,M,_,M,bz c3 q0}
    .refine{_,M,a,_,dx,_,_,M,O,T.aF,T.bH,qA,_,M,_,_,M,M,_,M,bz c1 ?_};refine{_,M,a,_,dx,_,_,M,O,T.aF,T.bH,qA,_,_,M,M,.inl {(_),(_)},_,M,_,_,M,M,_,M,?_};by_cases c3:4*d.n<st.size
     .exact lY c3 {_,M,_,_,M,M,_,M,bz (λw=>cB ⟨c3,w⟩) q0}
     .exact bz c3 q0
section
variable{d:OM}
def NR.put(h:NR t H a st d)(z:N9 st){kv:RH}(G:IsCell d st k c kv)(v:V):
  ∃d',NR t (upd H c<|.dK<|az<|bf kv k v) a {st with kv:=bf st.kv k v} d'/\d'.n=d.n/\∀b,No a {st with kv:=bf st.kv k v} d' b↔No a st d b:=
 h.setCell z G (vJ (h.at G).2.2) (λ_ O=>vQ O) (by rw[de,de,VA M,VA M]) λj I=>{by rw[de,Vz I],by rw[de,Vz I]}
def NR.drop(h:NR t H a st d)(z:N9 st){kv:RH}(G:IsCell d st k c kv):
  ∃d',NR t (upd H c<|.dK<|az<|bG kv k) a {st with kv:=bG st.kv k} d'/\d'.n=d.n/\∀b,No a {st with kv:=bG st.kv k} d' b↔No a st d b:=
 h.setCell z G (qU (h.at G).2.2) (λ_ O=> .inl<|yB O) (by rw[eF,eF,VA M,VA M]) λj I=>{by rw[eF,Vz I],by rw[eF,Vz I]}
def NR.insM(h:NR t H a st d):∃dx fs,H a=some (.ins t.aY dx fs)/\∀m,NoM m->fs.lookup m=none:=by
 let{dx,z}:=h.obj;exact{dx,_,z,λm G=>JR G}
def Hm.one_kv:st.one.kv=st.kv:=by
 unfold Hm.one;cases st.nxt with
 |none=>rfl
 |some m=>show(if _ then _ else _:Hm).kv=_;split<;>rfl
def Hm.three_kv:st.three.kv=st.kv:=by
 unfold Hm.three;cases st.nxt with
 |some m=>rfl
 |none=>show(if _ then _ else _:Hm).kv=_;split;rfl;split<;>rfl
set_option tactic.hygienic true in
def Do{kv:RH}:((bf kv k v).length:Int)=if(ay kv k).isSome=true then(kv.length:Int)else kv.length+1:=by
 have:=VS List.length (rc (kv:=kv) (k:=k) (v:=v));rw[Q0]at this;split
 .rename_i c;rw[VA c,Q0]at this;lia
 .rename_i c;rw[Vz c,Q6,Q0]at this;simp at this;lia
end
def oS:Bs P w K mg base N8 4 t.rP t.lq [et,eH] (wU K t):=by
 refine T.JC.okl xk λs H vs Q E G h _=>?_;intro X;let{a,k,F,st,rfl,{d,hb,O,U,nd,z},Z,q}:=h;refine{_,(aD<|aK<|KW<|Cu (iV G) E5<|aO Ac T.aF T.fW (cZ T) G.mo T.gb .nil au<|ac E5 ag)
  ,?_}
 let{dx,fs,hi,Y}:=hb.insM;refine{_,M,_,M,a,dx,fs,M,hi,Y _ ∅,_,M,a,k,st,d,M,hb,z,λc kv I=>?_};let{hc,_,_}:=hb.at I;refine{c,_,M,Nm.k (k:=Sum.inl k) hc,?_};rw[M9,hb.val k c kv I];exact q H F ⟨d,hb,O,U,nd,z⟩ Fr.refl
def xB:Bs P w K mg base N8 4 t.rQ t.lw [et,eH] (wV K t):=by
 refine T.JD.okl xl λs H vs Q E G h _=>?_;intro X;let{a,k,F,st,rfl,{d,hb,U,Y,nd,z},h0,Z,q2}:=h;refine aj (ND 2<|aO Ac T.aF T.fW (cZ T) G.mo T.gb .nil au<|ac E5 ag)
   (aj (aU (zr<|ye (iV G) E5 HN)
    (aD dD)
    aL)
   (aw (aK<|Dc (iV G) HN E5<|λ_ _=>M) ?_))
 intros
 let hA:NW K t H a F st:=⟨d,hb,U,Y,nd,z⟩;let{dx,fs,hi,hm}:=hb.insM;refine{_,M,a,dx,fs,M,hi,hm _ ∅,_,M,a,k,st,d,M,hb,z,λc kv I=>?_};let{hc,_,_}:=hb.at I;let O:=hb.val k c kv I;refine{_,M,_,M,c,_,M,Nm.k (k:=Sum.inl k) hc,?_};rw[M9,O];cases e:ay st.kv k with
 |none=>
  refine{_,M,cC ?_};exact(q2 e).elim
 |some v=>
  refine{_,M,dP ?_};refine{_,M,_,M,c,v,M,?_,Z v e H F hA Fr.refl};have:=Nm.k (k:=Sum.inl k) hc;rw[M9,O,e]at this;exact this
def xA:Bs P w K mg base N8 4 t.rO t.lh [et,eH,pq] (wT K t):=by
 refine T.JB.okl xj λs H vs Q E hr h _=>?_;intro X;let{a,k,i,F,st,rfl,{d,hb,hF,hn,nd,z},h0,hl,q}:=h;refine aj (aN<|bM Ac T.aF T.p8 (gI T) hr.mo T.qm .nil au)
   (aj (ND 3<|aO Ac T.aF T.fW (cZ T) hr.mo T.gb .nil au<|ac E5 ag)
   (aj (aU (zr<|ye (iV hr) E5 NJ)
    (aD<|gX Ac af we)
    aL)
   (aj (kL (iV hr) NJ E5 HN M)
   (aw (aN<|bM Ac T.aF T.qa (gJ T) hr.mo T.qo .nil au) ?_))))
 intros
 let{dx,fs,hi,hm}:=hb.insM;refine{_,M,a,dx,fs,M,hi,hm _ ∅,a,st,d,M,hb,z,hl,λH1 Y hb1 e1 O=>?_};let{ab,ah,an,ax}:=hb1.insM;let z1:=z.one;refine{_,M,a,ab,ah,M,an,ax _ ∅,_,M,a,k,st.one,Y,M,hb1,z1,λc kv ic=>?_};let{hc,cF,_}:=hb1.at ic;let hv:=hb1.val k c kv ic;let sh:=hb1.short z1 ic;rw[Hm.one_kv]at hv sh;let{U,Z}:=hb1.obj;let na:a≠c:=cM Z hc (by intro w;cases w);let key:∀(H2:Hp)(n2:Int),NR t H2 a st.one {Y with n:=n2}->Fr (No a st d) (No a st.one Y) H H2->n2=((bf st.kv k<|.int i).length:Int)->∃I,NR t (upd H2 c<|.dK<|az<|bf kv k<|.int i) a {st.one with kv:=bf st.one.kv k (.int i)} I/\I.n=((bf st.one.kv k<|.int i).length:Int)/\
   ∀H4 d4,NR t H4 a (Hm.three {st.one with kv:=bf st.one.kv k (.int i)}) d4->d4.n=I.n->Fr (No a {st.one with kv:=bf st.one.kv k (.int i)} I) (No a (Hm.three {st.one with kv:=bf st.one.kv k (.int i)}) d4) (upd H2 c<|.dK<|az<|bf kv k<|.int i) H4->Q .non H4:=λH2 n2 a0 b1 b2=>by
  let{I,G,e3,f3}:=a0.put z1 (kv:=kv) ic (.int i);let a1:I.n=((bf st.one.kv k<|.int i).length:Int):=by rwa[e3,Hm.one_kv]
  refine{I,G,a1,λH4 d4 a6 e4 aa=>?_};rw[Hm.one_kv]at a6 aa f3 a1;refine q H4 _ {d4,a6,λb=>Iff.rfl,?_,?_,?_} ?_
  .show d4.n=((Hm.three _).kv.length:Int);rw[Hm.three_kv,e4,a1]
  .show((Hm.three _).kv.map (·.1)).Nodup;rw[Hm.three_kv];exact vJ nd
  .exact(z1.kv).three
  .let step:Fr (No a st.one Y) (No a {st.one with kv:=bf st.kv k (.int i)} I) H2 (upd H2 c<|.dK<|az<|bf kv k<|.int i):=λb o n w=>{by rwa[ae (λy=>n<|by rw[y];exact cF)],λy=>n<|(f3 b).mp y};exact Fr.trans (λb o n w=>b1 b o (λy=>n<|(hF b).mpr y) w)<|Fr.trans step aa
 refine{_,M,_,M,c,_,M,Nm.k (k:=Sum.inl k) hc,?_};rw[M9,hv];let kl:(az kv).length<sizeLine:=by rw[a8];exact Ec ()
 cases e:ay st.kv k with
 |none=>
  refine{_,M,cC ?_};refine{_,M,a,_,U,_,_,M,Z,T.aF,T.bH,qA,_,_,M,M,U,_,Z,qz,?_};rw[JW];let a0:=hb1.setN (dx:=U) (n:=Y.n+1);let b3:upd H1 a (.ins t.aY U<|Nt Y.tb st.one.moved<|Y.n+1) c=some (.dK<|az kv):=by rwa[ae na.symm]
  let{I,G,n3,fin}:=key _ _ a0 (λb o n w=>{by rw[ae (λy=>(O b o n w).2<|.inl y)];exact(O b o n w).1,(O b o n w).2}) (by rw[Do,e,e1,hn];rfl);refine{_,M,_,M,_,M,c,_,M,O1.k (k:=Sum.inl k) b3 kl,?_};rw[cw];let{a2,a3,a4,a5}:=G.insM;exact{_,M,a,a2,a3,M,a4,a5 _ ∅,a,_,I,M,G,z1.kv,n3,fin}
 |some v=>
  refine{_,M,dP ?_};let{I,G,n3,fin}:=key H1 Y.n hb1 O (by rw[Do,e,e1,hn];rfl);refine{_,M,_,M,_,M,c,_,M,O1.k (k:=Sum.inl k) hc kl,?_};rw[cw];let{a2,a3,a4,a5}:=G.insM;exact{_,M,a,a2,a3,M,a4,a5 _ ∅,a,_,I,M,G,z1.kv,n3,fin}
def vD:Bs P w K mg base N8 5 t.pC t.jC [et,eH] (uL K t):=by
 refine T.HU.okl u9 λs H vs Q E Y h _=>?_;intro X;let{a,k,F,st,rfl,hA,h0,Z,q2}:=h;refine aj (aU (sF<|cE<|aO Ac T.aF T.zE (oS T) Y.mo T.z8 .nil au<|ac E5 ag)
    (aD dD)
    aL)
   (aj (aN<|bM Ac T.aF T.p8 (gI T) Y.mo T.qm .nil au)
   (aj (aN<|dO QW ZE XU Dg (aO Ac T.aF T.fW (cZ T) Y.mo T.gb .nil au<|ac E5 ag)<|ac E5 ag)
   (aj (gX Ac af Lq)
   (aw (aN<|bM Ac T.aF T.qa (gJ T) Y.mo T.qo .nil au) ?_))))
 intros
 let{dx,fs,hi,hm}:=hA.ins;refine{_,M,a,dx,fs,M,hi,hm _ ∅,_,M,a,k,F,st,M,hA,h0,λH0 F0 a0 a1=>?_};cases e:ay st.kv k with
 |none=>
  refine{_,M,cC ?_};exact(q2 e).elim
 |some v=>
  refine{_,M,dP ?_};let{d,hb,hF,hn,nd,z}:=a0;let{dx,fs,hi,hm}:=hb.insM;let{hl,Z}:=Z (by rw[e];rfl);refine{_,M,a,dx,fs,M,hi,hm _ ∅,a,st,d,M,hb,z,hl,λH1 d1 hb1 e1 a2=>?_};let{a3,a4,a5,a6}:=hb1.insM;let z1:=z.one;refine{_,M,a,a3,a4,M,a5,a6 _ ∅,_,M,a,k,st.one,d1,M,hb1,z1,λc kv ic=>?_};let{hc,cF,_}:=hb1.at ic;let hv:=hb1.val k c kv ic;rw[Hm.one_kv,e]at hv;let{d3,G,e3,f3}:=hb1.drop z1 ic;rw[Hm.one_kv]at G f3;refine{.inr<|.inr<|.inl {M,.inl {_,hc}},_,M,c,_,Sum.inl k,v,M,M,hc,M9.trans hv,?_};rw[qb];let{I,O}:=G.obj;refine{_,M,a,_,I,_,_,M,O,T.aF,T.bH,qA,_,_,M,M,I,_,O,qz,?_};rw[JW];let U:=G.setN (dx:=I) (n:=d3.n-1);let{aa,ab,ah,an}:=U.insM;let dl:=yC nd (uv e);let n4:d3.n-1=((bG st.kv k).length:Int):=by rw[e3,e1,hn];lia
  refine{_,M,a,aa,ab,M,ah,an _ ∅,a,_,_,M,U,z1.kv,n4,λH5 d5 ax e5 b1=>?_};refine Z H5 _ {d5,ax,λb=>Iff.rfl,?_,?_,z1.kv.three} ?_
  .show d5.n=((Hm.three _).kv.length:Int);rwa[Hm.three_kv,e5]
  .show((Hm.three _).kv.map (·.1)).Nodup;rw[Hm.three_kv];exact qU nd
  .refine a1.trans<|Fr.trans (λb o n w=>a2 b o (λy=>n<|(hF b).mpr y) w) (Fr.trans (λb o n w=>?_) b1);exact{by rwa[ae (λy=>n<|.inl y),ae (λy=>n<|by rw[y];exact cF)],λy=>n<|(f3 b).mp y}
def mQ:Bs P w K mg base N8 1 t.pA t.jA [et] (uJ K t):=by
 refine T.HR.okl u7 λs H vs Q E U h _=>?_;intro X;let{a,F,st,rfl,{d,hb,hF,hn,nd,z},q}:=h;refine{_,(aD<|aK<|iS M (Hc.of (M':=[Pm]) (N:=[et]) (N':=[et]) (dsc:=ak gd) M M ∅) (cX<|aq Ac M)<|λ_ _ _ _ _=>(aG (xP K M) {_} T.bS bq (ac Ac ag)))
  ,?_}
 let hA:NW K t H a F st:=⟨d,hb,hF,hn,nd,z⟩;let{dx,ho}:=hb.obj;let Y:∃xs,H d.tb=some (.lst xs)/\xs.length=st.rows.length/\∀(i:Nat)(x:V),xs[i]?=some x->∃r rs,x= .ref r/\H r=some (.lst rs)/\st.rows[i]?=some (rs.length:Int):=by
  let G:=hb.tbl;let l0:((d.A0.map V.ref).length:Int)=st.size:=by rw[Q0];exact hb.row0.la
  unfold Hm.rows;let r1:=hb.row1;cases e:st.nxt with
  |none=>
   rw[e]at G;refine{_,G,M,λi x hx=>?_};cases i with
   |zero=>cases hx;exact{d.r0,_,M,hb.row0.lst,by rw[l0];rfl}
   |succ j=>simp at hx
  |some m=>
   rw[e]at G r1;let l1:((d.A1.map V.ref).length:Int)=m:=by rw[Q0];exact r1.la
   refine{_,G,M,λi x hx=>?_};cases i with
   |zero=>cases hx;exact{d.r0,_,M,hb.row0.lst,by rw[l0];rfl}
   |succ j=>
    cases j with
    |zero=>cases hx;exact{d.r1,_,M,r1.lst,by rw[l1];rfl}
    |succ j=>simp at hx
 let{xs,G,lx,look}:=Y;refine{_,M,a,_,dx,_,_,M,ho,T.aF,T.aV,iQ,d.tb,M,{_,DI.of G},λD hD=>?_};refine oA (K:=K) (a:=d.tb) (xs:=xs) (λi ys H3=>H3=upd H D (.lst ys)/\ys=(st.rows.take i).map V.int) ⟨M,M⟩ (λi ys H3 _ w=>DI.of<|by rwa[w.1,ae (al G hD)]) (λi x ys H3 hx w I=>?_)<|λys H3 w I=>?_
 .let{O,e2}:=w;let{r,rs,rfl,U,hs}:=look i x hx;let hi:i<xs.length:=(Q1.mp hx).1;let Z:H3 r=some (.lst rs):=by rwa[O,ae (al U hD)]
  refine{_,M,r,_,M,.inl<|DI.of Z,NL.mk hi I ?_ {?_,?_}}
  .rw[e2,Q0,Q8];have:st.rows.length<=2:=by(unfold Hm.rows;cases st.nxt<;>simp)
   exact bQ ()
  .rw[O,dR]
  .rw[e2,Qo,hs,Q9];rfl
 .let{O,e2}:=w;rw[lx,Qw]at e2;subst e2;subst O;exact q _ F D (hA.new hD) (Fr.of_same<|am hD) hD (hA.out hD) ai
def KJ{sh n:Int}:bD (RB:Str) (.int n) (bD (Pf:Str) (.int sh)<|bD (vm:Str) (.ref tb) [])=Nt tb sh n:=by
 let z:bD (vm:Str) (.ref tb) []=[((vm:Str),V.ref tb)]:=M;rw[z,bD,Vz ∅,bD,bD,Vz ∅,bD,Vz ∅,bD];rfl
def vC:Bs P w K mg base N8 2 t.pB t.jB [et] (uK K t):=by
 let{G,z}:=T.g_LEAST_SIZE;refine T.HS.okl u8 λs H vs Q E I h _=>?_;intro X;let{a,dx,rfl,ha,hd,q}:=h;refine aj (ba Ac (cH<|ac (aI (qQ T) I.mo {_} T.tG T.n8.kp T.tJ .nil au (ac (cm (v:= .int 4) {_} z {_,M}) ag)) ag) M)
   (aj (ba Ac af M)
   (aw (ba Ac af M) ?_))
 intros
 refine{4,M,(_),(_),λH' r A s nr nA I=>{(by show 1<=sizeLine;decide),λtb Y=>?_}};let O:=s _ _ ha;let U:a≠tb:=al O Y;refine{_,M,a,_,dx,[],M,(by rwa[ae U]),T.aF,T.aV,(by show 0<1000;decide),?_};refine{_,M,a,_,dx,_,M,ai,T.aF,T.bR,?_,?_}
 .show 1<1000;decide
 refine{_,M,a,_,dx,_,M,ai,T.aF,T.bH,?_,?_}
 .let h1:=mJ (f:=Pf) (v:= .int 0) (bD vm (.ref tb) []);let h2:=mJ (f:=vm) (v:= .ref tb) [];let h3:([]:RW).length=0:=M;lia
 rw[KJ,dR,dR];let a0:tb≠r:=(al I.lst Y).symm;let sb:=NR.fresh (t:=t) (H:=upd (upd H' tb<|.lst [.ref r]) a<|.ins t.aY dx<|Nt tb 0 0) (a:=a) (tb:=tb) (r:=r) (A:=A) (dx:=dx) ai (by rw[ae U.symm];exact ai) (I.frame λb hb1=>?_) a0
 .refine q _ _ {_,sb,λb=>Iff.rfl,M,QZ,N9.new} λb o n w=>?_;let Z:b≠a:=λy=>n (.inl y);let w1:=s _ _ w;let n2:b≠tb:=al w1 Y;refine{by rwa[ae Z,ae n2],λy=>?_};rcases y with y|y|y|y|⟨y,_⟩|y
  .exact Z y
  .exact n2 y
  .let y:b=r:=y;rw[y,nr]at w;cases w
  .rw[nA b y]at w;cases w
  .cases y
  .cases y
 .have:∃o,H' b=some o:=by
   rcases hb1 with rfl|hb1
   .exact{_,I.lst}
   .let{_,_,_,_,w}:=I.has hb1;exact{_,w}
  let{o,w}:=this;let n2:b≠tb:=al w Y;let Z:b≠a:=λy=>by
   rcases hb1 with y2|y2
   .rw[<-y2,y,ha]at nr;cases nr
   .have:=nA b y2;rw[y,ha]at this;cases this
  rw[ae Z,ae n2]
def mP:Bs P w K mg base N8 3 t.pf t.jy [et,wF] (uH K t):=by
 refine T.HP.okl uZ λs H vs Q E G h _=>?_;intro X;let{a,p,F,st,rfl,I,U,Z,q}:=h;refine aj (ND 2<|aG (yG M) {_} T.Aj tj (ac (bM Ac T.aF T.xK (mQ T) G.mo T.xR .nil au) ag))
   (aw (aK<|aS bE (aI (xv T) G.mo {_} T.IY T.Ad.kp T.Jo .nil au (ac (aI (vv T) G.mo {_} T.Ey T.yS.kp T.EX .nil au (ac E5<|ac HN ag))<|ac HN ag)) af<|λ_ _=>M) ?_)
 intros
 let z:N9 st:=let⟨_,_,_,_,_,z⟩:=I;z
 let{s4,s5}:=bO (gF z);let{x,y,R}:=vn (gF z);let{dx,fs,hi,hm}:=I.ins;refine{_,M,a,dx,fs,M,hi,hm _ ∅,a,F,st,M,I,λH1 F1 l sA fr nl oF hl=>{l,st.rows,M,DI.of hl,?_,λM' hM O=>?_}}
 .unfold Hm.rows;cases st.nxt<;>simp
 .let eM:=GB hM O;subst eM;refine{_,M,_,M,p,_,M,U,(),_,M,_,_,M,Qg _ (),(),(),λtp Y=>?_};rw[yZ R U Z];exact{tp,_,_,_,M,M,Na.of ai,M,q _ F1 (sA.new Y)<|fr.trans (Fr.of_same<|am Y)}
structure Rw where
 r:Addr
 A:List Addr
 C:List (List<|Int×V)
 s:Int
noncomputable def fI(st:Hm)(d:OM):List Rw:=match st.nxt with|none=> [⟨d.r0,d.A0,d.C0,st.size⟩]|some m=> [⟨d.r0,d.A0,d.C0,st.size⟩,⟨d.r1,d.A1,d.C1,m⟩]
def NP(k:Int):Int:=tz (k%65536)
def uy{st:Int}{x:Nat}(h:0<st):x<qk lo hi st↔lo+(x:Int)*st<hi:=by
 unfold qk;rw[oQ h];by_cases c:lo<hi
 .rw[VA c];let a:0<=(hi-lo-1)/st:=XR () ();let e:(x:Int)<=(hi-lo-1)/st↔(x:Int)*st<=hi-lo-1:=Int.le_ediv_iff_mul_le h;lia
 .rw[Vz c];have:0<=(x:Int)*st:=Xr () ();lia
def br{kv:RH}(nd:(kv.map (·.1)).Nodup)(h:(k,v)∈kv):ay kv k=some v:=by
 induction kv with
 |nil=>cases h
 |cons p r z=>
  rw[Qv,QR]at nd;by_cases e:p.1=k
  .rw[bn e];rcases Qj.mp h with h|h
   .rw[<-h]
   .exact VE (Zx (f:=(·.1)) h)<|by rw[<-e]at*;exact nd.1
  .rw[bh e];rcases Qj.mp h with h|h
   .rw[<-h]at e;exact VE M e
   .exact z nd.2 h
def bc{kv:RH}(h:ay kv k=some v):(k,v)∈kv:=by
 induction kv with
 |nil=>rw[jO]at h;cases h
 |cons p r z=>
  by_cases e:p.1=k
  .rw[bn e]at h;cases h;rw[<-e];exact Qa
  .rw[bh e]at h;exact Qd _<|z h
def uA{d:OM}{ri:Nat}{R:Rw}{kv:RH}(hb:NR t H a st d)(U:(fI st d)[ri]?=some R)(hk:R.C[j]?=some kv)(Y:(k,v)∈kv):
  k%65536%R.s=(j:Int)/\(kv.map (·.1)).Nodup/\∃c,IsCell d st k c kv:=by
 let O:∀{A:RQ}{C:List (List<|Int×V)}{r:RC}{s:Int}{x:Nat},N7 H r A C s->C[x]?=some kv->∃b,A[x]?=some b:=λ{A C r s x} ro h=>by
  let h1:=(Q1.mp h).1;let h2:=ro.la;let h3:=ro.lc;exact{A[x]'(),Q3 _}
 let Z:kv≠[]:=λz=>by rw[z]at Y;cases Y
 let I:=hb.row1;let zero:(j:Int)<st.moved->d.C0[j]?=some kv->False:=λh1 h2=>Z (hb.old _ _ h2 h1);unfold fI at U;cases en:st.nxt with
 |none=>
  rw[en]at U;cases ri with
  |zero=>
   cases U;let G:=hb.row0.home _ _ hk _ Y;let{b,eb}:=O hb.row0 hk;refine{G,hb.row0.ndk _ _ hk,b,.inl {?_,by rwa[G],by rwa[G]}};rw[G,Hm.moved_none en];lia
  |succ j=>simp at U
 |some m=>
  rw[en]at U I;cases ri with
  |zero=>
   cases U;let G:=hb.row0.home _ _ hk _ Y;let{b,eb}:=O hb.row0 hk;refine{G,hb.row0.ndk _ _ hk,b,.inl {?_,by rwa[G],by rwa[G]}};rw[G];exact Int.not_lt.mp λy=>zero y hk
  |succ j'=>
   cases j' with
   |zero=>
    cases U;let G:=I.home _ _ hk _ Y;let{b,eb}:=O I hk;exact{G,I.ndk _ _ hk,b,.inr {_,en,hb.new _ _ hk _ Y,by rwa[G],by rwa[G]}}
   |succ j=>simp at U
noncomputable def oM(C:List (List<|Int×V))(s m:Int)(x:Nat):List (Int×V):=C.getD (s+(x:Int)*m).toNat []
def Iu(s m:Int)(R:Rw):List (Int×V):=(List.range<|qk s R.s m).flatMap (oM R.C s m)
def Lc(st:Hm)(d:OM)(s:Int):List (Int×V):=(fI st d).flatMap (Iu s st.low)
def sE{d:OM}(z:N9 st){R:Rw}(h:R∈fI st d):R.s=st.low\/R.s=2*st.low:=by
 unfold fI at h;unfold Hm.low;cases e:st.nxt with
 |none=>rw[e]at h;rw[Q7.mp h];exact .inl M
 |some m=>
  rw[e]at h;let{_,_,_,nx}:=z.nx m e;let p:=bO z.pw;show R.s=(if m<st.size then m else st.size)\/R.s=2*(if m<st.size then m else st.size);rcases Qj.mp h with h|h
  .rw[h];show st.size=_\/st.size=_;split<;>lia
  .rw[Q7.mp h];show m=_\/m=_;split<;>lia
def Dn{x r:Int}(h:r=m\/r=2*m):x%r%m=x%m:=by
 rcases h with rfl|rfl
 .exact Int.emod_emod_of_dvd _<|Int.dvd_refl _
 .exact Int.emod_emod_of_dvd _ {2,()}
def IR{d:OM}{s:Int}(hb:NR t H a st d)(z:N9 st)(nd:(st.kv.map (·.1)).Nodup)(s0:0<=s)(s1:s<st.low)(k:Int)(v:V):
  (k,v)∈Lc st d s↔(k,v)∈st.kv/\k%65536%st.low=s:=by
 let lp:=bO (gF z);constructor
 .intro h;let{R,G,h}:=ZL.mp h;let{x,hx,h}:=ZL.mp h;let hx:=Vq.mp hx;let O:=sE z G;let{ri,U,Y}:=QC G;let Y:(fI st d)[ri]?=some R:=by rw[Q3 U,Y]
  unfold oM at h;let xs:=(uy ()).mp hx;let xm:0<=(x:Int)*st.low:=Xr () ();cases Z:R.C[(s+(x:Int)*st.low).toNat]? with
  |none=>rw[Qn,Z]at h;cases h
  |some kv=>
   rw[Qn,Z]at h;let h:(k,v)∈kv:=h;let{h1,h2,c,I}:=uA hb Y Z h;refine{bc (by rw[<-hb.val k c kv I];exact br h2 h),?_};rw[<-Dn O,h1,Xm (),Int.add_mul_emod_self_right];exact Int.emod_eq_of_lt s0 s1
 .rintro ⟨h,hs⟩;let{c,kv,ic}:=hb.cell z k;let hv:=hb.val k c kv ic;rw[br nd h]at hv;let hm:=bc hv;let fin:∀R:Rw,R∈fI st d->R.C[(k%65536%R.s).toNat]?=some kv->(k,v)∈Lc st d s:=λR G hk=>by
   let O:=sE z G;let j0:0<=k%65536%R.s:=Qg _ ();let j1:k%65536%R.s<R.s:=Qk _ ();let jm:=Dn (x:=k%65536) O;rw[hs]at jm;let dv:=XS (k%65536%R.s) st.low;let q0:0<=k%65536%R.s/st.low:=XR j0 ();let eq:s+((k%65536%R.s/st.low).toNat:Int)*st.low=k%65536%R.s:=by
    rw[Xm q0,V8];lia
   refine ZL.mpr {R,G,ZL.mpr {(k%65536%R.s/st.low).toNat,Vq.mpr<|(uy ()).mpr (by rwa[eq]),?_}};unfold oM;rwa[eq,Qn,hk]
  rcases ic with⟨_,_,I⟩|⟨m,en,_,_,I⟩
  .refine fin ⟨d.r0,d.A0,d.C0,st.size⟩ ?_ I;unfold fI;cases st.nxt<;>simp
  .refine fin ⟨d.r1,d.A1,d.C1,m⟩ ?_ I;unfold fI;rw[en];simp
def ot{C:List (List<|Int×V)}{s:Int}{x:Nat}{p:Int×V}(h:p∈oM C s m x):∃kv,C[(s+(x:Int)*m).toNat]?=some kv/\p∈kv:=by
 unfold oM at h;cases z:C[(s+(x:Int)*m).toNat]? with
 |none=>rw[Qn,z]at h;cases h
 |some kv=>
  rw[Qn,z]at h;exact⟨kv,M,h⟩
def Eo{d:OM}{s:Int}(hb:NR t H a st d)(z:N9 st)(s0:0<=s):((Lc st d s).map (·.1)).Nodup:=by
 let lp:=bO (gF z);refine QK.mpr ?_;let row:∀R∈fI st d,(Iu s st.low R).Pairwise (λp q=>p.1≠q.1):=λR O=>by
  let{ri,U,G}:=QC O;let G:(fI st d)[ri]?=some R:=by rw[Q3 U,G]
  refine List.pairwise_flatMap.mpr {λx _=>?_,?_}
  .unfold oM;cases Y:R.C[(s+(x:Int)*st.low).toNat]? with
   |none=>rw[Qn,Y];exact VV
   |some kv=>
    rw[Qn,Y];show List.Pairwise _ kv;cases ke:kv with
    |nil=>exact VV
    |cons p r=>
     have:=(uA hb G Y (k:=p.1) (v:=p.2)<|by rw[ke];exact Qa).2.1;rw[ke]at this;exact QK.mp this
  .refine(List.pairwise_lt_range (n:=qk s R.s st.low)).imp λ{x y} a3 p I q hq e=>?_;let{kv,h1,h2}:=ot I;let{kv',Z,h4}:=ot hq;let a1:=(uA hb G h1 h2).1;let a2:=(uA hb G Z h4).1;let m1:(x:Int)*st.low<(y:Int)*st.low:=Int.mul_lt_mul_of_pos_right () ();let m0:0<=(x:Int)*st.low:=Xr () ();rw[e,a2]at a1;lia
 refine List.pairwise_flatMap.mpr {row,?_};let a0:=hb.row1;unfold fI;cases en:st.nxt with
 |none=>exact Zf _ _
 |some m=>
  refine ZB.mpr {λR O p I q hq e=>?_,Zf _ _};rw[Q7.mp O]at hq;let{x,_,I}:=ZL.mp I;let{y,_,hq}:=ZL.mp hq;let{kv,h1,h2}:=ot I;let{kv',Z,h4}:=ot hq;let n1:=hb.new _ _ Z _ h4;let n2:=hb.row0.home _ _ h1 _ h2;let n3:¬((s+(x:Int)*st.low).toNat:Int)<st.moved:=λc=>by
   have:=hb.old _ _ h1 c;rw[this]at h2;cases h2
  rw[<-e,n2]at n1;exact n3 n1
structure Ly(X:RQ)(H H':Hp)(l:RC)(ts:List Tp)(L:RH):Prop where
 sm:∀c o,c∉X->H c=some o->H' c=some o
 li:H' l=some (.lst<|ts.map λe=>V.ref e.p)
 tu:∀e∈ts,H' e.p=some (.tup [.int (NP e.k),.int e.k,e.v])/\H e.p=none
 eq:ts.map Tp.kv=L
section
variable{X:RQ}{H'':Hp}{l:RC}{L:RH}
def Ly.same(h:Ly X H H' l ts L)(s:Ck H' H''):Ly X H H'' l ts L:={λc o n e=>s _ _<|h.sm c o n e,s _ _ h.li,λe he=>{s _ _ (h.tu e he).1,(h.tu e he).2},h.eq}
def Ly.add(h:Ly X H H' l ts L)(s:Ck H' H'')(G:H' p=none)(U:H l=none)(Y:∀c∈X,∃o,H c=some o/\∃o',H' c=some o')(Z:H'' p=some (.tup [.int (NP k),.int k,v])):
  Ly X H (upd H'' l<|.lst<|ts.map (λe=>V.ref e.p)++ [.ref p]) l (ts++ [⟨p,k,v⟩]) (L++ [(k,v)]):=by
 let pl:p≠l:=λz=>by rw[z,h.li]at G;cases G
 let I:H p=none:=by
  cases q:H p with
  |none=>rfl
  |some o=>
   by_cases c:p∈X
   .let{_,_,o',O}:=Y p c;rw[G]at O;cases O
   .rw[h.sm _ _ c q]at G;cases G
 let h2:=h.same s;refine{λc o n e=>?_,by rw[ai,Q9];rfl,λe he=>?_,by rw[Q9,h.eq];rfl}
 .rw[ae λz=>by rw[z,U]at e;cases e];exact h2.sm c o n e
 .rcases Q5.mp he with he|he
  .let q:=h2.tu e he;exact{by rw[ae λz=>by rw[z,h2.li]at q;cases q.1];exact q.1,q.2}
  .rw[Q7.mp he];exact{by rwa[ae pl],I}
def Ly.freeze{o':HO}(h:Ly [] H H' l ts L)(hb:H b=some o)(bl:b≠l):Ly [b] H (upd H' b o') l ts L:=
 {λc o n e=>by rw[ae λz=>n (by rw[z];exact Qa)];exact h.sm c o (by simp) e,by rw[ae bl.symm];exact h.li,
  λe he=>{by rw[ae λz=>by have:=(h.tu e he).2;rw[z,hb]at this;cases this];exact(h.tu e he).1,(h.tu e he).2},h.eq}
def Ly.thaw(h:Ly [b] H H' l ts L)(hb:H b=some o)(bl:b≠l):Ly [] H (upd H' b o) l ts L:=by
 refine{λc o' _ e=>?_,by rw[ae bl.symm];exact h.li,λe he=>{by rw[ae λz=>by have:=(h.tu e he).2;rw[z,hb]at this;cases this];exact(h.tu e he).1,(h.tu e he).2},h.eq};by_cases z:c=b
 .rwa[z,ai,<-hb,<-z]
 .rw[ae z];exact h.sm c o' (by simpa using z) e
end
def pL(K:Wp)(t:N6):Sp:=λvs H Q _=>∃(a:RC)(p:Int)(F:RE)(st:Hm),vs=[.ref a,.int p]/\NW K t H a F st/\0<=p/\p<65536/\st.kv.length<4096/\
 ∀(H':Hp)(F':RE)(l:RC)(ts:List Tp),NW K t H' a F' st->Fr F F' H H'->¬F' l->H' l=some (.lst<|ts.map λe=>V.ref e.p)->(∀e∈ts,H' e.p=some (.tup [.int (NP e.k),.int e.k,e.v])/\¬F' e.p)->
  (∀k v,(k,v)∈ts.map Tp.kv↔(k,v)∈st.kv/\k%65536%st.low=tz p%st.low)->((ts.map Tp.kv).map (·.1)).Nodup->Q (.ref l) H'
def Ku{d:OM}(hb:NR t H a st d)(sz:N9 st):∃xs,H d.tb=some (.lst xs)/\xs.length=(fI st d).length/\(fI st d).length<=2/\
  ∀(i:Nat)(x:V),xs[i]?=some x->∃R:Rw,x= .ref R.r/\(fI st d)[i]?=some R/\N7 H R.r R.A R.C R.s/\R.s<=256/\∀(j:Nat)(kv:RH),R.C[j]?=some kv->kv.length<=st.kv.length:=by
 let pw:=bO sz.pw;let z:=hb.tbl;let r1:=hb.row1;unfold fI;cases e:st.nxt with
 |none=>
  rw[e]at z;refine{_,z,M,by simp,λi x hx=>?_};cases i with
  |zero=>cases hx;exact{_,M,M,hb.row0,pw.2,λj kv h=>hb.short0 sz h}
  |succ j=>simp at hx
 |some m=>
  rw[e]at z r1;refine{_,z,M,by simp,λi x hx=>?_};cases i with
  |zero=>cases hx;exact{_,M,M,hb.row0,pw.2,λj kv h=>hb.short0 sz h}
  |succ j=>
   cases j with
   |zero=>cases hx;exact{_,M,M,r1,(bO (sz.nx m e).1).2,λj kv h=>hb.short1 sz e h}
   |succ j=>simp at hx
def GW{RR:List Rw}{f:Rw->List (Int×V)}{R:Rw}(e:RR[i]?=some R):(RR.take<|i+1).flatMap f=(RR.take i).flatMap f++f R:=by
 rw[Qo,e,List.flatMap_append];simp
def CH{f:Nat->List (Int×V)}{x:Nat}:(List.range<|x+1).flatMap f=(List.range x).flatMap f++f x:=by
 rw[List.range_succ,List.flatMap_append];simp
def D6{kv:RH}{p:Int×V}(e:kv[i]?=some p):kv.take (i+1)=kv.take i++ [p]:=by
 rw[Qo,e];rfl
def pZ:Bs P w K mg base N8 3 t.iX t.ft [et,wF] (pL K t):=by
 refine T.DT.okl pQ λs H vs Q E hr h _=>?_;intro X;let{a,p,F,st,rfl,hA,p0,p1,b2,q}:=h;refine aj (ND 2<|aG (yG M) {_} T.Aj tj (ac (bM Ac T.aF T.xK (mQ T) hr.mo T.xR .nil au) ag))
   (aj (ND 3<|cH ag)
   (bV (λx=>(eZ VP M (cX<|aq Ac M) (OQ 4)
    x)) ?_))
 refine mX (λx=>(eZ VP M (Ej {_} T.iN (ac (aI (vv T) hr.mo {_} T.Ey T.yS.kp T.EX .nil au (ac E5<|ac HN ag))<|ac (aG aE {_} T.bS bq (ac Nl ag))<|ac HN ag)) (OQ 5)
    x)) ?_
 refine mX (λx=>(uw (eZ VP M (vq<|zx QW ZT XC vK<|aS aX Nl OP<|λ_ _=>M) (Cr M<|jR (OQ 6)<|jR (OQ 7) zt)
    x))) ?_
 refine aw (aN<|dO Qq Z3 Z4 eJ NJ<|ac (cG<|ac (aI (tE T) hr.mo {_} T.CB T.wK.kp T.CM .nil au (ac P7 ag))<|ac P7<|ac pv7 ag) ag) ?_
 intros
 refine aw (aK NJ) ?_
 intros
 let z:N9 st:=let⟨_,_,_,_,_,z⟩:=hA;z
 let{s4,s5}:=bO (gF z);let{dx,fs,hi,hm}:=hA.ins;refine{_,M,a,dx,fs,M,hi,hm _ ∅,a,F,st,M,hA,λH1 F1 lr sA fr b3 oF a4=>{lr,st.rows,M,DI.of a4,?_,λM' hM a5=>?_}}
 .unfold Hm.rows;cases st.nxt<;>simp
 let eM:=GB hM a5;subst eM;let sB:=sA;let{d,hb,hF,hn,nd,_}:=sB;let{a6,ho}:=hb.obj;let{xs,ht,lx,l2,look}:=Ku hb z;let g0:0<=tz p%st.low:=Qg _ ();let g1:tz p%st.low<st.low:=Qk _ ();let U:st.low>0:=();refine{Qf _,λl nl=>?_};let y0:Ly [] H1 (upd H1 l<|.lst []) l [] []:={λc o _ e=>am nl _ _ e,ai,(λe he=>by cases he),M};generalize upd H1 l (.lst [])=H2 at y0⊢;generalize hs:tz p%st.low=I at g0 g1 q;refine{_,M,a,_,a6,_,_,M,y0.sm _ _ (by simp) ho,T.aF,T.aV,iQ,d.tb,M,{_,DI.of<|y0.sm _ _ (by simp) ht},jW (K:=K) (a:=d.tb) (xs:=xs) (λi W H'=>∃(v4 v5 Y Z:RX)(ts:List Tp),W=[some (.ref a),some (.int p),some (.int st.low),some (.ref l),v4,v5,Y,Z]/\Ly [] H1 H' l ts (((fI st d).take i).flatMap<|Iu I st.low)/\ts.length<=8192*i)
  {_,_,_,_,[],M,y0,by simp} (λi W H' _ w=>by let{_,_,_,_,_,_,c,_}:=w;exact DI.of<|c.sm _ _ (by simp) ht) (λi x W H' hx w=>?_) (λW H' w=>?_)}
 .let{v4,v5,Y,Z,ts,G,c,lt}:=w;subst G;let{R,rfl,hR,ro,b1,aa}:=look i x hx;let hr:=c.sm _ _ (by simp) ro.lst;let iL:=(Q1.mp hx).1;let lA:((R.A.map V.ref).length:Int)=R.s:=by rw[Q0];exact ro.la
  let rl:=sE z (Q2 hR);let a1:∀y:Nat,y<qk I R.s st.low->y<2:=λy hy=>by
   have:=(uy U).mp hy;refine Nat.lt_of_not_le λy2=>?_;have:(2:Int)*st.low<=(y:Int)*st.low:=Vj () ();lia
  let b4:qk I R.s st.low<=2:=by
   by_cases c0:qk I R.s st.low=0
   .lia
   .have:=a1 (qk I R.s st.low-1) ();lia
  refine{_,M,_,M,p,_,M,p0,U,_,M,R.r,_,M,.inl<|DI.of hr,_,M,_,_,_,M,?_,?_}
  .rw[hs,lA];exact{(),(),(),(),(),()}
  rw[hs,lA];generalize ab:((fI st d).take i).flatMap (Iu I st.low)=L0 at c;refine Bc (n:=qk I R.s st.low) (λx W H'=>∃(v5 Y Z:RX)(ts:List Tp),W=[some (.ref a),some (.int p),some (.int st.low),some (.ref l),some (.ref R.r),v5,Y,Z]/\Ly [] H1 H' l ts (L0++(List.range x).flatMap (oM R.C I st.low))/\ts.length<=8192*i+4096*x)
   {_,_,_,ts,M,by simpa using c,()} (λx W H' hx w=>?_) (λW H' w=>?_)
  .let{v5,Y,Z,ts,G,c,lt}:=w;subst G;let b5:=(uy U).mp hx;let x2:=a1 x hx;let xm:0<=(x:Int)*st.low:=Xr () ();let la:=ro.la;let lc:=ro.lc;let eb:R.A[(I+(x:Int)*st.low).toNat]?=some (R.A[(I+(x:Int)*st.low).toNat]'()):=Q3 ();let ek:R.C[(I+(x:Int)*st.low).toNat]?=some (R.C[(I+(x:Int)*st.low).toNat]'()):=Q3 ();generalize R.A[(I+(x:Int)*st.low).toNat]'()=b at eb;generalize R.C[(I+(x:Int)*st.low).toNat]'()=kv at ek;let O:=ro.cell _ _ _ eb ek;let bb:=aa _ _ ek;let a0:=c.sm _ _ (by simp) O;let ah:=c.sm _ _ (by simp) ro.lst;let bl:b≠l:=λz=>by rw[z,nl]at O;cases O
   refine{b,az kv,a0,_,M,_,M,R.r,_,_,_,M,M,DI.of ah,vT () eb,.inr<|.inr<|.inl {M,.inl {_,a0}},b,az kv,M,M,a0,λvw nv=>?_};let an:upd H' vw (Ol vw b) b=some (.dK<|az kv):=by rwa[ae (al a0 nv)]
   refine{vw,b,az kv,M,ai,an,λob=>?_};let cF:=(c.same<|am (o:=Ol vw b) nv).freeze (o':= .frz ob<|.dK<|az kv) O bl;generalize ax:L0++(List.range x).flatMap (oM R.C I st.low)=L1 at cF;refine qf (λy W H''=>∃(Y Z:RX)(ts:List Tp),W=[some (.ref a),some (.int p),some (.int st.low),some (.ref l),some (.ref R.r),some (.int<|I+(x:Int)*st.low),Y,Z]/\Ly [b] H1 H'' l ts (L1++kv.take y)/\H'' b=some (.frz ob<|.dK<|az kv)/\ts.length<=8192*i+4096*x+y)
    {_,_,ts,M,by simpa using cF,ai,()} (λy W H'' _ w=>by let{_,_,_,_,_,hf,_}:=w;exact hf) (λy k v p' W H'' ei w np=>?_) (λW H'' w=>?_)
   .let{Y,Z,ts,G,c,hf,lt}:=w;subst G;let{n,rfl,en}:=ou ei;let yl:=(Q1.mp en).1;refine{p',_,M,Na.of ai,M,_,_,M,_,_,M,M,?_};let c3:=c.same (am (o:= .tup [kV (Sum.inl n),v]) np);let a2:=am (o:= .tup [kV (Sum.inl n),v]) np _ _ hf;generalize upd H'' p' (.tup [kV (Sum.inl n),v])=H3 at c3 a2⊢;refine{_,M,.inl {M,_,DI.of c3.li},_,M,n,M,_,M,_,M,(by show 3<=sizeLine;decide),λp2 a3=>?_};let s4:Ck H3 (upd H3 p2<|.tup [.int (tz<|n%65536),kV (Sum.inl n),v]):=am a3;let e4:upd H3 p2 (.tup [.int (tz<|n%65536),kV (Sum.inl n),v]) p2=some (.tup [.int (NP n),.int n,v]):=ai;generalize upd H3 p2 (.tup [.int (tz<|n%65536),kV (Sum.inl n),v])=H4 at s4 e4⊢;refine{l,_,_,M,M,s4 _ _ c3.li,a9 (by rw[Q0];lia),?_};refine{_,_,ts++ [⟨p2,n,v⟩],M,?_,?_,?_}
    .rw[D6 en,<-Qi];exact c3.add s4 a3 nl (λc hc=>by rw[Q7.mp hc];exact{_,O,_,a2}) e4
    .rw[ae bl];exact s4 _ _ a2
    .rw[Q6,QT];lia
   .let{Y,Z,ts,G,c,hf,lt}:=w;subst G;rw[a8,Qw]at c;rw[a8]at lt;refine{ob,hf,_,_,_,ts,M,?_,()};rw[CH,<-Qi,show oM R.C I st.low x=kv by unfold oM;rw[Qn,ek];rfl];rw[ax];exact c.thaw O bl
  .let{v5,Y,Z,ts,G,c,lt}:=w;subst G;exact{_,_,_,_,ts,M,by rw[GW hR,ab];exact c,()}
 .let{v4,v5,Y,Z,ts,G,c,lt}:=w;subst G;rw[lx,Qw]at c;let e:=c.eq;let sm:Ck H1 H':=λb o e=>c.sm b o (by simp) e;refine{_,M,q H' F1 l ts (sA.same sm) (fr.trans<|Fr.of_same sm) (sA.out nl) c.li (λe he=>{(c.tu e he).1,sA.out (c.tu e he).2}) (λk v=>?_) ?_}
  .rw[e];exact IR hb z nd g0 g1 k v
  .rw[e];exact Eo hb z g0
def zn{S p:Int}{a b:Nat}(R:Row S a b)(G:0<=p)(h1:p<65536)(hS:S<=65536):k%65536%S=tz p%S↔NP k/(65536/S)=p/(65536/S):=by
 let I:=R.wpos';let z:=yZ R G h1;let k0:0<=k%65536:=Qg _ (_);let O:k%65536<65536:=Qk _ (_);let e2:=yZ R (p:=NP k) (sd _) (JJ _);rw[show tz (NP k)=k%65536 from CY k0 O]at e2;let U:=R.mod0 (k%65536);let Z:=R.mod1 (k%65536);let Y:=R.mod0 (tz p);let y1:=R.mod1 (tz p);constructor
 .intro e;rw[e,z]at e2;have:=Int.eq_of_mul_eq_mul_right (QY I) e2;lia
 .intro e;rw[e,<-z]at e2;exact Kp U () Y () ()
def KR(k:Int):0<=NP k/\NP k<65536:={sd _,JJ _}
def zu{f:α->β}:∀{ts:List α}{l:List β},l.Perm (ts.map f)->∃us:List α,us.Perm ts/\us.map f=l:=by
 intro ts l h;generalize e:ts.map f=m at h
 induction h generalizing ts with
 |nil=>exact{[],by rw[List.map_eq_nil_iff.mp e],M}
 |cons x _ I=>
  cases ts with
  |nil=>cases e
  |cons y ts=>
   rw[Qv]at e;injection e with e1 e2;let{us,h1,h2}:=I e2;exact{y::us,h1.cons y,by rw[Qv,h2,e1]}
 |swap x y l=>
  cases ts with
  |nil=>cases e
  |cons a ts=>
   cases ts with
   |nil=>cases e
   |cons b ts=>
    rw[Qv,Qv]at e;injection e with e1 e2;injection e2 with e2 e3;exact{b::a::ts,List.Perm.swap a b ts,by rw[Qv,Qv,e1,e2,e3]}
 |trans _ _ z G=>
  let{us,h1,h2}:=G e;let{O,U,Y}:=z h2;exact{O,U.trans h1,Y}
def Cq(x y:Int×V):Prop:=NP x.1<NP y.1\/(NP x.1=NP y.1/\x.1<y.1)
def uI(K:Wp)(t:N6):Sp:=λvs H Q _=>∃(a:RC)(lo hi:Int)(F:RE)(st:Hm),vs=[.ref a,.int lo,.int hi]/\NW K t H a F st/\st.kv.length<4096/\(∀p∈st.kv,∃i:Int,p.2= .int i)/\
 ∀(H':Hp)(F':RE)(l:RC)(ts:List Tp),NW K t H' a F' st->Fr F F' H H'->¬F' l->(¬F l->H l=none)->H' l=some (.lst<|ts.map λe=>V.ref e.p)->(∀e∈ts,H' e.p=some (.tup [.int e.k,e.v])/\¬F' e.p)->
  (ts.map Tp.kv).Pairwise Cq->(∀k v,(k,v)∈ts.map Tp.kv↔(k,v)∈st.kv/\lo<=NP k/\NP k<hi)->Q (.ref l) H'
def DA{x q:Int}(h:0<Wo):x/Wo=q↔q*Wo<=x/\x<(q+1)*Wo:=by
 constructor
 .rintro rfl;exact{Int.ediv_mul_le x<|QY h,Xl x h}
 .rintro ⟨h1,h2⟩;let a:=(Int.le_ediv_iff_mul_le h).mpr h1;let b:=(Int.ediv_lt_iff_lt_mul h).mpr h2;lia
def ky3(H:Hp)(b:RC):List Int:=match H b with
 |some (.tup [.int i,.int j,.int m])=> [i,j,m]
 |_=> []
def CC{i j:Int}(h:H b=some (.tup [.int i,.int j,.int m])):ky3 H b=[i,j,m]:=by
 unfold ky3;rw[h]
def none_of{H2:Hp}(s:Ck H H2)(n:H2 p=none):H p=none:=by
 cases e:H p with
 |none=>rfl
 |some o=>rw[s _ _ e]at n;cases n
def rj(f:Fr F F' H H')(n:¬F b)(e:H' b=none):H b=none:=by
 cases q:H b with
 |none=>rfl
 |some o=>rw[(f _ _ n q).1]at e;cases e
def Fr.upd_new(f:Fr F F' H H')(n:¬F b->H b=none):Fr F F' H (upd H' b o):=λc u G e=>{by rw[ae λz=>by rw[z]at G e;rw[n G]at e;cases e];exact(f c u G e).1,(f c u G e).2}
def FQ(z:(ts.map λe=>V.ref e.p)[n]?=some v):∃e:Tp,v= .ref e.p/\ts[n]?=some e:=by
 rw[Qp]at z;cases G:ts[n]? with
 |none=>rw[G]at z;cases z
 |some e=>rw[G]at z;cases z;exact⟨e,M,M⟩
structure Op(K:Wp)(t:N6)(H H':Hp)(a l:RC)(F F':RE)(st:Hm)(ts:List Tp)(b0 c:Int):Prop where
 sl:NW K t H' a F' st
 fr:Fr F F' H H'
 ol:¬F' l
 li:H' l=some (.lst<|ts.map λe=>V.ref e.p)
 tu:∀e∈ts,H' e.p=some (.tup [.int (NP e.k),.int e.k,e.v])/\¬F' e.p
 me:∀k v,(k,v)∈ts.map Tp.kv↔(k,v)∈st.kv/\b0<=NP k/\NP k<c
 nd:((ts.map Tp.kv).map (·.1)).Nodup
section
variable{l l1:RC}{F1:RE}{ts1:List Tp}{b0 c:Int}
def Op.len(h:Op K t H H' a l F F' st ts b0 c):ts.length<=st.kv.length:=by
 have:=gl h.nd (S:=st.kv.map (·.1)) λx hx=>by
  let{p,z,rfl}:=Qe.mp hx;exact Zx ((h.me p.1 p.2).mp z).1
 simpa using this
def Op.move(h:Op K t H H' a l F F' st ts b0 c)(s1:NW K t H1 a F1 st)(z:Fr F' F1 H' H1):Op K t H H1 a l F F1 st ts b0 c:=
 {s1,h.fr.trans z,(z _ _ h.ol h.li).2,(z _ _ h.ol h.li).1,λe he=>z _ _ (h.tu e he).2 (h.tu e he).1,h.me,h.nd}
def Op.step{r:Int}(h:Op K t H H' a l F F' st ts b0 (r/Wo*Wo))(nl:H l=none)(W0:0<Wo)(hb:b0<=r/Wo*Wo)(s1:NW K t H1 a F1 st)(Z:Fr F' F1 H' H1)(u1:∀e∈ts1,H1 e.p=some (.tup [.int (NP e.k),.int e.k,e.v])/\¬F1 e.p)
  (m1:∀k v,(k,v)∈ts1.map Tp.kv↔(k,v)∈st.kv/\NP k/Wo=r/Wo) (n1:((ts1.map Tp.kv).map (·.1)).Nodup):
  Op K t H (upd H1 l<|.lst<|ts.map (λe=>V.ref e.p)++ts1.map (λe=>V.ref e.p)) a l F F1 st (ts++ts1) b0 ((r/Wo+1)*Wo):=by
 let{l1,G}:=Z _ _ h.ol h.li;let e1:(r/Wo+1)*Wo=r/Wo*Wo+Wo:=by rw[Int.add_mul,Int.one_mul]
 let I:∀{p:RC}{xs:RG},H1 p=some (.tup xs)->p≠l:=λ{p xs} e z=>by rw[z,l1]at e;cases e
 refine{s1.upd G,λb o n e=>?_,G,by rw[ai,Q9],λe he=>?_,λk v=>?_,?_}
 .let{O,Y}:=(h.fr.trans Z) b o n e;exact{by rwa[ae λz=>by rw[z,nl]at e;cases e],Y}
 .rcases Q5.mp he with he|he
  .let{O,Y}:=h.tu e he;let{U,g4}:=Z _ _ Y O;exact{by rwa[ae (I U)],g4}
  .let{U,g4}:=u1 e he;exact{by rwa[ae (I U)],g4}
 .rw[Q9,Q5,h.me,m1,DA W0,e1];constructor
  .rintro (⟨x,y,z⟩|⟨x,y,z⟩)
   .exact{x,y,()}
   .exact{x,(),z}
  .rintro ⟨x,y,z⟩;by_cases d:NP k<r/Wo*Wo
   .exact .inl ⟨x,y,d⟩
   .exact .inr {x,(),z}
 .rw[Q9,Q9];refine X7.mpr {h.nd,n1,λx hx y hy e=>?_};let{p,hp,rfl}:=Qe.mp hx;let{q,hq,rfl}:=Qe.mp hy;let O:=(h.me p.1 p.2).mp hp;let Y:=(DA W0).mp ((m1 q.1 q.2).mp hq).2;rw[e]at O;lia
end
def Mh{fs us:List Tp}(up:us.Perm fs)(z:∀e∈fs,∃i:Int,H e.p=some (.tup [.int (NP e.k),.int e.k,.int i]))(nd:(fs.map (·.k)).Nodup)(pw:(us.map (·.p)).Pairwise (λa b=>HT.lexLt (ky3 H b) (ky3 H a)=false)):(us.map Tp.kv).Pairwise Cq:=by
 let I:us.Pairwise (λe f=>e.k≠f.k):=(up.pairwise_iff<|λh=>h.symm).mpr (QK.mp nd);refine QK.mpr<|((QK.mp pw).and I).imp_of_mem λ{e f} he hf h=>?_;let{i,te}:=z e (up.mem_iff.mp he);let{j,O}:=z f (up.mem_iff.mp hf);let{h1,h2}:=h;rw[CC te,CC O,HT.lexLt_cons,HT.lexLt_cons]at h1;show NP e.k<NP f.k\/(NP e.k=NP f.k/\e.k<f.k);by_cases G:NP f.k=NP e.k
 .rw[VA G,Vz (Ne.symm h2)]at h1;have:=VX h1;lia
 .rw[Vz G]at h1;have:=VX h1;lia
def vB:Bs P w K mg base N8 4 t.pj t.jz [et,zk,Rh] (uI K t):=by
 let{a4,O}:=T.g_PLACES;refine T.HQ.okl u0 λs H vs Q E hr h _=>?_;intro X;let{a,lo,hi,F,st,rfl,hA,ax,hint,q}:=h;refine aj (ND 3<|cH ag)
   (aj (ND 4<|aG (oC M) {_} T.Fj zX (ac E5<|ac af ag))
   (aj (ND 5<|aG (oB M) {_} T.Aj tj (ac HN<|ac (cm (v:= .int 65536) {_} O {_,M}) ag))
   (bV (λx=>(mK VP (aA eI Nl OP<|aC _)
    x)) ?_)))
 refine aj (aN<|dO Qq ZO ZP oq NJ<|ac (aO Ac T.aF T.Dk (pZ T) hr.mo T.DK .nil au<|ac Nl ag) ag)
   (aw (ND 4<|aO Ac T.aF T.xJ (mP T) hr.mo T.xQ .nil au<|ac Nl ag) ?_)
 intros
 refine aj (ND 6<|aG xO {_} T.L4 EW (ac (mM M (Hc.of (M':=["one"]) (N:=[et,zk,Rh,Pp,Pw,u4,Rs]) (N':=[et,zk,Rh,Pp,Pw,u4,Rs]) (dsc:=ak dN) M M ∅) (cX NJ) (λ_ _ _ _ _=>(FV qP eI HN (aS (zI K M) Ac af<|λ_ _=>M) NJ))<|λ_ _ _ _ _=>Ac) ag))
   (aw (aK<|iS M (Hc.of (M':=["one"]) (N:=[et,zk,Rh,Pp,Pw,u4,Rs]) (N':=[et,zk,Rh,Pp,Pw,u4,Rs]) (dsc:=ak dN) M M ∅) (cX P7)<|λ_ _ _ _ _=>(cG<|ac (aS (zI K M) Ac af<|λ_ _=>M)<|ac (aS (zI K M) Ac af<|λ_ _=>M) ag)) ?_)
 intros
 let z:N9 st:=let⟨_,_,_,_,_,z⟩:=hA;z
 let{s4,s5}:=bO (gF z);let{x,y,R}:=vn (gF z);let W0:=R.wpos';let a3:∀{p k:Int},0<=p->p<65536->(k%65536%st.low=tz p%st.low↔NP k/(65536/st.low)=p/(65536/st.low)):=λh0 h1=>zn R h0 h1 ();refine{Qf _,λl nl=>?_};refine{_,M,_,_,M,_,M,_,_,M,?_};let r1:0<=(if(0:Int)>lo then 0 else lo)/\lo<=(if(0:Int)>lo then 0 else lo)/\((if(0:Int)>lo then 0 else lo)=0\/(if(0:Int)>lo then 0 else lo)=lo):=by split<;>lia
 let r2:(if(65536:Int)<hi then 65536 else hi)<=65536/\((if(65536:Int)<hi then 65536 else hi)=65536\/(if(65536:Int)<hi then 65536 else hi)=hi):=by split<;>lia
 dsimp only;generalize (if(0:Int)>lo then 0 else lo)=r0 at r1⊢;generalize (if(65536:Int)<hi then 65536 else hi)=e0 at r2⊢;generalize eW:65536/st.low=Wo at W0 a3;let I0:Op K t H (upd H l<|.lst []) a l F F st [] (r0/Wo*Wo) (r0/Wo*Wo):={hA.new nl,Fr.of_same<|am nl,hA.out nl,ai,(λe he=>by cases he),(λk v=>{λh=>by(cases h),λh=>()}),QZ};generalize upd H l (.lst [])=H1 at I0⊢;refine{λm W H'=>∃(r:Int)(F':RE)(ts:List Tp),m=(e0-r).toNat/\W=[some (.ref a),some (.int lo),some (.int hi),some (.ref l),some (.int r),some (.int e0),none]/\Op K t H H' a l F F' st ts (r0/Wo*Wo) (r/Wo*Wo)/\r0<=r/\(r=r0\/r/Wo*Wo=r),{_,r0,F,[],M,M,I0,Zn _,.inl M},λm W H' w=>?_};let{r,F',ts,rfl,b2,I,rr,rm}:=w;subst b2;refine{_,M,_,M,_,_,M,M,_,M,cT (λc=>?_)<|λc=>?_}
 .let c:=VH c;let{dx,fs,ab,hm}:=I.sl.ins;refine{λah H2=>∃(r':Int)(F2:RE)(a5:List Tp),r<r'/\ah=[some (.ref a),some (.int lo),some (.int hi),some (.ref l),some (.int r'),some (.int e0),none]/\Op K t H H2 a l F F2 st a5 (r0/Wo*Wo) (r'/Wo*Wo)/\r'/Wo*Wo=r',λah H2 w=>?_,?_}
  .let{r',F2,a5,lt,e,I2,g}:=w;exact{_,(),r',F2,a5,M,e,I2,(),.inr g}
  refine{_,M,.inl {M,_,DI.of I.li},_,M,a,dx,fs,M,ab,hm _ ∅,_,M,a,r,F',st,M,I.sl,(),(),ax,λH2 F2 l1 ts1 s2 f2 o2 e2 u2 m2 n2=>?_};let b3:r0/Wo*Wo<=r/Wo*Wo:=Vj (XD W0 rr) ();let I2:=I.step nl W0 b3 s2 f2 u2 (λk v=>by rw[m2,a3 () ()]) n2;let ln:=I2.len;rw[Q6]at ln;refine{l,l1,_,_,M,M,(f2 _ _ I.ol I.li).1,e2,by rw[Q0,Q0];exact QU<|a9 (),?_};generalize upd H2 l (.lst<|ts.map (λe=>V.ref e.p)++ts1.map (λe=>V.ref e.p))=H3 at I2⊢;let{b4,b5,a6,bb}:=I2.sl.ins;refine{_,M,a,b4,b5,M,a6,bb _ ∅,_,M,a,r,F2,st,M,I2.sl,(),(),λH4 F4 s4 f4=>?_};rw[eW];let ed:(r/Wo+1)*Wo/Wo*Wo=(r/Wo+1)*Wo:=by rw[V2 _ (QY W0)]
  exact{(r/Wo+1)*Wo,F4,ts++ts1,Xl r W0,M,by rw[ed];exact I2.move s4 f4,ed}
 .let c:¬r<e0:=λy=>c (VJ y);let hl:=I.li;let ln:=I.len;refine{_,M,l,M,{_,DI.of hl},λD hD=>?_};refine iH (K:=K) (a:=l) (xs:=ts.map λe=>V.ref e.p) (λn ys H3=>H3=upd H' D (.lst ys)/\ys=((ts.take n).filter λe=>decide (lo<=NP e.k)&&decide (NP e.k<hi)).map (λe=>V.ref e.p)) ⟨M,M⟩
   (λn ys H3 _ w=>DI.of<|by rwa[w.1,ae (al hl hD)]) (λn v ys H3 hv w U=>?_) (λys H3 w U=>?_)
  .let{e1,e2}:=w;let hn:=(Q1.mp hv).1;let{e,rfl,Y}:=FQ hv;let te:=(I.tu e<|Q2 Y).1;let bd:H3 e.p=some (.tup [.int (NP e.k),.int e.k,e.v]):=by rwa[e1,ae (al te hD)]
   let yl:ys.length<=ts.length:=by
    rw[e2,Q0];let h1:=Qm (λe:Tp=>decide (lo<=NP e.k)&&decide (NP e.k<hi)) (ts.take n);let h2:(ts.take n).length<=ts.length:=by rw[Q8];lia
    lia
   refine{_,M,_,M,e.p,_,_,_,M,M,Na.of bd,M,_,_,M,M,_,M,?_};by_cases c1:lo<=NP e.k
   .refine lY c1 {_,M,_,_,M,M,_,M,?_};by_cases c2:NP e.k<hi
    .refine lY c2 {_,M,NL.mk hn U (a9 ()) {by rw[e1,dR],?_}};rw[e2,Qo,Y,QB,Q9];simp[c1,c2]
    .refine bz c2<|Ni.mk hn U {e1,?_};rw[e2,Qo,Y,QB];simp[c1,c2]
   .refine bz c1 {_,M,dP<|Ni.mk hn U {e1,?_}};rw[e2,Qo,Y,QB];simp[c1]
  .let{e1,e2}:=w;rw[Q0,Qw]at e2;let s3:Ck H' H3:=by rw[e1];exact am hD
   let Z:(ts.filter λe=>decide (lo<=NP e.k)&&decide (NP e.k<hi)).Sublist ts:=ZN;let fm:∀e,e∈(ts.filter λe=>decide (lo<=NP e.k)&&decide (NP e.k<hi))↔e∈ts/\lo<=NP e.k/\NP e.k<hi:=λe=>by
    rw[Qt,QA,VO,VO]
   generalize (ts.filter λe=>decide (lo<=NP e.k)&&decide (NP e.k<hi))=fs at e2 Z fm;let an:∀e∈fs,(e.k,e.v)∈st.kv:=λe he=>((I.me e.k e.v).mp<|Zx (f:=Tp.kv) ((fm e).mp he).1).1;let t3:∀e∈fs,∃i:Int,e.v= .int i/\H3 e.p=some (.tup [.int (NP e.k),.int e.k,.int i]):=λe he=>by
    let{i,ei}:=hint _ (an e he);let te:=s3 _ _ (I.tu e ((fm e).mp he).1).1;let ei:e.v= .int i:=ei;rw[ei]at te;exact⟨i,ei,te⟩
   refine{D,fs.map (·.p),ky3 H3,M,DI.of (by rw[U,e2,QP];rfl),λb hb=>?_,λl2 bs be pm pw=>?_}
   .let{e,he,rfl}:=Qe.mp hb;let{i,_,te}:=t3 e he;exact{_,_,_,te,CC te}
   let{us,up,ue}:=zu pm;subst ue;let um:∀e,e∈us↔e∈fs:=λe=>up.mem_iff;let nk:(fs.map (·.k)).Nodup:=by
    let h0:=I.nd;rw[QP]at h0;exact h0.sublist<|Z.map _
   let a1:=Mh up (λe he=>(t3 e he).imp λ_ h=>h.2) nk pw;let aa:∀k v,(k,v)∈us.map Tp.kv↔(k,v)∈st.kv/\lo<=NP k/\NP k<hi:=λk v=>by
    constructor
    .intro h;let{e,he,Y}:=Qe.mp h;cases Y;let he:=(um e).mp he;exact{an e he,((fm e).mp he).2}
    .rintro ⟨h1,h2,h3⟩;let pb:=KR k;let b1:=Int.ediv_mul_le r0 (QY W0);let h4:(k,v)∈ts.map Tp.kv:=(I.me k v).mpr {h1,(),()};let{e,he,Y}:=Qe.mp h4;cases Y;exact Qe.mpr {e,(um e).mpr<|(fm e).mpr ⟨he,h2,h3⟩,M}
   let ul:us.length<=ts.length:=by rw[up.length_eq];exact Z.length_le
   let e8:upd H3 l2 (.lst ((us.map (·.p)).map V.ref)) l2=some (.lst<|us.map λe=>V.ref e.p):=by rw[ai,QP];rfl
   let s8:Ck H' (upd H3 l2 (.lst ((us.map (·.p)).map V.ref))):=s3.trans (am be);let t8:∀e∈us,upd H3 l2 (.lst ((us.map (·.p)).map V.ref)) e.p=some (.tup [.int (NP e.k),.int e.k,e.v]):=λe he=>s8 _ _ (I.tu e ((fm e).mp<|(um e).mp he).1).1;generalize upd H3 l2 (.lst ((us.map (·.p)).map V.ref))=H8 at e8 s8 t8⊢;refine{_,M,l2,M,{_,DI.of e8},λD2 a2=>?_};refine oA (K:=K) (a:=l2) (xs:=us.map λe=>V.ref e.p) (λn ys H9=>Ck H8 H9/\∃ws:List Tp,ys=ws.map (λe=>V.ref e.p)/\ws.map Tp.kv=(us.take n).map Tp.kv/\∀e∈ws,e.p≠D2/\H8 e.p=none/\H9 e.p=some (.tup [.int e.k,e.v]))
    {am a2,[],M,M,λe he=>by cases he} (λn ys H9 _ w=>DI.of<|w.1 _ _ e8) (λn v ys H9 hv w G=>?_) (λys H9 w G=>?_)
   .let{s9,ws,ey,ek,ew}:=w;let hn:=(Q1.mp hv).1;let{e,rfl,Y}:=FQ hv;let te:=s9 _ _ (t8 e<|Q2 Y);refine{_,M,e.p,_,_,_,M,M,Na.of te,M,_,M,e.p,_,_,_,M,M,Na.of te,M,(by show 2<=sizeLine;decide),λp2 a0=>?_};let pd:p2≠D2:=λz=>by rw[z,G]at a0;cases a0
    let wl:ws.length<=us.length:=by
     have:=VS List.length ek;rw[Q0,Q0,Q8]at this;lia
    refine NL.mk hn (by rwa[ae pd.symm]) (a9<|by rw[ey,Q0];lia) {bT (s9.trans<|am a0) a2,ws++ [⟨p2,e.k,e.v⟩],by rw[ey,Q9];rfl,?_,λf hf=>?_}
    .rw[Q9,ek,Qo,Y,Q9];rfl
    .rcases Q5.mp hf with hf|hf
     .let{g1,g2,g3}:=ew f hf;exact{g1,g2,by rw[ae g1];exact am a0 _ _ g3}
     .rw[Q7.mp hf];exact{pd,none_of s9 a0,by rw[ae pd];exact ai}
   .let{s9,ws,ey,ek,ew}:=w;rw[Q0,Qw]at ek;let sm:=s8.trans s9;refine q H9 F' D2 ws (I.sl.same sm) (I.fr.trans<|Fr.of_same sm) (I.sl.out<|none_of s8 a2) (λnF=>rj (I.fr.trans<|Fr.of_same s8) nF a2) (by rw[G,ey]) (λe he=>?_) (by rwa[ek]) (by rwa[ek]);let{_,g2,g3}:=ew e he;exact{g3,I.sl.out<|none_of s8 g2}
def gh(e:A[j]?=some c):OR (A.map V.ref) (j:Int)=some (.ref c):=by
 refine rH ?_;rw[Qp,e];rfl
def DN(ne:x≠[])(e:x[x.length-1]?=some m):OR (x.map V.int) (-1)=some (.int m):=by
 let hl:=Z8.mpr ne;unfold OR Oc;rw[Q0,Vz (_),VA ()];show(x.map V.int)[((-1:Int)+(x.length:Int)).toNat]?=_;have:((-1:Int)+(x.length:Int)).toNat=x.length-1:=();rw[this,Qp,e];rfl
def Dt(h:i<A.length):Oc (A.map V.ref).length (i:Int)=some i:=by
 unfold Oc;rw[VA (),VA (by rw[Q0];lia)];rfl
def qg:∀(A:RQ)(i:Nat),(A.map V.ref).eraseIdx i=(A.eraseIdx i).map V.ref
 | [],_=>rfl
 |_::_,0=>rfl
 |a::r,i+1=>by
  show V.ref a::(r.map V.ref).eraseIdx i=V.ref a::(r.eraseIdx i).map V.ref;rw[qg r i]
def yz:∀(ls:RZ)(i:Nat)(y:RF),(ls.set i y).eraseIdx i=ls.eraseIdx i
 | [],_,_=>rfl
 |_::_,0,_=>rfl
 |x::r,i+1,y=>by
  show x::(r.set i y).eraseIdx i=x::r.eraseIdx i;rw[yz r i y]
def Ki(a:RC)(k:Int)(ls:RZ)(H:Hp):Nat->St->Hp->Prop:=λm W H'=>∃(lo hi:Nat)(v4:RX),m=hi-lo/\H'=H/\W=[some (.ref a),some (.int k),some (.int (lo:Int)),some (.int (hi:Int)),v4]/\lo<=hi/\hi<=ls.length/\
 (∀(j:Nat)(x:RF),j<lo->ls[j]?=some x->∀y∈x,y<k)/\∀(j:Nat)(x:RF),hi<=j->ls[j]?=some x->∃y∈x,k<=y
def pM(t:N6):Sp:=λvs H Q _=>∃(a:RC)(k:Int)(L:RC)(A:RQ)(ls:RZ),vs=[.ref a,.int k]/\Nk t H a L A ls/\(∀l∈ls,l≠[])/\db ls.flatten/\∀i:Nat,NU ls k i->Q (.int (i:Int)) H
def bU:Bs P w K mg base N8 1 t.iY t.fu [et,eH] (pM t):=by
 refine T.DU.okl pR λs H vs Q E hr h _=>?_;intro X;let{a,k,L,A,ls,rfl,hb,ne,up,q}:=h;refine aj (ND 2 af)
   (aj (ND 3<|aG aE {_} T.bS bq (ac (aq Ac M) ag))
   (bV (λx=>(mK VP (aA eI HN NJ<|aC _)
    x)) ?_))
 refine aj (ND 4<|ao aR (ao bi HN NJ) af)
   (aw (aU (aA eI (aS aX (aS aX (aq Ac M) Nl<|λ_ _=>M) (FY B0 af)<|λ_ _=>M) E5<|aC _)
    (aD<|ND 2<|ao bi Nl af)
    (aD<|ND 3 Nl)) ?_)
 intros
 refine aw (aK HN) ?_
 intros
 let{dx,ho}:=hb.obj;let lA:((A.map V.ref).length:Int)=(ls.length:Int):=by rw[Q0,hb.len]
 refine{_,M,a,_,dx,_,_,M,ho,T.aM,T.aB,c6,L,_,M,.inl<|DI.of hb.lst,?_};dsimp only;rw[lA];refine{Ki a k ls H,{_,0,ls.length,none,M,M,M,Qf _,Q4 _,λj x h=>VE h (),λj x h e=>?_},?_}
 .have:=(Q1.mp e).1;lia
 rintro m W H' ⟨lo,hi,v4,rfl,rfl,rfl,h1,h2,h3,h4⟩;refine{_,M,_,M,_,_,M,M,_,M,cT (λc=>?_)<|λc=>?_}
 .let c:lo<hi:=by have:=VH c;lia
  refine{λY H''=>∃m',m'<hi-lo/\Ki a k ls H' m' Y H'',λ_ _ h=>h,?_};refine{_,M,_,M,_,_,M,M,_,_,M,M,{(_),(_)},?_};obtain⟨G,em,m1,m2⟩:∃G:Nat,((lo:Int)+(hi:Int))/2=(G:Int)/\lo<=G/\G<hi:={(lo+hi)/2,(),(),()};dsimp only;rw[em];let hm:G<ls.length:=();let ex:ls[G]?=some ls[G]:=Q3 hm;let{b,eb,Z}:=hb.at ex;let I:=ne _ (Zy hm);let{g,eg,gm,O}:=GH (Iv up ex) I;refine{_,M,a,_,dx,_,_,M,ho,T.aM,T.aB,c6,_,M,L,_,_,_,M,M,DI.of hb.lst,gh eb,_,M,b,_,_,_,M,M,DI.of Z,DN I eg,_,M,_,_,M,M,_,M,cT (λU=>?_)<|λU=>?_}
  .let U:=VH U;refine{_,M,_,_,M,M,hi-(G+1),(),G+1,hi,_,M,M,M,(),h2,λj x hj e y hy=>?_,h4};rcases(show j<G\/j=G by lia)with h|h
   .have:=yc up e ex h y hy g gm;lia
   .subst h;rw[ex]at e;cases e;have:=O y hy;lia
  .let U:¬g<k:=λz=>U (VJ z);refine{_,M,G-lo,(),lo,G,_,M,M,M,(),(),h3,λj x hj e=>?_};rcases(show j=G\/G<j by lia)with h|h
   .subst h;rw[ex]at e;cases e;exact{g,gm,()}
   .let{y,hy}:=List.exists_mem_of_ne_nil x (ne x<|Q2 e);have:=yc up ex e h g gm y hy;exact{y,hy,()}
 .let c:¬lo<hi:=λz=>c (VJ ());have:lo=hi:=();subst this;exact{_,M,q lo {h2,h3,λx e=>h4 lo x (Q4 _) e}}
def Bb{k:Int}:∀{x:RF},inV (.int k) (x.map V.int)=decide (k∈x)
 | []=>rfl
 |a::r=>by
  let G:=Bb (k:=k) (x:=r);unfold inV at G⊢;rw[Qv,Xe,G];have:Oi (.int a) (.int k)=decide (k=a):=by
   show(_:Bool)=_;by_cases c:a=k
   .subst c;simp[Oi]
   .let I:¬k=a:=λz=>c z.symm;simp[Oi,c,I]
  rw[this];by_cases c:k=a
  .simp[c]
  .simp[c]
def EN:(x.map V.int).all rB=true:=by
 rw[List.all_map];exact Zz.mpr λ_ _=>rfl
def mS:Bs P w K mg base N8 2 t.pF t.jF [et,eH] (uO K t):=by
 refine T.HX.okl vc λs H vs Q E hr h _=>?_;intro X;let{a,k,F,ks,rfl,I,q}:=h;refine aj (ND 2<|aO Ac T.aM T.c4 (bU T) hr.mo T.c8 .nil au<|ac E5 ag)
   (aw (aK<|gy (bZ eI HN (aG aE {_} T.bS bq (ac (aq Ac M) ag))<|aC _)<|fQ<|bZ El E5 (aS aX (aq Ac M) HN<|λ_ _=>M) M) ?_)
 intros
 let{dx,fs,hi,hm}:=I.ins;let q:=q H F I Fr.refl;let{L,A,ls,hb,ok,U,hF}:=I;let{G,Y}:=hb.obj;let lA:((A.map V.ref).length:Int)=(ls.length:Int):=by rw[Q0,hb.len]
 refine{_,M,a,dx,fs,M,hi,hm _ ∅,_,M,a,k,L,A,ls,M,hb,ok.ne,ok.up,λi Z=>?_};refine{_,M,_,M,a,_,G,_,_,M,Y,T.aM,T.aB,c6,L,_,M,.inl<|DI.of hb.lst,_,_,M,M,_,M,cT (λc=>?_)<|λc=>?_}
 .let c:=VH c;let hi:i<ls.length:=();let ex:ls[i]?=some ls[i]:=Q3 hi;let{b,eb,O}:=hb.at ex;refine{_,M,_,M,a,_,G,_,_,M,Y,T.aM,T.aB,c6,_,M,L,_,_,_,M,M,DI.of hb.lst,gh eb,b,_,M,.inl<|DI.of O,M,EN,?_};show Q (.bl<|inV (.int k)<|ls[i].map V.int) H;rw[Bb];have:k∈ls[i]↔k∈ks:=by
   rw[<-U,Z.mem ok];constructor
   .exact λz=>{_,ex,z}
   .rintro ⟨x,e,z⟩;rw[ex]at e;cases e;exact z
  rw[decide_eq_decide.mpr this];exact q
 .let c:¬(i:Int)<((A.map V.ref).length:Int):=λz=>c (VJ z);have:k∉ks:=λz=>by
   rw[<-U,Z.mem ok]at z;let{x,e,_}:=z;have:=(Q1.mp e).1;lia
  rw[VM this]at q;exact q
def uh:Bs P w K mg base N8 1 t.nU t.iD [et] (tU K t):=by
 refine T.Ho.okl ua λs H vs Q E Y h _=>?_;intro X;let{a,dx,rfl,ha,hd,q}:=h;refine{_,(aD<|ba Ac (cH ag) M)
  ,?_}
 refine{Qf _,λL G=>{_,M,a,_,dx,[],M,(by rwa[ae (al ha G)]),T.aM,T.aB,(by show 0<1000;decide),?_}};let U:=al ha G;refine q _ (O8 a L []) {L,[],[],{⟨dx,ai⟩,by rw[ae U.symm];exact ai,M,(λj b l e=>by simp at e),(λi j b e=>by simp at e),(λz=>by cases z)},NO.nil,M,λb=>Iff.rfl} λb o n w=>?_;let I:b≠a:=λy=>n (.inl y);let O:b≠L:=al w G;refine{by rwa[ae I,ae O],λy=>?_};rcases y with y|y|y
 .exact I y
 .exact O y
 .cases y
def lZ(t:N6):Sp:=λvs H Q _=>∃(a L:RC)(A:RQ)(ls:RZ)(i:Nat)(x:RF),vs=[.ref a,.int (i:Int)]/\Nk t H a L A ls/\ls[i]?=some x/\x.length=9/\ls.length<5000/\
 ∀H' A',Nk t H' a L A' ((ls.set i<|x.take 4).take (i+1)++x.drop 4::(ls.set i<|x.take 4).drop (i+1))->Fr (O8 a L A) (O8 a L A') H H'->Q .non H'
def mR:Bs P w K mg base N8 1 t.gK t.dJ [et,rD] (lZ t):=by
 refine T.BS.okl mh λs H vs Q E hr h _=>?_;intro X;let{a,L,A,ls,i,x,rfl,hb,ex,lx,ll,q}:=h;refine aj (ND 2<|aS aX (aq Ac M) E5<|λ_ _=>M)
   (aj (ND 3<|ao aR (aG aE {_} T.bS bq (ac HN ag)) af)
   (aj (Co (gk iP HN kM<|gP NJ)<|Cs (aq Ac M) E5 uV)
   (aw (aN<|dO Qq PySem.F.slot_list_insert PySem.F.type_list_insert yj (aq Ac M)<|ac (ao bi E5 af)<|ac (gk iP HN (gP NJ) kM) ag) ?_)))
 intros
 let{dx,ho}:=hb.obj;let{c,ec,hc}:=hb.at ex;let b1:i<A.length:=(Q1.mp ec).1;let a0:((x.map V.int).length:Int)=9:=by rw[Q0,lx];rfl
 refine{_,M,a,_,dx,_,_,M,ho,T.aM,T.aB,c6,_,M,L,_,_,_,M,M,DI.of hb.lst,gh ec,?_};refine{_,M,c,_,M,.inl<|DI.of hc,_,_,M,M,{(_),(_)},?_};dsimp only;rw[a0];let a1:oK (x.map V.int) none (some<|9/2)=(x.take 4).map V.int:=by
  unfold oK;rw[Q0,lx];show((x.map V.int).drop 0).take (4-0)=_;rw[Zp,Zv]
 let a2:oK (x.map V.int) (some<|9/2) none=(x.drop 4).map V.int:=by
  unfold oK;rw[Q0,lx];show((x.map V.int).drop 4).take (9-4)=_;rw[Xf,Qx (by rw[QF,Q0,lx];exact Q4 _)]
 refine{_,M,_,M,_,M,c,_,M,DI.of hc,λG O=>?_};rw[a1];let s1:Ck H (upd H G<|.lst<|(x.take 4).map V.int):=am O;let hb1:=hb.same s1;let a3:upd H G (.lst<|(x.take 4).map V.int) G=some (.lst<|(x.take 4).map V.int):=ai;let b2:=hb.out O;let a4:=s1 _ _ ho;let a5:=s1 _ _ hc;let a6:=s1 _ _ hb.lst;generalize upd H G (.lst<|(x.take 4).map V.int)=H1 at s1 hb1 a3 a4 a5 a6⊢;refine{_,M,a,_,dx,_,_,M,a4,T.aM,T.aB,c6,_,M,L,_,_,_,M,M,a6,Dt b1,?_};let es:(A.map V.ref).set i (V.ref G)=(A.set i G).map V.ref:=by rw[Vd]
 rw[es];let I:=hb1.swap ec ex a3 b2;let cL:c≠L:=λz=>hb.nL (z▸Q2 ec);let aa:upd H1 L (.lst<|(A.set i G).map V.ref) c=some (.lst<|x.map V.int):=by rwa[ae cL]
 let{b3,ab}:=I.obj;let U:=I.lst;let f2:Fr (O8 a L A) (O8 a L<|A.set i G) H (upd H1 L<|.lst<|(A.set i G).map V.ref):=λb o n w=>by
  let w1:=s1 _ _ w;refine{by rwa[ae (λy=>n<|.inr<|.inl y)],λy=>?_};rcases y with y|y|y
  .exact n<|.inl y
  .exact n<|.inr (.inl y)
  .rcases List.mem_or_eq_of_mem_set y with y|y
   .exact n<|.inr (.inr y)
   .rw[y,O]at w;cases w
 generalize upd H1 L (.lst<|(A.set i G).map V.ref)=H2 at I aa ab U f2⊢;refine{_,M,a,_,b3,_,_,M,ab,T.aM,T.aB,c6,.inl {M,_,DI.of U},_,M,_,_,M,M,_,M,_,M,_,M,c,_,M,DI.of aa,λZ Y=>?_};rw[a2];let s3:Ck H2 (upd H2 Z<|.lst<|(x.drop 4).map V.int):=am Y;let ah:=I.same s3;let an:upd H2 Z (.lst<|(x.drop 4).map V.int) Z=some (.lst<|(x.drop 4).map V.int):=ai;let b4:=I.out Y;let ax:=s3 _ _ U;generalize upd H2 Z (.lst<|(x.drop 4).map V.int)=H3 at s3 ah an ax⊢;let lS:(A.set i G).length=A.length:=QJ;refine{L,_,_,_,M,M,ax,(),(by rw[Q0,lS];lia),(by rw[Q0,lS,hb.len];exact a9 ()),?_};let ei:((i:Int)+1).toNat=i+1:=();let b5:=ah.insert (i:=i+1) (by rw[lS];lia) an b4;rw[ei];let em:((A.set i G).map V.ref).take (i+1)++V.ref Z::((A.set i G).map V.ref).drop (i+1)=((A.set i G).take (i+1)++Z::(A.set i G).drop (i+1)).map V.ref:=by
  rw[Q9,Qv,Zv,Xf]
 rw[em];refine q _ _ b5<|f2.trans (λb o n w=>?_);let w3:=s3 _ _ w;refine{by rwa[ae (λy=>n<|.inr<|.inl y)],λy=>?_};rcases y with y|y|y
 .exact n<|.inl y
 .exact n<|.inr (.inl y)
 .rcases Q5.mp y with y|y
  .exact n<|.inr (.inr<|QX y)
  .rcases Qj.mp y with y|y
   .rw[y,Y]at w;cases w
   .exact n<|.inr (.inr<|Xk y)
def Nk.insM{L:RC}(h:Nk t H a L A ls):∃dx fs,H a=some (.ins t.bB dx fs)/\∀m,m≠(hL:Str)->fs.lookup m=none:=by
 let{dx,z}:=h.obj;exact{dx,_,z,λm G=>J7 G}
def vG:Bs P w K mg base N8 3 t.pG t.jG [et,eH] (uP K t):=by
 let{I,G}:=T.g_MOST_IN_LEAF;refine T.HY.okl vd λs H vs Q E hr h _=>?_;intro X;let{a,k,F,ks,rfl,hA,hl,q1,q2}:=h;refine aj (aU (cE<|aO Ac T.aM T.xL (mS T) hr.mo T.xS .nil au<|ac E5 ag)
    (aD dD)
    aL)
   (bV (λx=>aU (aA cY (aG aE {_} T.bS bq (ac (aq Ac M) ag)) af<|aC _) x aL) ?_)
 refine aj (aN<|dO Qq Z3 Z4 eJ (aq Ac M)<|ac (cH<|ac E5 ag) ag)
   (aw oj ?_)
 intros
 refine aj (ND 2<|aG (oB M) {_} T.Aj tj (ac (aO Ac T.aM T.c4 (bU T) hr.mo T.c8 .nil au<|ac E5 ag)<|ac (ao mN (aG aE {_} T.bS bq (ac (aq Ac M) ag)) af) ag))
   (aj (ND 3<|aS aX (aq Ac M) HN<|λ_ _=>M)
   (aj (aN<|dO Qq PySem.F.slot_list_insert PySem.F.type_list_insert yj NJ<|ac (aG aE {_} T.bS bq (ac (mM M (Hc.of (M':=["one"]) (N:=[et,eH,rD,"leaf"]) (N':=[et,eH,rD,"leaf"]) (dsc:=ak gf) M M ∅) (cX NJ) (λ_ _ _ _ _=>(aA eI Ac HN<|aC _))<|λ_ _ _ _ _=>Ac) ag))<|ac E5 ag)
   (aw (aU (aA F9 (aG aE {_} T.bS bq (ac NJ ag)) (cm (v:= .int 8) {_} G {_,M})<|aC _)
    (aD<|aN<|aO Ac T.aM T.BK (mR T) hr.mo T.BO .nil au<|ac HN ag)
    aL) ?_)))
 intros
 let{dx,fs,hi,hm}:=hA.ins;refine{_,M,a,dx,fs,M,hi,hm _ ∅,_,M,a,k,F,ks,M,hA,λH0 F0 a5 a0=>?_};by_cases ck:k∈ks
 .rw[VJ ck];refine{_,M,cC ?_};exact(q2 ck).elim
 rw[VM ck];refine{_,M,dP ?_};let q:=q1 ck;let{L,A,ls,hb,ok,ef,hF}:=a5;let{O,ho}:=hb.obj;let lA:((A.map V.ref).length:Int)=(ls.length:Int):=by rw[Q0,hb.len]
 let sh:=ok.short;rw[ef]at sh;let fr:Fr F (O8 a L A) H H0:=λb o n e=>{(a0 b o n e).1,λy=>(a0 b o n e).2<|(hF b).mpr y};let nk:k∉ls.flatten:=by rwa[ef]
 by_cases ce:ls=[]
 .subst ce;let eA:A=[]:=List.length_eq_zero_iff.mp hb.len;subst eA;refine{_,M,a,_,O,_,_,M,ho,T.aM,T.aB,c6,L,_,M,.inl<|DI.of hb.lst,M,_,M,jV M ?_};refine{_,M,a,_,O,_,_,M,ho,T.aM,T.aB,c6,.inl {M,_,DI.of hb.lst},_,M,(by show 1<=sizeLine;decide),λn nn=>?_};let s1:Ck H0 (upd H0 n<|.lst [.int k]):=am nn;let hb1:=hb.same s1;let a6:upd H0 n (.lst [.int k]) n=some (.lst<|([k]:RF).map V.int):=ai;let nF:=hb.out nn;let aa:=s1 _ _ hb.lst;refine{L,_,_,M,M,aa,bQ (by show 0<=1000;decide),?_};let ab:=hb1.insert (i:=0) (Qf _) a6 nF;let ah:NO [[k]]:={(λl hl=>by rw[Q7.mp hl];simp),(λl hl=>by rw[Q7.mp hl];simp),(λi x y e1 e2=>by simp at e2),by show db [k];exact Zf _ _};refine q _ (O8 a L [n]) [k] {L,[n],[[k]],ab,ah,M,λb=>Iff.rfl} (λz=>?_)<|fr.trans λb o n' w=>?_
  .rw[<-ef];simp
  .let w1:=s1 _ _ w;refine{by rwa[ae (λy=>n'<|.inr<|.inl y)],λy=>?_};rcases y with y|y|y
   .exact n'<|.inl y
   .exact n'<|.inr (.inl y)
   .rw[Q7.mp y,nn]at w;cases w
 .let bv:=Z8.mpr ce;refine{_,M,a,_,O,_,_,M,ho,T.aM,T.aB,c6,L,_,M,.inl<|DI.of hb.lst,M,_,M,bz (λw=>?_) ?_}
  .have:=V.int.inj w;lia
  let{an,ax,b1,b2}:=hb.insM;refine{_,M,a,an,ax,M,b1,b2 _ ∅,_,M,a,k,L,A,ls,M,hb,ok.ne,ok.up,λi li=>?_};refine{_,M,a,_,O,_,_,M,ho,T.aM,T.aB,c6,L,_,M,.inl<|DI.of hb.lst,_,_,M,M,_,_,M,?_};let{x,ad}:=li.add ok ce;let em:(if((A.map V.ref).length:Int)-1<(i:Int)then((A.map V.ref).length:Int)-1 else(i:Int))=((min i (ls.length-1):Nat):Int):=by
   rw[lA];split<;>lia
  dsimp only;rw[em];generalize min i (ls.length-1)=j at ad⊢;let{c,ec,hc}:=hb.at ad.at_;let jl:j<ls.length:=(Q1.mp ad.at_).1;let x8:=ok.le x (Q2 ad.at_);refine{_,M,a,_,O,_,_,M,ho,T.aM,T.aB,c6,_,M,L,_,_,_,M,M,DI.of hb.lst,gh ec,?_};refine{_,M,.inl {M,_,DI.of hc},_,M,c,M,{_,DI.of hc},λD hD=>?_};refine iH (K:=K) (a:=c) (xs:=x.map V.int) (λn ys H3=>H3=upd H0 D (.lst ys)/\ys=((x.take n).filter<|λz=>decide (z<k)).map V.int) ⟨M,M⟩ (λn ys H3 _ w=>DI.of<|by rwa[w.1,ae (al hc hD)]) (λn v ys H3 hv w U=>?_)<|λys H3 w U=>?_
  .let{e1,e2}:=w;obtain⟨g,rfl,eg⟩:∃g:Int,v= .int g/\x[n]?=some g:=by
    rw[Qp]at hv;cases e:x[n]? with
    |none=>rw[e]at hv;cases hv
    |some g=>rw[e]at hv;cases hv;exact⟨g,M,M⟩
   let hn:n<(x.map V.int).length:=(Q1.mp hv).1;refine{_,M,_,M,_,_,M,M,_,M,?_};let fl:ys.length<=8:=by
    rw[e2,Q0];let h1:=Qm (λz=>decide (z<k)) (x.take n);let h2:(x.take n).length<=x.length:=by rw[Q8];lia
    lia
   by_cases cg:g<k
   .refine lY cg {_,M,NL.mk hn U (bQ ()) {by rw[e1,dR],?_}};rw[e2,Qo,eg,QB,Q9];simp[cg]
   .refine bz cg<|Ni.mk hn U {e1,?_};rw[e2,Qo,eg,QB];simp[cg]
  .let{e1,e2}:=w;rw[Q0,Qw]at e2;let s3:Ck H0 H3:=by rw[e1];exact am hD
   let b3:=hb.same s3;let b4:=s3 _ _ hc;let yl:(ys.length:Int)=((x.filter<|λz=>decide (z<k)).length:Int):=by rw[e2,Q0]
   let bw:=Qm (λz=>decide (z<k)) x;refine{D,_,M,.inl<|DI.of U,_,M,c,_,_,_,M,M,b4,(),(by rw[Q0];lia),(by rw[Q0];exact bQ ()),?_};let ei:(x.map V.int).take (ys.length:Int).toNat++V.int k::(x.map V.int).drop (ys.length:Int).toNat=(gp x k).map V.int:=by
    rw[yl,QS];unfold gp;rw[Q9,Qv,Zv,Xf]
   dsimp only;rw[ei];let Y:=b3.write (y:=gp x k) ec ad.at_;let il:=GL (l:=x) (k:=k);let{a1,Z}:=ad.set ok nk;let cF:O8 a L A c:= .inr (.inr<|Q2 ec);let f4:Fr (O8 a L A) (O8 a L A) H0 (upd H3 c<|.lst<|(gp x k).map V.int):=λb o n w=>{by rw[ae (λy=>n<|by rwa[y])];exact s3 _ _ w,n};let a2:upd H3 c (.lst<|(gp x k).map V.int) c=some (.lst<|(gp x k).map V.int):=ai;generalize upd H3 c (.lst<|(gp x k).map V.int)=H4 at Y f4 a2⊢;refine{_,M,c,_,M,.inl<|DI.of a2,_,_,M,M,_,M,?_};let ll:((gp x k).map V.int).length=x.length+1:=by rw[Q0,il]
   by_cases c9:x.length=8
   .refine lY (by rw[ll];lia) ?_;let{b5,bb,bd,be}:=Y.insM;let e5:(ls.set j<|gp x k)[j]?=some (gp x k):=by rw[Qs,VA M,VA jl]
    refine{_,M,a,b5,bb,M,bd,be _ ∅,_,M,a,L,A,_,j,_,M,Y,e5,(),by rw[QJ];lia,λH6 A6 a3 f6=>?_};let er:(ls.set j<|gp x k).set j ((gp x k).take 4)=ls.set j ((gp x k).take 4):=List.set_set _;rw[er]at a3;let bl:db (ls.set j<|(gp x k).take 4++(gp x k).drop 4).flatten:=by rwa[QO]
    let{bo,a4}:=ok.parted ad.at_ (a:=(gp x k).take 4) (b:=(gp x k).drop 4) (by rw[Q8];lia) (by rw[QF];lia) bl;rw[QO]at a4;refine q H6 _ _ {L,A6,_,a3,bo,M,λb=>Iff.rfl} (λz=>?_)<|fr.trans (f4.trans f6);rw[a4,Z,ef]
   .refine bz (by rw[ll];lia) ?_;let bt:=ok.grown ad.at_ (y:=gp x k) () () a1;exact q H4 _ _ {L,A,_,Y,bt,M,λb=>Iff.rfl} (λz=>by rw[Z,ef])<|fr.trans f4
def lR(t:N6):Sp:=λvs H Q _=>∃(a L:RC)(A:RQ)(ls:RZ)(i:Int),vs=[.ref a,.int i]/\Nk t H a L A ls/\-1<=i/\i<(ls.length:Int)/\(∀l∈ls,l.length<=8)/\ls.length<5000/\
 ∀H' A' ls',Nk t H' a L A' ls'->ls'=(if 0<=i then oW ls i.toNat else ls)->Fr (O8 a L A) (O8 a L A') H H'->Q .non H'
def Gu{n:RC}(h:b∈A.set i n):b∈A\/b=n:=List.mem_or_eq_of_mem_set h
def lW:Bs P w K mg base N8 1 t.gr t.dz [et,rD] (lR t):=by
 let{I,z}:=T.g_LEAST_IN_TWO;refine T.BH.okl lU λs H vs Q E hr h _=>?_;intro X;let{a,L,A,ls,i,rfl,hb,i0,i1,l8,ll,q}:=h;refine aj (aU (PW.pt<|qM (aA eI E5 af<|aC _)<|mF<|aA cY (ao bi E5 af) (aG aE {_} T.bS bq (ac (aq Ac M) ag))<|aC _)
    (aD oj)
    aL)
   (aj (ND 2<|ao K2 (aS aX (aq Ac M) E5<|λ_ _=>M)<|aS aX (aq Ac M) (ao bi E5 af)<|λ_ _=>M)
   (mX (λx=>aU (aA eI (aG aE {_} T.bS bq (ac HN ag)) (cm (v:= .int 5) {_} z {_,M})<|aC _) x aL) ?_))
 refine aj (Co HN<|Cs (aq Ac M) E5 uV)
   (aw (aN<|dO Qq PySem.F.slot_list_pop PySem.F.type_list_pop AN (aq Ac M)<|ac (ao bi E5 af) ag) ?_)
 intros
 let{dx,ho}:=hb.obj;let lA:((A.map V.ref).length:Int)=(ls.length:Int):=by rw[Q0,hb.len]
 by_cases c0:i<0
 .refine{_,M,_,_,M,M,_,M,lY c0 ?_};exact cC<|q H A ls hb (by rw[Vz ()]) Fr.refl
 refine{_,M,_,_,M,M,_,M,bz c0 ?_};let{n,rfl}:=Z7 (show 0<=i by lia);let en:((n:Int)).toNat=n:=QS n;rw[VA (),en]at q;refine{_,M,_,_,M,M,_,M,a,_,dx,_,_,M,ho,T.aM,T.aB,c6,L,_,M,.inl<|DI.of hb.lst,M,_,M,?_};by_cases c1:n+1=ls.length
 .refine jV (VS V.int<|by rw[lA];lia) ?_;exact q H A ls hb (vY ()).symm Fr.refl
 refine bz (λw=>c1<|by have:=V.int.inj w;rw[lA]at this;lia) ?_;let hn:n<ls.length:=();let U:n+1<ls.length:=();let ex:ls[n]?=some ls[n]:=Q3 hn;let ey:ls[n+1]?=some ls[n+1]:=Q3 U;let x8:=l8 _ (Zy hn);let y8:=l8 _ (Zy U);generalize ls[n]=x at ex x8;generalize ls[n+1]=y at ey y8;let{c,ec,hc}:=hb.at ex;let{d,ed,hd}:=hb.at ey;let ab:(n:Int)+1=((n+1:Nat):Int):=M;refine{_,M,a,_,dx,_,_,M,ho,T.aM,T.aB,c6,_,M,L,_,_,_,M,M,DI.of hb.lst,gh ec,_,M,a,_,dx,_,_,M,ho,T.aM,T.aB,c6,_,M,_,_,M,M,L,_,_,_,M,M,DI.of hb.lst,gh ed,c,d,_,_,M,M,hc,hd,QU<|bQ (by rw[Q0,Q0];lia),λG Y=>?_};rw[<-Q9];let s1:Ck H (upd H G<|.lst<|(x++y).map V.int):=am Y;let hb1:=hb.same s1;let Z:upd H G (.lst<|(x++y).map V.int) G=some (.lst<|(x++y).map V.int):=ai;let nF:=hb.out Y;let a1:=s1 _ _ ho;let a2:=s1 _ _ hb.lst;generalize upd H G (.lst<|(x++y).map V.int)=H1 at s1 hb1 Z a1 a2⊢;refine{_,M,G,_,M,.inl<|DI.of Z,_,_,M,M,_,M,?_};let a3:(((x++y).map V.int).length:Int)=(x.length:Int)+(y.length:Int):=by rw[Q0,Q6];rfl
 rw[Ba ex ey]at q;by_cases c5:x.length+y.length<5
 .refine lY (by rw[a3];lia) ?_;rw[VA c5]at q;let nA:n<A.length:=by rwa[hb.len]
  refine{_,M,_,M,a,_,dx,_,_,M,a1,T.aM,T.aB,c6,_,M,L,_,_,_,M,M,a2,Dt nA,?_};let es:(A.map V.ref).set n (V.ref G)=(A.set n G).map V.ref:=by rw[Vd]
  rw[es];let O:=hb1.swap ec ex Z nF;let{a5,a4}:=O.obj;let a0:=O.lst;let f2:Fr (O8 a L A) (O8 a L<|A.set n G) H (upd H1 L<|.lst<|(A.set n G).map V.ref):=λb o n' w=>by
   let w1:=s1 _ _ w;refine{by rwa[ae (λy=>n'<|.inr<|.inl y)],λy=>?_};rcases y with y|y|y
   .exact n'<|.inl y
   .exact n'<|.inr (.inl y)
   .rcases Gu y with y|y
    .exact n'<|.inr (.inr y)
    .rw[y,Y]at w;cases w
  generalize upd H1 L (.lst<|(A.set n G).map V.ref)=H2 at O a4 a0 f2⊢;let lS:((A.set n G).map V.ref).length=ls.length:=by rw[Q0,QJ,hb.len]
  let a6:n+1<(A.set n G).length:=by rwa[QJ,hb.len]
  let sx:seqIndex? ((n:Int)+1) ((A.set n G).map V.ref).length=some (n+1):=by
   have:=seqIndex_of (k:=(n:Int)+1) (n:=((A.set n G).map V.ref).length) () (by rw[lS];lia);rw[this];congr 1
  refine{_,M,a,_,a5,_,_,M,a4,T.aM,T.aB,c6,.inl {M,_,DI.of a0},_,M,_,_,M,M,L,_,_,n+1,_,M,M,a0,(),(),sx,(by rw[Qp,Q3 a6];rfl),?_};let aa:=O.erase (i:=n+1);let em:((A.set n G).map V.ref).eraseIdx (n+1)=((A.set n G).eraseIdx<|n+1).map V.ref:=qg _ _;rw[em];refine q _ _ _ aa M<|f2.trans λb o n' w=>?_;refine{by rwa[ae (λy=>n'<|.inr<|.inl y)],λy=>?_};rcases y with y|y|y
  .exact n'<|.inl y
  .exact n'<|.inr (.inl y)
  .exact n'<|.inr (.inr<|Zd y)
 .refine bz (by rw[a3];lia) ?_;rw[Vz c5]at q;exact q H1 A ls hb1 M<|Fr.of_same s1
def p7:Bs P w K mg base N8 3 t.i4 t.fA [et,eH] (pO K t):=by
 refine T.DW.okl pS λs H vs Q E hr h _=>?_;intro X;let{a,k,F,ks,rfl,hA,hl,q1,q2}:=h;refine aj (aU (sF<|cE<|aO Ac T.aM T.xL (mS T) hr.mo T.xS .nil au<|ac E5 ag)
    (aD dD)
    aL)
   (aj (ND 2<|aO Ac T.aM T.c4 (bU T) hr.mo T.c8 .nil au<|ac E5 ag)
   (aj (aN<|dO Qq PySem.F.slot_list_remove PySem.F.type_list_remove Ev (aS aX (aq Ac M) HN<|λ_ _=>M)<|ac E5 ag)
   (bV (λx=>aU (aA cY (aG aE {_} T.bS bq (ac (aS aX (aq Ac M) HN<|λ_ _=>M) ag)) af<|aC _) x aL) ?_)))
 refine aj (aN<|dO Qq PySem.F.slot_list_pop PySem.F.type_list_pop AN (aq Ac M)<|ac HN ag)
   (aw oj ?_)
 intros
 refine aj (aN<|aO Ac T.aM T.mZ (lW T) hr.mo T.nO .nil au<|ac HN ag)
   (aw (aN<|aO Ac T.aM T.mZ (lW T) hr.mo T.nO .nil au<|ac (ao mN HN af) ag) ?_)
 intros
 let{dx,fs,hi,hm}:=hA.ins;refine{_,M,a,dx,fs,M,hi,hm _ ∅,_,M,a,k,F,ks,M,hA,λH0 F0 a6 a1=>?_};by_cases ck:k∈ks
 case neg=>
  rw[VM ck];refine{_,M,cC ?_};exact(q2 ck).elim
 rw[VJ ck];refine{_,M,dP ?_};let q:=q1 ck;let{L,A,ls,hb,ok,ef,hF}:=a6;let{aa,ho}:=hb.obj;let sh:=ok.short;rw[ef]at sh;let fr:Fr F (O8 a L A) H H0:=λb o n e=>{(a1 b o n e).1,λy=>(a1 b o n e).2<|(hF b).mpr y};let{ab,ah,an,ax}:=hb.insM;refine{_,M,a,ab,ah,M,an,ax _ ∅,_,M,a,k,L,A,ls,M,hb,ok.ne,ok.up,λi li=>?_};let{x,ex,hx}:=(li.mem ok).mp (by rwa[ef]);let{c,ec,hc}:=hb.at ex;let il:i<ls.length:=(Q1.mp ex).1;let bx:i<A.length:=by rwa[hb.len]
 refine{_,M,a,_,aa,_,_,M,ho,T.aM,T.aB,c6,_,M,L,_,_,_,M,M,DI.of hb.lst,gh ec,.inl {M,_,DI.of hc},_,M,c,x,k,M,M,hc,hx,?_};let hb1:=hb.write (y:=x.erase k) ec ex;let{up1,G}:=ok.gone ex hx;let cF:O8 a L A c:= .inr (.inr<|Q2 ec);let f1:Fr (O8 a L A) (O8 a L A) H0 (upd H0 c<|.lst<|(x.erase k).map V.int):=λb o n w=>{by rwa[ae (λy=>n<|by rw[y];exact cF)],n};let a2:upd H0 c (.lst<|(x.erase k).map V.int) c=some (.lst<|(x.erase k).map V.int):=ai;let{a3,Y}:=hb1.obj;let O:=hb1.lst;generalize upd H0 c (.lst<|(x.erase k).map V.int)=H1 at hb1 f1 a2 Y O⊢;let le:=List.length_erase_of_mem hx;refine{_,M,a,_,a3,_,_,M,Y,T.aM,T.aB,c6,_,M,L,_,_,_,M,M,DI.of O,gh ec,c,_,M,.inl<|DI.of a2,M,_,M,?_};let px:=List.length_pos_of_mem hx;by_cases c0:x.length=1
 .refine jV (VS V.int<|by rw[Q0,le,c0];rfl) ?_;let en:x.erase k=[]:=List.length_eq_zero_iff.mp ();rw[en]at up1 G hb1;let sx:seqIndex? (i:Int) (A.map V.ref).length=some i:=by
   have:=seqIndex_of (k:=(i:Int)) (n:=(A.map V.ref).length) () (by rw[Q0];lia);rw[this,QS]
  refine{_,M,a,_,a3,_,_,M,Y,T.aM,T.aB,c6,.inl {M,_,DI.of O},_,M,L,_,_,i,_,M,M,O,(),(),sx,(by rw[Qp,ec];rfl),?_};let I:=hb1.erase (i:=i);let e2:(ls.set i ([]:RF)).eraseIdx i=ls.eraseIdx i:=yz _ _ _;rw[e2]at I;rw[qg];let{b1,b2}:=ok.out ex c0 up1;refine q _ _ _ {L,_,_,I,b1,M,λb=>Iff.rfl} (λz=>by rw[b2,G,ef])<|(fr.trans f1).trans λb o n w=>?_;refine{by rwa[ae (λy=>n<|.inr<|.inl y)],λy=>?_};rcases y with y|y|y
  .exact n<|.inl y
  .exact n<|.inr (.inl y)
  .exact n<|.inr (.inr<|Zd y)
 .refine bz (λw=>c0<|by have:=V.int.inj w;rw[Q0,le]at this;lia) ?_;let ny:x.erase k≠[]:=Zs ();let w1:=ok.shrunk ex ny () up1;let{b3,b4,b5,bb}:=hb1.insM;let Z:(ls.set i<|x.erase k).length=ls.length:=QJ;refine{_,M,a,b3,b4,M,b5,bb _ ∅,_,M,a,L,A,_,(i:Int),M,hb1,(),by rw[Z];lia,w1.le,by rw[Z];lia,λH2 A2 U I e2 f2=>?_};rw[VA (),QS]at e2;let{w2,a4}:=w1.join (i:=i) (λj h=>h);rw[<-e2]at w2 a4;let l2:i<=U.length/\U.length<=ls.length:=by
   have:=EG (ls:=ls.set i<|x.erase k) (i:=i);rw[<-e2,Z]at this;lia
  let{bd,be,bl,bo}:=I.insM;refine{_,M,a,bd,be,M,bl,bo _ ∅,_,M,_,_,M,M,a,L,A2,U,(i:Int)-1,M,I,(),(),w2.le,(),λH3 A3 a0 bt e3 f3=>?_};let fin:NO a0/\a0.flatten=U.flatten:=by
   by_cases ci:i=0
   .subst ci;rw[Vz ()]at e3;subst e3;exact{w2.ok λj h=>(),M}
   .let ei:((i:Int)-1).toNat=i-1:=();rw[VA (),ei]at e3;let{w3,a5}:=w2.join (i:=i-1) (λj h=>());rw[<-e3]at w3 a5;exact{w3.ok λj h=>(),a5}
  let{bv,bw}:=fin;refine q H3 _ _ {L,A3,a0,bt,bv,M,λb=>Iff.rfl} (λz=>by rw[bw,a4,G,ef])<|((fr.trans f1).trans f2).trans f3
def Kj(a l:RC)(k n:Int)(ls:RZ)(H:Hp):Nat->St->Hp->Prop:=λm W H'=>∃(i:Nat),m=ls.length-i/\Ck H H'/\H l=none/\W=[some (.ref a),some (.int k),some (.int n),some (.ref l),some (.int (i:Int))]/\i<=ls.length/\H' l=some (.lst<|(((ls.take i).flatten).filter λz=>decide (k<=z)).map V.int)
def sT(e:ls[i]?=some x):(ls.take<|i+1).flatten=(ls.take i).flatten++x:=by
 rw[Qo,e,Zj];simp
def rA(ls:RZ)(i:Nat):ls.flatten=(ls.take i).flatten++(ls.drop i).flatten:=by rw[<-Zj,QO]
def p6:Bs P w K mg base N8 2 t.iZ t.fw [et,eH,wb] (pN K t):=by
 refine T.DV.okl NX λs H vs Q E hr h _=>?_;intro X;let{a,k,n,F,ks,rfl,hA,hl,n0,q}:=h;refine aj (ND 3<|cH ag)
   (aj (ND 4<|aO Ac T.aM T.c4 (bU T) hr.mo T.c8 .nil au<|ac E5 ag)
   (bV (λx=>(mK VP (PW.pt<|jr (aA eI Nl (aG aE {_} T.bS bq (ac (aq Ac M) ag))<|aC _)<|gO<|aA eI (aG aE {_} T.bS bq (ac NJ ag)) HN<|aC _)
    x)) ?_))
 refine aj (aN<|dO Qq ZO ZP oq NJ<|ac (mM M (Hc.of (M':=["one"]) (N:=[et,eH,wb,Rx,rD]) (N':=[et,eH,wb,Rx,rD]) (dsc:=ak cW) M M ∅) (cX<|aS aX (aq Ac M) Nl<|λ_ _=>M) (λ_ _ _ _ _=>(aA yg Ac HN<|aC _))<|λ_ _ _ _ _=>Ac) ag)
   (aw (Cn (i:=4) NX.nd M (Or.inl M) af GK) ?_)
 intros
 refine aw (aK<|gk iP NJ kM<|gP HN) ?_
 intros
 let{L,A,ls,hb,ok,ef,hF}:=hA;refine{Qf _,λl Z=>?_};let s0:Ck H (upd H l<|.lst []):=am Z;let e0:upd H l (.lst []) l=some (.lst<|([]:RF).map V.int):=ai;let O:=hb.same s0;generalize upd H l (.lst [])=H0 at s0 e0 O⊢;let{a3,a4,a5,a6}:=O.insM;refine{_,M,a,a3,a4,M,a5,a6 _ ∅,_,M,a,k,L,A,ls,M,O,ok.ne,ok.up,λi0 li=>?_};let f0:((ls.take i0).flatten).filter (λz=>decide (k<=z))=[]:=X0.mpr λz hz=>by
  have:=EL ok li z hz;simpa using this
 let lA:((A.map V.ref).length:Int)=(ls.length:Int):=by rw[Q0,hb.len]
 refine{Kj a l k n ls H,{_,i0,M,s0,Z,M,li.le,by rwa[f0]},?_};rintro m W H' ⟨i,rfl,s1,_,rfl,il,e1⟩;let hb1:=hb.same s1;let{a0,a1}:=hb1.obj;let fin:∀(done:((((ls.take i).flatten).filter λz=>decide (k<=z)).take n.toNat)=(ks.filter λz=>decide (k<=z)).take n.toNat),∀p,H' p=none->Q (.ref p) (upd H' p<|.lst<|oK ((((ls.take i).flatten).filter λz=>decide (k<=z)).map V.int) none<|some n):=λdone p np=>by
  refine q _ p (s1.trans<|am np) ?_ ?_
  .cases e:H p with
   |none=>rfl
   |some o=>rw[s1 _ _ e]at np;cases np
  .rw[ai,rE n0,<-Zv,done]
 refine{_,M,_,M,a,_,a0,_,_,M,a1,T.aM,T.aB,c6,L,_,M,.inl<|DI.of hb1.lst,_,_,M,M,_,M,?_};by_cases c:i<ls.length
 .refine lY (by rw[lA];lia) ?_;refine{_,M,l,_,M,.inl<|DI.of e1,_,M,_,_,M,M,_,M,?_};by_cases c2:((((((ls.take i).flatten).filter λz=>decide (k<=z)).map V.int).length:Nat):Int)<n
  .refine lY c2 ?_;refine{λaa H''=>∃m',m'<ls.length-i/\Kj a l k n ls H m' aa H'',λ_ _ h=>h,?_};let ex:ls[i]?=some ls[i]:=Q3 c;let{b,eb,G}:=hb1.at ex;let lb:l≠b:=λz=>by
    let{b',a2,h'}:=hb.at ex;rw[eb]at a2;cases a2;rw[<-z,Z]at h';cases h'
   let ah:=Qm (λz=>decide (k<=z)) (ls.take i).flatten;let ab:(ls.take i).flatten.length+ls[i].length<=ks.length:=by
    rw[<-ef,rA ls (i+1),sT ex,Q6,Q6];lia
   refine{_,M,.inl {M,_,DI.of e1},_,M,a,_,a0,_,_,M,a1,T.aM,T.aB,c6,_,M,L,_,_,_,M,M,DI.of hb1.lst,gh eb,b,M,{_,DI.of G},λD hD=>?_};generalize ls[i]=x at ex G ab⊢;refine iH (K:=K) (a:=b) (xs:=x.map V.int) (λm ys H3=>H3=upd H' D (.lst ys)/\ys=((x.take m).filter<|λz=>decide (k<=z)).map V.int) ⟨M,M⟩ (λm ys H3 _ w=>DI.of<|by rwa[w.1,ae (al G hD)]) (λm v ys H3 Y w I=>?_)<|λys H3 w I=>?_
   .let{w1,U}:=w;obtain⟨g,rfl,eg⟩:∃g:Int,v= .int g/\x[m]?=some g:=by
     rw[Qp]at Y;cases e:x[m]? with
     |none=>rw[e]at Y;cases Y
     |some g=>rw[e]at Y;cases Y;exact⟨g,M,M⟩
    let hn:m<(x.map V.int).length:=(Q1.mp Y).1;refine{_,M,_,M,_,_,M,M,_,M,?_};let fl:ys.length<=100000:=by
     rw[U,Q0];let h1:=Qm (λz=>decide (k<=z)) (x.take m);let h2:(x.take m).length<=x.length:=by rw[Q8];lia
     lia
    by_cases cg:k<=g
    .refine lY cg {_,M,NL.mk hn I (a9 fl) {by rw[w1,dR],?_}};rw[U,Qo,eg,QB,Q9];simp[cg]
    .refine bz cg<|Ni.mk hn I {w1,?_};rw[U,Qo,eg,QB];simp[cg]
   .let{w1,U}:=w;rw[Q0,Qw]at U;let s3:Ck H' H3:=by rw[w1];exact am hD
    let e3:=s3 _ _ e1;let an:=Qm (λz=>decide (k<=z)) x;let hsz:((((ls.take i).flatten).filter λz=>decide (k<=z)).map V.int).length+ys.length<=sizeLine:=by
     rw[U,Q0,Q0];exact QU<|a9 ()
    refine{l,D,_,_,M,M,e3,I,hsz,?_};let hE:(((ls.take i).flatten).filter λz=>decide (k<=z)).map V.int++ys=(((ls.take<|i+1).flatten).filter λz=>decide (k<=z)).map V.int:=by
     rw[U,sT ex,QB,Q9]
    rw[hE];refine{_,M,_,_,M,M,_,?_,i+1,M,?_,Z,M,c,ai}
    .lia
    .exact bT (s1.trans s3) Z
  .refine bz c2 ?_;refine{_,M,_,M,_,M,l,_,M,DI.of e1,fin ?_};have:ks.filter (λz=>decide (k<=z))=((ls.take i).flatten).filter (λz=>decide (k<=z))++((ls.drop i).flatten).filter (λz=>decide (k<=z)):=by rw[<-ef,rA ls i,QB]
   rw[this,QE];rw[Q0]at c2;lia
 .refine bz (by rw[lA];lia) ?_;let ei:i=ls.length:=();subst ei;refine{_,M,_,M,_,M,l,_,M,DI.of e1,fin ?_};rw[Qw,ef]
def WDn(a l:RC)(k:R8)(n:Int)(ls:RZ)(H:Hp):Nat->St->Hp->Prop:=λm W H'=>Ck H H'/\H l=none/\m<=ls.length/\W=[some (.ref a),some (vDn k),some (.int n),some (.ref l),some (.int<|(m:Int)-1)]/\H' l=some (.lst<|(((ls.drop m).flatten).reverse.filter<|eO k).map V.int)
def Jb{c:Prop}[Decidable c]{D:rZ}{A:Prop}(Pv:Sb)(main:∀z H',Pv z H'->D.nx z H')(G:c->(∀z H',Pv z H'->D.nx z H')->A)(I:Pv W H):if c then A else uE D W H:=cT (λh=>G h main) (λ_=>main _ _ I)
def EO(e:ls[i]?=some x):((ls.drop i).flatten).reverse=((ls.drop<|i+1).flatten).reverse++x.reverse:=by
 let{h,e}:=Q1.mp e;rw[Za h,e,Zh,List.reverse_append]
def EQ(ok:NO ls)(G:NU ls k i0):((ls.drop<|i0+1).flatten).reverse.filter (eO<|some k)=[]:=X0.mpr λz hz=>by
 have:=G.behind ok z (Xd.mp hz);simp only[eO,VO];lia
def G6{len:Nat}:(if((len:Int)-1<(i0:Int))then((len:Int)-1)else(i0:Int))=((min (i0+1) len:Nat):Int)-1:=by
 split<;>lia
def ER(ok:NO ls)(z:NU ls k i0):((ls.drop<|min (i0+1) ls.length).flatten).reverse.filter (eO<|some k)=[]:=by
 rcases Nat.le_total (i0+1) ls.length with c|c
 .rw[Zt c];exact EQ ok z
 .rw[Vi c,List.drop_length];rfl
def mT:Bs P w K mg base N8 2 t.gL t.dL [et,eH,wb] (l6 K t):=by
 refine T.BU.okl NT λs H vs Q E hr h _=>?_;intro X;let{a,k,n,F,ks,rfl,hA,hl,n0,q}:=h;refine aj (ND 3<|cH ag)
   (aj (ND 4<|ao mN (aG aE {_} T.bS bq (ac (aq Ac M) ag)) af)
   (bV (λx=>aU (aA dW E5 bg<|aC _) x aL) ?_))
 refine aw (ND 4<|aG (oB M) {_} T.Aj tj (ac (aO Ac T.aM T.c4 (bU T) hr.mo T.c8 .nil au<|ac E5 ag)<|ac Nl ag)) ?_
 intros
 refine bV (λx=>(mK VP (PW.pt<|jr (aA yg Nl af<|aC _)<|gO<|aA eI (aG aE {_} T.bS bq (ac NJ ag)) HN<|aC _)
    x)) ?_
 refine aj (aN<|dO Qq ZO ZP oq NJ<|ac (mM M (Hc.of (M':=["one"]) (N:=[et,eH,wb,Rx,rD]) (N':=[et,eH,wb,Rx,rD]) (dsc:=ak b9) M M ∅) (KS {_} T.Kn (ac (aS aX (aq Ac M) Nl<|λ_ _=>M) ag)) (λ_ _ _ _ _=>(PW.pt<|qM (aA gA HN bg<|aC _)<|mF<|aA qP Ac HN<|aC _))<|λ_ _ _ _ _=>Ac) ag)
   (aw (Cn (i:=4) NT.nd M (Or.inl M) af Lp) ?_)
 intros
 refine aw (aK<|gk iP NJ kM<|gP HN) ?_
 intros
 let{L,A,ls,hb,ok,ef,hF}:=hA;refine{Qf _,λl nl=>?_};let s0:Ck H (upd H l<|.lst []):=am nl;let e0:upd H l (.lst []) l=some (.lst<|([]:RF).map V.int):=ai;let z:=hb.same s0;generalize upd H l (.lst [])=H0 at s0 e0 z⊢;let{a1,a2}:=z.obj;let lA:((A.map V.ref).length:Int)=(ls.length:Int):=by rw[Q0,hb.len]
 refine{_,M,a,_,a1,_,_,M,a2,T.aM,T.aB,c6,L,_,M,.inl<|DI.of z.lst,_,_,M,M,?_};rw[lA];refine{_,M,M,_,M,Jb (λG H'=>∃m,WDn a l k n ls H m G H') (λG H' wW=>?main) (λc key=>?A) {ls.length,s0,nl,Q4 _,M,by rwa[List.drop_length]}}
 case A=>
  cases k with
  |none=>exact VE c (_)
  |some k=>
   let{a3,a4,a5,a6}:=z.insM;refine{_,M,a,a3,a4,M,a5,a6 _ ∅,_,M,a,k,L,A,ls,M,z,ok.ne,ok.up,λi0 li=>?_};refine{_,M,_,_,M,?_};dsimp only;rw[G6];exact key _ _ {min (i0+1) ls.length,s0,nl,Nat.min_le_right _ _,M,by rwa[ER ok li]}
 case main=>
  let{m0,w0}:=wW;refine{WDn a l k n ls H,⟨m0,w0⟩,?_};rintro m W H' ⟨s1,_,ml,rfl,e1⟩;let hb1:=hb.same s1;let{aa,ab}:=hb1.obj;let fin:∀(done:((((ls.drop m).flatten).reverse.filter<|eO k).take n.toNat)=(ks.reverse.filter<|eO k).take n.toNat),∀p,H' p=none->Q (.ref p) (upd H' p<|.lst<|oK ((((ls.drop m).flatten).reverse.filter<|eO k).map V.int) none<|some n):=λdone p np=>by
   refine q _ p (s1.trans<|am np) ?_ ?_
   .cases e:H p with
    |none=>rfl
    |some o=>rw[s1 _ _ e]at np;cases np
   .rw[ai,rE n0,<-Zv,done]
  refine{_,M,_,_,M,M,_,M,?_};cases m with
  |zero=>
   refine bz (_) ?_;refine{_,M,_,M,_,M,l,_,M,DI.of e1,fin ?_};rw[Zp,ef]
  |succ i=>
   let im:((i+1:Nat):Int)-1=(i:Int):=();rw[im];refine lY () ?_;refine{_,M,l,_,M,.inl<|DI.of e1,_,M,_,_,M,M,_,M,?_};by_cases c2:((((((ls.drop<|i+1).flatten).reverse.filter<|eO k).map V.int).length:Nat):Int)<n
   .refine lY c2 ?_;refine{λG H''=>∃m',m'<i+1/\WDn a l k n ls H m' G H'',λ_ _ h=>h,?_};let ex:ls[i]?=some ls[i]:=Q3 ml;let{b,eb,I}:=hb1.at ex;let ax:=Qm (eO k) ((ls.drop<|i+1).flatten).reverse;let ah:((ls.drop<|i+1).flatten).reverse.length+ls[i].length<=ks.length:=by
     rw[<-ef,rA ls (i+1),sT ex,Q6,Q6,Z9];lia
    refine{_,M,.inl {M,_,DI.of e1},_,M,a,_,aa,_,_,M,ab,T.aM,T.aB,c6,_,M,L,_,_,_,M,M,DI.of hb1.lst,gh eb,b,_,M,DI.of I,λD hD=>?_};generalize ls[i]=x at ex I ah⊢;refine EU (K:=K) (a:=b) (xs:=x.map V.int) (λm ys H3=>H3=upd H' D (.lst ys)/\ys=((x.reverse.take m).filter<|eO k).map V.int) ⟨M,M⟩ (λm ys H3 _ w=>DI.of<|by rw[w.1,ae (al I hD)];exact I) (λm v ys H3 Z w O=>?_)<|λys H3 w O=>?_
    .let{w1,Y}:=w;obtain⟨g,rfl,eg⟩:∃g:Int,v= .int g/\x.reverse[m]?=some g:=by
      rw[<-List.map_reverse,Qp]at Z;cases e:x.reverse[m]? with
      |none=>rw[e]at Z;cases Z
      |some g=>rw[e]at Z;cases Z;exact⟨g,M,M⟩
     let hn:m<(x.map V.int).length:=by
      have:=(Q1.mp Z).1;rwa [Z9]at this
     let fl:ys.length<=100000:=by
      rw[Y,Q0];let h1:=Qm (eO k) (x.reverse.take m);let h2:(x.reverse.take m).length<=x.reverse.length:=by rw[Q8];lia
      rw[Z9]at h2;lia
     let a0:eO k g=true->NL (x.map V.int).length m ys D (λm ys H3=>H3=upd H' D (.lst ys)/\ys=((x.reverse.take m).filter<|eO k).map V.int) (.int g) H3:=λU=>by
      refine NL.mk hn O (a9 fl) {by rw[w1,dR],?_};rw[Y,Qo,eg,QB,Q9];simp[U]
     let no:eO k g=false->Ni (x.map V.int).length m ys D (λm ys H3=>H3=upd H' D (.lst ys)/\ys=((x.reverse.take m).filter<|eO k).map V.int) H3:=λU=>by
      refine Ni.mk hn O {w1,?_};rw[Y,Qo,eg,QB];simp[U]
     refine{_,M,M,_,M,?_};cases k with
     |none=>exact cC<|cC {_,M,a0 M}
     |some k=>
      refine dP {_,M,_,M,_,_,M,M,_,M,?_};by_cases U:g<=k
      .exact lY U {_,M,a0<|VJ U}
      .exact bz U<|no (VM U)
    .let{w1,Y}:=w;rw[Q0,show x.length=x.reverse.length from Z9.symm,Qw]at Y;let s3:Ck H' H3:=by rw[w1];exact am hD
     let e3:=s3 _ _ e1;let an:=Qm (eO k) x.reverse;let hsz:((((ls.drop<|i+1).flatten).reverse.filter<|eO k).map V.int).length+ys.length<=sizeLine:=by
      rw[Y,Q0,Q0];rw[Z9]at an;exact QU<|a9 ()
     refine{l,D,_,_,M,M,e3,O,hsz,?_};let hE:(((ls.drop<|i+1).flatten).reverse.filter<|eO k).map V.int++ys=(((ls.drop i).flatten).reverse.filter<|eO k).map V.int:=by
      rw[Y,EO ex,QB,Q9]
     rw[hE];refine{_,M,_,_,M,M,i,ZI _,bT (s1.trans s3) nl,nl,QU ml,M,ai}
   .refine bz c2 ?_;refine{_,M,_,M,_,M,l,_,M,DI.of e1,fin ?_};have:ks.reverse.filter (eO k)=((ls.drop<|i+1).flatten).reverse.filter (eO k)++((ls.take<|i+1).flatten).reverse.filter (eO k):=by rw[<-ef,rA ls (i+1),List.reverse_append,QB]
    rw[this,QE];rw[Q0]at c2;lia
def tD:(0:Int)<10^(39:Int).toNat:=by decide
def AE:∀{a b:RF},db a->db b->(∀z,z∈a↔z∈b)->a=b
 | [],[],_,_,_=>rfl
 | [],y::r,_,_,h=>by have:=(h y).mpr Qa;cases this
 |x::r,[],_,_,h=>by have:=(h x).mp Qa;cases this
 |x::r,y::r',ha,hb,h=>by
  let{I,U}:=ZB.mp ha;let{O,Y}:=ZB.mp hb;let G:x=y:=by
   rcases Qj.mp ((h x).mp Qa)with e|e
   .exact e
   .rcases Qj.mp ((h y).mpr Qa)with e2|e2
    .exact e2.symm
    .let h1:=O x e;let h2:=I y e2;lia
  subst G;rw[AE U Y λz=>?_];constructor
  .intro hz;rcases Qj.mp ((h z).mp<|Qd _ hz)with e|e
   .have:=I z hz;lia
   .exact e
  .intro hz;rcases Qj.mp ((h z).mpr<|Qd _ hz)with e|e
   .have:=O z hz;lia
   .exact e
def Nx.rise(h:Nx K t H a F ks):db ks:=by
 let{_,_,ls,_,ok,z,_}:=h;rw[<-z];exact ok.up
def G8(ms:RF)(lo hi:R8):∃z:List Int,oK (ms.map V.int) lo hi=z.map V.int/\z.Sublist ms:=by
 refine{(ms.drop<|HT.sIx (ms.map V.int).length 0 lo).take<|HT.sIx (ms.map V.int).length (ms.map V.int).length hi-HT.sIx (ms.map V.int).length 0 lo,?_,?_}
 .unfold oK;rw[Zv,Xf]
 .exact(Xu _ _).trans<|List.drop_sublist _ _
def AJ:Bs P w K mg base N8 1 t.wC t.qi [Py] Av:=by
 refine T.CO.okl AB λs H vs Q E z h _=>?_;intro X;let{x,rfl,hx,k}:=h;refine{_,(aD<|aK<|gy (aG tI {_} T.dB b8 (ac Ac<|ac (Dd (v:= .ty Po) {_} T.M3 LF M) ag))<|fQ<|Ct<|aG tI {_} T.dB b8 (ac Ac<|ac (Dd (v:= .ty Rb) {_} T.M1 Jn M) ag))
  ,?_}
 cases x with
 |int i=>
  refine{_,M,_,_,_,_,M,NN.int _,Lf,true,M,cC ?_};exact{_,M,_,_,_,_,M,NN.int _,Lg,_,M,k}
 |bl c=>
  refine{_,M,_,_,_,_,M,NN.bl _,Lh,true,M,cC ?_};exact{_,M,_,_,_,_,M,NN.bl _,Li,_,M,k}
 |str c=>exact{_,M,_,_,_,_,M,NN.str _,Ld,false,M,dP k}
 |non=>exact{_,M,_,_,_,_,M,NN.non,Le,false,M,dP k}
 |_=>exact hx.elim
def pY:Bs P w K mg base N8 2 t.yR t.sZ [Py,zk] Cd:=by
 refine T.gY.okl Cl λs H vs Q E z h _=>?_;intro X;let{x,lo,rfl,hx,k}:=h;refine{_,(aD<|aK<|gy (aI (AJ T) z.mo {_} T.La T.CO.kp T.LH .nil au (ac Ac ag))<|fQ<|bZ yg Ac E5<|aC _)
  ,?_}
 cases x with
 |int i=>exact{_,M,_,M,hx,true,M,cC {_,M,_,M,_,_,M,M,k}}
 |bl c=>exact{_,M,_,M,hx,false,M,dP k}
 |str c=>exact{_,M,_,M,hx,false,M,dP k}
 |non=>exact{_,M,_,M,hx,false,M,dP k}
 |_=>exact hx.elim
def ip:Bs P w K mg base N8 1 t.jM t.jx [et,Pr,rD,u4] (g7 K):=by
 refine T.jN.okl uY λs H vs Q E Y h _=>?_;intro X;let{p,C,dx,kd,a,e,rfl,G,cl,I,O,U,k}:=h;refine aj (ba Ac E5 M)
   (aj (ba Ac HN M)
   (aw (ba Ac NJ M) ?_))
 intros
 refine{_,M,_,M,p,C,dx,[],M,G,cl,I,(by show 0<1000;decide),_,M,_,M,p,C,dx,_,M,ai,cl,O,(by show 1<1000;decide),_,M,_,M,p,C,dx,_,M,ai,cl,U,?_,?_}
 .let h1:=mJ (f:=rD) (v:=a) (bD Pr (.str kd) []);let h2:=mJ (f:=Pr) (v:= .str kd) [];let Z:([]:RW).length=0:=M;lia
 rw[dR,dR];refine k _ _ (λb o q z=>by rw[ae z];exact q) ai {?_,?_,?_,?_,?_}
 .rw[bj,Vz ∅,bj,Vz ∅,bj,VA M]
 .rw[bj,Vz ∅,bj,VA M]
 .rw[bj,VA M]
 .rw[bj,Vz ∅,bj,Vz ∅,bj,Vz ∅];rfl
 .rw[bj,Vz ∅,bj,Vz ∅,bj,Vz ∅];rfl
def ox{x:V}(h:isF lo x=true):∃i,x= .int i/\lo<=i:=by
 cases x with
 |int i=>exact{i,M,VH h}
 |_=>cases h
def fR:Bs P w K mg base N8 3 t.lQ t.cP [et,rD,u4] (sj t):=by
 let{G,z}:=T.g_PLACES;let a0:=Nb.nd;refine T.Fi.ok Nb (λvs H Q E h=>?_)<|λa1 A outer s H vs Q E U h=>?_
 .let{p,dx,a,e,rfl,_}:=h;rfl
 .let{p,dx,a,e,rfl,hp,sa,se,k1,k2}:=h;refine aj (aU (sF<|PW.pt<|jr (cE<|aI (pY T) U.mo {_} T.jU T.gY.kp T.jY .nil au (ac E5<|ac af ag))<|jr (cE<|aI (pY T) U.mo {_} T.jU T.gY.kp T.jY .nil au (ac HN<|ac E5 ag))<|gO<|aA qP HN (cm (v:= .int 65536) {_} z {_,M})<|aC _)
   (aD dD)
   aL)
     (aw (aN<|zw {_} T.AV T.oT T.jN.kp (ip T) U.mo T.pc .nil au (ac Ac<|ac mL<|ac E5<|ac HN ag)) ?_)
  intros
  refine{_,M,a,0,M,sa,_,M,cT (λc=>?_)<|λc=>?_}
  .let{i,rfl,i0}:=ox c;refine{_,M,_,M,e,i,M,se,_,M,cT (λc=>?_)<|λc=>?_}
   .let{j,rfl,ij}:=ox c;refine{_,M,_,_,M,M,_,M,?_};by_cases I:j<=65536
    .rw[VJ I];exact dP {_,M,_,M,_,M,p,_,dx,_,.int i,.int j,M,hp,T.bL,T.Fc,T.ju,T.cu,λH' fs k h f=>k1 ⟨i,j,M,M,i0,ij,I⟩ H' fs k h f}
    .rw[VM I];exact cC<|(k2 λ⟨Y,Z,O,e2,_,_,h⟩=>by cases e2;exact I h)
   .exact cC<|(k2 λ⟨Y,Z,O,e2,_,h,_⟩=>c<|by cases O;rw[e2];exact VJ h)
  .exact cC<|(k2 λ⟨Y,Z,O,_,h,_⟩=>c<|by rw[O];exact VJ h)
def mO:Bs P w K mg base N8 3 t.wE t.iC [et,rD,u4] (Ax t):=by
 let U:=Nz.nd;refine T.LT.ok Nz (λvs H Q E h=>?_)<|λY A outer s H vs Q E G h=>?_
 .let{p,dx,a,e,rfl,_}:=h;rfl
 .let{p,dx,a,e,rfl,Z,sa,se,k1,k2}:=h;refine aj (aU (sF<|PW.pt<|jr (cE<|aI (pY T) G.mo {_} T.jU T.gY.kp T.jY .nil au (ac E5<|ac af ag))<|gO<|PW.pt<|qM (aA gA HN bg<|aC _)<|mF<|cE<|aI (pY T) G.mo {_} T.jU T.gY.kp T.jY .nil au (ac HN<|ac E5 ag))
   (aD dD)
   aL)
     (aw (aN<|zw {_} T.AV T.oT T.jN.kp (ip T) G.mo T.pc .nil au (ac Ac<|ac mL<|ac E5<|ac HN ag)) ?_)
  intros
  refine{_,M,a,0,M,sa,_,M,cT (λc=>?_)<|λc=>?_}
  .let{i,rfl,i0}:=ox c;let fin:OH (.int i) e->g7 K [.ref p,.str "up",.int i,e] H (λ_ H'=>Q .non H') E0:=λok=>{p,_,dx,"up",.int i,e,M,Z,T.iI,T.K8,T.qV,T.jS,λH' fs k h f=>k1 ok H' fs k h f};by_cases z:e= .non
   .exact{_,M,M,_,M,jV z<|dP {_,M,_,M,_,M,fin {i,M,i0,.inl z}}}
   .refine{_,M,M,_,M,bz z {_,M,_,M,e,i,M,se,_,M,?_}};cases I:isF i e with
    |true=>
     let{j,rfl,ij}:=ox I;exact dP {_,M,_,M,_,M,fin {i,M,i0,.inr ⟨j,M,ij⟩}}
    |false=>
     refine cC<|(k2 λ⟨i',O,_,e2⟩=>?_);cases O;rcases e2 with e2|⟨j',e2,h⟩
     .exact z e2
     .rw[e2]at I;exact VX I h
  .exact cC<|(k2 λ⟨i',O,h,_⟩=>c<|by rw[O];exact VJ h)
def xG:Bs P w K mg base N8 3 t.rW t.fF [et,rD,u4] (w6 t):=by
 let Y:=Nn.nd;refine T.JI.ok Nn (λvs H Q E h=>?_)<|λZ A outer s H vs Q E G h=>?_
 .let{p,dx,a,e,rfl,_}:=h;rfl
 .let{p,dx,a,e,rfl,hp,sa,se,k1,k2}:=h;refine aj (aU (sF<|PW.pt<|jr (cE<|aI (pY T) G.mo {_} T.jU T.gY.kp T.jY .nil au (ac HN<|ac af ag))<|gO<|PW.pt<|qM (aA gA E5 bg<|aC _)<|mF<|cE<|aI (pY T) G.mo {_} T.jU T.gY.kp T.jY .nil au (ac E5<|ac HN ag))
   (aD dD)
   aL)
     (aw (aN<|zw {_} T.AV T.oT T.jN.kp (ip T) G.mo T.pc .nil au (ac Ac<|ac mL<|ac E5<|ac HN ag)) ?_)
  intros
  refine{_,M,e,0,M,se,_,M,cT (λc=>?_)<|λc=>?_}
  .let{j,rfl,U}:=ox c;let fin:OJ a (.int j)->g7 K [.ref p,.str Ry,a,.int j] H (λ_ H'=>Q .non H') E0:=λok=>{p,_,dx,Ry,a,.int j,M,hp,T.cK,T.IP,T.iu,T.iU,λH' fs k h f=>k1 ok H' fs k h f};by_cases z:a= .non
   .exact{_,M,M,_,M,jV z<|dP {_,M,_,M,_,M,fin {j,M,U,.inl z}}}
   .refine{_,M,M,_,M,bz z {_,M,_,M,a,j,M,sa,_,M,?_}};cases I:isF j a with
    |true=>
     let{i,rfl,ij}:=ox I;exact dP {_,M,_,M,_,M,fin {j,M,U,.inr ⟨i,M,ij⟩}}
    |false=>
     refine cC<|(k2 λ⟨j',O,_,e2⟩=>?_);cases O;rcases e2 with e2|⟨i',e2,h⟩
     .exact z e2
     .rw[e2]at I;exact VX I h
  .exact cC<|(k2 λ⟨j',O,h,_⟩=>c<|by rw[O];exact VJ h)
def fe:Bs P w K mg base N8 3 t.kg t.f9 [et,eH] (eP t):=by
 refine T.Fb.okl qG λs H vs Q E I h _=>?_;intro X;let{p,dx,fs,a,e,k,rfl,z,G,{i,j,rfl,rfl,i0,O,U},Y,q}:=h;refine{_,(aD<|aK<|FZ qP eI (aq Ac M) (aI (tE T) I.mo {_} T.CB T.wK.kp T.CM .nil au (ac E5 ag))<|aq Ac M)
  ,?_}
 let q:Q (.bl<|decide (i<=tz (k%65536))&&decide (tz (k%65536)<j)) H:=q H (Ck.refl H);refine{_,M,p,_,dx,fs,_,M,z,T.bL,T.ju,G.at_,_,M,k,M,_,_,M,M,_,M,cT (λc=>?_)<|λc=>?_}
 .refine{_,M,p,_,dx,fs,_,M,z,T.bL,T.cu,G.end_,_,_,M,M,?_};rw[c,Xy]at q;exact q
 .rw[Zi.mpr c,ZU]at q;exact q
def gR:Bs P w K mg base N8 1 t.tO t.nE [et,eH] (dC t):=by
 refine T.Km.okl zl λs H vs Q E O h _=>?_;intro X;let{p,dx,fs,a,e,k,rfl,G,I,{i,rfl,i0,he},U,q}:=h;refine{_,(aD<|aK<|gy (bZ qP (aq Ac M) E5<|aC _)<|fQ<|JX (bZ gA (aq Ac M) bg<|aC _)<|fQ<|bZ eI E5 (aq Ac M)<|aC _)
  ,?_}
 let q:=q H (Ck.refl H);rcases he with rfl|⟨j,rfl,Y⟩
 .let q:Q (.bl<|decide (i<=k)) H:=q;refine{_,M,p,_,dx,fs,_,M,G,T.iI,T.qV,I.at_,_,M,_,_,M,M,_,M,cT (λc=>{_,M,p,_,dx,fs,_,M,G,T.iI,T.jS,I.end_,M,_,M,jV M ?_})<|λc=>?_}
  .rw[c]at q;exact q
  .rw[Zi.mpr c]at q;exact q
 .let q:Q (.bl<|decide (i<=k)&&decide (k<j)) H:=q;refine{_,M,p,_,dx,fs,_,M,G,T.iI,T.qV,I.at_,_,M,_,_,M,M,_,M,cT (λc=>{_,M,p,_,dx,fs,_,M,G,T.iI,T.jS,I.end_,M,_,M,bz (λz=>by cases z) {_,M,_,M,p,_,dx,fs,_,M,G,T.iI,T.jS,I.end_,_,_,M,M,?_}})<|λc=>?_}
  .rw[c,Xy]at q;exact q
  .rw[Zi.mpr c,ZU]at q;exact q
def fc:Bs P w K mg base N8 1 t.pK t.jK [et,eH] (cq t):=by
 refine T.Ic.okl vh λs H vs Q E O h _=>?_;intro X;let{p,dx,fs,a,e,k,rfl,G,I,{j,rfl,U,ha},Y,q}:=h;refine{_,(aD<|aK<|gy (bZ qP (aq Ac M) E5<|aC _)<|fQ<|JX (bZ gA (aq Ac M) bg<|aC _)<|fQ<|bZ qP E5 (aq Ac M)<|aC _)
  ,?_}
 let q:=q H (Ck.refl H);rcases ha with rfl|⟨i,rfl,Z⟩
 .let q:Q (.bl<|decide (j<=k)) H:=q;refine{_,M,p,_,dx,fs,_,M,G,T.cK,T.iU,I.end_,_,M,_,_,M,M,_,M,cT (λc=>{_,M,p,_,dx,fs,_,M,G,T.cK,T.iu,I.at_,M,_,M,jV M ?_})<|λc=>?_}
  .rw[c]at q;exact q
  .rw[Zi.mpr c]at q;exact q
 .let q:Q (.bl<|decide (j<=k)&&decide (k<=i)) H:=q;refine{_,M,p,_,dx,fs,_,M,G,T.cK,T.iU,I.end_,_,M,_,_,M,M,_,M,cT (λc=>{_,M,p,_,dx,fs,_,M,G,T.cK,T.iu,I.at_,M,_,M,bz (λz=>by cases z) {_,M,_,M,p,_,dx,fs,_,M,G,T.cK,T.iu,I.at_,_,_,M,M,?_}})<|λc=>?_}
  .rw[c,Xy]at q;exact q
  .rw[Zi.mpr c,ZU]at q;exact q
structure Om where
 p:Addr
 mo:Int
 v:V
structure Oo(t:N6)(H:Hp)(m l:RC)(es:List Om):Prop where
 ob:∃dx,H m=some (.ins t.gj dx [("made",.ref l)])
 li:H l=some (.lst<|es.map λe=>V.ref e.p)
 tu:∀e∈es,H e.p=some (.tup [.int e.mo,e.v])
def Oo.keep{m l:RC}{es:List Om}(h:Oo t H m l es)(z:H' m=H m)(e2:H' l=H l)(G:∀b xs,H b=some (.tup xs)->H' b=some (.tup xs)):Oo t H' m l es:={h.ob.imp λ_ e=>z.trans e,e2.trans h.li,λe he=>G _ _<|h.tu e he}
def uN(t:N6):Sp:=λvs H Q _=>∃(a dx:RC),vs=[.ref a]/\H a=some (.ins t.gj dx [])/\∀(H':Hp)(l:RC),Oo t H' a l []->H l=none->(∀b o,b≠a->H b=some o->H' b=some o)->Q .non H'
def vF:Bs P w K mg base N8 1 t.pE t.jE [et] (uN t):=by
 refine T.HW.okl vb λs H vs Q E I h _=>?_;intro X;let{a,dx,rfl,ha,q}:=h;refine{_,(aD<|ba Ac (cH ag) M)
  ,?_}
 refine{Qf _,λl z=>{_,M,a,_,dx,[],M,(by rwa[ae (al ha z)]),T.Bp,T.xH,(by show 0<1000;decide),?_}};let G:a≠l:=al ha z;exact q _ l {⟨dx,ai⟩,by rw[ae G.symm];exact ai,λe he=>by cases he} z λb o n e=>by rwa[ae n,ae (al e z)]
def uM(t:N6):Sp:=λvs H Q _=>∃(m l:RC)(es:List Om)(mo:Int)(v:V),vs=[.ref m,.int mo,v]/\Oo t H m l es/\es.length<100000/\
 ∀(H':Hp)(p:RC),Oo t H' m l (es++ [⟨p,mo,v⟩])->H p=none->(∀b o,b≠l->H b=some o->H' b=some o)->Q .non H'
def vE:Bs P w K mg base N8 1 t.pD t.jD [et,"moment",pq] (uM t):=by
 refine T.HV.okl va λs H vs Q E U h _=>?_;intro X;let{m,l,es,mo,v,rfl,M',le,q}:=h;refine{_,(aD<|aN<|dO Qq Z3 Z4 eJ (aq Ac M)<|ac (cG<|ac E5<|ac HN ag) ag)
  ,?_}
 let{dx,I}:=M'.ob;refine{_,M,m,_,dx,_,_,M,I,T.Bp,T.xH,M,.inl {M,_,DI.of M'.li},_,M,_,M,(by show 2<=sizeLine;decide),λp G=>?_};let s1:=am (o:= .tup [.int mo,v]) G;let pl:p≠l:=λz=>by rw[z,M'.li]at G;cases G
 let O:m≠l:=λz=>by have:=M'.li;rw[<-z,I]at this;cases this
 refine{l,_,_,M,M,s1 _ _ M'.li,a9 (by rw[Q0];lia),?_};refine q _ p {{dx,by rw[ae O];exact s1 _ _ I},by rw[ai,Q9];rfl,λe he=>?_} G λb o n e=>by rw[ae n];exact s1 _ _ e
 rcases Q5.mp he with he|he
 .let te:=s1 _ _ (M'.tu e he);rwa[ae (λz=>by rw[z,s1 _ _ M'.li]at te;cases te)]
 .rw[Q7.mp he];rw[ae pl];exact ai
def NW.notup(h:NW K t H a F st)(e:H b=some (.tup xs)):¬F b:=λhb=>by
 let{d,h1,h2,_}:=h;let{dx,I}:=h1.obj;let no:∀o,H b=some o->(∀ys,o≠ .tup ys)->False:=λo q n=>by rw[e]at q;exact n _ (VB q).symm
 rcases(h2 b).mp hb with rfl|rfl|rfl|hb|⟨hs,rfl⟩|hb
 .exact no _ I<|λ_ z=>by cases z
 .exact no _ h1.tbl<|λ_ z=>by cases z
 .exact no _ h1.row0.lst<|λ_ z=>by cases z
 .let{_,_,_,_,q}:=h1.row0.has hb;exact no _ q<|λ_ z=>by cases z
 .let r1:=h1.row1;cases G:st.nxt with
  |none=>rw[G]at hs;cases hs
  |some m=>rw[G]at r1;exact no _ r1.lst<|λ_ z=>by cases z
 .let r1:=h1.row1;cases G:st.nxt with
  |none=>rw[G]at r1;rw[r1.1]at hb;cases hb
  |some m=>
   rw[G]at r1;let{_,_,_,_,q}:=r1.has hb;exact no _ q<|λ_ z=>by cases z
def Nx.notup(h:Nx K t H a F ks)(e:H b=some (.tup xs)):¬F b:=λhb=>by
 let{L,A,ls,h1,_,_,h2}:=h;let{dx,G}:=h1.obj;let no:∀o,H b=some o->(∀ys,o≠ .tup ys)->False:=λo q n=>by rw[e]at q;exact n _ (VB q).symm
 rcases(h2 b).mp hb with rfl|rfl|hb
 .exact no _ G<|λ_ z=>by cases z
 .exact no _ h1.lst<|λ_ z=>by cases z
 .let{_,_,_,_,q}:=h1.has hb;exact no _ q<|λ_ z=>by cases z
structure Pk where
 k:Int
 m:Addr
 l:Addr
 es:List Om
structure NF where
 now:Int
 fl:Int
 ma:Int
 st:Hm
 ks:List Int
 di:List (Addr×List V)
 pa:List Pk
 ho:List (Int×V)
noncomputable def fh:List Pk->Int->List Om
 | [],_=> []
 |e::r,k=>if e.k=k then e.es else fh r k
noncomputable def OI(pa:List Pk):List (Int×V):=pa.map λe=>(e.k,V.ref e.m)
def Nv(now fl:Int)(s l w:RC)(mk:Int)(p h:RC):List (Str×V):=[("now",.int now),(Rz,.int fl),(wG,.ref s),(hL,.ref l),(Rv,.ref w),(RA,.int mk),("past",.ref p),("holders",.ref h)]
def NoH(m:Str):Prop:=m≠("now":Str)/\m≠(Rz:Str)/\m≠(wG:Str)/\m≠(hL:Str)/\m≠(Rv:Str)/\m≠(RA:Str)/\m≠("past":Str)/\m≠("holders":Str)
instance {m:Str}:Decidable (NoH m):=by unfold NoH;infer_instance
section
variable{now now' fl mk mk':Int}{s l w h:RC}{m:Str}
def uz:(Nv now fl s l w mk p h).lookup ("now":Str)=some (.int now):=gi
def Lw:(Nv now fl s l w mk p h).lookup (Rz:Str)=some (.int fl):=by unfold Nv;rw[bF ∅,gi]
def wf:(Nv now fl s l w mk p h).lookup (wG:Str)=some (.ref s):=by unfold Nv;rw[bF ∅,bF ∅,gi]
def CG:(Nv now fl s l w mk p h).lookup (hL:Str)=some (.ref l):=by unfold Nv;rw[bF ∅,bF ∅,bF ∅,gi]
def CD:(Nv now fl s l w mk p h).lookup (Rv:Str)=some (.ref w):=by unfold Nv;rw[bF ∅,bF ∅,bF ∅,bF ∅,gi]
def CF:(Nv now fl s l w mk p h).lookup (RA:Str)=some (.int mk):=by unfold Nv;rw[bF ∅,bF ∅,bF ∅,bF ∅,bF ∅,gi]
def Lv:(Nv now fl s l w mk p h).lookup ("past":Str)=some (.ref p):=by unfold Nv;rw[bF ∅,bF ∅,bF ∅,bF ∅,bF ∅,bF ∅,gi]
def GM(n:NoH m):(Nv now fl s l w mk p h).lookup m=none:=by
 let{h1,h2,z,G,I,O,U,Y}:=n;unfold Nv;rw[bF h1,bF h2,bF z,bF G,bF I,bF O,bF U,bF Y];rfl
def IB:bD ("now":Str) (.int now') (Nv now fl s l w mk p h)=Nv now' fl s l w mk p h:=by unfold Nv;rw[bD,VA M]
def KP:bD (RA:Str) (.int mk') (Nv now fl s l w mk p h)=Nv now fl s l w mk' p h:=by
 unfold Nv;rw[bD,Vz ∅,bD,Vz ∅,bD,Vz ∅,bD,Vz ∅,bD,Vz ∅,bD,VA M]
def Dx:(Nv now fl s l w mk p h).length<1000:=by show 8<1000;decide
end
def Ow(a w p h:RC)(pa:List Pk):Addr->Prop:=λb=>b=a\/b=w\/b=p\/b=h\/∃e∈pa,b=e.m\/b=e.l
structure Nw(t:N6)(H:Hp)(a s l w p h:RC)(x:NF):Prop where
 ob:∃dx,H a=some (.ins t.a6 dx<|Nv x.now x.fl s l w x.ma p h)
 wr:H w=some (.lst<|x.di.map λe=>V.ref e.1)
 dr:∀e∈x.di,H e.1=some (.tup e.2)
 pa:H p=some (.dK<|az<|OI x.pa)
 ho:H h=some (.dK<|az x.ho)
 mx:∀e∈x.pa,Oo t H e.m e.l e.es
 ph:p≠h
 wl:∀e∈x.pa,e.l≠w
 kd:(x.pa.map (·.k)).Nodup
 md:(x.pa.map (·.m)).Nodup
 ld:(x.pa.map (·.l)).Nodup
def dU{t u:TS}{D:rZ}(M':Sb)(h1:∀nx,(∀z H',M' z H'->nx z H')->t {D with nx:=nx} W H)(h2:∀z H',M' z H'->u D z H'):yX t u D W H:=h1 (u D) h2
def bC{g:Str}{x:V}{r:RW}(n:g≠f):bD f v ((g,x)::r)=(g,x)::bD f v r:=by rw[bD,Vz n]
def c7{H2:Hp}(s:Ck H H2)(n:H2 p=none):H p=none:=by
 cases e:H p with
 |none=>rfl
 |some o=>rw[s _ _ e]at n;cases n
def Gh{f:α->β}{l:List α}(n:(l.map f).Nodup){x y:α}(hx:x∈l)(hy:y∈l)(e:f x=f y):x=y:=by
 induction l with
 |nil=>cases hx
 |cons z r I=>
  let{G,O}:=QR.mp n;rcases Qj.mp hx with rfl|hx'<;>rcases Qj.mp hy with rfl|hy'
  .rfl
  .exact VE (Qe.mpr ⟨y,hy',e.symm⟩) G
  .exact VE (Qe.mpr ⟨x,hx',e⟩) G
  .exact I O hx' hy'
section
variable{s l w h:RC}{x:NF}{pa:List Pk}{y:Om}
def Nw.dom(A:Nw t H a s l w p h x)(hb:Ow a w p h x.pa b):∃o,H b=some o/\∀ys,o≠ .tup ys:=by
 let{dx,G}:=A.ob;rcases hb with rfl|rfl|rfl|rfl|⟨e,he,rfl|rfl⟩
 .exact{_,G,λ_ z=>by cases z}
 .exact{_,A.wr,λ_ z=>by cases z}
 .exact{_,A.pa,λ_ z=>by cases z}
 .exact{_,A.ho,λ_ z=>by cases z}
 .let{O,I}:=(A.mx e he).ob;exact{_,I,λ_ z=>by cases z}
 .exact{_,(A.mx e he).li,λ_ z=>by cases z}
def Nw.keep(A:Nw t H a s l w p h x)(g:∀b,Ow a w p h x.pa b->H' b=H b)(z:∀b xs,H b=some (.tup xs)->H' b=some (.tup xs)):Nw t H' a s l w p h x:=
 {A.ob.imp λ_ e=>(g a<|.inl M).trans e,(g w<|.inr<|.inl M).trans A.wr,λe he=>z _ _<|A.dr e he,(g p<|.inr<|.inr<|.inl M).trans A.pa,(g h<|.inr<|.inr<|.inr<|.inl M).trans A.ho,
  λe he=>(A.mx e he).keep (g _<|.inr<|.inr<|.inr<|.inr {e,he,.inl M}) (g _<|.inr<|.inr<|.inr<|.inr {e,he,.inr M}) z,A.ph,A.wl,A.kd,A.md,A.ld}
def Nw.same(A:Nw t H a s l w p h x)(m:Ck H H'):Nw t H' a s l w p h x:=A.keep (λb hb=>by
 let{o,e,_}:=A.dom hb;rw[e];exact m _ _ e) λb xs e=>m _ _ e
def Nw.set(A:Nw t H a s l w p h x){now mk:Int}{fl:Int}:Nw t (upd H a<|.ins t.a6 dx<|Nv now fl s l w mk p h) a s l w p h {x with now:=now,fl:=fl,ma:=mk}:=by
 let{U,I}:=A.ob;let n:∀{b:RC}{o:HO},H b=some o->(∀c d fs,o= .ins c d fs->fs.length=1)->b≠a:=λe i z=>by
  rw[z,I]at e;have:=i _ _ _ (VB e).symm;cases this
 let G:∀{b:RC}{o:HO},H b=some o->(∀c d fs,o≠ .ins c d fs)->b≠a:=λe i=>n e λc d fs z=>VE z (i c d fs);refine{⟨dx,ai⟩,by rw[ae (G A.wr λ_ _ _ z=>by cases z)];exact A.wr,λe he=>by rw[ae (G (A.dr e he) λ_ _ _ z=>by cases z)];exact A.dr e he,by rw[ae (G A.pa λ_ _ _ z=>by cases z)];exact A.pa,
  by rw[ae (G A.ho λ_ _ _ z=>by cases z)];exact A.ho,λe he=>?_,A.ph,A.wl,A.kd,A.md,A.ld}
 let M':=A.mx e he;let{Y,O}:=M'.ob;exact M'.keep (ae<|n O λ_ _ _ z=>by cases z;rfl) (ae<|G M'.li λ_ _ _ z=>by cases z) λb xs e=>by rwa[ae (G e λ_ _ _ z=>by cases z)]
def Nw.row(A:Nw t H a s l w p h x)(I:H r=some (.tup xs)):Nw t (upd H w<|.lst<|x.di.map (λe=>V.ref e.1)++ [.ref r]) a s l w p h {x with di:=x.di++ [(r,xs)]}:=by
 let{U,O}:=A.ob;let G:∀{b:RC}{o:HO},H b=some o->(∀ys,o≠ .lst ys)->b≠w:=λe i z=>by
  rw[z,A.wr]at e;exact i _ (VB e).symm
 refine{{U,by rwa[ae (G O λ_ z=>by cases z)]},by rw[ai,Q9];rfl,λe he=>?_,by rw[ae (G A.pa λ_ z=>by cases z)];exact A.pa,by rw[ae (G A.ho λ_ z=>by cases z)];exact A.ho,λe he=>?_,A.ph,A.wl,A.kd,A.md,A.ld}
 .rcases Q5.mp he with he|he
  .rw[ae (G (A.dr e he) λ_ z=>by cases z)];exact A.dr e he
  .rw[Q7.mp he,ae (G I λ_ z=>by cases z)];exact I
 .let M':=A.mx e he;let{Z,Y}:=M'.ob;exact M'.keep (ae<|G Y λ_ z=>by cases z) (ae<|A.wl e he) λb xs e=>by rwa[ae (G e λ_ z=>by cases z)]
noncomputable def OS(pa:List Pk)(k:Int)(y:Om):List Pk:=pa.map λe=>if e.k=k then{e with es:=e.es++ [y]}else e
def yf{f:Pk->β}(hf:∀e es,f {e with es:=es}=f e):(OS pa k y).map f=pa.map f:=by
 unfold OS;rw[QP];refine Zw λe _=>?_;show f (if e.k=k then _ else e)=_;split
 .exact hf _ _
 .rfl
set_option tactic.hygienic true in
def zy{e:Pk}(h:e∈OS pa k y):∃g∈pa,e.k=g.k/\e.m=g.m/\e.l=g.l/\((g.k=k/\e.es=g.es++ [y])\/(g.k≠k/\e.es=g.es)):=by
 let{g,z,rfl}:=Qe.mp h;refine{g,z,?_};split
 .rename_i c;exact{M,M,M,.inl ⟨c,M⟩}
 .rename_i c;exact{M,M,M,.inr ⟨c,M⟩}
def KY(hb:Ow a w p h (OS pa k y) b):Ow a w p h pa b:=by
 rcases hb with z|z|z|z|⟨e,he,z⟩
 .exact .inl z
 .exact .inr<|.inl z
 .exact .inr<|.inr (.inl z)
 .exact .inr<|.inr (.inr<|.inl z)
 .let{g,G,_,e2,I,_}:=zy he;rw[e2,I]at z;exact .inr<|.inr (.inr<|.inr ⟨g,G,z⟩)
def Nw.noted(A:Nw t H a s l w p h x){e:Pk}(he:e∈x.pa)(ek:e.k=k)(M':Oo t H' e.m e.l (e.es++ [y]))(Y:∀b o,b≠e.l->H b=some o->H' b=some o):Nw t H' a s l w p h {x with pa:=OS x.pa k y}:=by
 let{dy,ho}:=A.ob;let hl:=(A.mx e he).li;let G:∀{b:RC}{o:HO},H b=some o->(∀ys,o≠ .lst ys)->H' b=some o:=λe i=>Y _ _ (λz=>by
  rw[z,hl]at e;exact i _ (VB e).symm) e
 refine{{dy,G ho<|λ_ z=>by cases z},Y _ _ (A.wl e he).symm A.wr,λe he=>G (A.dr e he) (λ_ z=>by cases z),?_,G A.ho (λ_ z=>by cases z),λf hf=>?_,A.ph,λf hf=>?_,?_,?_,?_}
 .show H' p=some (.dK<|az<|OI<|OS x.pa k y);unfold OI;rw[yf λ_ _=>rfl];exact G A.pa λ_ z=>by cases z
 .obtain⟨g,I,e1,e2,O,⟨c,Z⟩|⟨c,Z⟩⟩:=zy hf
  .have:g=e:=Gh A.kd I he (c.trans ek.symm);subst this;rw[e2,O,Z];exact M'
  .let U:=A.mx g I;let{dm,hm}:=U.ob;rw[e2,O,Z];exact U.keep ((G hm λ_ z=>by cases z).trans hm.symm) ((Y _ _ (λz=>c<|by rwa[Gh A.ld I he z]) U.li).trans U.li.symm) λb xs e=>G e λ_ z=>by cases z
 .let{g,I,_,_,O,_}:=zy hf;rw[O];exact A.wl g I
 .show((OS x.pa k y).map (·.k)).Nodup;rw[yf λ_ _=>rfl];exact A.kd
 .show((OS x.pa k y).map (·.m)).Nodup;rw[yf λ_ _=>rfl];exact A.md
 .show((OS x.pa k y).map (·.l)).Nodup;rw[yf λ_ _=>rfl];exact A.ld
def De(pa:List Pk)(k:Int):(ay (OI pa) k=none/\k∉pa.map (·.k))\/∃e∈pa,e.k=k/\ay (OI pa) k=some (.ref e.m)/\fh pa k=e.es:=by
 induction pa with
 |nil=>exact .inl {jO,λz=>by cases z}
 |cons e r O=>
  show(ay ((e.k,V.ref e.m)::OI r) k=none/\_)\/∃g∈e::r,g.k=k/\ay ((e.k,V.ref e.m)::OI r) k=_/\(if e.k=k then e.es else fh r k)=_;by_cases c:e.k=k
  .exact .inr {e,Qa,c,bn c,VA c}
  .rw[bh c,Vz c];rcases O with⟨G,I⟩|⟨g,U,G,I,Y⟩
   .refine .inl {G,λz=>?_};rw[Qv]at z;rcases Qj.mp z with z|z
    .exact c z.symm
    .exact I z
   .exact .inr {g,Qd _ U,G,I,Y}
def yo:∀{pa:List Pk},k∉pa.map (·.k)->fh pa k=[]
 | [],_=>rfl
 |e::r,n=>by
  rw[Qv]at n;show(if e.k=k then e.es else fh r k)=[];rw[Vz λz=>n (by rw[z];exact Qa)];exact yo λz=>n (Qd _ z)
def qX{j:Int}:∀{pa:List Pk},k∈pa.map (·.k)->fh (OS pa k y) j=if j=k then fh pa k++ [y]else fh pa j
 |e::r,n=>by
  show(if(if e.k=k then{e with es:=e.es++ [y]}else e:Pk).k=j then(if e.k=k then{e with es:=e.es++ [y]}else e:Pk).es else fh (OS r k y) j)=if j=k then(if e.k=k then e.es else fh r k)++ [y]else(if e.k=j then e.es else fh r j)
  by_cases c:e.k=k
  .rw[VA c,VA c];show(if e.k=j then e.es++ [y]else fh (OS r k y) j)=_;by_cases d:j=k
   .rw[VA d,VA (c.trans d.symm)]
   .rw[Vz d,Vz λz=>d (z.symm.trans c),Vz λz=>d (z.symm.trans c)];by_cases m:k∈r.map (·.k)
    .rw[qX m,Vz d]
    .have:OS r k y=r:=by
      unfold OS
      conv=>rhs;rw[<-List.map_id r]
      refine Zw λg G=>Vz λz=>m ?_;rw[<-z];exact Qe.mpr ⟨g,G,M⟩
     rw[this]
  .rw[Vz c,Vz c];let m:k∈r.map (·.k):=by
    rw[Qv]at n;rcases Qj.mp n with z|z
    .exact VE z.symm c
    .exact z
   rw[qX m];by_cases d:j=k
   .rw[VA d,VA d,Vz λz=>c (z.trans d)]
   .rw[Vz d,Vz d]
def vP{e:Pk}{j:Int}:∀{pa:List Pk},e.k∉pa.map (·.k)->fh (pa++ [e]) j=if j=e.k then e.es else fh pa j
 | [],_=>by
  show(if e.k=j then e.es else[])=if j=e.k then e.es else[]
  by_cases c:e.k=j
  .rw[VA c,VA c.symm]
  .rw[Vz c,Vz (Ne.symm c)]
 |g::r,n=>by
  rw[Qv]at n;show(if g.k=j then g.es else fh (r++ [e]) j)=if j=e.k then e.es else(if g.k=j then g.es else fh r j)
  rw[vP λz=>n (Qd _ z)];by_cases c:g.k=j
  .rw[VA c,VA c,Vz λz=>n (by rw[<-z,<-c];exact Qa)]
  .rw[Vz c,Vz c]
def Nw.newk(A:Nw t H a s l w p h x){m g:RC}(nk:k∉x.pa.map (·.k))(M':Oo t H m g [])(n1:¬Ow a w p h x.pa m)(U:¬Ow a w p h x.pa g):Nw t (upd H p<|.dK<|az<|OI x.pa++ [(k,.ref m)]) a s l w p h {x with pa:=x.pa++ [⟨k,m,g,[]⟩]}:=by
 let{dy,Y}:=A.ob;let G:∀{b:RC}{o:HO},H b=some o->(∀ys,o≠ .dK ys)->b≠p:=λe i z=>by
  rw[z,A.pa]at e;exact i _ (VB e).symm
 let Z:∀{m' l':RC}{es:List Om}{o:HO},Oo t H m' l' es->Oo t (upd H p o) m' l' es:=λM'=>by
  let{dm,hm}:=M'.ob;exact M'.keep (ae<|G hm λ_ z=>by cases z) (ae<|G M'.li λ_ z=>by cases z) λb xs e=>by rwa[ae (G e λ_ z=>by cases z)]
 refine{{dy,by rwa[ae (G Y λ_ z=>by cases z)]},by rw[ae (G A.wr λ_ z=>by cases z)];exact A.wr,λe he=>by rw[ae (G (A.dr e he) λ_ z=>by cases z)];exact A.dr e he,?_,by rw[ae A.ph.symm];exact A.ho,λe he=>?_,A.ph,λe he=>?_,?_,?_,?_}
 .rw[ai];show _=some (HO.dK<|az<|OI<|x.pa++ [{k,m,g,[]}]);unfold OI;rw[Q9];rfl
 .rcases Q5.mp he with he|he
  .exact Z<|A.mx e he
  .rw[Q7.mp he];exact Z M'
 .rcases Q5.mp he with he|he
  .exact A.wl e he
  .rw[Q7.mp he];exact λz=>U (.inr<|.inl z)
 all_goals
  rw[Q9];refine X7.mpr {?_,by simp,λu hu v I z=>?_}
 .exact A.kd
 .cases Q7.mp I;rw[z]at hu;exact nk hu
 .exact A.md
 .cases Q7.mp I;let{e,he,O}:=Qe.mp hu;exact n1<|.inr (.inr<|.inr<|.inr {e,he,.inl<|z.symm.trans O.symm})
 .exact A.ld
 .cases Q7.mp I;let{e,he,O}:=Qe.mp hu;exact U<|.inr (.inr<|.inr<|.inr {e,he,.inr<|z.symm.trans O.symm})
end
structure wH(pa pa':List Pk)(k:Int)(y:Om):Prop where
 of:∀j,fh pa' j=if j=k then fh pa k++ [y]else fh pa j
 ky:pa'.map (·.k)=if k∈pa.map (·.k)then pa.map (·.k)else pa.map (·.k)++ [k]
structure OK(K:Wp)(t:N6)(H:Hp)(a s l w p h:RC)(Fs Fl:RE)(x:NF):Prop where
 o:Nw t H a s l w p h x
 sl:NW K t H s Fs x.st
 lv:Nx K t H l Fl x.ks
 a1:∀b,Fs b->¬Fl b
 a2:∀b,Ow a w p h x.pa b->¬Fs b
 a3:∀b,Ow a w p h x.pa b->¬Fl b
def ON(a w p h:RC)(Fs Fl:RE)(pa:List Pk):Addr->Prop:=λb=>Fs b\/Fl b\/Ow a w p h pa b
section
variable{s l w h:RC}{Fs Fs' Fl Fl':RE}{x:NF}
def OK.slots(Wn:OK K t H a s l w p h Fs Fl x)(S:NW K t H' s Fs' st)(f:Fr Fs Fs' H H'):OK K t H' a s l w p h Fs' Fl {x with st:=st}/\Fr (ON a w p h Fs Fl x.pa) (ON a w p h Fs' Fl x.pa) H H':=by
 let G:∀b,Fl b->H' b=H b/\¬Fs' b:=λb hb=>by
  let{o,e}:=Wn.lv.dom hb;have:=f b o (λz=>Wn.a1 b z hb) e;exact{this.1.trans e.symm,this.2}
 let k2:∀b,Ow a w p h x.pa b->H' b=H b/\¬Fs' b:=λb hb=>by
  let{o,e,_}:=Wn.o.dom hb;have:=f b o (Wn.a2 b hb) e;exact{this.1.trans e.symm,this.2}
 let O:=Wn.o.keep (H':=H') (λb hb=>(k2 b hb).1) λb xs e=>(f b _ (Wn.sl.notup e) e).1;exact{{⟨O.ob,O.wr,O.dr,O.pa,O.ho,O.mx,O.ph,O.wl,O.kd,O.md,O.ld⟩,S,Wn.lv.frame λb hb=>(G b hb).1,λb h1 h2=>(G b h2).2 h1,λb hb=>(k2 b hb).2,Wn.a3},λb o n e=>{(f b o (λz=>n<|.inl z) e).1,λz=>z.elim (f b o (λz=>n<|.inl z) e).2 λz=>n<|.inr z}}
def OK.leaves(Wn:OK K t H a s l w p h Fs Fl x)(S:Nx K t H' l Fl' ks)(f:Fr Fl Fl' H H'):OK K t H' a s l w p h Fs Fl' {x with ks:=ks}/\Fr (ON a w p h Fs Fl x.pa) (ON a w p h Fs Fl' x.pa) H H':=by
 let G:∀b,Fs b->H' b=H b/\¬Fl' b:=λb hb=>by
  let{o,e}:=Wn.sl.dom hb;have:=f b o (Wn.a1 b hb) e;exact{this.1.trans e.symm,this.2}
 let k2:∀b,Ow a w p h x.pa b->H' b=H b/\¬Fl' b:=λb hb=>by
  let{o,e,_}:=Wn.o.dom hb;have:=f b o (Wn.a3 b hb) e;exact{this.1.trans e.symm,this.2}
 let O:=Wn.o.keep (H':=H') (λb hb=>(k2 b hb).1) λb xs e=>(f b _ (Wn.lv.notup e) e).1;exact{{⟨O.ob,O.wr,O.dr,O.pa,O.ho,O.mx,O.ph,O.wl,O.kd,O.md,O.ld⟩,Wn.sl.frame λb hb=>(G b hb).1,S,λb h1=>(G b h1).2,Wn.a2,λb hb=>(k2 b hb).2},λb o n e=>{(f b o (λz=>n<|.inr<|.inl z) e).1,λz=>z.elim (λz=>n<|.inl z) λz=>z.elim (f b o (λz=>n<|.inr<|.inl z) e).2 λz=>n<|.inr (.inr z)}}
def OK.own(Wn:OK K t H a s l w p h Fs Fl x)(O:Nw t H' a s l w p h x')(I:x'.st=x.st)(e2:x'.ks=x.ks)(f:Fr (Ow a w p h x.pa) (Ow a w p h x'.pa) H H'):OK K t H' a s l w p h Fs Fl x'/\Fr (ON a w p h Fs Fl x.pa) (ON a w p h Fs Fl x'.pa) H H':=by
 let G:∀b,Fs b->H' b=H b/\¬Ow a w p h x'.pa b:=λb hb=>by
  let{o,e}:=Wn.sl.dom hb;have:=f b o (λz=>Wn.a2 b z hb) e;exact{this.1.trans e.symm,this.2}
 let k2:∀b,Fl b->H' b=H b/\¬Ow a w p h x'.pa b:=λb hb=>by
  let{o,e}:=Wn.lv.dom hb;have:=f b o (λz=>Wn.a3 b z hb) e;exact{this.1.trans e.symm,this.2}
 exact{{O,by rw[I];exact Wn.sl.frame λb hb=>(G b hb).1,by rw[e2];exact Wn.lv.frame λb hb=>(k2 b hb).1,Wn.a1,λb h1 h2=>(G b h2).2 h1,λb h1 h2=>(k2 b h2).2 h1},λb o n e=>{(f b o (λz=>n<|.inr<|.inr z) e).1,λz=>z.elim (λz=>n<|.inl z) λz=>z.elim (λz=>n<|.inr<|.inl z) (f b o (λz=>n<|.inr<|.inr z) e).2}}
def OK.dom(Wn:OK K t H a s l w p h Fs Fl x)(hb:ON a w p h Fs Fl x.pa b):∃o,H b=some o/\∀ys,o≠ .tup ys:=by
 let no:∀F:Addr->Prop,F b->(∀xs,H b=some (.tup xs)->¬F b)->∀o,H b=some o->∃o,H b=some o/\∀ys,o≠ .tup ys:=λF G n o e=>{o,e,λys z=>n ys (by rw[e,z]) G};rcases hb with hb|hb|hb
 .let{o,e}:=Wn.sl.dom hb;exact no Fs hb (λxs e=>Wn.sl.notup e) o e
 .let{o,e}:=Wn.lv.dom hb;exact no Fl hb (λxs e=>Wn.lv.notup e) o e
 .exact Wn.o.dom hb
def OK.keep(Wn:OK K t H a s l w p h Fs Fl x)(g:∀b,ON a w p h Fs Fl x.pa b->H' b=H b)(z:∀b xs,H b=some (.tup xs)->H' b=some (.tup xs)):OK K t H' a s l w p h Fs Fl x:=
 {Wn.o.keep (λb hb=>g b<|.inr<|.inr hb) z,Wn.sl.frame λb hb=>g b<|.inl hb,Wn.lv.frame λb hb=>g b<|.inr<|.inl hb,Wn.a1,Wn.a2,Wn.a3}
end
structure NY(x:NF):Prop where
 ks:∀z,z∈x.ks↔(ay x.st.kv z).isSome=true
 n0:0<=x.now
 m0:0<=x.ma
 dl:(x.di.length:Int)=x.now+x.ma
 pl:(x.pa.length:Int)<=x.now
 el:∀j,((fh x.pa j).length:Int)<=x.now
 sl:(x.st.kv.length:Int)<=x.now
 hn:(x.ho.map (·.1)).Nodup
 hv:∀p∈x.ho,x.fl<=p.1/\p.1<=x.now/\∃n:Int,p.2= .int n/\0<n
 fb:0<=x.fl/\x.fl<=x.now
 up:∀j,(fh x.pa j).Pairwise (λa b=>a.mo<b.mo)/\∀y∈fh x.pa j,y.mo<=x.now
def NI(K:Wp)(t:N6)(H:Hp)(a:RC)(F:RE)(x:NF):Prop:=∃s l w p h Fs Fl,OK K t H a s l w p h Fs Fl x/\NY x/\∀b,F b↔ON a w p h Fs Fl x.pa b
section
variable{x:NF}
def NI.ins(A:NI K t H a F x):∃dx fs,H a=some (.ins t.a6 dx fs)/\(∀m,NoH m->fs.lookup m=none)/\fs.lookup ("now":Str)=some (.int x.now)/\fs.lookup (Rz:Str)=some (.int x.fl):=by
 let{s,l,w,p,h,Fs,Fl,Wn,_}:=A;let{dx,e}:=Wn.o.ob;exact{dx,_,e,λm z=>GM z,uz,Lw}
def NI.ok(A:NI K t H a F x):NY x:=by
 let{s,l,w,p,h,Fs,Fl,Wn,O,_}:=A;exact O
def NI.dom(A:NI K t H a F x)(hb:F b):∃o,H b=some o/\∀ys,o≠ .tup ys:=by
 let{s,l,w,p,h,Fs,Fl,Wn,_,g}:=A;exact Wn.dom<|(g b).mp hb
def NI.out(A:NI K t H a F x)(e:H b=none):¬F b:=λz=>by
 let{o,q,_}:=A.dom z;rw[q]at e;cases e
def NI.keep(A:NI K t H a F x)(g:∀b,F b->H' b=H b)(z:∀b xs,H b=some (.tup xs)->H' b=some (.tup xs)):NI K t H' a F x:=by
 let{s,l,w,p,h,Fs,Fl,Wn,O,f}:=A;exact{s,l,w,p,h,Fs,Fl,Wn.keep (λb hb=>g b<|(f b).mpr hb) z,O,f}
def NI.same(A:NI K t H a F x)(m:Ck H H'):NI K t H' a F x:=A.keep (λb hb=>by
 let{o,e,_}:=A.dom hb;rw[e];exact m _ _ e) λb xs e=>m _ _ e
def NI.upd(A:NI K t H a F x)(n:¬F q)(G:∀xs,H q≠some (.tup xs)):NI K t (L2.upd H q o) a F x:=A.keep (λb hb=>ae λz=>n<|z▸hb) λb xs e=>by rwa[ae λz=>G xs (by rw[<-z];exact e)]
end
def uS(t:N6):Sp:=λvs H Q _=>∃(a s l w p h r:RC)(k:Int)(x:NF)(v:V)(xs:RG),vs=[.ref a,.ref r,v]/\Nw t H a s l w p h x/\H r=some (.tup xs)/\OR xs 1=some (.int k)/\x.di.length<50000/\x.pa.length<50000/\(fh x.pa k).length<50000/\
 ∀(H':Hp)(pa':List Pk)(q:RC),Nw t H' a s l w p h {x with now:=x.now+1,di:=x.di++ [(r,xs)],pa:=pa'}->wH x.pa pa' k {q,x.now+1,v}->Fr (Ow a w p h x.pa) (Ow a w p h pa') H H'->Q (.int<|x.now+1) H'
def mU:Bs P w K mg base N8 3 t.pJ t.jJ [et,Pm,pq] (uS t):=by
 refine T.Ib.okl vg λs H vs Q E hr h _=>?_;intro X;let{a,s,l,wr,p,h,r,k,x,v,xs,rfl,A,ht,hk,l1,l2,l3,q}:=h;refine aj (ND 3<|aS bE E5 af<|λ_ _=>M)
   (aj (gX Ac af we)
   (aj (aN<|dO Qq Z3 Z4 eJ (aq Ac M)<|ac E5 ag)
   (aj (aN<|aO (dO QW Vo PySem.F.type_dict_setdefault Eu (aq Ac M)<|ac NJ<|ac (qO T.Mz (vF T) hr.mo {_} T.MC T.HI .nil au) ag) T.Bp T.Hx (vE T) hr.mo T.HH .nil au<|ac (aq Ac M)<|ac HN ag)
   (aw (aK<|aq Ac M) ?_))))
 intros
 let{dx,ho}:=A.ob;refine{_,M,r,_,_,_,M,M,Na.of ht,hk,?_};refine{_,M,a,_,dx,_,_,M,ho,T.aP,T.kO,uz,_,_,M,M,dx,_,ho,Dx,?_};rw[IB];let A1:=A.set (now:=x.now+1) (mk:=x.ma) (fl:=x.fl) (dx:=dx);let o1:∀b o,b≠a->H b=some o->upd H a (.ins t.a6 dx<|Nv (x.now+1) x.fl s l wr x.ma p h) b=some o:=λb o n e=>by rwa[ae n]
 let ra:r≠a:=λz=>by rw[z,ho]at ht;cases ht
 let O:=o1 _ _ ra ht;generalize upd H a (.ins t.a6 dx<|Nv (x.now+1) x.fl s l wr x.ma p h)=H1 at A1 o1 O⊢;let{a3,a0}:=A1.ob;refine{_,M,a,_,a3,_,_,M,a0,T.aP,T.fS,CD,.inl {M,_,DI.of A1.wr},_,M,wr,_,_,M,M,A1.wr,a9 (by rw[Q0];show x.di.length<=_;lia),?_};let U:=A1.row O;let o2:∀b o,¬Ow a wr p h x.pa b->H b=some o->upd H1 wr (.lst<|x.di.map (λe=>V.ref e.1)++ [.ref r]) b=some o:=λb o n e=>by rw[ae λz=>n (.inr<|.inl z)];exact o1 _ _ (λz=>n<|.inl z) e
 generalize upd H1 wr (.lst<|x.di.map (λe=>V.ref e.1)++ [.ref r])=H2 at U o2⊢;let{a4,a1}:=U.ob;refine{_,M,a,_,a4,_,_,M,a1,T.aP,T.xI,Lv,.inr<|.inr<|.inl {M,.inl {_,U.pa}},_,M,λm dm nm nd a5=>{m,dm,M,ai,λH4 g M4 ng o4=>{M,?_}}};let s3:Ck H2 (upd (upd H2 dm<|.own m) m<|.ins t.gj dm []):=bT (am nd) nm;let s4:Ck H2 H4:=λb o e=>o4 b o (λz=>by rw[z,nm]at e;cases e) (s3 b o e);let Y:=c7 s3 ng;let A4:=U.same s4;let om:¬Ow a wr p h x.pa m:=λz=>by let{o,e,_}:=U.dom z;rw[nm]at e;cases e
 let og:¬Ow a wr p h x.pa g:=λz=>by let{o,e,_}:=U.dom z;rw[Y]at e;cases e
 let o5:∀b o,¬Ow a wr p h x.pa b->H b=some o->H4 b=some o/\b≠m/\b≠g:=λb o n e=>{s4 _ _<|o2 b o n e,λz=>(by have:=o2 b o n e;rw[z,nm]at this;cases this),λz=>(by have:=o2 b o n e;rw[z,Y]at this;cases this)};clear s3 s4 o4 o2 o1 A1 U a1 a0 ho A ng nm nd a5 Y O ht;refine{p,_,Sum.inl k,.ref m,M,M,A4.pa,(by rw[a8];exact a9<|by show(OI x.pa).length<=_;unfold OI;rw[Q0];lia),λu hu=>?A,λZ=>?Wn}
 case' A=>
  let hu:ay (az<|OI x.pa) (Sum.inl k:Key)=some u:=hu;rw[M9]at hu;obtain⟨e,he,I,ev,em⟩:∃e∈x.pa,e.k=k/\ay (OI x.pa) k=some (.ref e.m)/\fh x.pa k=e.es:=by
   rcases De x.pa k with⟨z,_⟩|z
   .rw[z]at hu;cases hu
   .exact z
  rw[ev]at hu;cases hu;obtain⟨G,A5,he,N,f5⟩:∃G,Nw t H4 a s l wr p h {x with now:=x.now+1,di:=x.di++ [(r,xs)],pa:=G}/\e∈G/\(∀y,wH x.pa (OS G k y) k y)/\Fr (Ow a wr p h x.pa) (Ow a wr p h G) H H4:=
   {x.pa,A4,he,λy=>{λj=>qX<|Qe.mpr ⟨e,he,I⟩,by rw[yf λ_ _=>M,VA (Qe.mpr ⟨e,he,I⟩)]},λb o n e=>{(o5 b o n e).1,n}}
  let le:e.es.length<50000:=by rwa[<-em]
  clear A4 em ev o5
 case' Wn=>
  let Z:ay (az<|OI x.pa) (Sum.inl k:Key)=none:=Z;rw[M9]at Z;let nk:k∉x.pa.map (·.k):=by
   rcases De x.pa k with⟨_,z⟩|⟨e,_,_,z,_⟩
   .exact z
   .rw[z]at Z;cases Z
  let ep:bf (az<|OI x.pa) (Sum.inl k:Key) (.ref m)=az (OI x.pa++ [(k,.ref m)]):=by
   rw[cw];unfold bf;rw[dh,Z];rfl
  rw[ep];obtain⟨e,ee,I,le⟩:∃e:Pk,e={k,m,g,[]}/\e.k=k/\e.es.length<50000:={_,M,M,by show 0<50000;decide};obtain⟨G,A5,he,N,f5⟩:∃G,Nw t (upd H4 p<|.dK<|az<|OI x.pa++ [(k,.ref m)]) a s l wr p h {x with now:=x.now+1,di:=x.di++ [(r,xs)],pa:=G}/\e∈G/\(∀y,wH x.pa (OS G k y) k y)/\Fr (Ow a wr p h x.pa) (Ow a wr p h G) H (upd H4 p<|.dK<|az<|OI x.pa++ [(k,.ref m)]):=by
   refine{x.pa++ [e],ee▸A4.newk nk M4 om og,Qy _ Qa,λy=>{λj=>?_,?_},λb o n eb=>{?_,λz=>?_}}
   .let a2:e.k∉x.pa.map (·.k):=by rwa[I]
    rw[qX (by rw[Q9];exact Qy _<|Q7.mpr I.symm),vP a2,vP a2,VA I.symm,yo nk,ee];by_cases c:j=k
    .rw[VA c,VA c]
    .rw[Vz c,Vz c,Vz c]
   .rw[yf λ_ _=>M,Vz nk,Q9,<-I];rfl
   .rw[ae λz=>n (.inr<|.inr<|.inl z)];exact(o5 b o n eb).1
   .rcases z with z|z|z|z|⟨e',aa,z⟩
    .exact n<|.inl z
    .exact n<|.inr (.inl z)
    .exact n<|.inr (.inr<|.inl z)
    .exact n<|.inr (.inr<|.inr<|.inl z)
    .rcases Q5.mp aa with y|y
     .exact n<|.inr (.inr<|.inr<|.inr ⟨e',y,z⟩)
     .rw[Q7.mp y,ee]at z;exact z.elim (o5 b o n eb).2.1 (o5 b o n eb).2.2
  let em:V.ref m=V.ref e.m:=by rw[ee]
  clear A4 M4 o5 om og Z nk ep;generalize upd H4 p (.dK<|az<|OI x.pa++ [(k,.ref m)])=H5 at A5 f5⊢;rw[em]
 all_goals
  let M5:=A5.mx e he;let{dy,hm}:=M5.ob;let{ab,ah}:=A5.ob;refine{e.m,dy,_,M,hm,bF ∅,_,M,a,_,ab,_,_,M,ah,T.aP,T.kO,uz,_,M,e.m,e.l,e.es,_,v,M,M5,(),λH6 y M6 ny o6=>?_};let A6:=A5.noted he I M6 o6;let{an,ax}:=A6.ob;refine{_,M,a,_,an,_,_,M,ax,T.aP,T.kO,uz,q _ _ y A6 (N _)<|f5.trans λb o n eb=>{o6 b o (λz=>n<|.inr<|.inr<|.inr<|.inr {e,he,.inr z}) eb,λz=>n<|KY z}}
def NF.new:NF:={0,0,0,Hm.new,[],[],[],[]}
def NF.new_ok:NY NF.new:={λz=>{(λy=>by cases y),(λy=>by cases y)},(_),(_),M,(_),λ_=>by show((0:Nat):Int)<=0;decide,(_),QZ,(λ_ z=>by cases z),(_),λ_=>{VV,(λy z=>by cases z)}}
def cJ{nx:Hp->Prop}(k:∀H',H' a=some (.ins C dx<|bD f v fs)->(∀b,b≠a->H' b=H b)->nx H'):nx (upd H a<|.ins C dx<|bD f v fs):=k _ ai λ_ n=>ae n
def kS{m:Nat}(h:Nat.ble (n+1) m=true):n<m:=Nat.le_of_ble_eq_true h
def uQ(K:Wp)(t:N6):Sp:=λvs H Q _=>∃(a dx:RC),vs=[.ref a]/\H a=some (.ins t.a6 dx [])/\∀H' F,NI K t H' a F NF.new->Fr (λb=>b=a) F H H'->Q .non H'
def vH:Bs P w K mg base N8 4 t.pH t.jH [et] (uQ K t):=by
 refine T.HZ.okl ve λs H vs Q E hr h _=>?_;intro X;let{a,dx,rfl,ha,q}:=h;refine aj (ba Ac af M)
   (aj (ba Ac af M)
   (aj (ba Ac (qO T.My (vC T) hr.mo {_} T.MB T.HF .nil au) M)
   (aj (ba Ac (qO T.LW (uh T) hr.mo {_} T.LY T.Hh .nil au) M)
   (aj (ba Ac (cH ag) M)
   (aj (ba Ac af M)
   (aj (ba Ac e7 M)
   (aw (ba Ac e7 M) ?_)))))))
 intros
 refine{_,M,a,_,dx,[],M,ha,T.aP,T.kO,kS (by kernel_rfl),cJ λH1 h1 o1=>?_};refine{_,M,a,_,dx,_,M,h1,T.aP,T.Gi,kS (by kernel_rfl),cJ λH2 h2 o2=>?_};refine λs ds ns G a0=>{s,ds,M,ai,by rw[ae a0];exact ai,λH3 Fs S3 f3=>{M,?_}};let k3:∀b o,H2 b=some o->H3 b=some o/\¬Fs b:=λb o e=>f3 b o (λz=>z.elim (λz=>by rw[z,ns]at e;cases e) λz=>by rw[z,G]at e;cases e) (bT (am G) ns _ _ e);let{h3,na}:=k3 _ _ h2;refine{_,M,a,_,dx,_,M,h3,T.aP,T.dt,kS (by kernel_rfl),cJ λH4 h4 o4=>?_};let S4:=S3.frame (H':=H4) λb hb=>o4 b λz=>na (z▸hb);refine λl dl nl I a1=>{l,dl,M,ai,by rw[ae a1];exact ai,λH5 Fl L5 f5=>{M,?_}};let k5:∀b o,H4 b=some o->H5 b=some o/\¬Fl b:=λb o e=>f5 b o (λz=>z.elim (λz=>by rw[z,nl]at e;cases e) λz=>by rw[z,I]at e;cases e) (bT (am I) nl _ _ e);let{h5,nb}:=k5 _ _ h4;refine{_,M,a,_,dx,_,M,h5,T.aP,T.gB,kS (by kernel_rfl),cJ λH6 h6 o6=>?_};let L6:=L5.frame (H':=H6) λb hb=>o6 b λz=>nb (z▸hb);let S6:=(S4.same λb o e=>(k5 b o e).1).frame (H':=H6) λb hb=>o6 b λz=>na (z▸hb);let ap:∀b,Fs b->¬Fl b:=λb hb=>by
  let{o,e}:=S4.dom hb;exact(k5 b o e).2
 let k6:∀b o,b≠a->H b=some o->H6 b=some o/\¬Fs b/\¬Fl b:=λb o n e=>by
  let{e3,n3}:=k3 b o (by rwa[o2 b n,o1 b n]);let{e5,n5}:=k5 b o (by rwa[o4 b n]);exact{by rwa[o6 b n],n3,n5}
 clear f3 k3 f5 k5 S4 L5 S3 ns G a0 nl I a1 h1 h2 h3 h4 h5 o1 o2 o4 o6;refine{Qf _,λwr nw=>{_,M,a,_,dx,_,M,am nw _ _ h6,T.aP,T.fS,kS (by kernel_rfl),cJ λH7 h7 o7=>?_}};refine{_,M,a,_,dx,_,M,h7,T.aP,T.ir,kS (by kernel_rfl),cJ λH8 h8 o8=>?_};refine λp np=>{_,M,a,_,dx,_,M,am np _ _ h8,T.aP,T.xI,kS (by kernel_rfl),cJ λH9 h9 o9=>?_};refine λh nh=>{_,M,a,_,dx,_,M,am nh _ _ h9,T.aP,T.Er,kS (by kernel_rfl),cJ λa2 a4 a3=>?_};let kk:∀{A Wn:Hp}{q:RC}{u:HO},A q=none->(∀b,b≠a->Wn b=upd A q u b)->∀b o,b≠a->A b=some o->Wn b=some o:=λnq e b o n h=>by rwa[e b n,ae (al h nq)]
 let wa:=(al h6 nw).symm;let pa':=(al h8 np).symm;let U:=(al h9 nh).symm;let e8:∀b o,b≠a->H6 b=some o->H8 b=some o:=λb o n e=>by rw[o8 b n];exact kk nw o7 b o n e
 let e9:=kk np o9;let Y:=kk nh a3;let w8:H8 wr=some (.lst []):=by rw[o8 _ wa,o7 _ wa];exact ai
 let p9:H9 p=some (.dK []):=by rw[o9 _ pa'];exact ai
 let Z:∀b o,b≠a->H6 b=some o->a2 b=some o:=λb o n e=>Y b o n (e9 b o n<|e8 b o n e);let O:Nw t a2 a s l wr p h NF.new:={{dx,a4.trans<|by kernel_rfl},Y _ _ wa<|e9 _ _ wa w8,(λe he=>by cases he),Y _ _ pa' p9,by rw[a3 _ U];exact ai,(λe he=>by cases he),al p9 nh,(λe he=>by cases he),QZ,QZ,QZ};let fresh:∀b,(b=wr\/b=p\/b=h)->H6 b=none:=λb hb=>by
  cases e:H6 b with
  |none=>rfl
  |some o=>
   rcases hb with rfl|rfl|rfl
   .rw[nw]at e;cases e
   .rw[e8 _ _ pa' e]at np;cases np
   .rw[e9 _ _ U (e8 _ _ U e)]at nh;cases nh
 let ow:∀b,Ow a wr p h [] b->b=a\/H6 b=none:=λb hb=>by
  rcases hb with z|z|z|z|⟨e,he,_⟩
  .exact .inl z
  .exact .inr<|fresh b (.inl z)
  .exact .inr<|fresh b (.inr<|.inl z)
  .exact .inr<|fresh b (.inr<|.inr z)
  .cases he
 refine q _ (ON a wr p h Fs Fl []) {s,l,wr,p,h,Fs,Fl,{O,S6.frame λb hb=>?_,L6.frame λb hb=>?_,ap,λb hb z=>?_,λb hb z=>?_},NF.new_ok,λ_=>Iff.rfl} λb o n e=>?_
 .let{o,e}:=S6.dom hb;rw[e];exact Z b o (λz=>na<|z▸hb) e
 .let{o,e}:=L6.dom hb;rw[e];exact Z b o (λz=>nb<|z▸hb) e
 .rcases ow b hb with y|y
  .exact na<|y▸z
  .exact S6.out y z
 .rcases ow b hb with y|y
  .exact nb<|y▸z
  .exact L6.out y z
 .let{c1,c2,c3}:=k6 b o n e;refine{Z b o n c1,λz=>?_};rcases z with z|z|z
  .exact c2 z
  .exact c3 z
  .rcases ow b z with y|y
   .exact n y
   .rw[c1]at y;cases y
def pP(K:Wp)(t:N6):Sp:=λvs H Q _=>∃(a:RC)(F:RE)(x:NF),vs=[.ref a]/\NI K t H a F x/\x.now+x.ma<40000/\
 ∀(H':Hp)(F':RE)(r:RC),NI K t H' a F' {x with ma:=x.ma+1,di:=x.di++ [(r,[.str Ps,.int (x.ma+1)])]}->Fr F F' H H'->Q (.int<|x.ma+1) H'
def iq:Bs P w K mg base N8 1 t.i5 t.fB [et] (pP K t):=by
 refine T.DX.okl pT λs H vs Q E hr h _=>?_;intro X;let{a,F,x,rfl,A,l1,q}:=h;refine aj (gX Ac af we)
   (aj (aN<|dO Qq Z3 Z4 eJ (aq Ac M)<|ac (cG<|ac mL<|ac (aq Ac M) ag) ag)
   (aw (aK<|aq Ac M) ?_))
 intros
 let{s,l,wr,p,h,Fs,Fl,Wn,O,g}:=A;let{dx,ho}:=Wn.o.ob;refine{_,M,a,_,dx,_,_,M,ho,T.aP,T.ir,CF,_,_,M,M,dx,_,ho,Dx,?_};rw[KP];let A1:=Wn.o.set (now:=x.now) (mk:=x.ma+1) (fl:=x.fl) (dx:=dx);let f1:Fr (Ow a wr p h x.pa) (Ow a wr p h x.pa) H (upd H a<|.ins t.a6 dx<|Nv x.now x.fl s l wr (x.ma+1) p h):=λb o n e=>{by rwa[ae λz=>n (.inl z)],n};generalize upd H a (.ins t.a6 dx<|Nv x.now x.fl s l wr (x.ma+1) p h)=H1 at A1 f1⊢;let{G,I}:=A1.ob;let dl:=O.dl;refine{_,M,a,_,G,_,_,M,I,T.aP,T.fS,CD,.inl {M,_,DI.of A1.wr},?_};refine{_,M,a,_,G,_,_,M,I,T.aP,T.ir,CF,(by show 2<=sizeLine;decide),λr nr=>?_};let s2:=am (o:= .tup [.str Ps,.int (x.ma+1)]) nr;let U:=A1.same s2;let f2:=f1.trans (Fr.of_same s2);let ht:upd H1 r (.tup [.str Ps,.int (x.ma+1)]) r=some (.tup [.str Ps,.int (x.ma+1)]):=ai;generalize upd H1 r (.tup [.str Ps,.int (x.ma+1)])=H2 at U f2 ht⊢;refine{wr,_,_,M,M,U.wr,a9 (by rw[Q0];show x.di.length<=_;lia),?_};let Y:=U.row ht;let f3:Fr (Ow a wr p h x.pa) (Ow a wr p h x.pa) H (upd H2 wr<|.lst<|x.di.map (λe=>V.ref e.1)++ [.ref r]):=λb o n e=>{by rw[ae λz=>n (.inr<|.inl z)];exact(f2 b o n e).1,n};generalize upd H2 wr (.lst<|x.di.map (λe=>V.ref e.1)++ [.ref r])=H3 at Y f3⊢;let{Z,a0}:=Y.ob;let{B3,f4}:=Wn.own Y M M f3;refine{_,M,a,_,Z,_,_,M,a0,T.aP,T.ir,CF,q H3 F r {s,l,wr,p,h,Fs,Fl,B3,{O.ks,O.n0,?_,?_,O.pl,O.el,O.sl,O.hn,O.hv,O.fb,O.up},g} ?_}
 .have:=O.m0;show 0<=x.ma+1;lia
 .show((x.di++ [(r,_)]).length:Int)=x.now+(x.ma+1);rw[Q6,QT];lia
 .exact λb o n e=>{(f4 b o (λz=>n<|(g b).mpr z) e).1,n}
def NI.klen{x:NF}(A:NI K t H a F x):(x.ks.length:Int)<=x.now:=by
 let{s,l,w,p,h,Fs,Fl,Wn,O,_}:=A;let{L,A,ls,_,ok,e,_}:=Wn.lv;let nd:x.ks.Nodup:=by
  rw[<-e];exact List.Pairwise.imp (λh z=>()) ok.up
 have:=gl (S:=x.st.kv.map (·.1)) nd λz hz=>HM.mpr ((O.ks z).mp hz);rw[Q0]at this;have:=O.sl;lia
def NY.noted{x:NF}{y:Om}(O:NY x)(N:wH x.pa pa' k y):(pa'.length:Int)<=x.now+1/\∀j,((fh pa' j).length:Int)<=x.now+1:=by
 constructor
 .let h1:=O.pl;let h2:=VS List.length N.ky;rw[Q0]at h2;split at h2
  .rw[Q0]at h2;lia
  .rw[Q6,Q0,QT]at h2;lia
 .intro j;rw[N.of];split
  .have:=O.el k;rw[Q6,QT];lia
  .have:=O.el j;lia
def NY.hv1{x:NF}(O:NY x):∀p∈x.ho,x.fl<=p.1/\p.1<=x.now+1/\∃n:Int,p.2= .int n/\0<n:=λp z=>{(O.hv p z).1,by have:=(O.hv p z).2.1;lia,(O.hv p z).2.2}
def NY.fb1{x:NF}(O:NY x):0<=x.fl/\x.fl<=x.now+1:={O.fb.1,by have:=O.fb.2;lia}
def NY.up1{x:NF}{y:Om}(O:NY x)(N:wH x.pa pa' k y)(e:y.mo=x.now+1):∀j,(fh pa' j).Pairwise (λa b=>a.mo<b.mo)/\∀z∈fh pa' j,z.mo<=x.now+1:=λj=>by
 rw[N.of];let{I,G}:=O.up k;split
 .refine{Ql.mpr {I,Zf _ _,λa ha b hb=>?_},λz hz=>?_}
  .rw[Q7.mp hb,e];have:=G a ha;lia
  .rcases Q5.mp hz with hz|hz
   .have:=G z hz;lia
   .rw[Q7.mp hz,e];exact Zn _
 .let{U,Y}:=O.up j;exact{U,λz hz=>by have:=Y z hz;lia}
def wZ(K:Wp)(t:N6):Sp:=λvs H Q _=>∃(a:RC)(k i:Int)(F:RE)(x:NF),vs=[.ref a,.int k,.int i]/\NI K t H a F x/\0<=k/\x.now+x.ma<4000/\
 ∀(H':Hp)(F':RE)(ks':RF)(r q:RC)(pa':List Pk),NI K t H' a F' {x with now:=x.now+1,st:=x.st.put k (.int i),ks:=ks',di:=x.di++ [(r,[.str Rg,.int k,.int i])],pa:=pa'}->wH x.pa pa' k {q,x.now+1,.int i}->Fr F F' H H'->Q (.int<|x.now+1) H'
set_option tactic.hygienic true in
def xE:Bs P w K mg base N8 5 t.rT t.lF [et,eH,pq] (wZ K t):=by
 refine T.JG.okl xp λs H vs Q E hr h _=>?_;intro X;let{a,k,i,F,x,rfl,A,k0,l1,q}:=h;refine aj (aU (sF<|cE<|aO (aq Ac M) T.aF T.zE (oS T) hr.mo T.z8 .nil au<|ac E5 ag)
    (aD<|aN<|aO (aq Ac M) T.aM T.Hy (vG T) hr.mo T.HJ .nil au<|ac E5 ag)
    aL)
   (aj (aN<|aO (aq Ac M) T.aF T.IS (xA T) hr.mo T.Jr .nil au<|ac E5<|ac HN ag)
   (aw (aK<|aO Ac T.aP T.xM (mU T) hr.mo T.xT .nil au<|ac (cG<|ac mL<|ac E5<|ac HN ag)<|ac HN ag) ?_))
 intros
 let kl:=A.klen;let{s,l,wr,p,h,Fs,Fl,Wn,O,g}:=A;let n0:=O.n0;let m0:=O.m0;let sl:=O.sl;let{dx,ho}:=Wn.o.ob;let{ds,fs,hs,hm}:=Wn.sl.ins
 cbv
 refine dU (λW H2=>∃(U G:RE)(I:RF),W=[some (.ref a),some (.int k),some (.int i)]/\OK K t H2 a s l wr p h U G {x with ks:=I}/\(∀z,z∈I↔z=k\/z∈x.ks)/\Fr (ON a wr p h Fs Fl x.pa) (ON a wr p h U G x.pa) H H2) (λnx go=>?_)<|λW H2 w=>?_
 .refine{_,M,a,_,dx,_,_,M,ho,T.aP,T.dt,wf,s,ds,fs,M,hs,hm _ ∅,_,M,s,k,Fs,x.st,M,Wn.sl,k0,λH1 a0 S1 f1=>?_};let{B1,g1}:=Wn.slots S1 f1;let{a1,a2}:=B1.o.ob;let{dl,fl,hl,a3}:=B1.lv.ins;cases ev:(ay x.st.kv k).isSome with
  |true=>
   refine{_,M,cT (λc=>?_)<|λ_=>?_}
   .cases c
   .exact go _ _ {a0,Fl,x.ks,M,B1,λz=>{.inr,λy=>y.elim (λy=>by rw[y];exact(O.ks k).mpr ev) id},g1}
  |false=>
   let nk:k∉x.ks:=λz=>by have:=(O.ks k).mp z;rw[ev]at this;cases this
   refine{_,M,cT (λ_=>?_)<|λc=>?_}
   .refine{_,M,a,_,a1,_,_,M,a2,T.aP,T.gB,CG,l,dl,fl,M,hl,a3 _ ∅,_,M,l,k,Fl,x.ks,M,B1.lv,(),λ_ H2 G I L2 mem f2=>?_,λz=>VE z nk};let{Z,g2}:=B1.leaves L2 f2;exact go _ _ {a0,G,I,M,Z,mem,g1.trans g2}
   .exact VE M c
 .let{U,G,I,rfl,Z,mem,g2}:=w;let{a4,a5}:=Z.o.ob;let{a6,aa,ab,ah}:=Z.sl.ins;refine{_,M,a,_,a4,_,_,M,a5,T.aP,T.dt,wf,s,a6,aa,M,ab,ah _ ∅,_,M,_,M,s,k,i,U,x.st,M,Z.sl,k0,(),λH3 Y S3 f3=>?_};let{B3,g3}:=Z.slots S3 f3;let{an,ax}:=B3.o.ob;refine{_,M,a,an,_,M,ax,GM ∅,_,M,_,M,(by show 3<=sizeLine;decide),λr nr=>?_};let s4:=am (o:= .tup [.str Rg,.int k,.int i]) nr;let ht:upd H3 r (.tup [.str Rg,.int k,.int i]) r=some (.tup [.str Rg,.int k,.int i]):=ai;let B4:OK K t (upd H3 r<|.tup [.str Rg,.int k,.int i]) a s l wr p h Y G _:=B3.keep (λb hb=>by
   let{o,e,_}:=B3.dom hb;rw[e];exact s4 _ _ e) λb xs e=>s4 _ _ e
  let g4:=(g2.trans g3).trans (Fr.of_same s4);generalize upd H3 r (.tup [.str Rg,.int k,.int i])=H4 at B4 ht g4⊢;let dl:=O.dl;let pl:=O.pl;let el:=O.el k;refine{_,M,a,s,l,wr,p,h,r,k,_,.int i,_,M,B4.o,ht,M,by show x.di.length<50000;lia,by show x.pa.length<50000;lia,by show(fh x.pa k).length<50000;lia,λH5 pa' y O5 N f5=>?_};let{B5,g5}:=B4.own O5 M M f5;let{N1,N2}:=O.noted N;let ek:(x.st.put k<|.int i).kv=bf x.st.kv k (.int i):=Hm.three_kv;refine q H5 (ON a wr p h Y G pa') I r y pa' {s,l,wr,p,h,Y,G,B5,{λz=>?_,by show 0<=x.now+1;lia,m0,?_,N1,N2,?_,O.hn,O.hv1,O.fb1,O.up1 N M},λ_=>Iff.rfl} N ?_
  .show z∈I↔(ay (x.st.put k<|.int i).kv z).isSome=true;rw[mem,ek,<-HM,rc,O.ks];split
   .rename_i c
    rw[HM];exact{λy=>y.elim (λy=>y▸c) id,.inr}
   .rw[Q5,Q7,HM];exact{λy=>y.elim .inr .inl,λy=>y.elim .inr .inl}
  .show((x.di++ [(r,_)]).length:Int)=x.now+1+x.ma;rw[Q6,QT];lia
  .show((x.st.put k<|.int i).kv.length:Int)<=x.now+1;rw[ek];have:=b6 x.st.kv k (.int i);lia
  .exact λb o n e=>(g4.trans g5) b o (λz=>n<|(g b).mpr z) e
def uR(K:Wp)(t:N6):Sp:=λvs H Q E=>∃(a:RC)(k:Int)(F:RE)(x:NF),vs=[.ref a,.int k]/\NI K t H a F x/\0<=k/\x.now+x.ma<4000/\
 ((ay x.st.kv k).isSome=true->∀(H':Hp)(F':RE)(ks':RF)(r q:RC)(pa':List Pk),NI K t H' a F' {x with now:=x.now+1,st:=x.st.drop k,ks:=ks',di:=x.di++ [(r,[.str Pn,.int k])],pa:=pa'}->wH x.pa pa' k {q,x.now+1,.non}->Fr F F' H H'->Q (.int<|x.now+1) H')/\
 (ay x.st.kv k=none->False)
def vI:Bs P w K mg base N8 6 t.pI t.jI [et,eH] (uR K t):=by
 refine T.Ia.okl vf λs H vs Q E Z h _=>?_;intro X;let{a,k,F,x,rfl,A,k0,l1,q,qx}:=h;refine aj (aN<|aO (aq Ac M) T.aF T.Hw (vD T) Z.mo T.HG .nil au<|ac E5 ag)
   (aj (aN<|aO (aq Ac M) T.aM T.Dm (p7 T) Z.mo T.DM .nil au<|ac E5 ag)
   (aw (aK<|aO Ac T.aP T.xM (mU T) Z.mo T.xT .nil au<|ac (cG<|ac mL<|ac E5 ag)<|ac bg ag) ?_))
 intros
 let kl:=A.klen;let{s,l,wr,p,h,Fs,Fl,Wn,O,g}:=A;let n0:=O.n0;let m0:=O.m0;let sl:=O.sl;let{dx,ho}:=Wn.o.ob;let{ds,fs,hs,hm}:=Wn.sl.ins
 cbv
 refine{_,M,a,_,dx,_,_,M,ho,T.aP,T.dt,wf,s,ds,fs,M,hs,hm _ ∅,_,M,s,k,Fs,x.st,M,Wn.sl,k0,λev=>{(),λH1 G S1 f1=>?_},λhn=>(qx hn).elim}
 .let{Y,g1}:=Wn.slots S1 f1;let{a0,a1}:=Y.o.ob;let{dl,fl,hl,a2}:=Y.lv.ins;refine{_,M,a,_,a0,_,_,M,a1,T.aP,T.gB,CG,l,dl,fl,M,hl,a2 _ ∅,_,M,l,k,Fl,x.ks,M,Y.lv,(),λ_ H2 I U L2 mem f2=>?_,λz=>VE ((O.ks k).mpr ev) z};let{B3,g3}:=Y.leaves L2 f2;let{a3,a4}:=B3.o.ob;refine{_,M,a,a3,_,M,a4,GM ∅,_,M,(by show 2<=sizeLine;decide),λr nr=>?_};let s4:=am (o:= .tup [.str Pn,.int k]) nr;let ht:upd H2 r (.tup [.str Pn,.int k]) r=some (.tup [.str Pn,.int k]):=ai;let B4:OK K t (upd H2 r<|.tup [.str Pn,.int k]) a s l wr p h G I _:=B3.keep (λb hb=>by
   let{o,e,_}:=B3.dom hb;rw[e];exact s4 _ _ e) λb xs e=>s4 _ _ e
  let g4:=(g1.trans g3).trans (Fr.of_same s4);generalize upd H2 r (.tup [.str Pn,.int k])=H4 at B4 ht g4⊢;let dl:=O.dl;let pl:=O.pl;let el:=O.el k;refine{a,s,l,wr,p,h,r,k,_,.non,_,M,B4.o,ht,M,by show x.di.length<50000;lia,by show x.pa.length<50000;lia,by show(fh x.pa k).length<50000;lia,λH5 pa' y O5 N f5=>?_};let{B5,g5}:=B4.own O5 M M f5;let{N1,N2}:=O.noted N;let ek:(x.st.drop k).kv=bG x.st.kv k:=Hm.three_kv;refine q ev H5 (ON a wr p h G I pa') U r y pa' {s,l,wr,p,h,G,I,B5,{λz=>?_,by show 0<=x.now+1;lia,m0,?_,N1,N2,?_,O.hn,O.hv1,O.fb1,O.up1 N M},λ_=>Iff.rfl} N ?_
  .show z∈U↔(ay (x.st.drop k).kv z).isSome=true;rw[mem,ek,eF,O.ks];by_cases c:z=k
   .rw[VA c];exact{λy=>VE c y.1,λy=>by cases y}
   .rw[Vz c];exact{λy=>y.2,λy=>⟨c,y⟩}
  .show((x.di++ [(r,_)]).length:Int)=x.now+1+x.ma;rw[Q6,QT];lia
  .show((x.st.drop k).kv.length:Int)<=x.now+1;rw[ek];have:(bG x.st.kv k).length<=x.st.kv.length:=Qm _ _;lia
  .exact λb o n e=>(g4.trans g5) b o (λz=>n<|(g b).mpr z) e
def Ha{f:α->V}{ms:List α}{g:Int}(h:0<=g):oK (ms.map f) (some g) none=(ms.drop g.toNat).map f:=by
 unfold oK HT.sIx;dsimp only;rw[Vz (),Xf];rcases Nat.le_total g.toNat (ms.map f).length with c|c
 .rw[Zt c];exact Qx<|by rw[QF];lia
 .rw[Vi c,XJ c,XJ (Q4 _),Xz]
def tV(K:Wp)(t:N6):Sp:=λvs H Q _=>∃(a:RC)(lo:Int)(F:RE)(x:NF),vs=[.ref a,.int lo]/\NI K t H a F x/\0<=lo/\
 ∀(H':Hp)(r:RC),Ck H H'->H r=none->H' r=some (.lst<|(x.di.drop lo.toNat).map λe=>V.ref e.1)->Q (.ref r) H'
def lL:Bs P w K mg base N8 1 t.nV t.fE [et,zk] (tV K t):=by
 let z:=Ng.nd;refine T.Hq.ok Ng (λvs H Q E h=>?_)<|λG A outer s H vs Q E Y h=>?_
 .let{a,lo,F,x,rfl,_}:=h;rfl
 .let{a,lo,F,x,rfl,A,I,q}:=h;refine{_,(aD<|aK<|gk iP (aq Ac M) (gP<|aG (oC M) {_} T.Fj zX (ac E5<|ac af ag)) kM)
   ,?_}
  let{s,l,wr,p,h,Fs,Fl,Wn,O,g}:=A;let{dx,U}:=Wn.o.ob;refine{_,M,a,_,dx,_,_,M,U,T.aP,T.fS,CD,?_};let e0:(if(0:Int)>lo then(0:Int)else lo)=lo:=Vz ();refine{_,M,_,_,M,lo,by rw[e0],wr,_,M,DI.of Wn.o.wr,λr nr=>q _ r (am nr) nr ?_};rw[ai,Ha I]
def NI.di{x:NF}(A:NI K t H a F x):∀e∈x.di,H e.1=some (.tup e.2):=by
 let{s,l,wr,p,h,Fs,Fl,Wn,O,g}:=A;exact Wn.o.dr
def Oa(t:N6)(H:Hp)(p:RC)(up:Bool)(a e:V):Prop:=∃dx fs,H p=some (.ins (if up=true then t.dE else t.cz) dx fs)/\xV (if up=true then "up" else Ry) fs a e/\if up=true then OH a e else OJ a e
def tF(up:Bool)(a:V)(ks:RF):List Int:=match up,a with
 |true,.int i=>ks.filter λz=>decide (i<=z)
 |false,.int i=>ks.reverse.filter (eO<|some i)
 |_,_=>ks.reverse.filter (eO none)
def y6(K:Wp)(t:N6):Sp:=λvs H Q _=>∃(l p:RC)(n:Int)(up:Bool)(a e:V)(F:RE)(ks:RF),vs=[.ref l,.ref p,.int n]/\Nx K t H l F ks/\Oa t H p up a e/\ks.length<4096/\0<=n/\
 ∀(H':Hp)(r:RC),Ck H H'->H r=none->H' r=some (.lst<|((tF up a ks).take n.toNat).map V.int)->Q (.ref r) H'
def zB:Bs P w K mg base N8 3 t.tK t.ni [hL,eR,wb] (y6 K t):=by
 refine T.BF.okl zg λs H vs Q E I h _=>?_;intro X;let{l,p,n,up,a,e,F,ks,rfl,L,Y,l1,G,q}:=h;refine bV (λx=>aU (cE<|aG (fH K M) {_} T.dB b8 (ac E5<|ac (cm (v:= .ref t.dE) {_} T.AU M) ag)) x aL) ?_;refine aw (aK<|aO Ac T.aM T.Dl (p6 T) I.mo T.DL .nil au<|ac (aq E5 M)<|ac HN ag) ?_
 intros
 refine aw (aK<|aO Ac T.aM T.BL (mT T) I.mo T.BP .nil au<|ac (aq E5 M)<|ac HN ag) ?_
 intros
 let{dx,fs,z,O,ok}:=Y;let{dl,fl,hl,U}:=L.ins;cases up with
 |true=>
  let z:H p=some (.ins t.dE dx fs):=z;let{i,rfl,i0,_}:=(show OH a e from ok);exact{_,M,_,_,_,_,M,NN.ins z T.iI T.lI.1 T.lI.2 T.lI.3 T.lI.4,T.A9,_,M,cC {_,M,l,dl,fl,M,hl,U _ ∅,_,M,p,_,dx,fs,_,M,z,T.iI,T.qV,O.at_,_,M,l,i,n,F,ks,M,L,l1,G,q}}
 |false=>
  let z:H p=some (.ins t.cz dx fs):=z;let{j,rfl,Z,ha}:=(show OJ a e from ok);refine{_,M,_,_,_,_,M,NN.ins z T.cK T.dQ.1 T.dQ.2 T.dQ.3 T.dQ.4,T.vV,_,M,dP {_,M,l,dl,fl,M,hl,U _ ∅,_,M,p,_,dx,fs,_,M,z,T.cK,T.iu,O.at_,_,M,?_}};rcases ha with rfl|⟨i,rfl,_⟩
  .exact⟨l,none,n,F,ks,M,L,l1,G,q⟩
  .exact{l,some i,n,F,ks,M,L,l1,G,q}
def tR(t:N6):Sp:=λvs H Q _=>∃(p:RC)(up:Bool)(a e:V)(k:Int),vs=[.ref p,.int k]/\Oa t H p up a e/\(if up=true then OH (.int<|k+1) e else OJ (.int<|k-1) e)/\
 ∀(H':Hp)(r:RC),Ck H H'->H r=none->Oa t H' r up (.int<|if up=true then k+1 else k-1) e->Q (.ref r) H'
def ud:Bs P w K mg base N8 5 t.nQ t.iy [eR,eH] (tR t):=by
 refine T.wJ.okl tZ λs H vs Q E hr h _=>?_;intro X;let{p,up,a,e,k,rfl,TK,G,q}:=h;refine bV (λx=>aU (cE<|aG (fH K M) {_} T.dB b8 (ac Ac<|ac (cm (v:= .ref t.dE) {_} T.AU M) ag)) x aL) ?_;refine aw (aK<|gQ T.J0 (mO T) hr.mo {_} T.AU T.wA .nil au (ac (ao bi E5 af)<|ac (aq Ac M) ag)) ?_
 intros
 refine aw (aK<|gQ T.MV (xG T) hr.mo {_} T.MX T.Jx .nil au (ac (ao mN E5 af)<|ac (aq Ac M) ag)) ?_
 intros
 let{dx,fs,I,tf,ok}:=TK;let kp:∀{H1 H':Hp}{r:RC},Ck H H1->H r=none->OE r H1 H'->Ck H H':=λs n k b o e=>k b o (s b o e) λz=>by rw[z,n]at e;cases e
 cases up with
 |true=>
  let I:H p=some (.ins t.dE dx fs):=I;let G:OH (.int<|k+1) e:=G;let Z:Sc e:=by
   obtain⟨_,_,_,he|⟨j,he,_⟩⟩:=G
   .rw[he];exact VU
   .rw[he];exact T0 _
  refine{_,M,_,_,_,_,M,NN.ins I T.iI T.lI.1 T.lI.2 T.lI.3 T.lI.4,T.A9,_,M,cC {_,M,_,_,M,M,_,M,p,_,dx,fs,_,M,I,T.iI,T.jS,tf.end_,λr Y nr nd a0=>{r,Y,_,_,M,ai,T0 _,Z,λ_ H' fs' O h' U=>{M,?_},λz=>VE G z}}};exact q H' r (kp (bT (am nd) nr) nr O) nr ⟨Y,fs',h',U,G⟩
 |false=>
  let I:H p=some (.ins t.cz dx fs):=I;let G:OJ (.int<|k-1) e:=G;let Z:Sc e:=by
   let{_,he,_}:=G;rw[he];exact T0 _
  refine{_,M,_,_,_,_,M,NN.ins I T.cK T.dQ.1 T.dQ.2 T.dQ.3 T.dQ.4,T.vV,_,M,dP {_,M,_,_,M,M,_,M,p,_,dx,fs,_,M,I,T.cK,T.iU,tf.end_,λr Y nr nd a0=>{r,Y,_,_,M,ai,T0 _,Z,λ_ H' fs' O h' U=>{M,?_},λz=>VE G z}}};exact q H' r (kp (bT (am nd) nr) nr O) nr ⟨Y,fs',h',U,G⟩
def hK(up:Bool):V->V->Int->Bool:=if up=true then hU else hD
def cx(up:Bool)(a e:V)(ks:RF):List Int:=(if up=true then ks else ks.reverse).filter (hK up a e)
def iO{α:Type}{h:α->Bool}:∀{xs:List α}{n:Nat},xs.Pairwise (λx y=>h y=true->h x=true)->(xs.take n).filter h=(xs.filter h).take n
 | [],n,_=>by rw[Xz,List.filter_nil,Xz]
 |x::r,0,_=>rfl
 |x::r,n+1,w=>by
  let{I,G}:=ZB.mp w;rw[V1];by_cases c:h x=true
  .rw[List.filter_cons_of_pos c,List.filter_cons_of_pos c,V1,iO G]
  .let z:r.filter h=[]:=X0.mpr λy hy O=>c (I y hy O);rw[List.filter_cons_of_neg c,List.filter_cons_of_neg c,iO G,z,Xz,Xz]
def Ep{up:Bool}{a:V}(ok:if up=true then OH a e else OJ a e)(r:db ks):((tF up a ks).take n).filter (hK up a e)=(cx up a e ks).take n:=by
 cases up with
 |true=>
  let{i,rfl,i0,he}:=(show OH a e from ok);let q:∀z,hU (.int i) e z=true->decide (i<=z)=true:=λz hz=>by
   rcases he with rfl|⟨j,rfl,_⟩
   .exact hz
   .exact(QI.mp hz).1
  show((ks.filter λz=>decide (i<=z)).take n).filter (hU (.int i) e)=(ks.filter<|hU (.int i) e).take n;rw[iO,List.filter_filter]
  .congr 1;refine Vc λz _=>?_;cases c:hU (.int i) e z with
   |true=>rw[q z c];rfl
   |false=>rfl
  .let I:(ks.filter λz=>decide (i<=z)).Pairwise (· < ·):=List.Pairwise.filter _ r;refine List.Pairwise.imp_of_mem (λ{x y} hx hy lt G=>?_) I;let hx:=(Qt.mp hx).2;rcases he with rfl|⟨j,rfl,_⟩
   .exact hx
   .refine QI.mpr {hx,VJ ?_};have:=VH (QI.mp G).2;lia
 |false=>
  let{j,rfl,Z,ha}:=(show OJ a e from ok);let U:ks.reverse.Pairwise (λx y=>y<x):=XV.mpr r;obtain⟨k,Y,O⟩:∃k,tF false a ks=ks.reverse.filter (eO k)/\∀z,hD a (.int j) z=(decide (j<=z)&&eO k z):=by
   rcases ha with rfl|⟨i,rfl,_⟩
   .exact{none,M,λz=>(Bool.and_true _).symm}
   .exact{some i,M,λz=>M}
  rw[Y];show((ks.reverse.filter<|eO k).take n).filter (hD a<|.int j)=(ks.reverse.filter<|hD a<|.int j).take n;rw[iO,List.filter_filter]
  .congr 1;refine Vc λz _=>?_;rw[O];cases eO k z<;>cases decide (j<=z)<;>rfl
  .let I:(ks.reverse.filter<|eO k).Pairwise (λx y=>y<x):=List.Pairwise.filter _ U;refine List.Pairwise.imp_of_mem (λ{x y} hx hy lt G=>?_) I;let hx:=(Qt.mp hx).2;rw[O]at G⊢;refine QI.mpr {VJ ?_,hx};have:=VH (QI.mp G).1;lia
def Em{up:Bool}{a:V}{k':Int}(ok:if up=true then OH a e else OJ a e)(r:db ks)(h:(cx up a e ks)[i]?=some k)(h':(cx up a e ks)[i+1]?=some k'):if up=true then OH (.int<|k+1) e else OJ (.int<|k-1) e:=by
 let{hi,G}:=Q1.mp h;let{hi',z}:=Q1.mp h';let m:=(Qt.mp (G▸Zy hi:k∈cx up a e ks)).2;let m':=(Qt.mp (z▸Zy hi':k'∈cx up a e ks)).2;cases up with
 |true=>
  let{i,rfl,i0,he}:=(show OH a e from ok);let lt:k<k':=by
   have:=(Z1.mp<|List.Pairwise.filter (hU (.int i) e) r) _ _ hi hi' (ZI _);rwa[<-G,<-z]
  let m:hU (.int i) e k=true:=m;let m':hU (.int i) e k'=true:=m';rcases he with rfl|⟨j,rfl,_⟩
  .have:=VH m;exact{k+1,M,(),.inl M}
  .have:=VH (QI.mp m).1;have:=VH (QI.mp m').2;exact{k+1,M,(),.inr {j,M,()}}
 |false=>
  let{j,rfl,I,ha}:=(show OJ a e from ok);let O:ks.reverse.Pairwise (λx y=>y<x):=XV.mpr r;let lt:k'<k:=by
   have:=(Z1.mp<|List.Pairwise.filter (hD a<|.int j) O) _ _ hi hi' (ZI _);rwa[<-G,<-z]
  let m':hD a (.int j) k'=true:=m';have:j<=k':=by
   rcases ha with rfl|⟨i,rfl,_⟩
   .exact VH m'
   .exact VH (QI.mp m').1
  exact{j,M,I,.inr {k-1,M,()}}
def NxK(t:N6)(H H':Hp)(p:RC)(up:Bool)(e:V)(hs:RF)(m:Nat)(v:V):Prop:=if hs.length<=m then v= .non else if m=0 then v= .ref p else ∃(q:RC)(k:Int),hs[m-1]?=some k/\v= .ref q/\H q=none/\Oa t H' q up (.int<|if up=true then k+1 else k-1) e
def Dv{xs:RF}{x:V}(h:(xs.map V.int)[i]?=some x):∃k:Int,x= .int k/\xs[i]?=some k:=by
 rw[Qp]at h;cases e:xs[i]? with
 |none=>rw[e]at h;cases h
 |some k=>rw[e]at h;cases h;exact⟨k,M,M⟩
def yx{P:R3}{xs:RF}(e:xs[i]?=some k):(xs.take<|i+1).filter P=(xs.take i).filter P++(if P k=true then[k]else[]):=by
 rw[Qo,e,QB];by_cases c:P k=true
 .rw[VA c];simp[c]
 .rw[Vz c];simp[c]
def GX(P:R3)(xs:RF)(i:Nat):((xs.take i).filter P).length<=xs.length:=by
 let h1:=Qm P (xs.take i);let h2:(xs.take i).length<=xs.length:=by rw[Q8];lia
 lia
def Oa.same{up:Bool}{a:V}(h:Oa t H p up a e)(s:Ck H H'):Oa t H' p up a e:=by
 let{dx,fs,z,r}:=h;exact{dx,fs,s _ _ z,r}
def Oa.ok{up:Bool}{a:V}(h:Oa t H p up a e):if up=true then OH a e else OJ a e:=by
 let{dx,fs,z,G,ok}:=h;exact ok
def Gf{up:Bool}{a:V}{z:Int}(h:z∈tF up a ks):z∈ks:=by
 unfold tF at h;split at h
 .exact(Qt.mp h).1
 .exact Xd.mp (Qt.mp h).1
 .exact Xd.mp (Qt.mp h).1
def Gg{up:Bool}{a:V}:(tF up a ks).length<=ks.length:=by
 unfold tF;split
 .exact Qm _ _
 .exact Qu (Qm _ _)<|Z0 Z9
 .exact Qu (Qm _ _)<|Z0 Z9
def dHK{up:Bool}:DOr (D1 t.dE<|dC t) (D1 t.cz<|cq t) (if up=true then t.dE else t.cz) (if up=true then dC t else cq t):=by
 cases up
 .exact .inr ⟨M,M⟩
 .exact .inl ⟨M,M⟩
def Jc{up:Bool}{a:V}{E:XK}(h:H p=some (.ins (if up=true then t.dE else t.cz) dx fs))(f:xV (if up=true then "up" else Ry) fs a e)(ok:if up=true then OH a e else OJ a e)(z:0<=k)
  (q:∀H',Ck H H'->Q (.bl<|hK up a e k) H'):(if up=true then dC t else cq t) [.ref p,.int k] H Q E:=by
 cases up
 .exact⟨p,dx,fs,a,e,k,M,h,f,ok,z,q⟩
 .exact⟨p,dx,fs,a,e,k,M,h,f,ok,z,q⟩
def tS(K:Wp)(t:N6):Sp:=λvs H Q _=>∃(l p:RC)(n:Int)(up:Bool)(a e:V)(F:RE)(ks:RF),vs=[.ref l,.ref p,.int n]/\Nx K t H l F ks/\Oa t H p up a e/\ks.length<4096/\(∀k∈ks,0<=k)/\
 ∀(H':Hp)(r g:RC)(v:V),Ck H H'->H r=none->H g=none->H' r=some (.tup [.ref g,v])->H' g=some (.lst<|((cx up a e ks).take n.toNat).map V.int)->NxK t H H' p up e (cx up a e ks) n.toNat v->Q (.ref r) H'
def ug:Bs P w K mg base N8 6 t.nS t.iA [hL,eR,gt] (tS K t):=by
 refine T.wM.okl Nh λs H vs Q E hr h _=>?_;intro X;let{l,p,n,up,a,e,F,ks,rfl,L,TK,l1,k0,q}:=h;refine aj (ND 3<|aG (oC M) {_} T.Fj zX (ac HN<|ac af ag))
   (aj (FW (i:=4) M (Hc.of (M':=[eH]) (N:=[hL,eR,gt,wb,"held",z9]) (N':=[hL,eR,gt,wb,"held",z9]) (dsc:=ak eS) M M ∅) (cX<|aI (zB T) hr.mo {_} T.J6 T.BF.kp T.Ke .nil au (ac Ac<|ac E5<|ac (ao bi NJ af) ag)) (λ_ _ _ _ _=>(cE<|qN (kk:=1) (kU (dw T.iI T.mY (gR T) T.nN (_))<|dw T.cK T.jv (fc T) T.jL (_)) hr.mo HN<|ac Ac ag)) (λ_ _ _ _ _=>Ac) Nh.nd M M)
   (aj (ND 5<|gk iP Nl kM<|gP NJ)
   (aj (aU (aA cY (aG aE {_} T.bS bq (ac Nl ag)) (aG aE {_} T.bS bq (ac OP ag))<|aC _)
    (aD<|aK<|cG<|ac OP<|ac bg ag)
    aL)
   (aj (aU (aA cY (aG aE {_} T.bS bq (ac OP ag)) af<|aC _)
    (aD<|aK<|cG<|ac OP<|ac E5 ag)
    aL)
   (aw (aK<|cG<|ac OP<|ac (aI (ud T) hr.mo {_} T.Gx T.wJ.kp T.Hd .nil au (ac E5<|ac (aS aX OP (FY B0 af)<|λ_ _=>M) ag)) ag) ?_)))))
 intros
 let RK:=L.rise;refine{_,M,n,0,M,?_};obtain⟨m,em⟩:∃m:Nat,n.toNat=m:={_,M};let e0:(if(0:Int)>n then(0:Int)else n)=(m:Int):=by
  rw[<-em];split<;>lia
 rw[e0];rw[em]at q;let ok:=TK.ok;refine{_,M,_,M,_,M,_,_,M,M,l,p,(m:Int)+1,up,a,e,F,ks,M,L,TK,l1,(),λH1 g1 s1 a3 h1=>?_};rw[show((m:Int)+1).toNat=m+1 by lia]at h1;obtain⟨ns,O⟩:∃ns,(tF up a ks).take (m+1)=ns:={_,M};let fl:=Ep (n:=m+1) ok RK;rw[O]at h1 fl;let nl:ns.length<=4096:=by
  rw[<-O];let h1:=Gg (up:=up) (a:=a) (ks:=ks);rw[Q8];lia
 let n0:∀z∈ns,0<=z:=λz hz=>k0 z (Gf<|QX<|O▸hz);refine{g1,M,{_,DI.of h1},λD hD=>?_};refine iH (K:=K) (a:=g1) (xs:=ns.map V.int) (λi ys H2=>Ck H1 H2/\ys=((ns.take i).filter<|hK up a e).map V.int) {am hD,M} (λi ys H2 _ w=>DI.of<|w.1 _ _ h1) (λi x ys H2 hx w G=>?_)<|λys H2 w G=>?_
 .let{s2,ey}:=w;let hi:i<(ns.map V.int).length:=(Q1.mp hx).1;let{g,rfl,eg}:=Dv hx;let{dx,fs,hp,tf,_}:=TK.same (s1.trans s2);let a4:=GX (hK up a e) ns i;refine{_,M,p,_,dx,fs,_,M,hp,tf.ho,dHK,_,M,Jc hp tf ok (n0 g<|Q2 eg) λH3 s3=>{_,M,?_}};by_cases c:hK up a e g=true
  .rw[c];refine cC {_,M,NL.mk hi (s3 _ _ G) (a9<|by rw[ey,Q0];lia) {bT (s2.trans s3) hD,?_}};rw[ey,yx eg,VA c,Q9];rfl
  .rw[Zi.mpr c];refine dP<|Ni.mk hi (s3 _ _ G) {s2.trans s3,?_};rw[ey,yx eg,Vz c,Z6]
 let{s2,ey}:=w;rw[ey,Q0,Qw,fl]at G;clear ey h1 O fl nl n0;let U:=s1.trans s2;obtain⟨hs,Y⟩:∃hs,cx up a e ks=hs:={_,M};rw[Y]at G q;refine{_,M,_,M,(m:Int),M,D,_,M,DI.of G,λg ng=>?_};rw[rE (V3 m),<-Zv,show((m:Int)).toNat=m by lia,Vy,Zt (Zm m)];let Z:H g=none:=c7 U ng;let I:upd H2 g (.lst<|(hs.take m).map V.int) g=some (.lst<|(hs.take m).map V.int):=ai;let a0:upd H2 g (.lst<|(hs.take m).map V.int) D=some (.lst<|(hs.take<|m+1).map V.int):=by rwa[ae (al G ng)]
 let s3:=U.trans (am (o:= .lst<|(hs.take m).map V.int) ng);generalize upd H2 g (.lst<|(hs.take m).map V.int)=H3 at I a0 s3⊢;clear G ng s2 U s1 hD;refine{_,M,D,_,M,.inl<|DI.of a0,_,M,g,_,M,.inl<|DI.of I,M,_,M,?_};by_cases c:hs.length<=m
 .refine jV ?_ {_,M,(by show 2<=sizeLine;decide),λr nr=>?_}
  .rw[Qx (),Qx c]
  .refine q _ r g .non (s3.trans<|am nr) (c7 s3 nr) Z ai (by rw[ae (al I nr)];exact I) ?_;unfold NxK;rw[VA c]
 refine bz ?_ ?_
 .intro z;let z:=V.int.inj z;rw[Q0,Q0,Q8,Q8]at z;lia
 refine{_,M,g,_,M,.inl<|DI.of I,M,_,M,?_};by_cases d:m=0
 .refine jV ?_ {_,M,_,M,(by show 2<=sizeLine;decide),λr nr=>?_}
  .rw[d];rfl
  .refine q _ r g (.ref p) (s3.trans<|am nr) (c7 s3 nr) Z ai (by rw[ae (al I nr)];exact I) ?_;unfold NxK;rw[Vz c,VA d]
 refine bz ?_ ?_
 .intro z;let z:=V.int.inj z;rw[Q0,Q8]at z;lia
 obtain⟨k,ek⟩:∃k,hs[m-1]?=some k:={_,Q3 ()};obtain⟨k',a1⟩:∃k',hs[m-1+1]?=some k':={_,Q3 ()};let ob:=Em ok RK (Y▸ek) (Y▸a1);refine{_,M,_,M,_,M,_,M,g,_,_,.int k,M,M,DI.of I,?_,p,up,a,e,k,M,TK.same s3,ob,λH4 b s4 nb a2=>{(by show 2<=sizeLine;decide),λr nr=>?_}}
 .refine DN (λz=>?_) ?_
  .have:=VS List.length z;rw[Q8]at this;have:([]:RF).length=0:=M;lia
  .rwa[Q8,Zt (),Xx ()]
 refine q _ r g (.ref b) ((s3.trans s4).trans<|am nr) (c7 (s3.trans s4) nr) Z ai (by rw[ae (al (s4 _ _ I) nr)];exact s4 _ _ I) ?_;unfold NxK;rw[Vz c,Vz d];exact{b,k,ek,M,c7 s3 nb,a2.same<|am nr}
def w5(K:Wp)(t:N6):Sp:=λvs H Q _=>∃(a:RC)(k:Int)(v:V)(F:RE)(x:NF),vs=[.ref a,.int k]/\NI K t H a F x/\0<=k/\ay x.st.kv k=some v/\∀H' F',NI K t H' a F' x->Fr F F' H H'->Q v H'
def xF:Bs P w K mg base N8 5 t.rV t.lG [et,eH] (w5 K t):=by
 refine T.JH.okl xq λs H vs Q E Y h _=>?_;intro X;let{a,k,v,F,x,rfl,A,k0,U,q}:=h;refine{_,(aD<|aK<|aO (aq Ac M) T.aF T.IT (xB T) Y.mo T.Js .nil au<|ac E5 ag)
  ,?_}
 let{s,l,wr,p,h,Fs,Fl,Wn,O,g}:=A;let{dx,Z}:=Wn.o.ob;let{ds,fs,hs,hm}:=Wn.sl.ins;refine{_,M,a,_,dx,_,_,M,Z,T.aP,T.dt,wf,s,ds,fs,M,hs,hm _ ∅,_,M,s,k,Fs,x.st,M,Wn.sl,k0,λv' G H1 I S1 f1=>?_,λz=>by rw[U]at z;cases z};rw[U]at G;cases G;let{B1,g1}:=Wn.slots S1 f1;exact q H1 (ON a wr p h I Fl x.pa) {s,l,wr,p,h,I,Fl,B1,O,λ_=>Iff.rfl} λb o n e=>g1 b o (λz=>n<|(g b).mpr z) e
def NxH(t:N6)(H H':Hp)(F':RE)(p:RC)(up:Bool)(e:V)(hs:RF)(m:Nat)(v:V):Prop:=if hs.length<=m then v= .non else if m=0 then v= .ref p else ∃(q:RC)(k:Int),hs[m-1]?=some k/\v= .ref q/\H q=none/\¬F' q/\Oa t H' q up (.int<|if up=true then k+1 else k-1) e
def KI(K:Wp)(t:N6)(more:RG):Sp:=λvs H Q _=>∃(a p:RC)(n:Int)(up:Bool)(av e:V)(F:RE)(x:NF),vs=[.ref a,.ref p,.int n]++more/\NI K t H a F x/\Oa t H p up av e/\¬F p/\x.ks.length<4096/\(∀k∈x.ks,0<=k)/\
 ∀(H':Hp)(F':RE)(r g:RC)(v:V)(ts:List Tp),NI K t H' a F' x->Fr F F' H H'->PgA H H' F F' r g v ts->ts.map (·.k)=(cx up av e x.ks).take n.toNat->(∀e∈ts,ay x.st.kv e.k=some e.v)->NxH t H H' F' p up e (cx up av e x.ks) n.toNat v->Q (.ref r) H'
def lJ(K:Wp)(t:N6):Sp:=KI K t []
def NI.lvs{x:NF}(A:NI K t H a F x):∃(dx:RC)(fs:RW)(l:RC)(Fl:RE),H a=some (.ins t.a6 dx fs)/\fs.lookup (hL:Str)=some (.ref l)/\Nx K t H l Fl x.ks:=by
 let{s,l,wr,p,h,Fs,Fl,Wn,O,g}:=A;let{dx,z}:=Wn.o.ob;exact{dx,_,l,Fl,z,CG,Wn.lv}
def GP{up:Bool}{a:V}{z:Int}(h:z∈cx up a e ks):z∈ks:=by
 let h:=(Qt.mp h).1;cases up
 .exact Xd.mp h
 .exact h
def GQ{up:Bool}{a:V}:(cx up a e ks).length<=ks.length:=by
 refine Qu (Qm _ _) ?_;cases up
 .exact Z0 Z9
 .exact Q4 _
def uf:Bs P w K mg base N8 7 t.nR t.iz [nj,eR,gt] (lJ K t):=by
 refine T.wL.okl t7 λs H vs Q E hr h _=>?_;intro X;let{a,p,n,up,av,e,F,x,rfl,A,TK,np,l1,k0,q}:=h;refine aj (ND 3<|aI (ug T) hr.mo {_} T.Gz T.wM.kp T.Hf .nil au (ac (aq Ac M)<|ac E5<|ac HN ag))
   (aw (aK<|cG<|ac (iS M (Hc.of (M':=[eH]) (N:=[nj,eR,gt,z9]) (N':=[nj,eR,gt,z9]) (dsc:=ak eQ) M M ∅) (cX<|aS bE NJ af<|λ_ _=>M)<|λ_ _ _ _ _=>(cG<|ac Ac<|ac (aO E5 T.aP T.IW (xF T) hr.mo T.Jw .nil au<|ac Ac ag) ag))<|ac (aS bE NJ af<|λ_ _=>M) ag) ?_)
 intros
 let{dx,fs,l,Fl,ho,hl,L}:=A.lvs;refine{_,M,a,_,dx,fs,_,M,ho,T.aP,T.gB,hl,_,M,_,M,l,p,n,up,av,e,Fl,x.ks,M,L,TK,l1,k0,λH1 r1 g1 v s1 a4 a5 a1 U nx=>?_};let A1:=A.same s1;let f1:Fr F F H H1:=Fr.of_same s1;clear TK;obtain⟨pk,Y⟩:∃pk,(cx up av e x.ks).take n.toNat=pk:={_,M};let pm:∀z∈pk,z∈x.ks:=λz hz=>GP (QX<|Y▸hz);let pl:pk.length<=4096:=by
  have:=GQ (up:=up) (a:=av) (e:=e) (ks:=x.ks);rw[<-Y,Q8];lia
 rw[Y]at U q;refine{_,M,r1,_,_,_,M,M,Na.of a1,M,g1,M,{_,DI.of U},λD hD=>?_};refine oA (K:=K) (a:=g1) (xs:=pk.map V.int) (λi ys H2=>∃(G:RE)(ts:List Tp),NI K t H2 a G x/\Fr F G H1 H2/\¬G D/\ys=ts.map (λe=>V.ref e.p)/\ts.map (·.k)=pk.take i/\∀e∈ts,H2 e.p=some (.tup [.int e.k,e.v])/\¬G e.p/\ay x.st.kv e.k=some e.v) {F,[],A1.same<|am hD,Fr.of_same<|am hD,A1.out hD,M,M,λe he=>VE he Zc} (λi ys H2 _ w=>?_) (λi y ys H2 hy w I=>?_)<|λys H2 w I=>?_
 .let{G,ts,A2,O,_}:=w;exact DI.of (O _ _ (A.out a5) U).1
 .let{G,ts,A2,O,nD,ey,Z,tu}:=w;let hi:i<(pk.map V.int).length:=(Q1.mp hy).1;let{k,rfl,hk}:=Dv hy;let km:=pm k (Q2 hk);let{v2,a2}:=Xw.mp ((A1.ok.ks k).mp km);let{d2,a6,aa,ab,_}:=A2.ins;refine{_,M,_,M,a,d2,a6,M,aa,ab _ ∅,_,M,a,k,v2,G,x,M,A2,k0 k km,a2,λH3 F3 A3 f3=>{(by show 2<=sizeLine;decide),λb nb=>?_}};let{ah,a3}:=f3 _ _ nD I;let sb:Ck H3 (upd H3 b<|.tup [.int k,v2]):=am nb;let hb:upd H3 b (.tup [.int k,v2]) b=some (.tup [.int k,v2]):=ai;generalize upd H3 b (.tup [.int k,v2])=H4 at sb hb⊢;let A4:=A3.same sb;let an:=A3.out nb;let f4:Fr F F3 H1 H4:=O.trans (f3.trans<|Fr.of_same sb);let a0:=sb _ _ ah;let tl:ts.length<=4096:=by
   have:=VS List.length Z;rw[Q0,Q8]at this;lia
  refine NL.mk hi a0 (a9<|by rw[ey,Q0];lia) {F3,ts++ [⟨b,k,v2⟩],A4.upd a3 (λxs z=>by rw[a0]at z;cases z),λc o n e=>{by rw[ae (al e hD)];exact(f4 c o n e).1,(f4 c o n e).2},a3,by rw[ey,Q9];rfl,by rw[Q9,Z,Qo,hk];rfl,λe he=>?_};let key:H4 e.p=some (.tup [.int e.k,e.v])/\¬F3 e.p/\ay x.st.kv e.k=some e.v:=by
   rcases Q5.mp he with he|he
   .let{t1,t2,t3}:=tu e he;let{t4,t5}:=f3 _ _ t2 t1;exact{sb _ _ t4,t5,t3}
   .rw[Q7.mp he];exact⟨hb,an,a2⟩
  refine{?_,key.2};rw[ae (λz=>by rw[z,a0]at key;cases key.1)];exact key.1
 let{G,ts,A2,O,nD,ey,Z,tu}:=w;rw[ey]at I;rw[Q0,Qw]at Z;let ax:=O _ _ (A.out a4) a1;refine{_,M,r1,_,_,_,M,M,Na.of ax.1,M,(by show 2<=sizeLine;decide),λr nr=>?_};let s3:Ck H2 (upd H2 r<|.tup [.ref D,v]):=am nr;let hr:upd H2 r (.tup [.ref D,v]) r=some (.tup [.ref D,v]):=ai;let nF:=A2.out nr;generalize upd H2 r (.tup [.ref D,v])=H3 at s3 hr⊢;let f3:Fr F G H H3:=f1.trans (O.trans<|Fr.of_same s3);refine q H3 G r D v ts (A2.same s3) f3 {hr,s3 _ _ I,λe he=>{s3 _ _ (tu e he).1,(tu e he).2.1},{λz=>?_,nF},{λ_=>c7 s1 hD,nD}} Z (λe he=>(tu e he).2.2) ?_
 .cases eo:H r with
  |none=>rfl
  |some o=>rw[((f1.trans O) _ _ z eo).1]at nr;cases nr
 .unfold NxK at nx;unfold NxH;by_cases c:(cx up av e x.ks).length<=n.toNat
  .rw[VA c]at nx⊢;exact nx
  .rw[Vz c]at nx⊢;by_cases d:n.toNat=0
   .rw[VA d]at nx⊢;exact nx
   .rw[Vz d]at nx⊢;let{b,k,Z,ev,nb,dy,fy,hy,ry}:=nx;let{h2,n2}:=O _ _ (A.out nb) hy;exact{b,k,Z,ev,nb,n2,dy,fy,s3 _ _ h2,ry}
noncomputable def wN(Wo j r:Int):Int:=if j<(r/Wo+1)*Wo then j else(r/Wo+1)*Wo
def aZ(Wo j i:Int):Nat->Int
 |0=>i
 |n+1=>wN Wo j (aZ Wo j i n)
def FC{j r:Int}(z:0<Wo)(h:r<j):r<wN Wo j r/\wN Wo j r<=j:=by
 have:=Xl r z;unfold wN;split<;>lia
def qL{Wo j i:Int}(G:0<Wo)(h:i<=j):∀n:Nat,(∀x<n,aZ Wo j i x<j)->i<=aZ Wo j i n/\aZ Wo j i n<=j/\(0<n->wN Wo j i<=aZ Wo j i n)
 |0,_=>{Zn _,h,λz=>VE z (_)}
 |n+1,w=>by
  let{a,b,c}:=qL G h n λx hx=>w x ();let{d,e}:=FC G (w n ());refine{show i<=wN Wo j (aZ Wo j i n) by lia,e,λ_=>?_};cases n with
  |zero=>exact Zn _
  |succ m=>exact X8 (c ()) (XG d)
structure OZ(st:Hm)(lo hi:Int)(ps:RH):Prop where
 so:ps.Pairwise Cq
 me:∀k v,(k,v)∈ps↔(k,v)∈st.kv/\lo<=NP k/\NP k<hi
def OZ.app(h:OZ st lo m ps)(g:OZ st m hi qs)(l1:lo<=m)(G:m<=hi):OZ st lo hi (ps++qs):=by
 refine{Ql.mpr {h.so,g.so,λx hx y hy=> .inl ?_},λk v=>?_}
 .let a:=((h.me x.1 x.2).mp hx).2;let b:=((g.me y.1 y.2).mp hy).2;lia
 .rw[Q5,h.me,g.me];constructor
  .rintro (⟨x,y,z⟩|⟨x,y,z⟩)
   .exact{x,y,()}
   .exact{x,(),z}
  .rintro ⟨x,y,z⟩;by_cases d:NP k<m
   .exact .inl ⟨x,y,d⟩
   .exact .inr {x,(),z}
def OZ.uniq(h:OZ st lo hi ps)(g:OZ st lo hi qs):ps=qs:=by
 let nd:∀{l:RH},l.Pairwise Cq->l.Nodup:=λw=>w.imp λ{a b} z e=>by
  rw[e]at z;unfold Cq at z;lia
 refine List.Perm.eq_of_pairwise (λx y _ _ h1 h2=>?_) h.so g.so<|(Xs (nd h.so)<|nd g.so).mpr λx=>(h.me x.1 x.2).trans (g.me x.1 x.2).symm;unfold Cq at h1 h2;lia
def OZ.len(h:OZ st lo hi ps):ps.length<=st.kv.length:=by
 refine gl (h.so.imp λ{a b} z e=>?_) λx hx=>((h.me x.1 x.2).mp hx).1;rw[e]at z;unfold Cq at z;lia
structure PgS(st:Hm)(i j n:Int)(m:Nat)(ps:RH):Prop where
 rw:OZ st i (aZ (65536/st.low) j i m) ps
 go:∀x<m,aZ (65536/st.low) j i x<j
 le:∀x,0<x->x<m->∀qs,OZ st i (aZ (65536/st.low) j i x) qs->(qs.length:Int)<n/\(x:Int)<4*n
 st:aZ (65536/st.low) j i m=j\/(0<m/\(n<=ps.length\/4*n<=m))
def PZ(t:N6)(H:Hp)(p:RC)(i j:Int):Prop:=∃(dx:RC)(fs:RW),H p=some (.ins t.aQ dx fs)/\xV wG fs (.int i) (.int j)/\0<=i/\i<=j/\j<=65536
def PZ.fr{i j:Int}(h:PZ t H p i j)(n:¬F p)(f:Fr F F' H H'):PZ t H' p i j/\¬F' p:=by
 let{dx,fs,z,r}:=h;exact{{dx,fs,(f _ _ n z).1,r},(f _ _ n z).2}
def PR(t:N6)(H H':Hp)(F F':RE)(r j:Int)(v:V):Prop:=if r=j then v= .non else ∃q:Addr,v= .ref q/\(¬F q->H q=none)/\¬F' q/\PZ t H' q r j
def sf(K:Wp)(t:N6):Sp:=λvs H Q _=>∃(a p:RC)(n i j:Int)(F:RE)(st:Hm),vs=[.ref a,.ref p,.int n]/\NW K t H a F st/\PZ t H p i j/\¬F p/\1<=n/\n<=1000/\st.kv.length<4096/\(∀p∈st.kv,∃i:Int,p.2= .int i)/\
 ∀(H':Hp)(F':RE)(r g:RC)(v:V)(ts:List Tp)(m:Nat),NW K t H' a F' st->Fr F F' H H'->PgA H H' F F' r g v ts->PgS st i j n m (ts.map Tp.kv)->PR t H H' F F' (aZ (65536/st.low) j i m) j v->Q (.ref r) H'
structure PH(K:Wp)(t:N6)(H H':Hp)(a p l:RC)(F F':RE)(st:Hm)(i j:Int)(m:Nat)(ts:List Tp):Prop where
 sl:NW K t H' a F' st
 fr:Fr F F' H H'
 tk:PZ t H' p i j
 np:¬F' p
 ol:¬F' l
 li:H' l=some (.lst<|ts.map λe=>V.ref e.p)
 tu:∀e∈ts,H' e.p=some (.tup [.int e.k,e.v])/\¬F' e.p
 rw:OZ st i (aZ (65536/st.low) j i m) (ts.map Tp.kv)
 go:∀x<m,aZ (65536/st.low) j i x<j
def PH.move{l:RC}{F1:RE}{i j:Int}{m:Nat}(h:PH K t H H' a p l F F' st i j m ts)(s1:NW K t H1 a F1 st)(z:Fr F' F1 H' H1):PH K t H H1 a p l F F1 st i j m ts:=
 {s1,h.fr.trans z,(h.tk.fr h.np z).1,(h.tk.fr h.np z).2,(z _ _ h.ol h.li).2,(z _ _ h.ol h.li).1,λe he=>z _ _ (h.tu e he).2 (h.tu e he).1,h.rw,h.go}
def sI:Bs P w K mg base N8 5 t.lO t.gG [wG,eR,gt] (sf K t):=by
 let{I,G}:=T.g_STRETCHES_A_KEY;refine T.uu.okl Nc λs H vs Q E hr h _=>?_;intro X;let{a,p,n,i,j,F,st,rfl,hA,TK,np,n1,n2,l4,iv,q}:=h;refine aj (ND 3<|cH ag)
   (aj (ND 4<|aq E5 M)
   (aj (ND 5 af)
   (bV (λx=>(mK VP (aA eI Nl (aq E5 M)<|aC _)
    x)) ?_)))
 refine aj (ND 6<|aG (oB M) {_} T.Aj tj (ac (aO Ac T.aF T.xJ (mP T) hr.mo T.xQ .nil au<|ac Nl ag)<|ac (aq E5 M) ag))
   (aj (aN<|dO Qq ZO ZP oq NJ<|ac (aO Ac T.aF T.Hv (vB T) hr.mo T.HE .nil au<|ac Nl<|ac P7 ag) ag)
   (aj (ND 4 P7)
   (aj (Cn (i:=5) Nc.nd M (Or.inl M) af GK)
   (aw (aU (PW.pt<|qM (aA yg (aG aE {_} T.bS bq (ac NJ ag)) HN<|aC _)<|mF<|aA yg OP (ao cI (cm (v:= .int 4) {_} G {_,M}) HN)<|aC _)
    (aD FX)
    aL) ?_))))
 intros
 refine aj (aU (aA cY Nl (aq E5 M)<|aC _)
    (aD<|aK<|cG<|ac NJ<|ac bg ag)
    aL)
   (aw (aK<|cG<|ac NJ<|ac (gQ T.vO (fR T) hr.mo {_} T.kP T.lN .nil au (ac Nl<|ac (aq E5 M) ag)) ag) ?_)
 intros
 let z:N9 st:=let⟨_,_,_,_,_,z⟩:=hA;z
 let{s4,Z}:=bO (gF z);let{_,_,R}:=vn (gF z);let W0:=R.wpos';let{dx,fs,O,tf,i0,ij,j1}:=id TK;refine{Qf _,λl nl=>?_};let W1:PH K t H (upd H l<|.lst []) a p l F F st i j 0 []:={hA.new nl,Fr.of_same<|am nl,{dx,fs,by rwa[ae (al O nl)],tf,i0,ij,j1},np,hA.out nl,ai,(λe he=>by cases he),{VV,λk v=>{λh=>by(cases h),λh=>by have:=h.2;simp only[aZ]at this;lia}},λx hx=>VE hx<|Vm x};refine{_,M,p,_,dx,fs,_,M,by rwa[ae (al O nl)],T.bL,T.ju,tf.at_,?_}
 cbv
 generalize upd H l (.lst [])=H1 at W1⊢;clear O tf dx fs;show yX (Fz _ _) _ _ _ H1;refine dU (λW H'=>∃(F':RE)(m:Nat)(ts:List Tp)(Y:RX),W=[some (.ref a),some (.ref p),some (.int n),some (.ref l),some (.int<|aZ (65536/st.low) j i m),some (.int m),Y]/\PH K t H H' a p l F F' st i j m ts/\PgS st i j n m (ts.map Tp.kv)) (λnx go=>?_)<|λW H2 w=>?_
 .refine{λmm W H'=>∃(F':RE)(m:Nat)(ts:List Tp)(Y:RX),mm=(j-aZ (65536/st.low) j i m).toNat/\W=[some (.ref a),some (.ref p),some (.int n),some (.ref l),some (.int<|aZ (65536/st.low) j i m),some (.int m),Y]/\PH K t H H' a p l F F' st i j m ts/\(∀x,0<x->x<=m->∀qs,OZ st i (aZ (65536/st.low) j i x) qs->(qs.length:Int)<n/\(x:Int)<4*n),{_,F,0,[],none,M,M,W1,λx x0 xm=>VE x0 ()},λmm W H' w=>?_};let{F',m,ts,Y,rfl,a6,w,lt}:=w;subst a6;let{dx,fs,O,tf,_}:=id w.tk;let{r0,r1,_}:=qL W0 ij m w.go;refine{_,M,_,M,p,_,dx,fs,_,M,O,T.bL,T.cu,tf.end_,_,_,M,M,_,M,cT (λc=>?_)<|λc=>?_}
  .let c:=VH c;let{r2,r3}:=FC W0 c;refine{λa2 H2=>∃(F2:RE)(a0:List Tp)(Y:RX),a2=[some (.ref a),some (.ref p),some (.int n),some (.ref l),some (.int<|aZ (65536/st.low) j i<|m+1),some (.int (m+1:Nat)),Y]/\PH K t H H2 a p l F F2 st i j (m+1) a0/\(a0.length:Int)<n/\((m+1:Nat):Int)<4*n,λa2 H2 g=>?_,?_}
   .let{F2,a0,Y,e,w2,b1,b2}:=g;refine{_,?_,F2,m+1,a0,Y,M,e,w2,λx x0 xm qs hq=>?_}
    .show(j-wN (65536/st.low) j (aZ (65536/st.low) j i m)).toNat<_;lia
    .rcases V4 xm with xm|rfl
     .exact lt x x0 () qs hq
     .rw[hq.uniq w2.rw,Q0];exact⟨b1,b2⟩
   let{aa,ab,ah,an}:=w.sl.ins;refine{_,M,a,aa,ab,M,ah,an _ ∅,_,M,a,_,F',st,M,w.sl,(),(),λH2 F2 s2 f2=>?_};let w2:=w.move s2 f2;let{ax,b3,b4,b5,_}:=id w2.tk;refine{_,M,p,_,ax,b3,_,M,b4,T.bL,T.cu,b5.end_,_,_,M,?_}
   cbv
   change fj 6 (V.int<|aZ (65536/st.low) j i<|m+1) _ _ _;let{bb,bd,be,bl}:=w2.sl.ins;refine{_,M,.inl {M,_,DI.of w2.li},_,M,a,bb,bd,M,be,bl _ ∅,_,M,_,M,a,_,_,F2,st,M,w2.sl,l4,iv,λH3 F3 l1 ts1 s3 f3 o3 n3 e3 u3 bo bt=>?_};let U:=w2.move s3 f3;let a1:OZ st i (aZ (65536/st.low) j i<|m+1) ((ts++ts1).map Tp.kv):=by
    rw[Q9];exact U.rw.app ⟨bo,bt⟩ r0<|XG r2
   let ln:=a1.len;rw[Q0,Q6]at ln;let a3:∀{p:RC}{xs:RG},H3 p=some (.tup xs)->p≠l:=λ{p xs} e z=>by rw[z,U.li]at e;cases e
   let w4:PH K t H (upd H3 l<|.lst<|ts.map (λe=>V.ref e.p)++ts1.map (λe=>V.ref e.p)) a p l F F3 st i j (m+1) (ts++ts1):=by
    refine{U.sl.upd U.ol,U.fr.upd_new λ_=>nl,?_,U.np,U.ol,by rw[ai,Q9],λe he=>?_,a1,λx hx=>?_}
    .let{dx,fs,O,r}:=U.tk;exact{dx,fs,by rwa[ae λz=>by rw[z,U.li]at O;cases O],r}
    .rcases Q5.mp he with he|he
     .exact{by rw[ae (a3 (U.tu e he).1)];exact(U.tu e he).1,(U.tu e he).2}
     .exact{by rw[ae (a3 (u3 e he).1)];exact(u3 e he).1,(u3 e he).2}
    .rcases V4 (Nat.le_of_lt_succ hx)with hx|rfl
     .exact w.go x hx
     .exact c
   refine{l,l1,_,_,M,M,U.li,e3,by rw[Q0,Q0];exact QU<|a9 (),?_}
   cbv
   generalize upd H3 l (.lst<|ts.map (λe=>V.ref e.p)++ts1.map (λe=>V.ref e.p))=H4 at w4⊢;let pg:(n<=((ts++ts1).length:Int)\/4*n<=((m+1:Nat):Int))->PgS st i j n (m+1) ((ts++ts1).map Tp.kv):=λo=>{a1,w4.go,λx x0 xm=>lt x x0 (),.inr {Nat.succ_pos m,by rw[Q0];exact o}};refine{_,M,_,M,_,_,M,M,?_}
   cbv
   let em:((m:Int)+1)=((m+1:Nat):Int):=();rw[em];refine{_,M,l,_,M,.inl<|DI.of w4.li,_,M,_,_,M,M,_,M,cT (λc1=>?_)<|λc1=>?_}
   .let c1:=VH c1;rw[Q0]at c1;exact cC<|go _ _ {F3,m+1,ts++ts1,_,M,w4,pg<|.inl c1}
   refine{_,M,_,M,_,_,M,M,.inl {(_),(_)},_,_,M,M,_,M,cT (λc2=>?_)<|λc2=>?_}
   .exact go _ _ {F3,m+1,ts++ts1,_,M,w4,pg<|.inr (VH c2)}
   .let c1:¬n<=(((ts++ts1).map λe=>V.ref e.p).length:Int):=λy=>c1 (VJ y);let c2:¬4*n<=((m+1:Nat):Int):=λy=>c2 (VJ y);rw[Q0]at c1;exact{F3,ts++ts1,_,M,w4,(),()}
  .let c:¬aZ (65536/st.low) j i m<j:=λy=>c (VJ y);exact go _ _ {F',m,ts,Y,M,w,w.rw,w.go,λx x0 xm=>lt x x0 (),.inl ()}
 let{F2,m,ts,Y,rfl,w,pg}:=w;let{r0,r1,_}:=qL W0 ij m w.go;let{dx,fs,O,tf,_}:=id w.tk;refine{_,M,_,M,p,_,dx,fs,_,M,O,T.bL,T.cu,tf.end_,M,_,M,cT (λc=>?_)<|λc=>?_}
 .let c:aZ (65536/st.low) j i m=j:=V.int.inj (VH c);refine{_,M,(by show 2<=sizeLine;decide),λr nr=>?_};let Z:=am (o:= .tup [.ref l,.non]) nr;refine q _ F2 r l .non ts m (w.sl.new nr) (w.fr.trans<|Fr.of_same Z) {ai,Z _ _ w.li,λe he=>{Z _ _ (w.tu e he).1,(w.tu e he).2},{λnF=>rj w.fr nF nr,w.sl.out nr},{λ_=>nl,w.ol}} pg ?_;unfold PR;rw[VA c]
 .let c:¬aZ (65536/st.low) j i m=j:=λz=>c (VJ<|by rw[z]);let ok:PY (.int<|aZ (65536/st.low) j i m) (.int j):={_,_,M,M,(),(),j1};refine{_,M,_,M,_,M,p,_,dx,fs,_,M,O,T.bL,T.cu,tf.end_,λx dr nx nd bw=>?_};refine{x,dr,_,_,M,ai,T0 _,T0 _,λ_ H' fs' a4 h' bv=>{M,(by show 2<=sizeLine;decide),λr nr=>?_},λz=>VE ok z};let Z:Ck H2 (upd H' r<|.tup [.ref l,.ref x]):=(oh nx nd a4).trans (am nr);let a5:H2 r=none:=c7 (oh nx nd a4) nr;let xr:x≠r:=λz=>by rw[z,nr]at h';cases h'
  refine q _ F2 r l (.ref x) ts m (w.sl.same Z) (w.fr.trans<|Fr.of_same Z) {ai,Z _ _ w.li,λe he=>{Z _ _ (w.tu e he).1,(w.tu e he).2},{λnF=>rj w.fr nF a5,w.sl.out a5},{λ_=>nl,w.ol}} pg ?_;unfold PR;rw[Vz c];exact{x,M,λnF=>rj w.fr nF nx,w.sl.out nx,dr,fs',by rwa[ae xr],bv,(),(),j1}
def OK.newb{s l w h:RC}{Fs Fs' Fl:RE}{x:NF}(Wn:OK K t H a s l w p h Fs Fl x)(n:¬Fs b->H b=none)(n':¬Fs' b):¬ON a w p h Fs' Fl x.pa b:=λz=>by
 rcases z with z|z|z
 .exact n' z
 .let{o,e}:=Wn.lv.dom z;rw[n λy=>Wn.a1 b y z]at e;cases e
 .let{o,e,_}:=Wn.o.dom z;rw[n (Wn.a2 b z)]at e;cases e
noncomputable def Oh:V->Int
 | .int i=>i|_=>0
def Tell(st:Hm)(ks:RF)(kd n:Int)(av e:V)(ps:RH)(r:RX):Prop:=
 (kd=0/\∃m,PgS st (Oh av) (Oh e) n m ps/\r=if aZ (65536/st.low) (Oh e) (Oh av) m=Oh e then none else some (.int<|aZ (65536/st.low) (Oh e) (Oh av) m))\/
 ∃up:Bool,kd=(if up=true then 1 else 2)/\ps.map (·.1)=(cx up av e ks).take n.toNat/\(∀p∈ps,ay st.kv p.1=some p.2)/\r=if(cx up av e ks).length<=n.toNat then none else((cx up av e ks)[n.toNat-1]?).map λk=> .int (if up=true then k+1 else k-1)
structure BJ(t:N6)(H':Hp)(F':RE)(st:Hm)(kd n:Int)(av e v:V)(ts:List Tp)(a':V)(R:R3):Prop where
 rest:(v= .non/\R=λ_=>false)\/∃q:Addr,v= .ref q/\NM t H' q kd a' e/\O6 kd a' e/\¬F' q/\R=hN kd a' e/\(kd=0->Oh av<=Oh a')
 less:∀k,0<=k->R k=true->hN kd av e k=true
 nd:(ts.map (·.k)).Nodup
 me:∀k v,(k,v)∈ts.map Tp.kv↔(k,v)∈st.kv/\hN kd av e k=true/\R k=false
 tell:∀ks,db ks->(∀z,z∈ks↔(ay st.kv z).isSome=true)->Tell st ks kd n av e (ts.map Tp.kv) (if v= .non then none else some a')
 far:v= .non\/n<=ts.length\/(kd=0/\Oh av/(65536/st.low)+4*n<=Oh a'/(65536/st.low))
def yd{Wo j i:Int}(z:0<Wo):∀m:Nat,(∀x≤m,aZ Wo j i x≠j)->aZ Wo j i m/Wo=i/Wo+m
 |0,_=>(Int.add_zero _).symm
 |m+1,h=>by
  let G:=yd z m λx hx=>h x ();let e:aZ Wo j i (m+1)=(aZ Wo j i m/Wo+1)*Wo:=by
   have:=h (m+1) (Q4 _);show wN Wo j (aZ Wo j i m)=_;change wN Wo j (aZ Wo j i m)≠j at this;unfold wN at this⊢;split
   .rw[VA (by assumption)]at this;exact VE M this
   .rfl
  rw[e,V2 _ (QY z),G];lia
def zK{i j:Int}:hN 0 (.int i) (.int j) k=true↔i<=NP k/\NP k<j:=by
 show(decide (i<=tz (k%65536))&&decide (tz (k%65536)<j))=true↔_;rw[QA,VO,VO];exact Iff.rfl
def CN{n i j:Int}{m:Nat}(G:0<65536/st.low)(i0:0<=i)(O:i<=j)(g:PgS st i j n m (ts.map Tp.kv))(x:PR t H H' F F' (aZ (65536/st.low) j i m) j v):∃a' R,BJ t H' F' st 0 n (.int i) (.int j) v ts a' R:=by
 let{r1,r2,_}:=qL G O m g.go;let nd:(ts.map (·.k)).Nodup:=by
  refine QK.mpr<|(QK.mp g.rw.so).imp λ{a b} h e=>?_;let h:NP a.k<NP b.k\/(NP a.k=NP b.k/\a.k<b.k):=h;rw[e]at h;lia
 unfold PR at x;by_cases ej:aZ (65536/st.low) j i m=j
 .rw[VA ej]at x;refine{.non,λ_=>false,.inl ⟨x,M⟩,λk _ h=>VE h Qc,nd,λk v=>?_,(λks _ _=> .inl {M,m,g,by rw[VA x];exact(VA ej).symm}),.inl x};rw[g.rw.me,ej,zK];exact{λh=>⟨h.1,h.2,M⟩,λh=>⟨h.1,h.2.1⟩}
 .rw[Vz ej]at x;let{q,I,_,U,dx,fs,hq,Y,Z,q1,q2}:=x;refine{_,hN 0 (.int<|aZ (65536/st.low) j i m)<|.int j,.inr {q,I,⟨dx,fs,hq,Y⟩,.inl {M,_,_,M,M,Z,q1,q2},U,M,λ_=>r1},λk _ h=>?_,nd,λk v=>?_,(λks _ _=> .inl {M,m,g,by rw[Vz λz=>by rw[I]at z;cases z];exact(Vz ej).symm}),?_}
  .rw[zK]at h⊢;lia
  .rw[g.rw.me,zK,<-Bool.not_eq_true,zK];constructor
   .rintro ⟨h1,h2,h3⟩;exact{h1,{h2,()},()}
   .rintro ⟨h1,⟨h2,h3⟩,h4⟩;exact{h1,h2,()}
  .rcases g.st with z|⟨_,z|z⟩
   .exact VE z ej
   .rw[Q0]at z;exact .inr<|.inl z
   .refine .inr<|.inr {M,?_};let ne:∀x≤m,aZ (65536/st.low) j i x≠j:=λx hx=>by
     rcases V4 hx with h|rfl
     .have:=g.go x h;lia
     .exact ej
    show i/(65536/st.low)+4*n<=aZ (65536/st.low) j i m/(65536/st.low);rw[yd G m ne];lia
def xu(up:Bool)(x y:Int):Prop:=if up=true then x<y else y<x
def GO{up:Bool}{a:V}(r:db ks):(cx up a e ks).Pairwise (xu up):=by
 unfold cx xu;cases up
 .exact List.Pairwise.filter _<|XV.mpr r
 .exact List.Pairwise.filter _ r
def OB{up:Bool}{a:V}{z:Int}:z∈cx up a e ks↔z∈ks/\hK up a e z=true:=by
 unfold cx;rw[Qt];cases up
 .rw[Vz Qc,Xd]
 .rw[VA M]
def Fw{up:Bool}{l:RF}{m:Nat}{z:Int}(r:l.Pairwise (xu up))(h:l[m-1]?=some k)(I:1<=m):z∈l.take m↔z∈l/\(z=k\/xu up z k):=by
 let w:=Z1.mp r;let{hk,G}:=Q1.mp h;let as:∀{x y:Int},xu up x y->¬(y=x\/xu up y x):=λ{x y} h1 h2=>by
  unfold xu at h1 h2;cases up
  .rw[Vz Qc]at h1 h2;lia
  .rw[VA M]at h1 h2;lia
 constructor
 .intro hz;let{i,hi,e}:=QC hz;rw[Q8]at hi;rw[ZG]at e;refine{QX hz,?_};rcases XH i (m-1)with c|c
  .have:=w i (m-1) () hk c;rw[e,G]at this;exact .inr this
  .have:i=m-1:=();subst this;exact .inl<|e.symm.trans G
 .rintro ⟨hz,o⟩;let{i,hi,rfl}:=QC hz;rcases XH i m with c|c
  .exact List.mem_take_iff_getElem.mpr {i,(),M}
  .have:=w (m-1) i hk hi ();rw[G]at this;exact VE o<|as this
def Kt{up:Bool}{a:V}(h:Oa t H p up a e):NM t H p (if up=true then 1 else 2) a e/\O6 (if up=true then 1 else 2) a e:=by
 let{dx,fs,z,G,ok}:=h;cases up
 .exact{⟨dx,fs,z,G⟩,.inr<|.inr ⟨M,ok⟩}
 .exact{⟨dx,fs,z,G⟩,.inr<|.inl ⟨M,ok⟩}
def Lx{up:Bool}:hN (if up=true then 1 else 2)=hK up:=by cases up<;>rfl
def wz{up:Bool}{a:V}{z:Int}(ok:if up=true then OH a e else OJ a e)(hk:hK up a e k=true):hK up (.int<|if up=true then k+1 else k-1) e z=true↔hK up a e z=true/\¬(z=k\/xu up z k):=by
 unfold xu;cases up with
 |true=>
  rw[VA M,VA M];let{i,rfl,i0,he}:=(show OH a e from ok);rcases he with rfl|⟨j,rfl,_⟩
  .let h1:=VH (show decide (i<=k)=true from hk);show decide (k+1<=z)=true↔decide (i<=z)=true/\_;rw[VO,VO];lia
  .let h1:=VH (QI.mp<|show(decide (i<=k)&&decide (k<j))=true from hk).1;show(decide (k+1<=z)&&decide (z<j))=true↔(decide (i<=z)&&decide (z<j))=true/\_;rw[QA,QA,VO,VO,VO];lia
 |false=>
  rw[Vz Qc,Vz Qc];let{j,rfl,G,ha}:=(show OJ a e from ok);rcases ha with rfl|⟨i,rfl,_⟩
  .show(decide (j<=z)&&decide (z<=k-1))=true↔decide (j<=z)=true/\_;rw[QA,VO,VO];lia
  .let h1:=VH (QI.mp<|show(decide (j<=k)&&decide (k<=i))=true from hk).2;show(decide (j<=z)&&decide (z<=k-1))=true↔(decide (j<=z)&&decide (z<=i))=true/\_;rw[QA,QA,VO,VO,VO];lia
def E3{n:Int}{up:Bool}(nd:(st.kv.map (·.1)).Nodup)(r:db ks)(mk:∀z,z∈ks↔(ay st.kv z).isSome=true)(n1:1<=n)(ok:if up=true then OH av e else OJ av e)
  (Y:ts.map (·.k)=(cx up av e ks).take n.toNat) (Z:∀e∈ts,ay st.kv e.k=some e.v) (x:NxH t H H' F' p up e (cx up av e ks) n.toNat v):∃a' R,BJ t H' F' st (if up=true then 1 else 2) n av e v ts a' R:=by
 let ho:=GO (up:=up) (a:=av) (e:=e) r;let I:(ts.map (·.k)).Nodup:=by
  rw[Y];refine(ho.sublist<|Xu _ _).imp λ{a b} h e=>?_;unfold xu at h;rw[e]at h;split at h<;>lia
 let me:∀(k:Int)(v:V),(k,v)∈ts.map Tp.kv↔(k,v)∈st.kv/\k∈(cx up av e ks).take n.toNat:=λk v=>by
  rw[<-Y,Qe,Qe];constructor
  .rintro ⟨d,hd,h1⟩;let h2:d.k=k:=VS Prod.fst h1;let O:d.v=v:=VS Prod.snd h1;have:=bc (Z d hd);rw[h2,O]at this;exact⟨this,d,hd,h2⟩
  .rintro ⟨h1,d,hd,rfl⟩;have:=Z d hd;rw[br nd h1]at this;exact{d,hd,by unfold Tp.kv;rw[VB this]}
 let ik:∀{k:Int}{v:V},(k,v)∈st.kv->k∈ks:=λh=>(mk _).mpr (by rw[br nd h];rfl);let tl:∀{r:RX},(r=if(cx up av e ks).length<=n.toNat then none else((cx up av e ks)[n.toNat-1]?).map λk=> .int<|if up=true then k+1 else k-1)->∀G,db G->(∀z,z∈G↔(ay st.kv z).isSome=true)->Tell st G (if up=true then 1 else 2) n av e (ts.map Tp.kv) r:=λ{q} hq G r' mk'=>by
  let e1:G=ks:=AE r' r λz=>(mk' z).trans (mk z).symm;subst e1;refine .inr {up,M,by rwa[QP],λp hp=>?_,hq};let{d,hd,rfl}:=Qe.mp hp;exact Z d hd
 unfold NxH at x;split at x
 .refine{.non,λ_=>false,.inl ⟨x,M⟩,λk _ h=>VE h Qc,I,λk v=>?_,tl (by rw[VA x,VA (by assumption)]),.inl x};rw[me,Qx (by assumption),OB,Lx];exact{λh=>⟨h.1,h.2.2,M⟩,λh=>{h.1,ik h.1,h.2.1}}
 .rw[Vz ()]at x;let{q,k0,h0,U,_,nq,TQ}:=x;let hk:=(OB.mp<|Q2 h0).2;let{t1,t2}:=Kt TQ;refine{_,hN (if up=true then 1 else 2) (.int<|if up=true then k0+1 else k0-1) e,.inr {q,U,t1,t2,nq,M,λz=>by cases up<;>cases z},λk _ h=>?_,I,λk v=>?_,tl (by rw[Vz (show ¬v= .non from λz=>by rw[U]at z;cases z),Vz (show ¬(cx up av e ks).length<=n.toNat by assumption),h0];rfl),.inr<|.inl ?_}
  .rw[Lx]at h⊢;exact((wz ok hk).mp h).1
  .rw[me,Fw ho h0 (),OB,Lx,<-Bool.not_eq_true,wz ok hk];constructor
   .rintro ⟨h1,⟨_,h2⟩,O⟩;exact{h1,h2,λz=>z.2 O}
   .rintro ⟨h1,h2,O⟩;exact{h1,{ik h1,h2},Classical.byContradiction λz=>O ⟨h2,z⟩}
  .have:=VS List.length Y;rw[Q0,Q8]at this;lia
def KH(K:Wp)(t:N6):Sp:=λvs H Q _=>∃(a p:RC)(n kd:Int)(av e:V)(F:RE)(x:NF),vs=[.ref a,.ref p,.int n,.non]/\NI K t H a F x/\NM t H p kd av e/\O6 kd av e/\¬F p/\1<=n/\n<=1000/\x.st.kv.length<4096/\x.ks.length<4096/\(∀k∈x.ks,0<=k)/\(∀p∈x.st.kv,∃i:Int,p.2= .int i)/\
 ∀(H':Hp)(F':RE)(r g:RC)(v:V)(ts:List Tp)(a':V)(R:R3),NI K t H' a F' x->Fr F F' H H'->PgA H H' F F' r g v ts->BJ t H' F' x.st kd n av e v ts a' R->Q (.ref r) H'
def K7:Bs P w K mg base N8 8 t.Kh t.Bk [nj,eR,gt,"sieve"] (KH K t):=by
 let a2:=Oj.nd;refine T.MS.ok Oj (λvs H Q E h=>?_)<|λa3 A outer s H vs Q E hr h=>?_
 .let{a,p,n,kd,av,e,F,x,rfl,_}:=h;rfl
 .let{a,p,n,kd,av,e,F,x,rfl,A,TK,Y,np,n1,n2,l4,lk,k0,iv,q}:=h;refine Mw (λx y=>aU (cE<|aG (fH K M) {_} T.dB b8 (ac E5<|ac (cm (v:= .ref t.aQ) {_} T.kP M) ag)) x y) ?_;refine aw (ND 4<|aI (sI T) hr.mo {_} T.Fe T.uu.kp T.Ff .nil au (ac (aq Ac M)<|ac E5<|ac HN ag)) ?_
  intros
  refine aw (ND 4<|aI (uf T) hr.mo {_} T.Gy T.wL.kp T.He .nil au (ac Ac<|ac E5<|ac HN ag)) ?_
  intros
  refine aj (aU (aA gA NJ bg<|aC _)
   (aD<|aK Nl)
   aL)
     (aw dD ?_)
  intros
  let{dx,fs,G,tf}:=id TK;let nd:(x.st.kv.map (·.1)).Nodup:=by
   let{s,l,wr,p,h,Fs,Fl,Wn,O,g}:=A;let{_,_,_,_,nd,_}:=Wn.sl;exact nd
  let ri:db x.ks:=by
   let{_,_,_,_,_,_,L}:=A.lvs;exact L.rise
  let I:∀(up:Bool){Q':VK}{E':XK},kd=(if up=true then 1 else 2)->(∀v H',Q v H'->Q' v H')->lJ K t [.ref a,.ref p,.int n] H Q' E':=λup Q' E' Z hQ=>by
   let ok:if up=true then OH av e else OJ av e:=by
    subst Z;cases up
    .exact Y.d
    .exact Y.u
   refine{a,p,n,up,av,e,F,x,M,A,{dx,fs,?_,?_,ok},np,lk,k0,λH' F' r g v ts A' f' pg ek ev nx=>?_}
   .subst Z;cases up<;>exact G
   .subst Z;cases up<;>exact tf
   .let{a',R,U}:=E3 nd ri A.ok.ks n1 ok ek ev nx;rw[<-Z]at U;exact hQ _ _<|q H' F' r g v ts a' R A' f' pg U
  rcases Y.kd with rfl|rfl|rfl
  .let G:H p=some (.ins t.aQ dx fs):=G;let{i,j,rfl,rfl,i0,ij,j1}:=Y.s;let{s,l,wr,pp,h,Fs,Fl,Wn,O,g}:=A;let{a0,ho}:=Wn.o.ob;let W0:0<65536/x.st.low:=by
    let z:N9 x.st:=let⟨_,_,_,_,_,z⟩:=Wn.sl;z
    let{_,_,R}:=vn (gF z);exact R.wpos'
   refine{_,M,_,_,_,_,M,NN.ins G T.bL T.kh.1 T.kh.2 T.kh.3 T.kh.4,T.qd,_,M,cC {_,M,a,_,a0,_,_,M,ho,T.aP,T.dt,wf,_,M,_,M,s,p,n,i,j,Fs,x.st,M,Wn.sl,⟨dx,fs,G,tf,i0,ij,j1⟩,λz=>np<|(g p).mpr<|.inl z,n1,n2,l4,iv,λH' Fs' r gg v ts m S' f' pg ps nx=>{_,M,M,_,M,jV M {_,M,?_}}}};let{B1,g1}:=Wn.slots S' f';let up:∀{b:RC},¬F b->¬Fs b:=λn z=>n ((g _).mpr<|.inl z);let A':NI K t H' a (ON a wr pp h Fs' Fl x.pa) x:={s,l,wr,pp,h,Fs',Fl,B1,O,λ_=>Iff.rfl};let a1:PR t H H' F (ON a wr pp h Fs' Fl x.pa) (aZ (65536/x.st.low) j i m) j v:=by
    unfold PR at nx⊢;split
    .rw[VA (by assumption)]at nx;exact nx
    .rw[Vz (by assumption)]at nx;let{y,e1,e2,e3,e4}:=nx;exact{y,e1,λn=>e2<|up n,Wn.newb e2 e3,e4}
   let{a',R,U}:=CN W0 i0 ij ps a1;refine q H' _ r gg v ts a' R A' (λb o n e=>g1 b o (λz=>n<|(g b).mpr z) e) {pg.tu,pg.li,λe he=>{(pg.rw e he).1,λz=>?_},{λn=>pg.nr.1<|up n,Wn.newb pg.nr.1 pg.nr.2},λn=>pg.ng.1<|up n,Wn.newb pg.ng.1 pg.ng.2} U;let{o,e',n}:=A'.dom z;rw[(pg.rw e he).1]at e';exact n _ (VB e').symm
  .let G:H p=some (.ins t.dE dx fs):=G;refine{_,M,_,_,_,_,M,NN.ins G T.iI T.lI.1 T.lI.2 T.lI.3 T.lI.4,T.xN,_,M,dP {_,M,_,M,_,M,I true M λv H' h=>{_,M,M,_,M,jV M {_,M,h}}}}
  .let G:H p=some (.ins t.cz dx fs):=G;refine{_,M,_,_,_,_,M,NN.ins G T.cK T.dQ.1 T.dQ.2 T.dQ.3 T.dQ.4,T.uo,_,M,dP {_,M,_,M,_,M,I false M λv H' h=>{_,M,M,_,M,jV M {_,M,h}}}}
def tT(K:Wp):Sp:=λvs H Q _=>∃(a:RC)(ns:RF)(k:Int),vs=[.ref a,.int k]/\DI K H a (ns.map V.int)/\0<=k/\Q (.int<|ns.getD k.toNat 0) H
def lK:Bs P w K mg base N8 1 t.nT t.iB [ge,oZ] (tT K):=by
 refine T.bJ.okl t9 λs H vs Q E I h _=>?_;intro X;let{a,ns,i,rfl,hS,G,k}:=h;refine aj (aU (aA eI E5 (aG aE {_} T.bS bq (ac Ac ag))<|aC _)
    (aD<|aK<|aS aX Ac E5<|λ_ _=>M)
    aL)
   (aw (aK af) ?_)
 intros
 refine{_,M,_,M,a,_,M,.inl hS,_,_,M,M,_,M,?_};refine cT (λc=>?_)<|λc=>?_
 .let c:=VH c;rw[Q0]at c;exact{_,M,_,M,a,_,_,_,M,M,hS,Br G c,k}
 .let c:¬i<((ns.map V.int).length:Int):=λz=>c (VJ z);rw[Q0]at c;rw[Hb c]at k;exact k
def DP(x y:Nat):x&&&y=((x/256)&&&(y/256))*256+((x%256)&&&(y%256)):=by
 let h:=Nat.div_add_mod (x&&&y) 256;rw[show(256:Nat)=2^8 from rfl,Nat.and_div_two_pow,Nat.and_mod_two_pow]at h;rw[<-h];show 2^8*_+_=_*2^8+_;rw[ZW]
def OD(p s x:Nat):Nat:=(x&&&p)*s+(x&&&(p*s))/s
def yY{p s:Nat}(h1:∀x<256,OD p s x<256/\s∣(x&&&(p*s)))(Y:p<256)(hq:p*s<256)(hs:0<s){a b:Nat}(ha:a<256)(hb:b<256):OD (p*257) s (a*256+b)=OD p s a*256+OD p s b:=by
 let{_,c,hc}:=h1 a ha;let z:(a*256+b)/256=a:=();let G:(a*256+b)%256=b:=();let I:p*257/256=p:=();let e2:p*257%256=p:=();let Z:p*257*s=p*s*256+p*s:=by rw[Nat.mul_right_comm,show(257:Nat)=256+1 from rfl,Nat.mul_add,Nat.mul_one]
 let O:p*257*s/256=p*s:=();let U:p*257*s%256=p*s:=();unfold OD;rw[DP (a*256+b) (p*257),DP (a*256+b) (p*257*s),z,G,I,e2,O,U,hc,Nat.mul_div_cancel_left c hs,Nat.mul_assoc s c 256,Nat.add_comm (s*(c*256)),Nat.add_mul_div_left _ _ hs,Vk,Nat.mul_right_comm,Vk];lia
def JK:∀x<256,OD 85 2 (OD 51 4<|OD 15 16 x)=rv 8 x:=by decide+kernel
def KG:∀x<256,OD 15 16 x<256/\16∣(x&&&(15*16)):=by decide+kernel
def KF:∀x<256,OD 51 4 x<256/\4∣(x&&&(51*4)):=by decide+kernel
def sw85:∀x<256,OD 85 2 x<256/\2∣(x&&&(85*2)):=by decide+kernel
def Kr(h:n<65536):OD (85*257) 2 (OD (51*257) 4<|OD (15*257) 16<|n%256*256+n/256)=rv 16 n:=by
 let e:rv 16 n=rv 8 n*256+rv 8 (n/256):=qJ 8 8 n;let e2:rv 8 (n%256)=rv 8 n:=Cm 8 n;rw[e,<-e2];let a:=Nat.mod_lt n (show 0<256 by decide);let b:n/256<256:=();clear e e2 h;generalize n%256=x at a⊢;generalize n/256=y at b⊢;let z:=(KG x a).1;let G:=(KG y b).1;let I:=(KF _ z).1;let O:=(KF _ G).1;rw[<-JK x a,<-JK y b,yY KG (_) (_) (_) a b];generalize OD 15 16 x=U at z I⊢;generalize OD 15 16 y=Y at G O⊢;rw[yY KF (_) (_) (_) z G];generalize OD 51 4 U=Z at I⊢;generalize OD 51 4 Y=y2 at O⊢;exact yY sw85 (_) (_) (_) I O
def sw1(x:Nat):Builtin.bitAnd (x:Int) 3855*16+Builtin.bitAnd (x:Int) 61680/16=((OD (15*257) 16 x:Nat):Int):=by
 show((x&&&3855:Nat):Int)*16+((x&&&61680:Nat):Int)/16=(((x&&&3855)*16+(x&&&61680)/16:Nat):Int);lia
def sw2(x:Nat):Builtin.bitAnd (x:Int) 13107*4+Builtin.bitAnd (x:Int) 52428/4=((OD (51*257) 4 x:Nat):Int):=by
 show((x&&&13107:Nat):Int)*4+((x&&&52428:Nat):Int)/4=(((x&&&13107)*4+(x&&&52428)/4:Nat):Int);lia
def sw3(x:Nat):Builtin.bitAnd (x:Int) 21845*2+Builtin.bitAnd (x:Int) 43690/2=((OD (85*257) 2 x:Nat):Int):=by
 show((x&&&21845:Nat):Int)*2+((x&&&43690:Nat):Int)/2=(((x&&&21845)*2+(x&&&43690)/2:Nat):Int);lia
def wQ:Sp:=λvs H Q _=>∃k:Int,vs=[.int k]/\Q (.int<|tz<|k%65536) H
def xy:Bs P w K mg base N8 1 t.rL t.kY [nG] wQ:=by
 refine T.rX.okl xf λs H vs Q E Y h _=>?_;intro X;let{n,rfl,q}:=h;refine aj (ND 1<|ao aT Ac af)
   (aj (ND 1<|ao bi (ao cI (ao aT E5 af) af)<|ao aR E5 af)
   (aj (ND 1<|ao bi (ao cI (ao sG E5 af) af)<|ao aR (ao sG E5 af) af)
   (aj (ND 1<|ao bi (ao cI (ao sG E5 af) af)<|ao aR (ao sG E5 af) af)
   (aw (aK<|ao bi (ao cI (ao sG E5 af) af)<|ao aR (ao sG E5 af) af) ?_))))
 intros
 let z:=Qg n (show(65536:Int)≠0 by decide);let G:=Qk n (show(0:Int)<65536 by decide);refine{_,M,_,_,M,M,(by show(0:Int)<65536;decide),?_}
 cbv
 let{m,I}:=Z7 z;rw[I]at G q⊢;let te:=Kr (n:=m) ();unfold tz at q;rw[QS,<-te]at q;refine{_,M,_,_,M,M,(by show(0:Int)<256;decide),_,_,M,M,.inr {(_),(_)},_,M,_,_,M,M,{(_),(_)},_,_,M,M,?_}
 cbv
 rw[show(m:Int)%256*256+(m:Int)/256=((m%256*256+m/256:Nat):Int) by lia];generalize m%256*256+m/256=O at q⊢
 cbv
 refine{_,M,_,_,M,M,_,_,M,M,.inr {(_),(_)},_,M,_,_,M,M,_,_,M,M,{(_),(_)},_,_,M,M,?_}
 cbv
 rw[sw1];generalize OD (15*257) 16 O=U at q⊢
 cbv
 refine{_,M,_,_,M,M,_,_,M,M,.inr {(_),(_)},_,M,_,_,M,M,_,_,M,M,{(_),(_)},_,_,M,M,?_}
 cbv
 rw[sw2];generalize OD (51*257) 4 U=Z at q⊢
 cbv
 refine{_,M,_,_,M,M,_,_,M,M,.inr {(_),(_)},_,M,_,_,M,M,_,_,M,M,{(_),(_)},_,_,M,M,?_}
 cbv
 rw[sw3];exact q
inductive Dw where
 |put(k v:Int)
 |drop(k:Int)
 |mark(i:Int)
noncomputable def Dw.vs:Dw->List V
 | .put k v=> [.str Rg,.int k,.int v]
 | .drop k=> [.str Pn,.int k]
 | .mark i=> [.str Ps,.int i]
noncomputable def Dw.key:Dw->Option Int
 | .put k _=>some k
 | .drop k=>some k
 | .mark _=>none
noncomputable def Dw.eff:Dw->Option V
 | .put _ v=>some (.int v)
 |_=>none
structure DR where
 p:Addr
 r:Dw
def ap(Wr:RH)(e:DR):List (Int×V):=match e.r with
 | .put k v=>bf Wr k (.int v)
 | .drop k=>bG Wr k
 | .mark _=>Wr
def tbl(l:List DR):List (Int×V):=l.foldl ap []
noncomputable def cO(k:Int):List DR->Option DR
 | []=>none
 |e::r=>match cO k r with
  |some x=>some x
  |none=>if e.r.key=some k then some e else none
def Aa{e:DR}:ay (ap Wr e) k=if e.r.key=some k then e.r.eff else ay Wr k:=by
 unfold ap;cases e.r with
 |put j v=>
  show ay (bf Wr j<|.int v) k=if some j=some k then some (V.int v)else _
  rw[de];by_cases h:k=j
  .rw[VA h,VA (by rw[h])]
  .rw[Vz h,Vz λz=>h (VB z).symm]
 |drop j=>
  show ay (bG Wr j) k=if some j=some k then none else _
  rw[eF];by_cases h:k=j
  .rw[VA h,VA (by rw[h])]
  .rw[Vz h,Vz λz=>h (VB z).symm]
 |mark i=>exact(Vz λz=>by cases z).symm
def Kf{e:DR}(h:(Wr.map (·.1)).Nodup):((ap Wr e).map (·.1)).Nodup:=by
 unfold ap;cases e.r with
 |put j v=>exact vJ h
 |drop j=>exact h.sublist<|ZN.map _
 |mark i=>exact h
def LK{e:DR}:(ap Wr e).length<=Wr.length+1:=by
 unfold ap;cases e.r with
 |put j v=>exact b6 _ _ _
 |drop j=>exact Zg<|Bh _ _
 |mark i=>exact Zm _
def rp{k:Int}:∀{l:List DR}{Wr:RH},ay (l.foldl ap Wr) k=match cO k l with|some x=>x.r.eff|none=>ay Wr k
 | [],_=>rfl
 |e::r,Wr=>by
  show ay (r.foldl ap<|ap Wr e) k=match (match cO k r with|some x=>some x|none=>if e.r.key=some k then some e else none)with|some x=>x.r.eff|none=>ay Wr k
  rw[rp];cases c:cO k r with
  |some x=>rfl
  |none=>
   show ay (ap Wr e) k=_;rw[Aa];by_cases h:e.r.key=some k
   .rw[VA h,VA h]
   .rw[Vz h,Vz h]
def zO:∀{l:List DR}{Wr:RH},(Wr.map (·.1)).Nodup->((l.foldl ap Wr).map (·.1)).Nodup
 | [],_,h=>h
 |e::r,Wr,h=>zO (l:=r) (Wr:=ap Wr e) (Kf h)
def rq:∀{l:List DR}{Wr:RH},(l.foldl ap Wr).length<=Wr.length+l.length
 | [],_=>Q4 _
 |e::r,Wr=>by
  let h1:=rq (l:=r) (Wr:=ap Wr e);let h2:=LK (Wr:=Wr) (e:=e);show(r.foldl ap<|ap Wr e).length<=Wr.length+(r.length+1);lia
def Fv:((tbl l).map (·.1)).Nodup:=zO QZ
def CZ:(tbl l).length<=l.length:=by
 have:=rq (l:=l) (Wr:=[]);rwa [XQ,Xn]at this
def qt{e:DR}:tbl (l++ [e])=ap (tbl l) e:=by
 unfold tbl;rw[X1];rfl
def Ih{m:List DR}:tbl (l++m)=m.foldl ap (tbl l):=X1
def kT{k:Int}{e:DR}:∀{l:List DR},cO k (l++ [e])=if e.r.key=some k then some e else cO k l
 | []=>rfl
 |x::r=>by
  show(match cO k (r++ [e])with|some x=>some x|none=>_)=_;rw[kT];by_cases h:e.r.key=some k
  .rw[VA h,VA h]
  .rw[Vz h,Vz h];rfl
def fX{k:Int}{x:DR}:∀{l:List DR},cO k l=some x->x∈l/\x.r.key=some k
 | [],h=>by cases h
 |e::r,h=>by
  change (match cO k r with|some x=>some x|none=>if e.r.key=some k then some e else none)=some x at h;cases c:cO k r with
  |some y=>
   rw[c]at h;cases h;exact{Qd _ (fX c).1,(fX c).2}
  |none=>
   rw[c]at h;by_cases g:e.r.key=some k
   .change (if e.r.key=some k then some e else none)=some x at h;rw[VA g]at h;cases h;exact⟨Qa,g⟩
   .change (if e.r.key=some k then some e else none)=some x at h;rw[Vz g]at h;cases h
def qc{k:Int}:∀{l:List DR},cO k l=none->∀x∈l,x.r.key≠some k
 | [],_,x,hx=>VE hx Zc
 |e::r,h,x,hx=>by
  change (match cO k r with|some x=>some x|none=>if e.r.key=some k then some e else none)=none at h;cases c:cO k r with
  |some y=>rw[c]at h;cases h
  |none=>
   rw[c]at h;change (if e.r.key=some k then some e else none)=none at h;rcases Qj.mp hx with rfl|hx
   .intro g;rw[VA g]at h;cases h
   .exact qc c x hx
def Ap(h:k∈(tbl l).map (·.1)):∃x∈l,x.r.key=some k:=by
 let h:=HM.mp h;unfold tbl at h;rw[rp]at h;cases c:cO k l with
 |none=>rw[c]at h;cases h
 |some x=>exact{x,fX c}
structure NZ where
 g:Addr
 nd:Addr
 tk:Addr
 ta:V
 fd:Option (Addr×List Tp)
 ah:V
 aa:V
 no:List (Int×DR)
 cl:Option Int
structure NG where
 rv:V
 ra:V
 n:Nat
 cp:List (Int×V)
 pg:Option NZ
def hO(v:V)(kd:Int)(a e:V)(k:Int):Bool:=if v= .non then false else hN kd a e k
def NZ.inp(P:NZ)(kd:Int)(e:V)(k:Int):Bool:=P.fd.isSome&&(hN kd P.ta e k&&!hO P.ah kd P.aa e k)
def NG.cov(X:NG)(kd:Int)(av e:V)(k:Int):Bool:=hN kd av e k&&!hO X.rv kd X.ra e k
noncomputable def NZ.rows(P:NZ):List (Int×V):=match P.fd with
 |some y=>y.2.map Tp.kv
 |none=> []
def NZ.out(P:NZ):List (Int×V):=(P.no.map (·.2)).foldl ap P.rows
def vM(a b:RH):List (Int×V):=b.foldl (λWr p=>bf Wr p.1 p.2) a
noncomputable def xt(l:List (Int×DR))(k:Int)(e:DR):List (Int×DR):=if(l.any λz=>decide (z.1=k))=true then l.map λz=>if z.1=k then(z.1,e)else z else l++ [(k,e)]
def OC{l:List (Int×DR)}{j:Int}{e x:DR}:(j,x)∈xt l k e↔(j=k/\x=e)\/(j≠k/\(j,x)∈l):=by
 unfold xt;by_cases c:(l.any λz=>decide (z.1=k))=true
 .rw[VA c,Qe];constructor
  .rintro ⟨z,hz,G⟩;by_cases h:z.1=k
   .rw[VA h]at G;cases G;exact .inl ⟨h,M⟩
   .rw[Vz h]at G;subst G;exact .inr ⟨h,hz⟩
  .rintro (⟨rfl,rfl⟩|⟨h,hz⟩)
   .let{z,hz,G}:=XA.mp c;let G:=VH G;exact{z,hz,by rw[VA G,G]}
   .exact{(j,x),hz,by rw[Vz h]}
 .rw[Vz c,Q5];constructor
  .rintro (h|h)
   .refine .inr {λz=>c<|XA.mpr {(j,x),h,VJ z},h}
   .cases Q7.mp h;exact .inl ⟨M,M⟩
  .rintro (⟨rfl,rfl⟩|⟨_,h⟩)
   .exact .inr<|Q7.mpr M
   .exact .inl h
def FU{l:List (Int×DR)}{e:DR}:(xt l k e).length<=l.length+1:=by
 unfold xt;split
 .rw[Q0];exact Zm _
 .rw[Q6];exact Q4 _
def FT{l:List (Int×DR)}{e:DR}:(xt l k e).map (λz=>(z.1,V.ref z.2.p))=bf (l.map λz=>(z.1,V.ref z.2.p)) k (.ref e.p):=by
 unfold xt bf;rw[List.any_map];have:(l.any λz=>decide (z.1=k))=l.any ((λkv:Int×V=>decide (kv.1=k))∘λz=>(z.1,V.ref z.2.p)):=M;rw[<-this];split
 .rw[QP,QP];refine Zw λz _=>?_;show((if z.1=k then(z.1,e)else z).1,V.ref (if z.1=k then(z.1,e)else z).2.p)=if z.1=k then(z.1,V.ref e.p)else(z.1,V.ref z.2.p)
  split<;>rfl
 .rw[Q9];rfl
def NG.chg(X:NG)(kd:Int)(av e:V)(k:Int)(x:DR):NG:=
 if X.cov kd av e k=true then{X with n:=X.n+1,cp:=ap X.cp x}else match X.pg with
  |none=>{X with n:=X.n+1}
  |some P=>if P.inp kd e k=true then{X with n:=X.n+1,pg:=some {P with no:=xt P.no k x}}else{X with n:=X.n+1}
def NG.mrk(X:NG)(i:Int):NG:=match X.pg with
 |none=>{X with n:=X.n+1}
 |some P=>if P.cl=some i then{P.ah,P.aa,X.n+1,vM X.cp P.out,none}else{X with n:=X.n+1}
def a7(kd:Int)(av e:V)(X:NG)(x:DR):NG:=match x.r with
 | .put k _=>X.chg kd av e k x
 | .drop k=>X.chg kd av e k x
 | .mark i=>X.mrk i
def vL{k:Int}:∀{b a:RH},(b.map (·.1)).Nodup->ay (vM a b) k=match ay b k with|some v=>some v|none=>ay a k
 | [],_,_=>rfl
 |p::r,a,h=>by
  let{h1,h2}:=QR.mp h;show ay (vM (bf a p.1 p.2) r) k=_;rw[vL h2];by_cases e:p.1=k
  .have:ay r k=none:=by
    cases c:ay r k with
    |none=>rfl
    |some v=>exact VE (HM.mpr<|by rw[c];rfl)<|by rwa[<-e]
   rw[this,bn e,de,VA e.symm]
  .rw[bh e];cases ay r k with
   |some v=>rfl
   |none=>
    show ay (bf a p.1 p.2) k=ay a k;rw[de,Vz λz=>e z.symm]
def Dh:∀{b a:RH},(a.map (·.1)).Nodup->((vM a b).map (·.1)).Nodup
 | [],_,h=>h
 |p::r,a,h=>Dh (b:=r) (a:=bf a p.1 p.2) (vJ h)
def yk:∀{b a:RH},sM (az a) (az b)=az (vM a b)
 | [],_=>rfl
 |p::r,a=>by
  show sM (bf (az a) (Sum.inl p.1) p.2) (az r)=az (vM (bf a p.1 p.2) r);rw[cw,yk]
structure PK(kd:Int)(av e:V)(ds:List DR)(X:NG)(P:NZ):Prop where
 rn:X.rv= .ref P.tk
 ra:P.ta=X.ra
 nl:P.no.length<=X.n
 nk:∀z∈P.no,z.2.r.key=some z.1
 un:P.fd=none->P.no=[]/\P.cl=none
 fd:∀y,P.fd=some y->∃nr mr,nr<=X.n/\nr<=mr/\mr<=ds.length/\(y.2.map (·.k)).Nodup/\(∀k v,(k,v)∈y.2.map Tp.kv↔(k,v)∈tbl (ds.take mr)/\hN kd P.ta e k=true/\hO P.ah kd P.aa e k=false)/\(∀k,0<=k->hO P.ah kd P.aa e k=true->hN kd P.ta e k=true)/\(∀k x,(k,x)∈P.no↔P.inp kd e k=true/\cO k ((ds.take X.n).drop nr)=some x)/\∀m,P.cl=some m->∃c x,ds[c]?=some x/\x.r= .mark m/\mr<=c/\X.n<=c
structure Inv(kd:Int)(av e:V)(ds:List DR)(X:NG):Prop where
 le:X.n<=ds.length
 nd:(X.cp.map (·.1)).Nodup
 cp:∀k,0<=k->ay X.cp k=if X.cov kd av e k=true then ay (tbl<|ds.take X.n) k else none
 kp:∀k∈X.cp.map (·.1),0<=k
 su:∀k,0<=k->hO X.rv kd X.ra e k=true->hN kd av e k=true
 pg:∀P,X.pg=some P->PK kd av e ds X P
structure Oy(ds:List DR):Prop where
 kb:∀x∈ds,∀k,x.r.key=some k->0<=k
 un:∀(i j:Nat)(x y:DR)(m:Int),ds[i]?=some x->ds[j]?=some y->x.r= .mark m->y.r= .mark m->i=j
 dr:∀(i:Nat)(x:DR)(k:Int),ds[i]?=some x->x.r= .drop k->(ay (tbl<|ds.take i) k).isSome=true
def Ao{x:DR}(h:ds[i]?=some x):tbl (ds.take<|i+1)=ap (tbl<|ds.take i) x:=by
 rw[Qo,h];exact qt
def uW{nr:Nat}{x:DR}(h:ds[i]?=some x)(l:nr<=i):(ds.take<|i+1).drop nr=(ds.take i).drop nr++ [x]:=by
 let hi:=(Q1.mp h).1;rw[Qo,h,List.drop_append_of_le_length (by rw[Q8];lia)];rfl
def zf{nr m:Nat}(l:nr<=m):ay (tbl<|ds.take m) k=match cO k ((ds.take m).drop nr)with|some x=>x.r.eff|none=>ay (tbl<|ds.take nr) k:=by
 let e:ds.take m=ds.take nr++(ds.take m).drop nr:=by
  conv=>lhs;rw[<-QO nr (ds.take m),Vy,Zt l]
 conv=>lhs;rw[e,Ih,rp]
def KZ{P:NZ}(h:∀y,P.fd=some y->(y.2.map (·.k)).Nodup):(P.out.map (·.1)).Nodup:=by
 refine zO ?_;unfold NZ.rows;cases c:P.fd with
 |none=>exact QZ
 |some y=>
  show((y.2.map Tp.kv).map (·.1)).Nodup;rw[QP];exact h y c
def IF{kd:Int}{P:NZ}(I:PK kd av e ds X P)(Y:P.cl=some m){x:DR}(D:Oy ds)(hx:ds[X.n]?=some x)(xm:x.r= .mark m)(k:Int):ay P.out k=if P.inp kd e k=true then ay (tbl<|ds.take X.n) k else none:=by
 cases U:P.fd with
 |none=>rw[(I.un U).2]at Y;cases Y
 |some y=>
  let{nr,G,l1,l2,l3,ny,Z,le,no,cl}:=I.fd y U;let{c,x',hc,xc,l4,l5}:=cl m Y;let ec:c=X.n:=D.un c X.n x' x m hc hx xc xm;subst ec;let a0:((y.2.map Tp.kv).map (·.1)).Nodup:=by
   rwa[QP]
  let er:P.rows=y.2.map Tp.kv:=by
   unfold NZ.rows;rw[U]
  let ei:P.inp kd e k=(hN kd P.ta e k&&!hO P.ah kd P.aa e k):=by
   unfold NZ.inp;rw[U];rfl
  unfold NZ.out;rw[rp,er];cases O:cO k (P.no.map (·.2))with
  |some z=>
   let{hz,kz}:=fX O;let{w,hw,ew}:=Qe.mp hz;let kw:=I.nk w hw;rw[ew,kz]at kw;let a1:(k,z)∈P.no:=by
    rwa[VB kw,<-ew]
   let{i1,i2}:=(no k z).mp a1;rw[VA i1,zf l1,i2]
  |none=>
   show ay (y.2.map Tp.kv) k=_;by_cases hi:P.inp kd e k=true
   .rw[VA hi];let hn:cO k ((ds.take X.n).drop nr)=none:=by
     cases c:cO k ((ds.take X.n).drop nr)with
     |none=>rfl
     |some z=>exact VE (fX c).2<|qc O z (Qe.mpr {(k,z),(no k z).mpr ⟨hi,c⟩,M})
    let a2:cO k ((ds.take G).drop nr)=none:=by
     cases c:cO k ((ds.take G).drop nr)with
     |none=>rfl
     |some z=>
      let{z1,z2}:=fX c;refine VE z2<|qc hn z ?_;have:(ds.take G).drop nr=((ds.take X.n).drop nr).take (G-nr):=by
       rw[<-List.drop_take,Vy,Zt ()]
      rw[this]at z1;exact QX z1
    rw[zf (ds:=ds) l1,hn];show _=ay (tbl<|ds.take nr) k;let h1:=zf (ds:=ds) (k:=k) l2;rw[a2]at h1;change ay (tbl<|ds.take G) k=ay (tbl<|ds.take nr) k at h1;rw[<-h1];rw[ei,QA,Ve]at hi;cases c:ay (tbl<|ds.take G) k with
    |some v=>exact br a0<|(Z k v).mpr {bc c,hi}
    |none=>
     cases c2:ay (y.2.map Tp.kv) k with
     |none=>rfl
     |some v=>
      let h3:=((Z k v).mp<|bc c2).1;rw[br Fv h3]at c;cases c
   .rw[Vz hi];cases c2:ay (y.2.map Tp.kv) k with
    |none=>rfl
    |some v=>
     let h3:=((Z k v).mp<|bc c2).2;rw[ei,QA,Ve]at hi;exact VE h3 hi
def PK.more{kd:Int}{more:List DR}{P:NZ}(I:PK kd av e ds X P)(le:X.n<=ds.length):PK kd av e (ds++more) X P:=
 {I.rn,I.ra,I.nl,I.nk,I.un,λy hy=>by
  let{nr,z,l1,G,O,h1,h2,U,Y,Z}:=I.fd y hy;refine{nr,z,l1,G,by rw[Q6];lia,h1,by rwa[QE O],U,by rwa[QE le],λm hm=>?_};let{c,x,hc,hr}:=Z m hm;exact{c,x,by rwa[QG (Q1.mp hc).1],hr}}
def Inv.more{kd:Int}{more:List DR}(I:Inv kd av e ds X):Inv kd av e (ds++more) X:=
 {by rw[Q6];exact Qu I.le<|Nat.le_add_right _ _,I.nd,by rw[QE I.le];exact I.cp,I.kp,I.su,λP z=>(I.pg P z).more I.le}
def Inv.chg{kd:Int}{x:DR}(I:Inv kd av e ds X)(k0:0<=k)(hx:ds[X.n]?=some x)(hk:x.r.key=some k):Inv kd av e ds (X.chg kd av e k x):=by
 let hn:=(Q1.mp hx).1;let tv:∀j,ay (tbl<|ds.take<|X.n+1) j=if j=k then x.r.eff else ay (tbl<|ds.take X.n) j:=λj=>by
  rw[Ao hx,Aa,hk];by_cases h:j=k
  .rw[VA h,VA (by rw[h])]
  .rw[Vz h,Vz λz=>h (VB z).symm]
 let Z:∀P,PK kd av e ds X P->P.inp kd e k=false->∀cp,PK kd av e ds {X with n:=X.n+1,cp:=cp} P:=λP q hi cp=>by
  refine{q.rn,q.ra,Zg q.nl,q.nk,q.un,λy hy=>?_};let{nr,mr,l1,l2,l3,h1,h2,h3,h4,h5}:=q.fd y hy;refine{nr,mr,Zg l1,l2,l3,h1,h2,h3,λj z=>?_,λm hm=>?_}
  .show _↔_/\cO j ((ds.take<|X.n+1).drop nr)=some z;rw[h4,uW hx l1,kT,hk];by_cases h:some k=some j
   .rw[<-VB h,hi];constructor<;>(rintro ⟨z,_⟩;cases z)
   .rw[Vz h]
  .let{c,z,hc,zc,l4,l5}:=h5 m hm;let l5:X.n<=c:=l5;refine{c,z,hc,zc,l4,QL l5 λh=>?_};rw[<-h,hx]at hc;cases hc;rw[zc]at hk;cases hk
 let a0:∀P,X.pg=some P->X.cov kd av e k=true->P.inp kd e k=false:=λP U hc=>by
  let q:=I.pg P U;unfold NG.cov at hc;rw[QA,Ve]at hc;let h:=hc.2;unfold hO at h;rw[q.rn,Vz (λz=>by cases z),<-q.ra]at h;unfold NZ.inp;rw[h];cases P.fd.isSome<;>rfl
 unfold NG.chg;by_cases hc:X.cov kd av e k=true
 .rw[VA hc];refine{hn,Kf I.nd,λj j0=>?_,λj Y=>?_,I.su,λP U=>Z P (I.pg P U) (a0 P U hc) _}
  .show ay (ap X.cp x) j=if X.cov kd av e j=true then ay (tbl<|ds.take<|X.n+1) j else none
   rw[Aa,tv,hk,I.cp j j0];by_cases h:j=k
   .rw[VA (by rw[h]),VA h,h,VA hc]
   .rw[Vz (λz=>h (VB z).symm),Vz h]
  .let Y:=HM.mp Y;change (ay (ap X.cp x) j).isSome=true at Y;rw[Aa,hk]at Y;by_cases h:some k=some j
   .rwa[<-VB h]
   .rw[Vz h]at Y;exact I.kp j<|HM.mpr Y
 .rw[Vz hc];let G:∀j,0<=j->ay X.cp j=if X.cov kd av e j=true then ay (tbl<|ds.take<|X.n+1) j else none:=λj j0=>by
   rw[I.cp j j0,tv];by_cases h:j=k
   .rw[h,Vz hc,Vz hc]
   .rw[Vz h]
  cases hp:X.pg with
  |none=>exact{hn,I.nd,G,I.kp,I.su,λP U=>by cases U}
  |some P=>
   show Inv kd av e ds (if P.inp kd e k=true then _ else _);let q:=I.pg P hp;by_cases hi:P.inp kd e k=true
   .rw[VA hi];refine{hn,I.nd,G,I.kp,I.su,λP' O=>?_};cases O;refine{q.rn,q.ra,Qu FU<|Nat.succ_le_succ q.nl,λz hz=>?_,λh=>?_,λy hy=>?_}
    .rcases OC.mp (show(z.1,z.2)∈xt P.no k x from hz)with⟨h1,h2⟩|⟨_,h⟩
     .rwa[h1,h2]
     .exact q.nk z h
    .unfold NZ.inp at hi;rw[show P.fd=none from h]at hi;cases hi
    .let{nr,mr,l1,l2,l3,h1,h2,h3,h4,h5}:=q.fd y hy;refine{nr,mr,Zg l1,l2,l3,h1,h2,h3,λj z=>?_,λm hm=>?_}
     .show(j,z)∈xt P.no k x↔P.inp kd e j=true/\cO j ((ds.take<|X.n+1).drop nr)=some z;rw[OC,h4,uW hx l1,kT,hk];by_cases h:j=k
      .rw[VA (by rw[h]),h];exact{λg=>g.elim (λg=>{hi,by rw[g.2]}) λg=>VE M g.1,λg=> .inl {M,(VB g.2).symm}}
      .rw[Vz λz=>h (VB z).symm];exact{λg=>g.elim (λg=>VE g.1 h) λg=>g.2,λg=> .inr ⟨h,g⟩}
     .let{c,z,hc,zc,l4,l5}:=h5 m hm;refine{c,z,hc,zc,l4,QL l5 λh=>?_};rw[<-h,hx]at hc;cases hc;rw[zc]at hk;cases hk
   .rw[Vz hi];exact{hn,I.nd,G,I.kp,I.su,λP' O=>by
     cases O;let z:=Z P q (by cases h:P.inp kd e k<;>simp_all) X.cp;rw[hp]at z;exact z}
def Inv.mrk{kd:Int}{x:DR}(I:Inv kd av e ds X)(D:Oy ds)(hx:ds[X.n]?=some x)(U:x.r= .mark m):Inv kd av e ds (X.mrk m):=by
 let hn:=(Q1.mp hx).1;let tv:tbl (ds.take<|X.n+1)=tbl (ds.take X.n):=by
  rw[Ao hx];unfold ap;rw[U]
 let Y:∀j,0<=j->ay X.cp j=if X.cov kd av e j=true then ay (tbl<|ds.take<|X.n+1) j else none:=λj j0=>by
  rw[I.cp j j0,tv]
 unfold NG.mrk;cases hp:X.pg with
 |none=>exact{hn,I.nd,Y,I.kp,I.su,λP hP=>by cases hP}
 |some P=>
  show Inv kd av e ds (if P.cl=some m then _ else _);let q:=I.pg P hp;by_cases O:P.cl=some m
  .rw[VA O];let ov:=IF q O D hx U;obtain⟨y,hy⟩:∃y,P.fd=some y:=by
    cases c:P.fd with
    |none=>rw[(q.un c).2]at O;cases O
    |some y=>exact⟨y,M⟩
   let{nr,mr,l1,l2,l3,h1,h2,h3,h4,h5}:=q.fd y hy;let on:(P.out.map (·.1)).Nodup:=KZ λz hz=>by rw[hy]at hz;cases hz;exact h1
   let rk:∀k,hO X.rv kd X.ra e k=hN kd P.ta e k:=λk=>by
    unfold hO;rw[q.rn,Vz (λz=>by cases z),q.ra]
   let ei:∀k,P.inp kd e k=(hN kd P.ta e k&&!hO P.ah kd P.aa e k):=λk=>by
    unfold NZ.inp;rw[hy];rfl
   refine{hn,Dh I.nd,λk k0=>?_,λk hk=>?_,λk k0 hk=>I.su k k0 (by rw[rk];exact h3 k k0 hk),λP' G=>by cases G}
   .show ay (vM X.cp P.out) k=if(hN kd av e k&&!hO P.ah kd P.aa e k)=true then ay (tbl<|ds.take<|X.n+1) k else none
    rw[vL on,ov,tv,I.cp k k0];unfold NG.cov;rw[rk,ei];let s1:=I.su k k0;rw[rk]at s1;let s2:=h3 k k0;cases c1:hN kd P.ta e k<;>cases c2:hO P.ah kd P.aa e k<;>cases c3:hN kd av e k<;>simp_all<;>(cases ay (tbl<|ds.take X.n) k<;>rfl)
   .let hk:=HM.mp hk;change (ay (vM X.cp P.out) k).isSome=true at hk;rw[vL on]at hk;cases c:ay P.out k with
    |none=>rw[c]at hk;exact I.kp k<|HM.mpr hk
    |some v=>
     rw[ov]at c;split at c
     .let{z,hz,kz}:=Ap (HM.mpr<|by rw[c];rfl);exact D.kb z (QX hz) k kz
     .cases c
  .rw[Vz O];refine{hn,I.nd,Y,I.kp,I.su,λP' G=>?_};cases G;refine{q.rn,q.ra,Zg q.nl,q.nk,q.un,λy hy=>?_};let{nr,mr,l1,l2,l3,h1,h2,h3,h4,h5}:=q.fd y hy;refine{nr,mr,Zg l1,l2,l3,h1,h2,h3,λj z=>?_,λm' Z=>?_}
   .show _↔_/\cO j ((ds.take<|X.n+1).drop nr)=some z;rw[h4,uW hx l1,kT,U,Vz λz=>by cases z]
   .let{c,z,hc,zc,l4,l5}:=h5 m' Z;refine{c,z,hc,zc,l4,QL l5 λh=>?_};rw[<-h,hx]at hc;cases hc;rw[zc]at U;cases U;exact O Z
def Inv.step{kd:Int}{x:DR}(I:Inv kd av e ds X)(D:Oy ds)(hx:ds[X.n]?=some x):Inv kd av e ds (a7 kd av e X x):=by
 let z:=Q2 hx;unfold a7;cases c:x.r with
 |put k v=>exact I.chg (D.kb x z k<|by rw[c];rfl) hx<|by rw[c];rfl
 |drop k=>exact I.chg (D.kb x z k<|by rw[c];rfl) hx<|by rw[c];rfl
 |mark m=>exact I.mrk D hx c
def Ka{kd:Int}{x:DR}:(X.chg kd av e k x).n=X.n+1:=by
 unfold NG.chg;split
 .rfl
 .cases X.pg with
  |none=>rfl
  |some P=>
   dsimp only;split<;>rfl
def Mx{i:Int}:(X.mrk i).n=X.n+1:=by
 unfold NG.mrk;cases X.pg with
 |none=>rfl
 |some P=>
  dsimp only;split<;>rfl
def y3{kd:Int}{x:DR}:(a7 kd av e X x).n=X.n+1:=by
 unfold a7;cases x.r with
 |put k v=>exact Ka
 |drop k=>exact Ka
 |mark i=>exact Mx
def Of(t:N6)(H:Hp)(v:V)(kd:Int)(a e:V):Prop:=v= .non\/∃p,v= .ref p/\NM t H p kd a e/\O6 kd a e
def Of.same{kd:Int}{a:V}(h:Of t H v kd a e)(s:Ck H H'):Of t H' v kd a e:=by
 rcases h with h|⟨p,h1,h2,z⟩
 .exact .inl h
 .exact .inr {p,h1,h2.same s,z}
noncomputable def IL:Option (Addr×List Tp)->V
 |some y=> .ref y.1
 |none=> .non
noncomputable def AL:Option Int->V
 |some i=> .int i
 |none=> .non
def oPg:Option NZ->V
 |some P=> .ref P.g
 |none=> .non
structure OT(t:N6)(H:Hp)(kd:Int)(e:V)(P:NZ):Prop where
 ob:∃dx,H P.g=some (.ins t.bI dx [("asked",.ref P.tk),(Pp,IL P.fd),("ahead",P.ah),("noted",.ref P.nd),("closing",AL P.cl)])
 no:H P.nd=some (.dK<|az<|P.no.map λz=>(z.1,V.ref z.2.p))
 tk:NM t H P.tk kd P.ta e/\O6 kd P.ta e
 ah:Of t H P.ah kd P.aa e
 fd:∀y,P.fd=some y->H y.1=some (.lst<|y.2.map λe=>V.ref e.p)/\∀z∈y.2,H z.p=some (.tup [.int z.k,z.v])
 ro:∀z∈P.no,H z.2.p=some (.tup z.2.r.vs)
structure NK(t:N6)(H:Hp)(c a p dd:RC)(kd:Int)(av e:V)(X:NG):Prop where
 ob:∃dx,H c=some (.ins t.aW dx [(nj,.ref a),("first",.ref p),("rest",X.rv),("followed",.int X.n),("copied",.ref dd),(z9,oPg X.pg)])
 cp:H dd=some (.dK<|az X.cp)
 tk:NM t H p kd av e/\O6 kd av e
 rt:Of t H X.rv kd X.ra e
 pg:∀P,X.pg=some P->OT t H kd e P/\P.nd≠dd
def OT.same{kd:Int}{P:NZ}(h:OT t H kd e P)(s:Ck H H'):OT t H' kd e P:=by
 let{dx,o}:=h.ob;exact{{dx,s _ _ o},s _ _ h.no,{h.tk.1.same s,h.tk.2},h.ah.same s,λy hy=>{s _ _ (h.fd y hy).1,λz hz=>s _ _<|(h.fd y hy).2 z hz},λz hz=>s _ _<|h.ro z hz}
def NK.same{kd:Int}(h:NK t H c a p dd kd av e X)(s:Ck H H'):NK t H' c a p dd kd av e X:=by
 let{dx,o}:=h.ob;exact{{dx,s _ _ o},s _ _ h.cp,{h.tk.1.same s,h.tk.2},h.rt.same s,λP z=>{(h.pg P z).1.same s,(h.pg P z).2}}
def Cc(t:N6):Sp:=λvs H Q _=>∃(v:V)(kd k:Int)(av e:V),vs=[v,.int k]/\Of t H v kd av e/\0<=k/\∀H',Ck H H'->Q (.bl<|hO v kd av e k) H'
def vz:Bs P w K mg base N8 4 t.yQ t.sY [eR,eH] (Cc t):=by
 refine T.yU.okl Cj λs H vs Q E U h _=>?_;intro X;let{v,kd,k,av,e,rfl,TO,k0,q}:=h;refine{_,(aD<|aK<|gy (bZ dW Ac bg<|aC _)<|fQ<|qN (kk:=3) (kU (dw T.bL T.jT (fe T) T.jZ (_))<|kU (dw T.iI T.mY (gR T) T.nN (_))<|dw T.cK T.jv (fc T) T.jL (_)) U.mo Ac<|ac E5 ag)
  ,?_}
 unfold hO at q;rcases TO with rfl|⟨p,rfl,Y,I⟩
 .rw[VA M]at q;exact{_,M,M,_,M,m9 M<|q H (Ck.refl _)}
 rw[Vz (by intro z;cases z)]at q;let{Z,fr,G,O}:=Y;refine{_,M,M,_,M,?_};rw[show decide (V.ref p=V.non)=false from VM λz=>by cases z];exact cC {_,M,p,_,Z,fr,_,M,G,O.ho,dHN I.kd,_,M,zb I G O k0 λH2 s2=>q H2 s2}
def qy(t:N6):Sp:=λvs H Q _=>∃(c a p dd:RC)(kd k:Int)(av e:V)(X:NG),vs=[.ref c,.int k]/\NK t H c a p dd kd av e X/\0<=k/\∀H',Ck H H'->Q (.bl<|X.cov kd av e k) H'
def qT:Bs P w K mg base N8 5 t.kf t.f8 [et,eH] (qy t):=by
 refine T.Fa.okl qF λs H vs Q E I h _=>?_;intro X;let{c,a,p,dd,kd,k,av,e,X,rfl,C,k0,q}:=h;refine{_,(aD<|aK<|gy (qN (kk:=3) (kU (dw T.bL T.jT (fe T) T.jZ (_))<|kU (dw T.iI T.mY (gR T) T.nN (_))<|dw T.cK T.jv (fc T) T.jL (_)) I.mo (aq Ac M)<|ac E5 ag)<|fQ<|Ct<|aI (vz T) I.mo {_} T.EA T.yU.kp T.EZ .nil au (ac (aq Ac M)<|ac E5 ag))
  ,?_}
 let{dx,O}:=C.ob;let{{Z,fr,z,U},Y}:=C.tk;unfold NG.cov at q;refine{_,M,c,_,dx,_,_,M,O,T.aJ,T.uk,M,p,_,Z,fr,_,M,z,U.ho,dHN Y.kd,_,M,zb Y z U k0 λH2 G=>{_,M,?_}};cases hc:hN kd av e k with
 |false=>
  rw[hc]at q;exact dP<|q H2 G
 |true=>
  rw[hc]at q;exact cC {_,M,c,_,dx,_,_,M,G _ _ O,T.aJ,T.du,M,_,M,X.rv,kd,k,X.ra,e,M,C.rt.same G,k0,λH3 s3=>{_,M,q H3<|G.trans s3}}
def qv(t:N6):Sp:=λvs H Q _=>∃(kd k:Int)(e:V)(P:NZ),vs=[.ref P.g,.int k]/\OT t H kd e P/\0<=k/\∀H',Ck H H'->Q (.bl<|P.inp kd e k) H'
def qS:Bs P w K mg base N8 5 t.j8 t.fZ [et,eH] (qv t):=by
 refine T.E8.okl qD λs H vs Q E Y h _=>?_;intro X;let{kd,k,e,G,rfl,C,k0,q}:=h;refine{_,(aD<|aK<|gy (bZ dW (aq Ac M) bg<|aC _)<|gy (qN (kk:=3) (kU (dw T.bL T.jT (fe T) T.jZ (_))<|kU (dw T.iI T.mY (gR T) T.nN (_))<|dw T.cK T.jv (fc T) T.jL (_)) Y.mo (aq Ac M)<|ac E5 ag)<|fQ<|Ct<|aI (vz T) Y.mo {_} T.EA T.yU.kp T.EZ .nil au (ac (aq Ac M)<|ac E5 ag))
  ,?_}
 let{dx,U}:=C.ob;let{{dr,fr,I,Z},on}:=C.tk;unfold NZ.inp at q;refine{_,M,G.g,_,dx,_,_,M,U,T.bx,T.cQ,M,M,_,M,?_};cases hf:G.fd with
 |none=>
  rw[hf]at q;exact m9 M<|q H (Ck.refl _)
 |some y=>
  rw[hf]at q;refine vZ (λz=>by cases z) ?_;refine{_,M,G.g,_,dx,_,_,M,U,T.bx,T.oV,M,G.tk,_,dr,fr,_,M,I,Z.ho,dHN on.kd,_,M,zb on I Z k0 λH2 O=>{_,M,?_}};cases hc:hN kd G.ta e k with
  |false=>
   rw[hc]at q;exact dP<|q H2 O
  |true=>
   rw[hc]at q;exact cC {_,M,G.g,_,dx,_,_,M,O _ _ U,T.bx,T.jt,M,_,M,G.ah,kd,k,G.aa,e,M,C.ah.same O,k0,λH3 s3=>{_,M,q H3<|O.trans s3}}
def NG.mut(X:NG)(c dd:RC):Addr->Prop:=λb=>b=c\/b=dd\/∃P,X.pg=some P/\(b=P.g\/b=P.nd)
def NG.adr(X:NG)(c p dd:RC):Addr->Prop:=λb=>X.mut c dd b\/b=p\/X.rv= .ref b\/∃P,X.pg=some P/\(b=P.tk\/P.ah= .ref b\/∃y,P.fd=some y/\b=y.1)
def PU(a p:RC)(rv:V)(n:Int)(dd:RC)(pg:V):List (Str×V):=[(nj,.ref a),("first",.ref p),("rest",rv),("followed",.int n),("copied",.ref dd),(z9,pg)]
noncomputable def Oz(tk:RC)(fd ah:V)(nd:RC)(cl:V):List (Str×V):=[("asked",.ref tk),(Pp,fd),("ahead",ah),("noted",.ref nd),("closing",cl)]
def cN{o':HO}(h1:H b=some o)(h2:H q=some o')(n:o≠o'):b≠q:=λz=>by
 rw[z,h2]at h1;exact n (VB h1).symm
def NM.ne{d:RC}{kd:Int}{a:V}(h:NM t H p kd a e)(hc:H c=some (.ins C d fs))(n:fs.lookup (rD:Str)=none):p≠c:=λz=>by
 let{dx,G,h1,h2}:=h;rw[z,hc]at h1;have:=h2.at_;rw[<-(HO.ins.inj<|VB h1).2.2,n]at this;cases this
def NM.nd{kd:Int}{a:V}(h:NM t H p kd a e)(hc:H c=some o)(n:∀C d fs,o≠ .ins C d fs):p≠c:=λz=>by
 let{dx,G,h1,h2}:=h;rw[z,hc]at h1;exact n _ _ _<|VB h1
def NM.up{kd:Int}{a:V}(h:NM t H p kd a e)(n:p≠c):NM t (upd H c o) p kd a e:=by
 let{dx,z,h1,h2}:=h;exact{dx,z,by rwa[ae n],h2}
def Of.up{kd:Int}{a:V}(h:Of t H v kd a e)(n:∀p,NM t H p kd a e->p≠c):Of t (upd H c o) v kd a e:=by
 rcases h with h|⟨p,h1,h2,z⟩
 .exact .inl h
 .exact .inr {p,h1,h2.up<|n p h2,z}
section
variable{kd:Int}
def OT.go{P:NZ}(h:OT t H kd e P)(k:∀b o,H b=some o->(b=P.g\/b=P.nd\/b=P.tk\/P.ah= .ref b\/(∃y,P.fd=some y/\b=y.1)\/∃xs,o= .tup xs)->H' b=some o):OT t H' kd e P:=by
 let{dx,G}:=h.ob;refine{{dx,k _ _ G<|.inl M},k _ _ h.no<|.inr<|.inl M,{?_,h.tk.2},?_,λy hy=>{k _ _ (h.fd y hy).1<|.inr<|.inr<|.inr<|.inr<|.inl ⟨y,hy,M⟩,λz hz=>k _ _ ((h.fd y hy).2 z hz)<|.inr (.inr<|.inr<|.inr<|.inr {_,M})},λz hz=>k _ _ (h.ro z hz)<|.inr (.inr<|.inr<|.inr<|.inr {_,M})}
 .let{d,fs,h1,h2}:=h.tk.1;exact{d,fs,k _ _ h1<|.inr<|.inr<|.inl M,h2}
 .rcases h.ah with h|⟨q,h1,⟨d,fs,h2,I⟩,O⟩
  .exact .inl h
  .exact .inr {q,h1,{d,fs,k _ _ h2<|.inr<|.inr<|.inr<|.inl h1,I},O}
def NK.go(C:NK t H c a p dd kd av e X)(k:∀b o,H b=some o->(X.adr c p dd b\/∃xs,o= .tup xs)->H' b=some o):NK t H' c a p dd kd av e X:=by
 let{dx,G}:=C.ob;refine{{dx,k _ _ G<|.inl (.inl<|.inl M)},k _ _ C.cp<|.inl<|.inl<|.inr<|.inl M,{?_,C.tk.2},?_,λP z=>{(C.pg P z).1.go λb o e h=>k b o e ?_,(C.pg P z).2}}
 .let{d,fs,h1,h2}:=C.tk.1;exact{d,fs,k _ _ h1<|.inl<|.inr<|.inl M,h2}
 .rcases C.rt with h|⟨q,h1,⟨d,fs,h2,I⟩,O⟩
  .exact .inl h
  .exact .inr {q,h1,{d,fs,k _ _ h2<|.inl<|.inr<|.inr<|.inl h1,I},O}
 .rcases h with h|h|h|h|h|h
  .exact .inl<|.inl (.inr<|.inr {P,z,.inl h})
  .exact .inl<|.inl (.inr<|.inr {P,z,.inr h})
  .exact .inl<|.inr (.inr<|.inr {P,z,.inl h})
  .exact .inl<|.inr (.inr<|.inr {P,z,.inr<|.inl h})
  .exact .inl<|.inr (.inr<|.inr {P,z,.inr<|.inr h})
  .exact .inr h
def OT.offc{P:NZ}{rv pg:V}{n:Int}(h:OT t H kd e P)(hc:H c=some (.ins t.aW dx<|PU a p rv n dd pg)):OT t (upd H c o) kd e P:=by
 let{I,G}:=h.ob;refine{{I,by rwa[ae (cN G hc λz=>VE (VS List.length (HO.ins.inj z).2.2)<|by show ¬5=6;decide)]},by rw[ae (cN h.no hc λz=>by cases z)];exact h.no,{h.tk.1.up<|h.tk.1.ne hc M,h.tk.2},h.ah.up λq hq=>hq.ne hc M,λy hy=>{?_,λz hz=>?_},λz hz=>?_}
 .have:=(h.fd y hy).1;rwa[ae (cN this hc λz=>by cases z)]
 .have:=(h.fd y hy).2 z hz;rwa[ae (cN this hc λz=>by cases z)]
 .have:=h.ro z hz;rwa[ae (cN this hc λz=>by cases z)]
def OT.offd{P:NZ}{d:RC}(h:OT t H kd e P)(hd:H d=some (.dK kvs))(n:P.nd≠d):OT t (upd H d o) kd e P:=by
 let{I,G}:=h.ob;refine{{I,by rwa[ae (cN G hd λz=>by cases z)]},by rw[ae n];exact h.no,{h.tk.1.up (h.tk.1.nd hd λ_ _ _ z=>by cases z),h.tk.2},h.ah.up (λq hq=>hq.nd hd λ_ _ _ z=>by cases z),λy hy=>{?_,λz hz=>?_},λz hz=>?_}
 .have:=(h.fd y hy).1;rwa[ae (cN this hd λz=>by cases z)]
 .have:=(h.fd y hy).2 z hz;rwa[ae (cN this hd λz=>by cases z)]
 .have:=h.ro z hz;rwa[ae (cN this hd λz=>by cases z)]
def NK.setc(C:NK t H c a p dd kd av e X){rv ra:V}{pg:Option NZ}(rt:Of t H rv kd ra e)(I:∀P,pg=some P->OT t H kd e P/\P.nd≠dd):NK t (upd H c<|.ins t.aW dx<|PU a p rv n dd<|oPg pg) c a p dd kd av e ⟨rv,ra,n,X.cp,pg⟩:=by
 let{U,G}:=C.ob;exact{⟨dx,ai⟩,by rw[ae (cN C.cp G λz=>by cases z)];exact C.cp,{C.tk.1.up<|C.tk.1.ne G M,C.tk.2},rt.up λq hq=>hq.ne G M,λP O=>{(I P O).1.offc G,(I P O).2}}
def NK.setd(C:NK t H c a p dd kd av e X){kv:RH}:NK t (upd H dd<|.dK<|az kv) c a p dd kd av e {X with cp:=kv}:=by
 let{O,I}:=C.ob;exact{{O,by rw[ae (cN I C.cp λz=>by cases z)];exact I},ai,{C.tk.1.up (C.tk.1.nd C.cp λ_ _ _ z=>by cases z),C.tk.2},C.rt.up (λq hq=>hq.nd C.cp λ_ _ _ z=>by cases z),λP G=>{(C.pg P G).1.offd C.cp (C.pg P G).2,(C.pg P G).2}}
def NK.setn(C:NK t H c a p dd kd av e X){P:NZ}(O:X.pg=some P){no:List (Int×DR)}(Z:∀z∈no,H z.2.p=some (.tup z.2.r.vs)):NK t (upd H P.nd<|.dK<|az<|no.map λz=>(z.1,V.ref z.2.p)) c a p dd kd av e {X with pg:=some {P with no:=no}}:=by
 let{dy,G}:=C.ob;let{R,U}:=C.pg P O;let{dg,Y}:=R.ob;rw[O]at G;refine{{dy,by rwa[ae (cN G R.no λz=>by cases z)]},by rw[ae U.symm];exact C.cp,{C.tk.1.up (C.tk.1.nd R.no λ_ _ _ z=>by cases z),C.tk.2},C.rt.up (λq hq=>hq.nd R.no λ_ _ _ z=>by cases z),λP' I=>?_};cases I;refine{{{dg,by rwa[ae (cN Y R.no λz=>by cases z)]},ai,{R.tk.1.up (R.tk.1.nd R.no λ_ _ _ z=>by cases z),R.tk.2},R.ah.up (λq hq=>hq.nd R.no λ_ _ _ z=>by cases z),λy hy=>{?_,λz hz=>?_},λz hz=>?_},U}
 .have:=(R.fd y hy).1;rwa[ae (cN this R.no λz=>by cases z)]
 .have:=(R.fd y hy).2 z hz;rwa[ae (cN this R.no λz=>by cases z)]
 .have:=Z z hz;rwa[ae (cN this R.no λz=>by cases z)]
def NK.setg(C:NK t H c a p dd kd av e X){P:NZ}(U:X.pg=some P){fd:Option (Addr×List Tp)}{ah aa:V}{cl:R8}(hf:∀y,fd=some y->H y.1=some (.lst<|y.2.map λe=>V.ref e.p)/\∀z∈y.2,H z.p=some (.tup [.int z.k,z.v]))(ha:Of t H ah kd aa e):NK t (upd H P.g<|.ins t.bI dx<|Oz P.tk (IL fd) ah P.nd<|AL cl) c a p dd kd av e {X with pg:=some {P with fd:=fd,ah:=ah,aa:=aa,cl:=cl}}:=by
 let{Y,I}:=C.ob;let{R,Z}:=C.pg P U;let{dg,G}:=R.ob;rw[U]at I;let gc:=cN I G λz=>VE (VS List.length (HO.ins.inj z).2.2) (by show ¬6=5;decide);refine{{Y,by rw[ae gc];exact I},by rw[ae (cN C.cp G λz=>by cases z)];exact C.cp,{C.tk.1.up<|C.tk.1.ne G M,C.tk.2},C.rt.up λq hq=>hq.ne G M,λP' O=>?_};cases O;refine{{⟨dx,ai⟩,by rw[ae (cN R.no G λz=>by cases z)];exact R.no,{R.tk.1.up<|R.tk.1.ne G M,R.tk.2},ha.up λq hq=>hq.ne G M,λy hy=>{?_,λz hz=>?_},λz hz=>?_},Z}
 .have:=(hf y hy).1;rwa[ae (cN this G λz=>by cases z)]
 .have:=(hf y hy).2 z hz;rwa[ae (cN this G λz=>by cases z)]
 .have:=R.ro z hz;rwa[ae (cN this G λz=>by cases z)]
end
def Gk:∀{more acc:RH},((acc++more).map (·.1)).Nodup->sM (az acc) (az more)=az (acc++more)
 | [],acc,_=>by rw[Z6];rfl
 |p::r,acc,h=>by
  let n:ay acc p.1=none:=by
   cases c:ay acc p.1 with
   |none=>rfl
   |some w=>
    rw[Q9,X7]at h;exact VE M (h.2.2 p.1 (Qe.mpr {(p.1,w),bc c,M}) p.1 Qa)
  show sM (bf (az acc) (Sum.inl p.1) p.2) (az r)=_;rw[cw,mH p.2 n,Gk (by rwa[Qi]),Qi];rfl
def kI{x:V}{r:RW}:bD f v ((f,x)::r)=(f,v)::r:=by rw[bD,VA M]
def D9:Sp:=λvs H Q _=>∃(d:RC)(D:RH)(x:DR)(k:Int),vs=[.ref d,.ref x.p]/\H d=some (.dK<|az D)/\H x.p=some (.tup x.r.vs)/\x.r.key=some k/\D.length<50000/\Q .non (upd H d<|.dK<|az<|ap D x)
def yh:Bs P w K mg base N8 1 t.BA t.wu [vm,Pm] D9:=by
 refine T.BG.okl Ef λs H vs Q E G h _=>?_;intro X;let{d,D,x,k,rfl,hd,hx,hk,dl,q}:=h;refine mX (λx=>aU (aA cY (aS bE E5 af<|λ_ _=>M) mL<|aC _) (aD<|kL (iV G) Ac (aS bE E5 af<|λ_ _=>M) (aS bE E5 af<|λ_ _=>M) M) x) ?_;refine aw (aN<|dO QW ZE XU Gj Ac<|ac (aS bE E5 af<|λ_ _=>M)<|ac bg ag) ?_
 intros
 unfold ap at q;cases G:x.r with
 |put j v=>
  rw[G]at q hx;refine{_,M,x.p,_,_,_,M,M,Na.of hx,M,M,_,M,jV M ?_};refine{_,M,x.p,_,_,_,M,M,Na.of hx,M,_,M,_,M,x.p,_,_,_,M,M,Na.of hx,M,d,_,M,O1.k (k:=Sum.inl j) hd (by rw[a8];exact a9 ()),?_};rw[cw];exact q
 |drop j=>
  rw[G]at q hx;refine{_,M,x.p,_,_,_,M,M,Na.of hx,M,M,_,M,bz (λz=>VE (V.str.inj z) ∅) ?_};refine{_,M,.inr<|.inr<|.inl {M,.inl {_,hd}},_,M,x.p,_,_,_,M,M,Na.of hx,M,d,_,Sum.inl j,.non,M,M,hd,λv _=>?_,λI=>?_}
  .rw[qb];exact q
  .rw[M9]at I;let e:bG D j=D:=List.filter_eq_self.mpr λz hz=>VJ λe=>by
    have:=HM.mp (Zx (f:=(·.1)) hz);rw[e,I]at this;cases this
   let q:Q .non (upd H d<|.dK<|az<|bG D j):=q;rw[e]at q;let u:upd H d (.dK<|az D)=H:=funext λb=>by
    by_cases c:b=d
    .rw[c,ai,hd]
    .rw[ae c]
   rw[u]at q;exact q
 |mark i=>rw[G]at hk;cases hk
def Dw.at1{r:Dw}(h:r.key=some k):OR r.vs 1=some (.int k):=by
 cases r with
 |put j v=>cases h;rfl
 |drop j=>cases h;rfl
 |mark i=>cases h
structure CSz(X:NG):Prop where
 cl:X.cp.length<=5000
 pg:∀P,X.pg=some P->P.no.length<=5000/\(∀z∈P.no,∃k,z.2.r.key=some k)/\(P.fd=none->P.cl=none)/\∀y,P.fd=some y->(y.2.map (·.k)).Nodup/\y.2.length<=5000
def Inv.sz{kd:Int}(I:Inv kd av e ds X)(l:ds.length<=5000):CSz X:=by
 refine{?_,λP U=>?_}
 .let h1:X.cp.length<=((tbl<|ds.take X.n).map (·.1)).length:=ME I.nd λk hk=>by
   let k0:=I.kp k hk;let hk:=HM.mp hk;rw[I.cp k k0]at hk;split at hk
   .exact HM.mpr hk
   .cases hk
  let h2:=CZ (l:=ds.take X.n);rw[Q0]at h1;rw[Q8]at h2;lia
 .let q:=I.pg P U;have:=I.le;have:=q.nl;refine{(),λz hz=>{_,q.nk z hz},λh=>(q.un h).2,λy hy=>?_};let{nr,G,l1,Z,l3,O,Y,_}:=q.fd y hy;refine{O,?_};let h1:=gl O (S:=(tbl<|ds.take G).map (·.1)) λk hk=>by
   let{z,hz,rfl}:=Qe.mp hk;exact Qe.mpr {_,((Y z.k z.v).mp<|Zx (f:=Tp.kv) hz).1,M}
  let h2:=CZ (l:=ds.take G);rw[Q0,Q0]at h1;rw[Q8]at h2;lia
def si(K:Wp)(t:N6):Sp:=λvs H Q _=>∃(kd:Int)(e:V)(P:NZ)(y:Addr×List Tp),vs=[.ref P.g]/\OT t H kd e P/\P.fd=some y/\(y.2.map (·.k)).Nodup/\(∀z∈P.no,∃k,z.2.r.key=some k)/\y.2.length<=5000/\P.no.length<=5000/\
 ∀(H':Hp)(r:RC),Ck H H'->H r=none->H' r=some (.dK<|az P.out)->Q (.ref r) H'
def sJ:Bs P w K mg base N8 2 t.lP t.gH [et] (si K t):=by
 refine T.Fh.okl sk λs H vs Q E O h _=>?_;intro X;let{kd,e,G,y,rfl,R,hy,nt,nk,l1,l2,q}:=h;refine aj (ND 1<|oo (CL O.hd) {_} T.Fk zY (ac (aq Ac M) ag))
   (aj (uw (eZ VP M (ID<|zx QW PySem.F.slot_dict_values PySem.F.type_dict_values Es<|aq Ac M) (OQ 2)
    (aD<|aN<|aI (yh T) O.mo {_} T.GA T.BG.kp T.Hg .nil au (ac E5<|ac HN ag))))
   (aw (aK E5) ?_))
 intros
 let{dg,hg}:=R.ob;let{hf,tu}:=R.fd y hy;let ef:IL G.fd= .ref y.1:=by rw[hy];rfl
 rw[ef]at hg;refine{_,M,G.g,_,dg,_,_,M,hg,T.bx,T.cQ,M,y.1,y.2.map λu=>(u.p,Sum.inl u.k,u.v),M,by rw[QP];exact DI.of hf,(λu' a1=>by let{u,hu,rfl}:=Qe.mp a1;exact Na.of<|tu u hu),λr nr=>?_};rw[QP];let el:y.2.map ((λx:Addr×Key×V=>x.2)∘λu:Tp=>(u.p,(Sum.inl u.k:Key),u.v))=az (y.2.map Tp.kv):=by unfold az;rw[QP];rfl
 let er:G.rows=y.2.map Tp.kv:=by unfold NZ.rows;rw[hy]
 rw[el,show sM [] (az<|y.2.map Tp.kv)=_ from Gk (acc:=[]) (by rwa[Vn,QP]),Vn,<-er];let lr:G.rows.length<=5000:=by rwa[er,Q0]
 let s1:=am (o:= .dK<|az G.rows) nr;let h1:upd H r (.dK<|az G.rows) r=some (.dK<|az G.rows):=ai;generalize upd H r (.dK<|az G.rows)=H1 at s1 h1⊢;let I:=s1 _ _ R.no;let U:r≠G.nd:=λz=>by rw[z,R.no]at nr;cases nr
 refine{G.nd,_,I,_,M,G.g,_,dg,_,_,M,s1 _ _ hg,T.bx,T.oU,M,.inr<|.inr<|.inl {M,.inl {_,I}},G.nd,_,M,M,I,λZ nv=>{Z,G.nd,_,M,ai,am nv _ _ I,λob=>?_}};let s2:=s1.trans (am (o:=PJ Z G.nd) nv);let h2:=am (o:=PJ Z G.nd) nv _ _ h1;let a0:=am (o:=PJ Z G.nd) nv _ _ I;generalize upd H1 Z (PJ Z G.nd)=H2 at s2 h2 a0⊢;refine GU (ob:=ob) (d:=G.nd) (kvs:=az<|G.no.map λz=>(z.1,V.ref z.2.p)) (λi W H'=>∃u:Option V,W=[some (.ref G.g),some (.ref r),u]/\H' G.nd=some (.frz ob<|.dK<|az<|G.no.map λz=>(z.1,V.ref z.2.p))/\H' r=some (.dK (az (((G.no.map (·.2)).take i).foldl ap G.rows)))/\∀b o,b≠G.nd->b≠r->H2 b=some o->H' b=some o) ?_ (λi W H' _ w=>by let{u,_,w,_}:=w;exact w) (λi k v W H' hk w=>?_)<|λW H' w=>?_
 .exact{none,M,ai,by rwa[ae U],λb o n1 n2 e=>by rwa[ae n1]}
 .let{u,rfl,fz,O,kp}:=w;obtain⟨z,hz,rfl⟩:∃z,G.no[i]?=some z/\v= .ref z.2.p:=by
   unfold az at hk;rw[Qp,Qp]at hk;cases c:G.no[i]? with
   |none=>rw[c]at hk;cases hk
   |some z=>rw[c]at hk;cases hk;exact⟨z,M,M⟩
  let hm:=Q2 hz;let hi:=(Q1.mp hz).1;let{k',kz}:=nk z hm;let Y:=s2 _ _ (R.ro z hm);let hx:=kp _ _ (cN Y a0 λz=>by cases z) (cN Y h2 λz=>by cases z) Y;let lf:=rq (l:=(G.no.map (·.2)).take i) (Wr:=G.rows);rw[Q8]at lf;unfold fj
  cbv
  refine{_,M,_,M,r,_,z.2,k',M,O,hx,kz,(),?_};refine{_,M,by rwa[ae U.symm],?_,λb o n1 n2 e=>by rw[ae n2];exact kp b o n1 n2 e};rw[ai,Qo,Qp,hz,X1];rfl
 .let{u,rfl,fz,O,kp}:=w;refine{ob,fz,?_};rw[a8,Q0,Qx (by rw[Q0];exact Q4 _)]at O;refine{_,M,q _ r (λb o e=>?_) nr<|by rwa[ae U]};by_cases c:b=G.nd
  .rwa[c,ai,<-R.no,<-c]
  .rw[ae c];exact kp b o c (al e nr)<|s2 _ _ e
def kj(K:Wp)(t:N6):Sp:=λvs H Q _=>∃(c a p dd:RC)(kd m:Int)(av e:V)(X:NG),vs=[.ref c,.int m]/\NK t H c a p dd kd av e X/\CSz X/\
 ∀H',NK t H' c a p dd kd av e {X.mrk m with n:=X.n}->(∀b o,¬X.mut c dd b->H b=some o->H' b=some o)->Q .non H'
def kN:Bs P w K mg base N8 3 t.fJ t.cU [et,Pl] (kj K t):=by
 refine T.Ai.okl ko λs H vs Q E hr h _=>?_;intro X;let{c,a,p,dd,kd,m,av,e,X',rfl,C,Z,q}:=h;refine aj (ND 2<|aq Ac M)
   (aj (aU (PW.pt<|qM (aA gA HN bg<|aC _)<|mF<|aA Mv (aq HN M) E5<|aC _)
    (aD oj)
    aL)
   (aj (aN<|dO QW PySem.F.slot_dict_update PySem.F.type_dict_update Et (aq Ac M)<|ac (bM HN T.bx T.Fd (sJ T) hr.mo T.Fg .nil au) ag)
   (aj (ba Ac (aq HN M) M)
   (aw (ba Ac bg M) ?_))))
 intros
 let{dx,Y}:=C.ob;refine{_,M,c,_,dx,_,_,M,Y,T.aJ,T.bW,M,?_};cases I:X'.pg with
 |none=>
  let q:=q H;unfold NG.mrk at q;rw[I]at q Y;refine{_,M,M,_,M,jV M<|q ?_ λ_ _ _ e=>e};let h:=C;rw[show X'={X' with pg:=none} by rw[<-I]]at h;exact h
 |some G=>
  let{R,nn}:=C.pg G I;let{z1,z2,z3,z4}:=Z.pg G I;let{dg,hg}:=R.ob;unfold NG.mrk at q;rw[I]at q Y
  (try dsimp only at q)
  refine{_,M,M,_,M,bz (λz=>by cases z) {_,M,G.g,_,dg,_,_,M,hg,T.bx,T.dX,M,_,M,?_}};by_cases U:G.cl=some m
  case neg=>
   rw[Vz U]at q;let q:=q H (by let h:=C;rw[show X'={X' with pg:=some G} by rw[<-I]]at h;exact h) λ_ _ _ e=>e;cases cc:G.cl with
   |none=>exact{M,_,M,cC q}
   |some z=>
    refine{M,_,M,?_};rw[VM λh=>U (by rw[cc,V.int.inj h])];exact cC q
  rw[VA U]at q;rw[U]at hg⊢;obtain⟨y,hy⟩:∃y,G.fd=some y:=by
   cases cf:G.fd with
   |none=>rw[z3 cf]at U;cases U
   |some y=>exact⟨y,M⟩
  let{ny,ly}:=z4 y hy;refine{M,_,M,m9 M ?_};unfold uE
  cbv
  refine{_,M,c,_,dx,_,_,M,Y,T.aJ,T.fV,M,.inr<|.inr<|.inl {M,.inl {_,C.cp}},_,M,G.g,dg,_,M,hg,{_},kd,e,G,y,M,R,hy,ny,z2,ly,z1,λH2 o s2 no O=>?_};let od:dd≠o:=al C.cp no;let lo:G.out.length<=10000:=by
   let h1:=rq (l:=G.no.map (·.2)) (Wr:=G.rows);let h2:G.rows.length=y.2.length:=by unfold NZ.rows;rw[hy];exact Q0 _
   rw[Q0]at h1;show((G.no.map (·.2)).foldl ap G.rows).length<=10000;lia
  let zc:=Z.cl;refine{dd,o,_,_,M,M,od,s2 _ _ C.cp,O,(by rw[a8,a8];exact QU<|a9 ()),?_};rw[yk];let C2:=(C.same s2).setd (kv:=vM X'.cp G.out);let k2:∀b o,¬X'.mut c dd b->H b=some o->upd H2 dd (.dK<|az<|vM X'.cp G.out) b=some o:=λb o n e=>by rw[ae λz=>n (.inr<|.inl z)];exact s2 _ _ e
  generalize upd H2 dd (.dK<|az<|vM X'.cp G.out)=H3 at C2 k2⊢;let{d2,O}:=C2.ob;let{R2,_}:=C2.pg G I;let{a0,a1}:=R2.ob
  cbv
  refine{_,M,G.g,_,a0,_,_,M,a1,T.bx,T.jt,M,_,M,c,_,d2,_,M,O,T.aJ,T.du,(by show 6<1000;decide),?_};rw[bC ∅,bC ∅,kI];refine{_,M,c,_,d2,_,M,ai,T.aJ,T.bW,(by show 6<1000;decide),?_};rw[dR,bC ∅,bC ∅,bC ∅,bC ∅,bC ∅,kI];exact q _ (C2.setc (pg:=none) R2.ah λ_ z=>by cases z) λb o n e=>by rw[ae λz=>n (.inl z)];exact k2 b o n e
def i7(K:Wp)(t:N6):Sp:=λvs H Q _=>∃(c a p dd:RC)(kd k:Int)(av e:V)(X:NG)(x:DR),vs=[.ref c,.ref x.p]/\NK t H c a p dd kd av e X/\CSz X/\H x.p=some (.tup x.r.vs)/\x.r.key=some k/\0<=k/\
 ∀H',NK t H' c a p dd kd av e {X.chg kd av e k x with n:=X.n}->(∀b o,¬X.mut c dd b->H b=some o->H' b=some o)->Q .non H'
def js:Bs P w K mg base N8 6 t.eL t.cy [et,Pm] (i7 K t):=by
 refine T.yV.okl i8 λs H vs Q E U h _=>?_;intro X;let{c,a,p,dd,kd,k,av,e,X',x,rfl,C,Z,hx,hk,k0,q}:=h;refine aj (ND 2<|aS bE E5 af<|λ_ _=>M)
   (aj (ND 3<|aq Ac M)
   (mX (λx=>aU (cE<|aO Ac T.aJ T.Ex (qT T) U.mo T.E2 .nil au<|ac HN ag) (aD<|aN<|aI (yh T) U.mo {_} T.GA T.BG.kp T.Hg .nil au (ac (aq Ac M)<|ac E5 ag)) x) ?_))
 refine aw (aU (PW.pt<|jr (aA dW NJ bg<|aC _)<|gO<|cE<|aO NJ T.bx T.Ew (qS T) U.mo T.E1 .nil au<|ac HN ag)
    (aD<|kL (iV U) (aq NJ M) HN E5 M)
    aL) ?_
 intros
 let{dx,ho}:=C.ob;refine{_,M,x.p,_,_,_,M,M,Na.of hx,Dw.at1 hk,_,M,c,_,dx,_,_,M,ho,T.aJ,T.bW,M,?_};refine{_,M,c,dx,_,M,ho,{_},_,M,c,a,p,dd,kd,k,av,e,X',M,C,k0,λH1 s1=>{_,M,?_}};let C1:=C.same s1;let O:=s1 _ _ hx;let a0:=s1 _ _ ho;unfold NG.chg at q;let zc:=Z.cl;cases hc:X'.cov kd av e k with
 |true=>
  rw[VA hc]at q;refine cC {_,M,c,_,dx,_,_,M,a0,T.aJ,T.fV,M,_,M,dd,X'.cp,x,k,M,C1.cp,O,hk,(),?_};exact q _ C1.setd λb o n e=>by rw[ae λz=>n (.inr<|.inl z)];exact s1 _ _ e
 |false=>
  rw[Vz (by rw[hc];exact Qc)]at q;refine dP ?_;cases I:X'.pg with
  |none=>
   rw[I]at q;refine{_,M,M,_,M,m9 M<|q _ ?_ λb o _ e=>s1 _ _ e};let h:=C1;rw[show X'={X' with pg:=none} by rw[<-I]]at h;exact h
  |some G=>
   let{R,nn}:=C1.pg G I;let{z1,z2,z3,z4}:=Z.pg G I;let{dg,hg}:=R.ob;rw[I]at q
   (try dsimp only at q)
   refine{_,M,M,_,M,vZ (λz=>by cases z) {_,M,G.g,dg,_,M,hg,{_},_,M,kd,k,e,G,M,R,k0,λH2 Y=>{_,M,?_}}};let C2:=C1.same Y;let a1:=Y _ _ O;cases hi:G.inp kd e k with
   |false=>
    rw[Vz (by rw[hi];exact Qc)]at q;refine dP<|q _ ?_ λb o _ e=>Y _ _ (s1 _ _ e);let h:=C2;rw[show X'={X' with pg:=some G} by rw[<-I]]at h;exact h
   |true=>
    rw[VA hi]at q;let{R2,_}:=C2.pg G I;let{a2,a3}:=R2.ob;refine cC {_,M,_,M,G.g,_,a2,_,_,M,a3,T.bx,T.oU,M,_,M,G.nd,_,M,O1.k (k:=Sum.inl k) R2.no (by rw[a8,Q0];exact a9 ()),?_};rw[cw,<-FT];refine q _ (C2.setn I λz hz=>?_) λb o n e=>by rw[ae λz=>n (.inr<|.inr {G,I,.inr z})];exact Y _ _<|s1 _ _ e
    rcases OC.mp (show(z.1,z.2)∈xt G.no k x from hz)with⟨_,h⟩|⟨_,h⟩
    .rwa[h]
    .exact R2.ro z h
section
variable{kd:Int}
def NK.dom(C:NK t H c a p dd kd av e X)(h:X.adr c p dd b):∃o,H b=some o/\∀xs,o≠ .tup xs:=by
 let{dx,I}:=C.ob;let tk:∀{q:RC}{a':V},NM t H q kd a' e->∃o,H q=some o/\∀xs,o≠ .tup xs:=λh=>by
  let{_,_,h,_}:=h;exact{_,h,λ_ z=>by cases z}
 let G:∀{v a':V},Of t H v kd a' e->v= .ref b->∃o,H b=some o/\∀xs,o≠ .tup xs:=λh z=>by
  rcases h with h|⟨q,h1,h2,_⟩
  .rw[h]at z;cases z
  .rw[h1]at z;cases z;exact tk h2
 rcases h with(rfl|rfl|⟨P,hP,rfl|rfl⟩)|rfl|h|⟨P,hP,rfl|h|⟨y,hy,rfl⟩⟩
 .exact{_,I,λ_ z=>by cases z}
 .exact{_,C.cp,λ_ z=>by cases z}
 .let{U,O}:=(C.pg P hP).1.ob;exact{_,O,λ_ z=>by cases z}
 .exact{_,(C.pg P hP).1.no,λ_ z=>by cases z}
 .exact tk C.tk.1
 .exact G C.rt h
 .exact tk (C.pg P hP).1.tk.1
 .exact G (C.pg P hP).1.ah h
 .exact{_,((C.pg P hP).1.fd y hy).1,λ_ z=>by cases z}
def NK.nmut(C:NK t H c a p dd kd av e X)(hb:H b=some o)(z:∀C d fs,o≠ .ins C d fs)(G:∀k,o≠ .dK k):¬X.mut c dd b:=λh=>by
 let{dx,O}:=C.ob;rcases h with rfl|rfl|⟨P,I,rfl|rfl⟩
 .rw[O]at hb;exact z _ _ _ (VB hb).symm
 .rw[C.cp]at hb;exact G _ (VB hb).symm
 .let{Y,U}:=(C.pg P I).1.ob;rw[U]at hb;exact z _ _ _ (VB hb).symm
 .rw[(C.pg P I).1.no]at hb;exact G _ (VB hb).symm
def NK.fr{x:NF}(C:NK t H c a p dd kd av e X)(n:∀b,X.adr c p dd b->¬F b)(A:NI K t H a F x)(f:Fr F F' H H'):NK t H' c a p dd kd av e X/\∀b,X.adr c p dd b->¬F' b:=
 {C.go λb o G h=>(f b o (h.elim (n b) λ⟨xs,z⟩=>λO=>by
  let{o',I,U}:=A.dom O;rw[G]at I;exact U xs<|by rw[<-VB I,z]) G).1,λb hb=>by
  let{o,G,_}:=C.dom hb;exact(f b o (n b hb) G).2}
def NI.mut{x:NF}(A:NI K t H a F x)(C:NK t H c a p dd kd av e X)(n:∀b,X.adr c p dd b->¬F b)(k:∀b o,¬X.mut c dd b->H b=some o->H' b=some o):NI K t H' a F x:=
 A.keep (λb hb=>by
  let{o,e,_}:=A.dom hb;rw[e];exact k b o (λz=>n b (.inl z) hb) e) λb xs e=>k b _ (C.nmut e (λ_ _ _ z=>by cases z) λ_ z=>by cases z) e
def nM{x:DR}:(X.chg kd av e k x).rv=X.rv/\(X.chg kd av e k x).ra=X.ra/\(∀z,(X.chg kd av e k x).pg=some z->∃P,X.pg=some P/\z={P with no:=z.no})/\(X.chg kd av e k x).pg.isSome=X.pg.isSome:=by
 let{rv,ra,n,cp,pg}:=X;unfold NG.chg;split
 .exact{M,M,λz h=>⟨z,h,M⟩,M}
 .cases pg with
  |none=>exact{M,M,(λz h=>by cases h),M}
  |some P=>
   dsimp only;split
   .exact{M,M,(λz h=>by cases h;exact⟨P,M,M⟩),M}
   .exact{M,M,(λz h=>by cases h;exact⟨P,M,M⟩),M}
def K9:((X.mrk m).rv=X.rv/\(X.mrk m).ra=X.ra/\(X.mrk m).pg=X.pg/\∀P,X.pg=some P->P.cl≠some m)\/∃P,X.pg=some P/\P.cl=some m/\(X.mrk m).rv=P.ah/\(X.mrk m).ra=P.aa/\(X.mrk m).pg=none:=by
 let{rv,ra,n,cp,pg}:=X;unfold NG.mrk;cases pg with
 |none=>exact .inl {M,M,M,λ_ z=>by cases z}
 |some P=>
  dsimp only;by_cases h:P.cl=some m
  .rw[VA h];exact .inr ⟨P,M,h,M,M,M⟩
  .rw[Vz h];exact .inl {M,M,M,λ_ z=>by cases z;exact h}
def oe{x:DR}:((a7 kd av e X x).rv=X.rv/\(a7 kd av e X x).ra=X.ra/\(∀G,(a7 kd av e X x).pg=some G->∃P,X.pg=some P/\G={P with no:=G.no})/\(∀P m,X.pg=some P->x.r= .mark m->P.cl≠some m)/\(a7 kd av e X x).pg.isSome=X.pg.isSome)\/∃P m,X.pg=some P/\x.r= .mark m/\P.cl=some m/\(a7 kd av e X x).rv=P.ah/\(a7 kd av e X x).ra=P.aa/\(a7 kd av e X x).pg=none:=by
 unfold a7;cases r:x.r with
 |put k v=>exact .inl {nM.1,nM.2.1,nM.2.2.1,(λ_ _ _ z=>by cases z),nM.2.2.2}
 |drop k=>exact .inl {nM.1,nM.2.1,nM.2.2.1,(λ_ _ _ z=>by cases z),nM.2.2.2}
 |mark m=>
  rcases K9 (X:=X) (m:=m)with⟨h1,h2,I,O⟩|⟨P,h1,h2,I⟩
  .exact .inl {h1,h2,λG h=>{G,I▸h,M},(λP m' U z=>by cases z;exact O P U),by rw[I]}
  .exact .inr ⟨P,m,h1,M,h2,I⟩
def At{x:DR}(h:(a7 kd av e X x).mut c dd b):X.mut c dd b:=by
 rcases h with h|h|⟨G,z,h⟩
 .exact .inl h
 .exact .inr<|.inl h
 .rcases oe (X:=X) (kd:=kd) (av:=av) (e:=e) (x:=x)with⟨_,_,g,_⟩|⟨P,m,_,_,_,_,_,g⟩
  .let{P,I,O}:=g G z;rw[O]at h;exact .inr<|.inr ⟨P,I,h⟩
  .rw[g]at z;cases z
def FD{x:DR}(h:(a7 kd av e X x).adr c p dd b):X.adr c p dd b:=by
 rcases h with h|h|h|⟨I,z,h⟩
 .exact .inl<|At h
 .exact .inr<|.inl h
 .rcases oe (X:=X) (kd:=kd) (av:=av) (e:=e) (x:=x)with⟨g,_⟩|⟨P,m,G,_,_,g,_⟩
  .rw[g]at h;exact .inr<|.inr (.inl h)
  .rw[g]at h;exact .inr<|.inr (.inr {P,G,.inr<|.inl h})
 .rcases oe (X:=X) (kd:=kd) (av:=av) (e:=e) (x:=x)with⟨_,_,g,_⟩|⟨P,m,_,_,_,_,_,g⟩
  .let{P,G,O}:=g I z;rw[O]at h;exact .inr<|.inr (.inr ⟨P,G,h⟩)
  .rw[g]at z;cases z
end
def Bd{c p dd b:RC}{kd:Int}{av e:V}:∀{l:List DR}{X:NG},(l.foldl (a7 kd av e) X).adr c p dd b->X.adr c p dd b
 | [],_,h=>h
 |x::r,X,h=>FD (Bd (l:=r) (X:=a7 kd av e X x) h)
def wk{c dd b:RC}{kd:Int}{av e:V}:∀{l:List DR}{X:NG},(l.foldl (a7 kd av e) X).mut c dd b->X.mut c dd b
 | [],_,h=>h
 |x::r,X,h=>At (wk (l:=r) (X:=a7 kd av e X x) h)
def zP{kd:Int}{av e:V}:∀{l:List DR}{X:NG},(l.foldl (a7 kd av e) X).n=X.n+l.length
 | [],_=>rfl
 |x::r,X=>by
  show(r.foldl (a7 kd av e)<|a7 kd av e X x).n=X.n+(r.length+1);rw[zP,y3];lia
def PL(x:NF)(ds:List DR):Prop:=x.di=ds.map λd=>(d.p,d.r.vs)
def nset{m:Nat}(h:X.n=m):(⟨X.rv,X.ra,m,X.cp,X.pg⟩:NG)=X:=by
 subst h;rfl
def qw(K:Wp)(t:N6):Sp:=λvs H Q _=>∃(c a p dd:RC)(kd z:Int)(av e:V)(X:NG)(F:RE)(x:NF)(ds:List DR),vs=[.ref c,.int z]/\NK t H c a p dd kd av e X/\NI K t H a F x/\PL x ds/\Inv kd av e ds X/\Oy ds/\ds.length<=5000/\0<=z/\
 ∀H' X',X'=((ds.drop X.n).take z.toNat).foldl (a7 kd av e) X->NK t H' c a p dd kd av e X'->Inv kd av e ds X'->(∀b o,¬X.mut c dd b->H b=some o->H' b=some o)->Q (.int X'.n) H'
def iT:Bs P w K mg base N8 7 t.j9 t.f7 [et,"steps"] (qw K t):=by
 refine T.E9.okl qE λs H vs Q E G h _=>?_;intro X;let{c,a,p,dd,kd,z,av,e,X',F,x,ds,rfl,C,A,dy,I,D,dl,z0,q}:=h;refine aj (ND 2<|gk iP (aO (aq Ac M) T.aP T.vS (lL T) G.mo T.Hj .nil au<|ac (aq Ac M) ag) kM<|gP<|aG (oC M) {_} T.Fj zX (ac E5<|ac af ag))
   (bV (λx=>(eZ VP M (cX HN) (OQ 3)
    x)) ?_)
 refine bV (λx=>aU (aA cY (aS bE NJ af<|λ_ _=>M) mL<|aC _) x<|aD<|aN<|aO Ac T.aJ T.yp (js T) G.mo T.yM .nil au<|ac NJ ag) ?_;refine aw (aN<|aO Ac T.aJ T.Ag (kN T) G.mo T.Ah .nil au<|ac (aS bE NJ af<|λ_ _=>M) ag) ?_
 intros
 refine aw (gX Ac af we) ?_
 intros
 refine aw (aK<|aq Ac M) ?_
 intros
 let{dx,ho}:=C.ob;let{da,fa,ha,hm,_}:=A.ins;refine{_,M,c,_,dx,_,_,M,ho,T.aJ,T.dZ,M,a,da,fa,M,ha,hm _ ∅,_,M,c,_,dx,_,_,M,ho,T.aJ,T.eB,M,a,_,F,x,M,A,(),λH1 r s1 nr G=>?_};refine{_,M,_,_,M,_,M,r,_,M,DI.of G,λp1 a2=>?_};let ez:(if(0:Int)>z then(0:Int)else z)=z:=by rw[Vz ()]
 unfold PL at dy;rw[ez,rE z0,<-Zv,dy,<-Xf,<-Zv,QP,QS];obtain⟨rs,a3⟩:∃rs,(ds.drop X'.n).take z.toNat=rs:={_,M};rw[a3]at q⊢;let a4:∀(i:Nat)(d:DR),rs[i]?=some d->ds[X'.n+i]?=some d:=λi d h=>by
  rw[<-a3,Xq]at h;split at h
  .rwa [ZA]at h
  .cases h
 let rd:∀d∈ds,H1 d.p=some (.tup d.r.vs):=λd hd=>(A.same s1).di (d.p,d.r.vs) (by rw[dy];exact Qe.mpr ⟨d,hd,M⟩);change yX _ _ _ _ (upd H1 p1<|.lst<|rs.map λd=>V.ref d.p);let s2:=s1.trans (am (o:= .lst<|rs.map λd=>V.ref d.p) a2);let h2:upd H1 p1 (.lst<|rs.map λd=>V.ref d.p) p1=some (.lst<|rs.map λd=>V.ref d.p):=ai;let a1:∀d∈ds,upd H1 p1 (.lst<|rs.map λd=>V.ref d.p) d.p=some (.tup d.r.vs):=λd hd=>am a2 _ _ (rd d hd);generalize upd H1 p1 (.lst<|rs.map λd=>V.ref d.p)=H2 at s2 h2 a1⊢;let C2:=C.same s2;let pn:=C2.nmut h2 (λ_ _ _ z=>by cases z) (λ_ z=>by cases z);refine{_,M,p1,M,{_,DI.of h2},jW (K:=K) (a:=p1) (xs:=rs.map λd=>V.ref d.p) (λi W H'=>∃v3:Option V,W=[some (.ref c),some (.int z),some (.ref p1),v3]/\(∀b o,¬X'.mut c dd b->H2 b=some o->H' b=some o)/\NK t H' c a p dd kd av e ((rs.take i).foldl (a7 kd av e) X')/\Inv kd av e ds ((rs.take i).foldl (a7 kd av e) X')) ?_ (λi W H' _ w=>by let{_,_,k,_}:=w;exact DI.of<|k _ _ pn h2) (λi u W H' hu w'=>?_)<|λW H' w'=>?_}
 .exact{none,M,λ_ _ _ h=>h,C2,I}
 .let{v3,rfl,kp,CI,II}:=w';obtain⟨d,rfl,ed⟩:∃d,u=V.ref d.p/\rs[i]?=some d:=by
   rw[Qp]at hu;cases c:rs[i]? with
   |none=>rw[c]at hu;cases hu
   |some e=>rw[c]at hu;cases hu;exact⟨e,M,M⟩
  let hi:=(Q1.mp ed).1;let nX:((rs.take i).foldl (a7 kd av e) X').n=X'.n+i:=by rw[zP,Q8,Zt (QU hi)]
  let eN:(rs.take<|i+1).foldl (a7 kd av e) X'=a7 kd av e ((rs.take i).foldl (a7 kd av e) X') d:=by
   rw[Qo,ed,X1];rfl
  let hd:ds[((rs.take i).foldl (a7 kd av e) X').n]?=some d:=by rw[nX];exact a4 i d ed
  let O:=Q2 hd;let mI:∀b,((rs.take i).foldl (a7 kd av e) X').mut c dd b->X'.mut c dd b:=λb=>wk;let IN:=II.step D hd;let te:H' d.p=some (.tup d.r.vs):=kp _ _ (C2.nmut (a1 d O) (λ_ _ _ z=>by cases z)<|λ_ z=>by cases z) (a1 d O);rw[eN];let sN:=y3 (kd:=kd) (av:=av) (e:=e) (X:=(rs.take i).foldl (a7 kd av e) X') (x:=d);generalize (rs.take i).foldl (a7 kd av e) X'=Y at CI II hd mI IN nX sN⊢;let Z:=II.sz dl;unfold fj
  cbv
  refine dU (λW H3=>W=[some (.ref c),some (.int z),some (.ref p1),some (.ref d.p)]/\(∀b o,¬X'.mut c dd b->H2 b=some o->H3 b=some o)/\NK t H3 c a p dd kd av e {a7 kd av e Y d with n:=Y.n}) (λnx go=>?_)<|λW H3 w3=>?_
  .let{dY,hY}:=CI.ob;let kb:=D.kb d O;cases G:d.r with
   |mark m=>
    rw[G]at te;refine{_,M,d.p,_,_,_,M,M,Na.of te,M,M,_,M,jV M {_,M,c,dY,_,M,hY,{_},_,M,d.p,_,_,_,M,M,Na.of te,M,c,a,p,dd,kd,m,av,e,Y,M,CI,Z,λH3 U k3=>go _ _ {M,λb o n e=>k3 b o (λz=>n<|mI b z)<|kp b o n e,?_}}};unfold a7;rwa[G]
   |put k v=>
    let a0:=te;rw[G]at a0;refine{_,M,d.p,_,_,_,M,M,Na.of a0,M,M,_,M,bz (λz=>VE (V.str.inj z) ∅) {_,M,c,dY,_,M,hY,{_},_,M,?_}};exact{c,a,p,dd,kd,k,av,e,Y,d,M,CI,Z,te,by rw[G];rfl,kb k (by rw[G];rfl),λH3 U k3=>go _ _ {M,λb o n e=>k3 b o (λz=>n<|mI b z)<|kp b o n e,by unfold a7;rwa[G]}}
   |drop k=>
    let a0:=te;rw[G]at a0;refine{_,M,d.p,_,_,_,M,M,Na.of a0,M,M,_,M,bz (λz=>VE (V.str.inj z) ∅) {_,M,c,dY,_,M,hY,{_},_,M,?_}};exact{c,a,p,dd,kd,k,av,e,Y,d,M,CI,Z,te,by rw[G];rfl,kb k (by rw[G];rfl),λH3 U k3=>go _ _ {M,λb o n e=>k3 b o (λz=>n<|mI b z)<|kp b o n e,by unfold a7;rwa[G]}}
  let{rfl,k3,U}:=w3;generalize a7 kd av e Y d=Z' at U IN sN⊢;let{d3,h3}:=U.ob;refine{_,M,c,_,d3,_,_,M,h3,T.aJ,T.eB,M,_,_,M,M,d3,_,h3,(by show 6<1000;decide),?_};rw[bC ∅,bC ∅,bC ∅,kI];refine{_,M,λb o n e=>by rw[ae λz=>n (.inl z)];exact k3 b o n e,?_,IN};let h:=U.setc (n:=Y.n+1) (pg:=Z'.pg) (dx:=d3) U.rt U.pg;rw[nset sN]at h;exact h
 .let{v3,rfl,kp,CI,II}:=w';rw[Q0,Qw]at CI II;let{d3,h3}:=CI.ob;exact{_,M,c,_,d3,_,_,M,h3,T.aJ,T.eB,M,q H' _ M CI II λb o n e=>kp b o n<|s2 _ _ e}
def wY(t:N6):Sp:=λvs H Q _=>∃(g dx tk:RC),vs=[.ref g,.ref tk]/\H g=some (.ins t.bI dx [])/\
 ∀H' nd,H' g=some (.ins t.bI dx<|Oz tk .non .non nd .non)->H' nd=some (.dK [])->H nd=none->(∀b o,b≠g->H b=some o->H' b=some o)->Q .non H'
def xD:Bs P w K mg base N8 1 t.rS t.lE [et,eR] (wY t):=by
 refine T.JF.okl xo λs H vs Q E hr h _=>?_;intro X;let{g,dx,tk,rfl,hg,q}:=h;refine aj (ba Ac E5 M)
   (aj (ba Ac bg M)
   (aj (ba Ac bg M)
   (aj (ba Ac e7 M)
   (aw (ba Ac bg M) ?_))))
 intros
 refine{_,M,_,M,g,_,dx,[],M,hg,T.bx,T.oV,kS (by kernel_rfl),cJ λH1 h1 I=>?_};refine{_,M,g,_,dx,_,M,h1,T.bx,T.cQ,kS (by kernel_rfl),cJ λH2 h2 O=>?_};refine{_,M,g,_,dx,_,M,h2,T.bx,T.jt,kS (by kernel_rfl),cJ λH3 U Y=>λnd z=>?_};refine{_,M,g,_,dx,_,M,am z _ _ U,T.bx,T.oU,kS (by kernel_rfl),cJ λH4 h4 Z=>?_};refine{_,M,g,_,dx,_,M,h4,T.bx,T.dX,kS (by kernel_rfl),cJ λH5 h5 o5=>?_};let G:=(al U z).symm;refine q _ nd (h5.trans<|by kernel_rfl) (by rw[o5 _ G,Z _ G];exact ai) (by rw[Y _ G,O _ G,I _ G]at z;exact z) λb o n e=>?_;rw[o5 b n,Z b n];exact am z _ _ (by rwa[Y b n,O b n,I b n])
def P9(g nd q:RC)(ra:V):NZ:={g,nd,q,ra,none,.non,.non,[],none}
def wX(K:Wp)(t:N6):Sp:=λvs H Q _=>∃(g a tk nd dx:RC)(n kd:Int)(av e fd ah cl:V)(F:RE)(x:NF),vs=[.ref g,.ref a,.int n]/\H g=some (.ins t.bI dx<|Oz tk fd ah nd cl)/\¬F g/\NI K t H a F x/\NM t H tk kd av e/\O6 kd av e/\¬F tk/\1<=n/\n<=1000/\x.st.kv.length<4096/\x.ks.length<4096/\(∀k∈x.ks,0<=k)/\(∀p∈x.st.kv,∃i:Int,p.2= .int i)/\
 ∀(H':Hp)(F':RE)(f:RC)(v:V)(ts:List Tp)(a':V)(R:R3),NI K t H' a F' x->Fr F F' H H'->¬F' f->H' f=some (.lst<|ts.map λe=>V.ref e.p)->(∀e∈ts,H' e.p=some (.tup [.int e.k,e.v]))->BJ t H' F' x.st kd n av e v ts a' R->Q .non (upd H' g<|.ins t.bI dx<|Oz tk (.ref f) v nd cl)
def xC:Bs P w K mg base N8 9 t.rR t.lz [et,nj,gt] (wX K t):=by
 refine T.JE.okl xn λs H vs Q E O h _=>?_;intro X;let{g,a,tk,nd,dx,n,kd,av,e,fd,ah,cl,F,x,rfl,G,Y,A,Z,on,nt,n1,n2,l4,lk,k0,iv,q}:=h;refine aj (ND 3<|aI (K7 T) O.mo {_} T.M8 T.MS.kp T.LJ.choose_spec.1 T.LJ.choose_spec.2 au (ac E5<|ac (aq Ac M)<|ac HN ag))
   (aj (ba Ac (aS bE NJ af<|λ_ _=>M) M)
   (aw (ba Ac (aS bE NJ af<|λ_ _=>M) M) ?_))
 intros
 refine{_,M,_,M,g,_,dx,_,_,M,G,T.bx,T.oV,M,_,M,a,tk,n,kd,av,e,F,x,M,A,Z,on,nt,n1,n2,l4,lk,k0,iv,λH2 F2 r f v ts a' R A2 I pg U=>?_};let{h2,a0}:=I _ _ Y G;let rg:r≠g:=λz=>by let h:=pg.tu;rw[z,h2]at h;cases h
 unfold Oz at h2;refine{_,M,r,_,_,_,M,M,Na.of pg.tu,M,_,M,g,_,dx,_,M,h2,T.bx,T.cQ,(by show 5<1000;decide),?_};rw[bC ∅,kI];refine{_,M,r,_,_,_,M,M,Na.of (by rw[ae rg];exact pg.tu),M,_,M,g,_,dx,_,M,ai,T.bx,T.jt,(by show 5<1000;decide),?_};rw[dR,bC ∅,bC ∅,kI];exact q H2 F2 f v ts a' R A2 I pg.ng.2 pg.li (λu hu=>(pg.rw u hu).1) U
def tW(t:N6):Sp:=λvs H Q _=>∃(c a p dd:RC)(kd:Int)(av e:V)(X:NG),vs=[.ref c]/\NK t H c a p dd kd av e X/\Q X.rv H
def lM:Bs P w K mg base N8 1 t.nW t.iE [et] (tW t):=by
 refine T.Hr.okl ub λs H vs Q E G h _=>?_;intro X;let{c,a,p,dd,kd,av,e,X',rfl,C,q}:=h;refine{_,(aD<|aK<|aq Ac M)
  ,?_}
 let{dx,z}:=C.ob;exact{_,M,c,_,dx,_,_,M,z,T.aJ,T.du,M,q}
def tY(t:N6):Sp:=λvs H Q _=>∃(c a p dd:RC)(kd:Int)(av e:V)(X:NG),vs=[.ref c]/\NK t H c a p dd kd av e X/\∀r,H r=none->Q (.ref r) (upd H r<|.dK<|az X.cp)
def uj:Bs P w K mg base N8 1 t.nZ t.iF [et] (tY t):=by
 refine T.Ht.okl uc λs H vs Q E G h _=>?_;intro X;let{c,a,p,dd,kd,av,e,X',rfl,C,q}:=h;refine{_,(aD<|aK<|oo wx {_} T.Fk zY (ac (aq Ac M) ag))
  ,?_}
 let{dx,z}:=C.ob;exact{_,M,c,_,dx,_,_,M,z,T.aJ,T.fV,M,dd,_,M,C.cp,q}
def mf(K:Wp)(t:N6):Sp:=λvs H Q _=>∃(c a p dd q:RC)(kd:Int)(av e:V)(X:NG)(F:RE)(x:NF),vs=[.ref c]/\NK t H c a p dd kd av e X/\X.pg=none/\X.rv= .ref q/\NI K t H a F x/\(∀b,X.adr c p dd b->¬F b)/\x.now+x.ma<40000/\
 ∀(H':Hp)(F':RE)(r g nd:RC),NI K t H' a F' {x with ma:=x.ma+1,di:=x.di++ [(r,[.str Ps,.int (x.ma+1)])]}->NK t H' c a p dd kd av e {X with pg:=some (P9 g nd q X.ra)}->(∀b,({X with pg:=some (P9 g nd q X.ra)}:NG).adr c p dd b->¬F' b)->H g=none->H nd=none->(∀b o,b≠c->¬F b->H b=some o->H' b=some o/\¬F' b)->Q (.int<|x.ma+1) H'
def mW:Bs P w K mg base N8 3 t.gN t.dM [et] (mf K t):=by
 refine T.BW.okl mi λs H vs Q E hr h _=>?_;intro X;let{c,a,p,dd,G,kd,av,e,X',F,x,rfl,C,hp,O,A,Y,l,q}:=h;refine aj (aU (aA dW (aq Ac M) bg<|aC _)
    (aD dD)
    aL)
   (aj (aU (aA gA (aq Ac M) bg<|aC _)
    (aD dD)
    aL)
   (aj (ba Ac (gQ T.MU (xD T) hr.mo {_} T.MW T.Ju .nil au (ac (aq Ac M) ag)) M)
   (aw (aK<|bM (aq Ac M) T.aP T.qY (iq T) hr.mo T.rG .nil au) ?_)))
 intros
 let{dx,U}:=C.ob;rw[hp,O]at U;refine{_,M,c,_,dx,_,_,M,U,T.aJ,T.bW,M,M,_,M,m9 M ?_};unfold uE
 cbv
 refine{_,M,c,_,dx,_,_,M,U,T.aJ,T.du,M,M,_,M,bz (λz=>by cases z) ?_}
 cbv
 refine{_,M,c,_,dx,_,_,M,U,T.aJ,T.du,M,λg dg Z nd a6=>?_};let s1:=bT (am (o:= .own g) nd) (o:= .ins t.bI dg []) Z;refine{g,dg,G,M,ai,λH2 no a1 a2 nn kp=>{M,?_}};let s2:Ck H H2:=λb o e=>kp b o (al e Z) (s1 _ _ e);let C2:=C.same s2;let I:=c7 s1 nn;let gc:g≠c:=λz=>by rw[z,U]at Z;cases Z
 let a3:NM t H2 G kd X'.ra e/\O6 kd X'.ra e:=by
  rcases C2.rt with h|⟨z,h1,h2⟩
  .rw[O]at h;cases h
  .rw[O]at h1;cases h1;exact h2
 refine{_,M,c,_,dx,_,M,s2 _ _ U,T.aJ,T.bW,(by show 6<1000;decide),?_};rw[bC ∅,bC ∅,bC ∅,bC ∅,bC ∅,kI];let C3:=C2.setc (n:=X'.n) (pg:=some<|P9 g no G X'.ra) (dx:=dx) C2.rt λP z=>by
  cases z;exact{{⟨dg,a1⟩,a2,a3,.inl M,(λ_ z=>by cases z),(λ_ z=>by cases z)},λz=>by rw[show no=dd from z,C.cp]at I;cases I}
 let a4:=s2 _ _ U;let nc:¬F c:=Y c (.inl<|.inl M);rw[O]at C3;let A3:=(A.same s2).upd (o:= .ins t.aW dx<|PU a p (.ref G) X'.n dd<|.ref g) nc λxs z=>by rw[a4]at z;cases z
 let k3:∀b o,b≠c->H2 b=some o->upd H2 c (.ins t.aW dx<|PU a p (.ref G) X'.n dd<|.ref g) b=some o:=λb o n e=>by rwa[ae n]
 change yX _ _ _ _ (upd H2 c<|.ins t.aW dx<|PU a p (.ref G) X'.n dd<|.ref g)at*;change NK t (upd H2 c<|.ins t.aW dx<|PU a p (.ref G) X'.n dd<|.ref g) _ _ _ _ _ _ _ _ at C3;generalize upd H2 c (.ins t.aW dx<|PU a p (.ref G) X'.n dd<|.ref g)=H3 at C3 A3 k3⊢;let{da,fa,ha,hm,_}:=A3.ins;let{d3,h3}:=C3.ob;refine{_,M,c,_,d3,_,_,M,h3,T.aJ,T.dZ,M,a,da,fa,M,ha,hm _ ∅,a,F,x,M,A3,l,λH4 F4 r A4 f4=>?_};let a5:∀b,NG.adr {.ref G,X'.ra,X'.n,X'.cp,some<|P9 g no G X'.ra} c p dd b->¬F b:=λb hb=>by
  rcases hb with(h|h|⟨P,z,h⟩)|h|h|⟨P,z,h⟩
  .exact Y b<|.inl (.inl h)
  .exact Y b<|.inl (.inr<|.inl h)
  .cases z;rcases h with rfl|rfl
   .exact A.out Z
   .exact A.out I
  .exact Y b<|.inr (.inl h)
  .exact Y b<|.inr (.inr<|.inl<|O.trans h)
  .cases z;rcases h with rfl|h|⟨y,h,_⟩
   .exact Y _<|.inr (.inr<|.inl O)
   .cases h
   .cases h
 let{C4,a0}:=C3.fr a5 A3 f4;let eX:({.ref G,X'.ra,X'.n,X'.cp,some<|P9 g no G X'.ra}:NG)={X' with pg:=some (P9 g no G X'.ra)}:=by rw[<-O]
 rw[eX]at C4 a0;exact q H4 F4 r g no A4 C4 a0 Z I λb o n1 n2 e=>f4 b o n2 (k3 b o n1<|s2 _ _ e)
def l9(K:Wp)(t:N6):Sp:=λvs H Q _=>∃(c a p dd:RC)(n kd:Int)(av e:V)(X:NG)(P:NZ)(F:RE)(x:NF),vs=[.ref c,.int n]/\NK t H c a p dd kd av e X/\X.pg=some P/\P.fd=none/\NI K t H a F x/\(∀b,X.adr c p dd b->¬F b)/\1<=n/\n<=1000/\x.st.kv.length<4096/\x.ks.length<4096/\(∀k∈x.ks,0<=k)/\(∀p∈x.st.kv,∃i:Int,p.2= .int i)/\
 ∀(H':Hp)(F':RE)(f l:RC)(v:V)(ts:List Tp)(a':V)(R:R3),NI K t H' a F' x->NK t H' c a p dd kd av e {X with pg:=some {P with fd:=some (f,ts),ah:=v,aa:=a'}}->(∀b,({X with pg:=some {P with fd:=some (f,ts),ah:=v,aa:=a'}}:NG).adr c p dd b->¬F' b)->(∀b o,b≠P.g->¬F b->H b=some o->H' b=some o/\¬F' b)->(∃H1,BJ t H1 F' x.st kd n P.ta e v ts a' R)->H' l=some (.lst<|ts.map λe=>V.ref e.p)->¬F' l->l≠f->(∀b o,¬F b->H b=some o->b≠l)->Q (.ref l) H'
def mV:Bs P w K mg base N8 10 t.gM t.cn [et,gt] (l9 K t):=by
 let a3:=NS.nd;refine T.BV.ok NS (λvs H Q E h=>?_)<|λa4 A outer s H vs Q E hr h=>?_
 .let{c,a,p,dd,n,kd,av,e,X,P,F,x,rfl,_}:=h;rfl
 .let{c,a,p,dd,n,kd,av,e,X',G,F,x,rfl,C,Z,a1,A,nF,n1,n2,l4,lk,k0,iv,q}:=h;refine aj (ND 2<|aq Ac M)
    (aj (aU (PW.pt<|qM (aA gA HN bg<|aC _)<|mF<|aA dW (aq HN M) bg<|aC _)
   (aD dD)
   aL)
     (aj (aN<|aO HN T.bx T.IU (xC T) hr.mo T.Jt .nil au<|ac (aq Ac M)<|ac E5 ag)
     (aw (aK<|oo zU {_} T.M0 Jm (ac (aq HN M) ag)) ?_)))
  intros
  let{dx,ho}:=C.ob;let{R0,nn}:=C.pg G Z;let{O,hg}:=R0.ob;rw[Z]at ho;rw[a1]at hg;refine{_,M,c,_,dx,_,_,M,ho,T.aJ,T.bW,M,?_};refine{_,M,M,_,M,bz (λz=>by cases z) {_,M,G.g,_,O,_,_,M,hg,T.bx,T.cQ,M,M,_,M,m9 M ?_}};unfold uE
  cbv
  let ng:¬F G.g:=nF _ (.inl<|.inr<|.inr {G,Z,.inl M});let nt:¬F G.tk:=nF _ (.inr<|.inr<|.inr {G,Z,.inl M});refine{_,M,G.g,O,_,M,hg,{_},_,M,c,_,dx,_,_,M,ho,T.aJ,T.dZ,M,_,M,G.g,a,G.tk,G.nd,O,n,kd,G.ta,e,_,_,_,F,x,M,hg,ng,A,R0.tk.1,R0.tk.2,nt,n1,n2,l4,lk,k0,iv,λH2 F2 f v ts a' R A2 f2 nf hf tu U=>?_};let{C2,I}:=C.fr nF A f2;let a0:=(f2 _ _ ng hg).1;let a2:=(f2 _ _ ng hg).2;let fg:=cN hf a0 λz=>by cases z
  let C3:=C2.setg Z (fd:=some (f,ts)) (ah:=v) (aa:=a') (cl:=G.cl) (dx:=O) (λy hy=>by cases hy;exact⟨hf,tu⟩) (by
   rcases U.rest with h|⟨q',h1,h2,h3,_⟩
   .exact .inl h.1
   .exact .inr ⟨q',h1,h2,h3⟩)
  let A3:=A2.upd (o:= .ins t.bI O<|Oz G.tk (.ref f) v G.nd<|AL G.cl) a2 λxs z=>by rw[a0]at z;cases z
  let k3:∀b o,b≠G.g->H2 b=some o->upd H2 G.g (.ins t.bI O<|Oz G.tk (.ref f) v G.nd<|AL G.cl) b=some o:=λb o n e=>by rwa[ae n]
  change NK t (upd H2 G.g<|.ins t.bI O<|Oz G.tk (.ref f) v G.nd<|AL G.cl) _ _ _ _ _ _ _ _ at C3;let h3:upd H2 G.g (.ins t.bI O<|Oz G.tk (.ref f) v G.nd<|AL G.cl) G.g=some (.ins t.bI O<|Oz G.tk (.ref f) v G.nd<|AL G.cl):=ai
  cbv
  generalize upd H2 G.g (.ins t.bI O<|Oz G.tk (.ref f) v G.nd<|AL G.cl)=H3 at C3 A3 k3 h3⊢;refine{_,M,G.g,_,O,_,_,M,h3,T.bx,T.cQ,M,f,_,M,.inl<|DI.of<|k3 _ _ fg hf,λl Y=>?_};let s3:=am (o:= .lst<|ts.map λe=>V.ref e.p) Y;refine q _ F2 f l v ts a' R (A3.same s3) (C3.same s3) (λb hb=>?_) (λb o n1 n2 e=>{s3 _ _<|k3 b o n1 (f2 b o n2 e).1,(f2 b o n2 e).2}) ⟨H2,U⟩ ai (A3.out Y) (λz=>by rw[z,k3 _ _ fg hf]at Y;cases Y) λb o n2 e z=>?_
  .rcases hb with(h|h|⟨P,z,h⟩)|h|h|⟨P,z,h⟩
   .exact I b<|.inl (.inl h)
   .exact I b<|.inl (.inr<|.inl h)
   .cases z;exact I b<|.inl (.inr<|.inr ⟨G,Z,h⟩)
   .exact I b<|.inr (.inl h)
   .exact I b<|.inr (.inr<|.inl h)
   .cases z;rcases h with h|h|⟨y,hy,h⟩
    .exact I b<|.inr (.inr<|.inr {G,Z,.inl h})
    .rcases U.rest with g|⟨q',h1,h2,h3,h4,_⟩
     .rw[show v=V.ref b from h]at g;cases g.1
     .rw[show v=V.ref b from h]at h1;cases h1;exact h4
    .cases hy;rwa[h]
  .by_cases c:b=G.g
   .rw[<-z,c,h3]at Y;cases Y
   .rw[<-z,k3 b o c (f2 b o n2 e).1]at Y;cases Y
def lT(K:Wp)(t:N6):Sp:=λvs H Q _=>∃(c a p dd:RC)(kd:Int)(av e:V)(X:NG)(P:NZ)(y:Addr×List Tp)(F:RE)(x:NF),vs=[.ref c]/\NK t H c a p dd kd av e X/\X.pg=some P/\P.fd=some y/\P.cl=none/\NI K t H a F x/\(∀b,X.adr c p dd b->¬F b)/\x.now+x.ma<40000/\
 ∀(H':Hp)(F':RE)(r:RC),NI K t H' a F' {x with ma:=x.ma+1,di:=x.di++ [(r,[.str Ps,.int (x.ma+1)])]}->NK t H' c a p dd kd av e {X with pg:=some {P with cl:=some (x.ma+1)}}->(∀b,({X with pg:=some {P with cl:=some (x.ma+1)}}:NG).adr c p dd b->¬F' b)->(∀b o,b≠P.g->¬F b->H b=some o->H' b=some o/\¬F' b)->Q (.int<|x.ma+1) H'
def lX:Bs P w K mg base N8 2 t.gu t.dA [et] (lT K t):=by
 refine T.BI.okl lV λs H vs Q E hr h _=>?_;intro X;let{c,a,p,dd,kd,av,e,X',G,y,F,x,rfl,C,O,hy,a0,A,nF,l,q}:=h;refine aj (ND 1<|aq Ac M)
   (aj (aU (PW.pt<|qM (aA gA E5 bg<|aC _)<|qM (aA gA (aq E5 M) bg<|aC _)<|mF<|aA dW (aq E5 M) bg<|aC _)
    (aD dD)
    aL)
   (aj (ba E5 (bM (aq Ac M) T.aP T.qY (iq T) hr.mo T.rG .nil au) M)
   (aw (aK<|aq E5 M) ?_)))
 intros
 let{dx,ho}:=C.ob;let{R0,nn}:=C.pg G O;let{U,Z}:=R0.ob;rw[O]at ho;rw[hy,a0]at Z;let ng:¬F G.g:=nF _ (.inl<|.inr<|.inr {G,O,.inl M});refine{_,M,c,_,dx,_,_,M,ho,T.aJ,T.bW,M,?_};refine{_,M,M,_,M,bz (λz=>by cases z) {_,M,G.g,_,U,_,_,M,Z,T.bx,T.cQ,M,M,_,M,bz (λz=>by cases z) {_,M,G.g,_,U,_,_,M,Z,T.bx,T.dX,M,M,_,M,m9 M ?_}}};unfold uE
 cbv
 let{da,fa,ha,hm,_}:=A.ins;refine{_,M,c,_,dx,_,_,M,ho,T.aJ,T.dZ,M,a,da,fa,M,ha,hm _ ∅,a,F,x,M,A,l,λH2 F2 r A2 f2=>?_};let{Y,a1}:=f2 _ _ ng Z;let{C2,I}:=C.fr nF A f2;let{R2,_}:=C2.pg G O;refine{_,M,G.g,_,U,_,M,Y,T.bx,T.dX,(by show 5<1000;decide),?_};rw[bC ∅,bC ∅,bC ∅,bC ∅,kI];refine{_,M,G.g,_,U,_,_,M,ai,T.bx,T.dX,M,?_};refine q _ F2 r (A2.upd a1 λxs z=>by rw[Y]at z;cases z) (by let h:=C2.setg O (fd:=G.fd) (ah:=G.ah) (aa:=G.aa) (cl:=some<|x.ma+1) (dx:=U) R2.fd R2.ah;rw[show IL G.fd=V.ref y.1 by rw[hy];rfl]at h;exact h) (λb hb=>?_) λb o n1 n2 e=>{by rw[ae n1];exact(f2 b o n2 e).1,(f2 b o n2 e).2};rcases hb with(h|h|⟨P,z,h⟩)|h|h|⟨P,z,h⟩
 .exact I b<|.inl (.inl h)
 .exact I b<|.inl (.inr<|.inl h)
 .cases z;exact I b<|.inl (.inr<|.inr ⟨G,O,h⟩)
 .exact I b<|.inr (.inl h)
 .exact I b<|.inr (.inr<|.inl h)
 .cases z;exact I b<|.inr (.inr<|.inr ⟨G,O,h⟩)
def tX(K:Wp)(t:N6):Sp:=λvs H Q _=>∃(c dx a p:RC)(kd:Int)(av e:V)(F:RE)(x:NF),vs=[.ref c,.ref a,.ref p,.non]/\H c=some (.ins t.aW dx [])/\NI K t H a F x/\NM t H p kd av e/\O6 kd av e/\
 ∀H' dd,NK t H' c a p dd kd av e {.ref p,av,x.di.length,[],none}->H dd=none->(∀b o,b≠c->H b=some o->H' b=some o)->Q .non H'
def ui:Bs P w K mg base N8 2 t.nY t.fG [et,nj,eR,Ru] (tX K t):=by
 let a1:=Nf.nd;refine T.Hs.ok Nf (λvs H Q E h=>?_)<|λa2 A outer s H vs Q E hr h=>?_
 .let{c,dx,a,p,kd,av,e,F,x,rfl,_}:=h;rfl
 .let{c,dx,a,p,kd,av,e,F,x,rfl,hc,A,TK,on,q}:=h;refine bV (λx=>aU (aA gA NJ bg<|aC _) x aL) ?_;refine aw (ND 3<|cG<|ac HN<|ac (aG aE {_} T.bS bq (ac (bM E5 T.aP T.vS (lL T) hr.mo T.ur.choose_spec.1 T.ur.choose_spec.2 au) ag))<|ac e7 ag) ?_
  intros
  refine aj (ba Ac E5 M)
    (aj (ba Ac HN M)
    (aj (ba Ac (aS bE NJ af<|λ_ _=>M) M)
    (aj (ba Ac (aS bE NJ af<|λ_ _=>M) M)
    (aj (ba Ac (oo wx {_} T.Fk zY (ac (aS bE NJ af<|λ_ _=>M) ag)) M)
    (aw (ba Ac bg M) ?_)))))
  intros
  let{da,fa,hi,hm,_}:=A.ins;refine dU (λW H'=>∃I O:Addr,W=[some (.ref c),some (.ref a),some (.ref p),some (.ref I)]/\Ck H H'/\H' I=some (.tup [.ref p,.int x.di.length,.ref O])/\H' O=some (.dK [])) (λnx go=>?_)<|λW H2 w=>?_
  .refine{_,M,M,_,M,jV M {_,M,_,M,a,da,fa,M,hi,hm _ ∅,a,0,F,x,M,A,Zn _,λH1 r s1 nr hr=>{r,_,M,.inl<|DI.of hr,λO a0=>{(by show 3<=sizeLine;decide),λI Z=>?_}}}};rw[Q0,show(0:Int).toNat=0 from rfl,Zp];exact go _ _ {I,O,M,(s1.trans<|am a0).trans<|am Z,ai,am Z _ _ ai}
  let{I,O,rfl,s2,G,U}:=w;let Y:=s2 _ _ hc;let n1:I≠c:=λz=>by rw[z,Y]at G;cases G
  let n2:O≠c:=λz=>by rw[z,Y]at U;cases U
  refine{_,M,_,M,c,_,dx,[],M,Y,T.aJ,T.dZ,kS (by kernel_rfl),cJ λH3 h3 o3=>?_};refine{_,M,_,M,c,_,dx,_,M,h3,T.aJ,T.uk,kS (by kernel_rfl),cJ λH4 h4 o4=>?_};refine{_,M,I,_,_,_,M,M,Na.of (by rwa[o4 _ n1,o3 _ n1]),M,_,M,c,_,dx,_,M,h4,T.aJ,T.du,kS (by kernel_rfl),cJ λH5 h5 o5=>?_};let kp:∀{b:RC},b≠c->H5 b=H2 b:=λn=>by rw[o5 _ n,o4 _ n,o3 _ n]
  refine{_,M,I,_,_,_,M,M,Na.of (by rwa[kp n1]),M,_,M,c,_,dx,_,M,h5,T.aJ,T.eB,kS (by kernel_rfl),cJ λH6 h6 o6=>?_};refine{_,M,I,_,_,_,M,M,Na.of (by rwa[o6 _ n1,kp n1]),M,O,_,M,by rwa[o6 _ n2,kp n2],λdd nd=>?_};refine{_,M,c,_,dx,_,M,am nd _ _ h6,T.aJ,T.fV,kS (by kernel_rfl),cJ λH7 h7 o7=>?_};refine{_,M,c,_,dx,_,M,h7,T.aJ,T.bW,kS (by kernel_rfl),cJ λH8 h8 o8=>?_};let nc:=(al h6 nd).symm;let k8:∀b o,b≠c->H b=some o->H8 b=some o:=λb o n e=>by
   rw[o8 b n,o7 b n];exact am nd _ _<|by rw[o6 b n,kp n];exact s2 _ _ e
  let tk:NM t H8 p kd av e:=by
   let{dq,fq,h1,h2}:=id TK;exact{dq,fq,k8 p _ (TK.ne hc M) h1,h2}
  exact q _ dd {{dx,h8.trans<|by kernel_rfl},by rw[o8 _ nc,o7 _ nc];exact ai,⟨tk,on⟩,.inr ⟨p,M,tk,on⟩,λ_ z=>by cases z} (c7 s2<|by rw[o6 _ nc,kp nc]at nd;exact nd) k8
noncomputable def Nr(i j m:Int)(k:Nat):Int:=i+(j-i)*(k:Int)/m
def OO{i j:Int}:Nr i j m 0=i:=by
 show i+(j-i)*0/m=i;rw[Int.mul_zero,Int.zero_ediv,Int.add_zero]
def Bn{i j:Int}(h:m=(n:Int))(z:0<m):Nr i j m n=j:=by
 show i+(j-i)*(n:Int)/m=j;rw[<-h,V2 _ (QY z)];lia
def nK{i j:Int}(z:0<m)(G:i<=j)(k:Nat):Nr i j m k<=Nr i j m (k+1):=by
 refine Int.add_le_add_left (XD z<|Xh ?_ ()) i;lia
def wv{i j m:Int}(G:0<m)(z:i<=j):∀k:Nat,i<=Nr i j m k
 |0=>Int.le_of_eq OO.symm
 |k+1=>X8 (wv G z k) (nK G z k)
def zT{i j m:Int}(G:0<m)(z:i<=j)(k:Nat):∀d:Nat,Nr i j m k<=Nr i j m (k+d)
 |0=>Zn _
 |d+1=>X8 (zT G z k d) (nK G z<|k+d)
def CK{i j:Int}{k:Nat}(h:m=(n:Int))(G:0<m)(z:i<=j)(hk:k<=n):Nr i j m k<=j:=by
 have:=zT (m:=m) G z k (n-k);rw[Nat.add_sub_of_le hk,Bn h G]at this;exact this
def MP(t:N6)(H:Hp)(as:RQ)(kd i j m:Int):Prop:=∀(k:Nat)(b:RC),as[k]?=some b->NM t H b kd (.int<|Nr i j m k) (.int<|Nr i j m<|k+1)
def FH(t:N6):Sp:=λvs H Q _=>∃(p:RC)(kd i j m:Int)(x:Nat),vs=[.ref p,.int (x:Int),.int m]/\NM t H p kd (.int i) (.int j)/\(kd=0\/kd=1)/\x<=60/\1<=m/\m<=60/\Q (.int<|Nr i j m x) H
def FF(t:N6):Sp:=λvs H Q _=>∃(p:RC)(kd m i j:Int),vs=[.ref p,.int m]/\NM t H p kd (.int i) (.int j)/\O6 kd (.int i) (.int j)/\1<=m/\m<=60/\(kd=0\/kd=1)/\∀(H':Hp)(l:RC)(as:RQ),Ck H H'->H' l=some (.lst<|as.map V.ref)->as.length=m.toNat->MP t H' as kd i j m->(∀b∈as,H b=none)->Q (.ref l) H'
def tkB(T:Txt K mg t){kd:Int}(h:kd=0\/kd=1\/kd=2):O9 K (PD t kd)/\XIs K (PD t kd)/\Bt K (PD t kd) rD/\Bt K (PD t kd) u4/\PySem.W.kitOne K (.ref<|PD t kd) (.ref t.aQ)=some (decide (kd=0))/\PySem.W.kitOne K (.ref<|PD t kd) (.ref t.dE)=some (decide (kd=1)):=by
 rcases h with rfl|rfl|rfl
 .exact⟨T.bL,T.kh,T.ju,T.cu,T.qd,T.HB⟩
 .exact⟨T.iI,T.lI,T.qV,T.jS,T.xN,T.A9⟩
 .exact⟨T.cK,T.dQ,T.iu,T.iU,T.uo,T.vV⟩
def Gc:Bs P w K mg base N8 1 t.DS t.zS [eR,"j",gt] (FH t):=by
 refine T.uB.okl FL λs H vs Q E U h _=>?_;intro X;let{p,kd,i,j,m,x,rfl,O,hk,Y,Z,m6,q}:=h;refine{_,(aD<|aK<|ao bi (aq Ac M)<|ao aR (ao cI (ao mN (aq Ac M)<|aq Ac M) E5) HN)
  ,?_}
 let{dx,fs,z,G}:=O;let{cl,xi,I,ne,_}:=tkB T (kd:=kd) ();refine{_,M,p,_,dx,fs,_,M,z,cl,I,G.at_,_,M,p,_,dx,fs,_,M,z,cl,ne,G.end_,_,M,p,_,dx,fs,_,M,z,cl,I,G.at_,_,_,M,M,_,M,_,_,M,M,.inr {(),()},_,M,_,_,M,M,{(),()},_,_,M,M,?_};exact q
def Dj{N:RC}{kd:Str}{ok:V->V->Prop}{a:V}{E:XK}(G:ok a e)(I:Sc a)(O:Sc e)(x dx:RC)(nx:H x=none)(nd:H dx=none)
  (q:∀H' fs,Ck H H'->H' x=some (.ins C dx fs)->xV kd fs a e->Q .non H'):Ay C N kd ok [.ref x,a,e] (upd (upd H dx<|.own x) x<|.ins C dx []) Q E:=
 {x,dx,a,e,M,ai,I,O,λ_ H' fs k h f=>q H' fs (oh nx nd k) h f,λz=>VE G z}
def Ox(t:N6)(H:Hp)(D:RC)(kd i j m:Int)(n:Nat)(ys:RG)(H3:Hp):Prop:=Ck H H3/\∃as:List Addr,ys=as.map V.ref/\as.length=n/\∀(k:Nat)(b:RC),as[k]?=some b->b≠D/\H b=none/\NM t H3 b kd (.int<|Nr i j m k) (.int<|Nr i j m<|k+1)
def Ox.next{H3 H4:Hp}{D x:RC}{kd i j:Int}{ys:RG}(w:Ox t H D kd i j m n ys H3)(hD:H D=none)(G:H3 D=some (.lst ys))(s:Ck H3 H4)(nx:H3 x=none)(h:NM t H4 x kd (.int<|Nr i j m n) (.int<|Nr i j m<|n+1)):
  Ox t H D kd i j m (n+1) (ys++ [.ref x]) (upd H4 D<|.lst<|ys++ [.ref x]):=by
 let{s1,as,U,I,hk}:=w;refine{bT (s1.trans s) hD,as++ [x],by rw[U,Q9];rfl,by simp[I],λk b e=>?_};let O:x≠D:=λz=>by rw[z,G]at nx;cases nx
 by_cases lt:k<as.length
 .rw[QG lt]at e;let{h1,Y,h2}:=hk k b e;exact{h1,Y,(h2.same s).up h1}
 .have:k=n:=by
   have:=(Q1.mp e).1;simp[I]at this;lia
  subst this;rw[<-I,QD (Q4 _),XI]at e;cases e;exact{O,c7 s1 nx,h.up O}
def Gb:Bs P w K mg base N8 5 t.DQ t.zR [eR,gt] (FF t):=by
 refine T.JA.okl FK λs H vs Q E Z h _=>?_;intro X;let{p,kd,m,i,j,rfl,ht,ho,m1,m6,hk,q}:=h;refine bV (λx=>aU (cE<|aG (fH K M) {_} T.dB b8 (ac Ac<|ac (cm (v:= .ref t.aQ) {_} T.kP M) ag)) x aL) ?_;refine aw (aK<|iS M (Hc.of (M':=["j"]) (N:=[eR,gt]) (N':=[eR,gt]) (dsc:=ak qH) M M ∅) (eG {_} T.iN (ac E5 ag))<|λ_ _ _ _ _=>(gQ T.vO (fR T) Z.mo {_} T.kP T.lN .nil au (ac (aI (Gc T) Z.mo {_} T.zF T.uB.kp T.zZ .nil au (ac E5<|ac Ac<|ac HN ag))<|ac (aI (Gc T) Z.mo {_} T.zF T.uB.kp T.zZ .nil au (ac E5<|ac (ao bi Ac af)<|ac HN ag)) ag))) ?_
 intros
 refine bV (λx=>aU (PW.pt<|jr (cE<|aG (fH K M) {_} T.dB b8 (ac Ac<|ac (cm (v:= .ref t.dE) {_} T.AU M) ag))<|gO<|aA dW (aq Ac M) bg<|aC _) x aL) ?_;refine aw (aK<|iS M (Hc.of (M':=["j"]) (N:=[eR,gt]) (N':=[eR,gt]) (dsc:=ak qH) M M ∅) (eG {_} T.iN (ac E5 ag))<|λ_ _ _ _ _=>(gQ T.J0 (mO T) Z.mo {_} T.AU T.wA .nil au (ac (aI (Gc T) Z.mo {_} T.zF T.uB.kp T.zZ .nil au (ac E5<|ac Ac<|ac HN ag))<|ac (aI (Gc T) Z.mo {_} T.zF T.uB.kp T.zZ .nil au (ac E5<|ac (ao bi Ac af)<|ac HN ag)) ag))) ?_
 intros
 refine aw dD ?_
 intros
 let{dx,fs,hp,tf}:=id ht;let{cl,I,na,ne,k0,k1}:=tkB T ho.kd;let mn:m=((m.toNat:Nat):Int):=();let ml:m.toNat<=60:=();rcases hk with rfl|rfl
 .let{i',j',e1,e2,i0,ij,j6}:=ho.s;cases e1;cases e2;refine{_,M,_,_,_,_,M,NN.ins hp cl I.1 I.2 I.3 I.4,k0,_,M,cC ?_};refine{_,M,m,M,(),(),λD hD=>iG (n:=m.toNat) (lo:=0) (Ox t H D 0 i j m) {am hD,[],M,M,λk b e=>by cases e} (λn ys H3 hn w G=>?_)<|λys H3 w G=>?_}
  .let O:=ht.same w.1;refine{_,M,_,M,_,M,p,0,i,j,m,n,by rw[XM];rfl,O,.inl M,(),m1,m6,_,M,_,M,_,_,M,M,_,M,p,0,i,j,m,n+1,?_,O,.inl M,(),m1,m6,λx dx nx nd ne=>?_}
   .rw[XM];rfl
   refine Dj (ok:=PY) {_,_,M,M,X8 i0<|wv () ij n,nK () ij n,X8 (CK mn () ij hn) j6} (T0 _) (T0 _) x dx nx nd λH4 fs s h f=>{M,NL.mk hn (s _ _ G) ?_<|w.next hD G s nx ⟨dx,fs,h,f⟩};let{_,as,U,Y,_}:=w;rw[U,Q0,Y];exact bQ ()
  .let{s,as,U,Y,hk}:=w;exact q H3 D as s (by rw[G,U]) Y (λk b e=>(hk k b e).2.2) λb hb=>(by let{k,e}:=ZH hb;exact(hk k b e).2.1)
 .let{i',e1,i0,hj}:=ho.u;cases e1;let ij:i<=j:=by
   rcases hj with hj|⟨j',hj,h⟩
   .cases hj
   .cases hj;exact h
  refine{_,M,_,_,_,_,M,NN.ins hp cl I.1 I.2 I.3 I.4,k0,_,M,dP ?_};refine{_,M,_,_,_,_,M,NN.ins hp cl I.1 I.2 I.3 I.4,k1,_,M,cC ?_};refine{_,M,p,_,dx,fs,_,M,hp,cl,ne,tf.end_,M,_,M,MF (λz=>by cases z) ?_};refine{_,M,m,M,(),(),λD hD=>iG (n:=m.toNat) (lo:=0) (Ox t H D 1 i j m) {am hD,[],M,M,λk b e=>by cases e} (λn ys H3 hn w G=>?_)<|λys H3 w G=>?_}
  .let O:=ht.same w.1;refine{_,M,_,M,_,M,p,1,i,j,m,n,by rw[XM];rfl,O,.inr M,(),m1,m6,_,M,_,M,_,_,M,M,_,M,p,1,i,j,m,n+1,?_,O,.inr M,(),m1,m6,λx dx nx nd ne=>?_}
   .rw[XM];rfl
   refine Dj (ok:=OH) {_,M,X8 i0<|wv () ij n,.inr {_,M,nK () ij n}} (T0 _) (T0 _) x dx nx nd λH4 fs s h f=>{M,NL.mk hn (s _ _ G) ?_<|w.next hD G s nx ⟨dx,fs,h,f⟩};let{_,as,U,Y,_}:=w;rw[U,Q0,Y];exact bQ ()
  .let{s,as,U,Y,hk}:=w;exact q H3 D as s (by rw[G,U]) Y (λk b e=>(hk k b e).2.2) λb hb=>(by let{k,e}:=ZH hb;exact(hk k b e).2.1)
def wR:Sp:=λvs H Q _=>∃c k:Int,vs=[.int c,.int k]/\∀z:Int,0<=z->z<2147483647->Q (.int z) H
def oR:Bs P w K mg base N8 1 t.rM t.kZ [ff,oZ] wR:=by
 refine T.rY.okl xg λs H vs Q E z h _=>?_;intro X;let{c,k,rfl,q}:=h;refine aj (ND 2<|ao aT (ao cI (ao bi (ao bi Ac<|ao cI af E5) af) af) af)
   (aw (aK<|ao aT (ao cI HN<|ao bi (ao aR HN af) af) af) ?_)
 intros
 refine{_,M,_,M,_,_,M,M,.inl {(_),(_)},_,_,M,M,_,_,M,M,_,_,M,M,.inr {(_),(_)},_,_,M,M,(by show(0:Int)<2147483647;decide),?_};let a:=Qg ((c+7919*k+1)*48271) (show(2147483647:Int)≠0 by decide);let b:=Qk ((c+7919*k+1)*48271) (show(0:Int)<2147483647 by decide)
 cbv
 generalize (c+7919*k+1)*48271%2147483647=n at a b⊢;refine{_,M,_,M,_,_,M,M,{(_),(_)},_,_,M,M,_,_,M,M,.inl {(),()},_,_,M,M,(by show(0:Int)<2147483647;decide),?_};exact q _ (Qg _ (_))<|Qk _ (_)
def uG(K:Wp):Sp:=λvs H Q _=>∃(sc:RC)(ns:RF),vs=[.ref sc]/\DI K H sc (ns.map V.int)/\∀(H':Hp)(p:RC)(kd i j:Int),Ck H H'->H' p=some (.tup [.int kd,.int i,.int j])->(kd=0\/kd=1)->O6 kd (.int i) (.int j)->Q (.ref p) H'
def vA:Bs P w K mg base N8 2 t.pe t.jw [ge] (uG K):=by
 let Y:=lK (P:=P) (w:=w) (base:=base) T;refine T.xW.okl uX λs H vs Q E O h _=>?_;intro X;let{sc,ns,rfl,hS,q}:=h;refine aj (ND 1<|aI (oR T) O.mo {_} T.zH T.rY.kp T.z7 .nil au (ac (aI Y O.mo {_} T.bX T.bJ.kp T.bY .nil au (ac Ac<|ac af ag))<|ac af ag))
   (aj (ND 2<|ao aR (aI Y O.mo {_} T.bX T.bJ.kp T.bY .nil au (ac Ac<|ac af ag)) af)
   (bV (λx=>aU (aA cY (ao aT (aI Y O.mo {_} T.bX T.bJ.kp T.bY .nil au (ac Ac<|ac af ag)) af) af<|aC _) x aL) ?_))
 refine aj (ND 3<|ao aT HN af)
   (aw (aK<|cG<|ac af<|ac NJ<|ac (ao bi NJ<|ao aT (ao aR HN af)<|ao mN af NJ) ag) ?_)
 intros
 refine bV (λx=>aU (aA cY (ao aT (aI Y O.mo {_} T.bX T.bJ.kp T.bY .nil au (ac Ac<|ac af ag)) af) af<|aC _) x aL) ?_;refine aw (aK<|cG<|ac af<|ac (ao aT HN<|ao io af af)<|ac (ao bi (ao aT HN<|ao io af af)<|ao aT (ao AI HN<|ao io af af)<|ao io af af) ag) ?_
 intros
 refine bV (λx=>aU (aA cY (ao aT (aI Y O.mo {_} T.bX T.bJ.kp T.bY .nil au (ac Ac<|ac af ag)) af) af<|aC _) x aL) ?_;refine aj (ND 3<|aS aX (cH<|ac (ao aT (ao aR E5 af) af)<|ac af ag) (ao aT E5 af)<|λ_ _=>M)
   (aw (aK<|cG<|ac af<|ac NJ<|ac (aS aX (cH<|ac (ao bi NJ<|ao aT (ao aR E5 af)<|ao mN af NJ)<|ac af ag) (ao aT (ao aR E5 af) af)<|λ_ _=>M) ag) ?_)
 intros
 refine aj (ND 3<|aS aX (cH<|ac (ao aT (ao aR E5 af) af)<|ac af ag) (ao aT E5 af)<|λ_ _=>M)
   (aw (aK<|cG<|ac af<|ac NJ<|ac (ao bi NJ<|aS aX (cH<|ac (ao aT (ao aR E5 af) af)<|ac (ao aT (ao aR (aI Y O.mo {_} T.bX T.bJ.kp T.bY .nil au (ac Ac<|ac af ag)) af)<|ao io af af) ag) (ao aT (ao aR E5 af) af)<|λ_ _=>M) ag) ?_)
 intros
 let two:(0:Int)<2:=by decide
 let G:(0:Int)<4:=by decide
 let l3:3<=sizeLine:=by decide
 let l2:2<=sizeLine:=by decide
 refine{_,M,sc,ns,1,M,hS,(_),_,3,M,λn n0 n1=>?_};obtain⟨c,ec⟩:∃c:Int,ns.getD (1:Int).toNat 0=c:={_,M};refine{_,M,sc,ns,1,M,hS,(_),_,_,M,M,{(_),(_)},?_}
 cbv
 rw[ec];refine{_,M,sc,ns,1,M,hS,(_),_,_,M,M,G,M,_,M,cT (λz=>?_)<|λz=>?_}
 .let I:=Qg (c/4) (show(65537:Int)≠0 by decide);let a1:=Qk (c/4) (show(0:Int)<65537 by decide);refine{_,M,_,_,M,M,(by show(0:Int)<65537;decide),?_}
  cbv
  generalize c/4%65537=lo at I a1⊢;refine{_,M,_,M,_,M,_,_,M,M,{(_),(_)},_,M,_,_,M,M,_,_,M,M,(by show(0:Int)<65537-lo;lia),_,_,M,M,l3,λp hp=>?_};let b0:=Qg (c/4/65537) (show(65537-lo:Int)≠0 by lia);let b1:=Qk (c/4/65537) (show(0:Int)<65537-lo by lia);exact q _ p 0 lo _ (am hp) ai (.inl M)<|.inl {M,lo,_,M,M,I,(),()}
 refine{_,M,sc,ns,1,M,hS,(_),_,_,M,M,G,M,_,M,cT (λz=>?_)<|λz=>?_}
 .let I:=Qg (c/4) (QY tD);let b0:=Qg (c/4/10^(39:Int).toNat) (QY tD);refine{_,M,_,_,M,M,{(_),(_),(_)},_,_,M,M,tD,_,M,_,_,M,M,{(_),(_),(_)},_,_,M,M,tD,_,M,_,_,M,M,{(_),(_),(_)},_,_,M,M,{(_),(_)},_,_,M,M,{(_),(_),(_)},_,_,M,M,tD,_,_,M,M,l3,λp hp=>?_};exact q _ p 1 _ _ (am hp) ai (.inr M)<|.inr (.inl {M,_,M,I,.inr {_,M,()}})
 refine{_,M,sc,ns,1,M,hS,(_),_,_,M,M,G,M,_,M,cT (λz=>?_)<|λz=>?_}
 .let I:=Qg (n/4) (show(65537:Int)≠0 by decide);let a1:=Qk (n/4) (show(0:Int)<65537 by decide);let{lo,hx,x0,x1}:=vp (c:=n) (n:=2) (L:=[.int (n/4%65537),.int 0]) (P:=λm=>0<=m/\m<=65536) {{I,()},{Zn _,(_)},trivial} M two;refine{_,M,_,_,M,M,{(_),(_)},_,_,M,M,(by show(0:Int)<65537;decide),l2,λZ U=>{_,M,_,_,M,M,two,Z,_,_,_,M,M,DI.of ai,hx,?_}};let b0:=Qg (n/300000) (show(65537-lo:Int)≠0 by lia);let b1:=Qk (n/300000) (show(0:Int)<65537-lo by lia);let{y,hy,y0}:=vp (c:=n/2) (n:=2) (L:=[.int (lo+n/300000%(65537-lo)),.int 65536]) (P:=λm=>lo<=m/\m<=65536) {{(),()},{(),()},trivial} M two;let s1:=am (o:= .lst [.int (n/4%65537),.int 0]) U
  cbv
  generalize upd H Z (.lst [.int (n/4%65537),.int 0])=H1 at s1⊢;refine{_,M,_,M,_,M,_,_,M,M,{(_),(_)},_,M,_,_,M,M,_,_,M,M,(by show(0:Int)<65537-lo;lia),_,_,M,M,l2,λp2 n2=>{_,M,_,_,M,M,{(_),(_)},_,_,M,M,two,p2,_,_,_,M,M,DI.of ai,hy,l3,λp3 n3=>?_}};exact q _ p3 0 lo y ((s1.trans<|am n2).trans<|am n3) ai (.inl M)<|.inl ⟨M,lo,y,M,M,x0,y0.1,y0.2⟩
 let I:=Qg (n/4) (show(90:Int)≠0 by decide);let{lo,hx,x0}:=vp (c:=n) (n:=2) (L:=[.int (n/4%90),.int 0]) (P:=λm=>0<=m) {I,Zn _,trivial} M two;let{y,hy,y0}:=vp (c:=n/2) (n:=2) (L:=[.int (n/400%4000),.int (c/3%10^(39:Int).toNat)]) (P:=λm=>0<=m) {Qg _ (_),Qg _<|QY tD,trivial} M two;refine{_,M,_,_,M,M,{(_),(_)},_,_,M,M,(by show(0:Int)<90;decide),l2,λZ U=>{_,M,_,_,M,M,two,Z,_,_,_,M,M,DI.of ai,hx,?_}};let s1:=am (o:= .lst [.int (n/4%90),.int 0]) U
 cbv
 generalize upd H Z (.lst [.int (n/4%90),.int 0])=H1 at s1⊢;refine{_,M,_,M,_,M,_,_,M,M,{(_),(_)},_,_,M,M,(by show(0:Int)<4000;decide),_,M,sc,ns,1,M,s1.seq hS,(_),_,_,M,M,{(_),(_)},_,_,M,M,{(_),(_),(_)},_,_,M,M,tD,l2,λp2 n2=>?_};rw[ec];refine{_,M,_,_,M,M,{(_),(_)},_,_,M,M,two,p2,_,_,_,M,M,DI.of ai,hy,_,_,M,M,l3,λp3 n3=>?_};exact q _ p3 1 lo _ ((s1.trans<|am n2).trans<|am n3) ai (.inr M)<|.inr (.inl {M,lo,M,x0,.inr {_,M,()}})
def Gp{N:RC}{kd:Str}{ok:V->V->Prop}{a:V}{E:XK}(G:ok a e)(I:Sc a)(O:Sc e)(x dx:RC)(nx:H x=none)(nd:H dx=none)
  (q:∀H' fs,Ck H H'->H' x=some (.ins C dx fs)->xV kd fs a e->Q .non H'):Ay C N kd ok [.ref x,a,e] (upd (upd H dx<|.own x) x<|.ins C dx []) Q E:=
 {x,dx,a,e,M,ai,I,O,λ_ H' fs k h f=>q H' fs (oh nx nd k) h f,λz=>VE G z}
def wP(K:Wp)(t:N6):Sp:=λvs H Q _=>∃(n:RC)(kd i j:Int),vs=[.ref n]/\Na K H n [.int kd,.int i,.int j]/\O6 kd (.int i) (.int j)/\(kd=0\/kd=1)/\∀H' p,Ck H H'->H p=none->NM t H' p kd (.int i) (.int j)->Q (.ref p) H'
def xw:Bs P w K mg base N8 5 t.rK t.kX [fx] (wP K t):=by
 refine T.Ae.okl xb λs H vs Q E O h _=>?_;intro X;let{n,kd,i,j,rfl,G,I,hk,q}:=h;refine bV (λx=>aU (aA cY (aS bE Ac af<|λ_ _=>M) af<|aC _) x aL) ?_;refine aw (aK<|gQ T.vO (fR T) O.mo {_} T.kP T.lN .nil au (ac (aS bE Ac af<|λ_ _=>M)<|ac (aS bE Ac af<|λ_ _=>M) ag)) ?_
 intros
 refine aw (aK<|gQ T.J0 (mO T) O.mo {_} T.AU T.wA .nil au (ac (aS bE Ac af<|λ_ _=>M)<|ac (aS bE Ac af<|λ_ _=>M) ag)) ?_
 intros
 let{U,Y}:=I.sc;rcases hk with rfl|rfl
 .refine{_,M,n,_,_,_,M,M,G,M,M,_,M,jV M {_,M,n,_,_,_,M,M,G,M,_,M,n,_,_,_,M,M,G,M,λx dx nx nd ne=>?_}};exact Gp I.s U Y x dx nx nd λH' fs s h f=>{M,q H' x s nx ⟨dx,fs,h,f⟩}
 .refine{_,M,n,_,_,_,M,M,G,M,M,_,M,bz (λz=>by cases z) {_,M,n,_,_,_,M,M,G,M,_,M,n,_,_,_,M,M,G,M,λx dx nx nd ne=>?_}};exact Gp I.u U Y x dx nx nd λH' fs s h f=>{M,q H' x s nx ⟨dx,fs,h,f⟩}
def wS(K:Wp):Sp:=λvs H Q _=>∃(n:RC)(kd k i j:Int),vs=[.ref n,.int k]/\Na K H n [.int kd,.int i,.int j]/\(kd=0\/kd=1)/\Q (.bl<|hN kd (.int i) (.int j) k) H
def xz:Bs P w K mg base N8 2 t.rN t.lg [fx,nG] (wS K):=by
 refine T.Af.okl xh λs H vs Q E I h _=>?_;intro X;let{n,kd,k,i,j,rfl,G,hk,q}:=h;refine bV (λx=>aU (aA cY (aS bE Ac af<|λ_ _=>M) af<|aC _) x aL) ?_;refine aw (aK<|gy (bZ qP (aS bE Ac af<|λ_ _=>M) (aI (xy T) I.mo {_} T.zG T.rX.kp T.z6 .nil au (ac E5 ag))<|aC _)<|fQ<|bZ eI (aI (xy T) I.mo {_} T.zG T.rX.kp T.z6 .nil au (ac E5 ag)) (aS bE Ac af<|λ_ _=>M)<|aC _) ?_
 intros
 refine aw (aK<|gy (bZ qP (aS bE Ac af<|λ_ _=>M) E5<|aC _)<|fQ<|bZ eI E5 (aS bE Ac af<|λ_ _=>M)<|aC _) ?_
 intros
 rcases hk with rfl|rfl
 .let q:Q (.bl<|decide (i<=tz (k%65536))&&decide (tz (k%65536)<j)) H:=q;refine{_,M,n,_,_,_,M,M,G,M,M,_,M,jV M {_,M,n,_,_,_,M,M,G,M,_,M,k,M,_,_,M,M,_,M,cT (λc=>{_,M,k,M,_,M,n,_,_,_,M,M,G,M,_,_,M,M,?_})<|λc=>?_}}
  .rw[c,Xy]at q;exact q
  .rw[Zi.mpr c,ZU]at q;exact q
 .let q:Q (.bl<|decide (i<=k)&&decide (k<j)) H:=q;refine{_,M,n,_,_,_,M,M,G,M,M,_,M,bz (λz=>by cases z) {_,M,n,_,_,_,M,M,G,M,_,M,_,_,M,M,_,M,cT (λc=>{_,M,_,M,n,_,_,_,M,M,G,M,_,_,M,M,?_})<|λc=>?_}}
  .rw[c,Xy]at q;exact q
  .rw[Zi.mpr c,ZU]at q;exact q
def x9:(0:Int)<10^(38:Int).toNat:=by decide
def JY{i:Int}(G:0<=i)(h1:i<=11)(z:0<=m)(I:m<=65536):0<=i*m/\i*m<=720896:={Xr G z,X8 (Int.mul_le_mul h1 I z (_)) (_)}
def Ir(H:Hp)(c n way:Int):St->Hp->Prop:=λW H'=>H=H'/\∃st:Int,W=[some (.int c),some (.int st),some (.int n),some (.int way),none]/\0<=st/\st<=10^38
def Aw:Sp:=λvs H Q _=>∃c:Int,vs=[.int c]/\∀(H':Hp)(r:RC)(rs:RF),Ck H H'->H r=none->H' r=some (.lst<|rs.map V.int)->rs.length<=4->(∀k∈rs,0<=k/\k<10^39)->Q (.ref r) H'
def AK:Bs P w K mg base N8 2 t.wD t.qj [ff] Aw:=by
 refine T.CP.okl NA λs H vs Q E hr h _=>?_;intro X;let{c,rfl,q}:=h;refine bV (λx=>aU (aA cY (ao aT Ac af) af<|aC _) x aL) ?_;refine aj (kK (i:=1) NA.nd M (Or.inr M)<|ao aT (ao aR Ac af)<|ao io af af)
   (aw (aK<|iS M (Hc.of (M':=[oZ]) (N:=[ff,K',v7,Pz,Pq]) (N':=[ff,K',v7,Pz,Pq]) (dsc:=ak hI) M M ∅) (eG {_} T.iN (ac (ao bi af<|ao aT (ao aT (ao aR Ac af) af) af) ag))<|λ_ _ _ _ _=>(ao bi HN<|ao cI Ac<|aS (GJ K M) (cH<|ac af<|ac af<|ac af<|ac af<|ac af ag) (ao aT (ao aR E5 af) af)<|λ_ _=>M)) ?_)
 intros
 refine aj (ND 2<|aI (oR T) hr.mo {_} T.zH T.rY.kp T.z7 .nil au (ac Ac<|ac af ag))
   (aj (ND 3<|ao aT HN af)
   (aj (kK (i:=1) NA.nd M (Or.inr M)<|ao aT (ao aR HN af) af)
   (aj (aU (aA cY NJ af<|aC _)
    (aD<|kK (i:=1) NA.nd M (Or.inr M)<|ao aT (ao aR Ac af)<|ao io af af)
    aL)
   (aj (aU (aA cY NJ af<|aC _)
    (aD<|kK (i:=1) NA.nd M (Or.inr M)<|ao cI af<|ao aT (ao aR HN af) af)
    aL)
   (bV (λx=>aU (aA cY NJ af<|aC _) x aL) ?_)))))
 refine aw (kK (i:=1) NA.nd M (Or.inr M)<|ao bi (ao cI af<|ao aT (ao aR HN af) af)<|ao aT (ao aR HN af) af) ?_
 intros
 refine aj (aU (aA cY NJ af<|aC _)
    (aD<|kK (i:=1) NA.nd M (Or.inr M)<|ao aT (ao aR HN af) af)
    aL)
   (aj (kK (i:=4) NA.nd M (Or.inr M)<|aS aX (cH<|ac af<|ac af<|ac af<|ac af<|ac af ag) (ao aT (ao aR HN af) af)<|λ_ _=>M)
   (aw (aK<|iS M (Hc.of (M':=[oZ]) (N:=[ff,K',v7,Pz,Pq]) (N':=[ff,K',v7,Pz,Pq]) (dsc:=ak hI) M M ∅) (eG {_} T.iN (ac (ao bi af<|ao aT (ao aR HN af) af) ag))<|λ_ _ _ _ _=>(ao bi HN<|ao cI Ac OP)) ?_))
 intros
 let two:(0:Int)<2:=by decide
 let a2:(10:Int)^(38:Int).toNat=10^38:=M;refine{_,M,_,_,M,M,two,M,_,M,cT (λz=>?_)<|λz=>?_}
 .let G:=Qg (c/120) (QY x9);let s1:=Qk (c/120) x9;refine{_,M,_,_,M,M,{(_),(_)},_,_,M,M,{(_),(_),(_)},_,_,M,M,x9,?_}
  cbv
  generalize c/120%10^(38:Int).toNat=st at G s1⊢;rw[a2]at s1;let b0:=Qg (c/2%12) (show(4:Int)≠0 by decide);let b1:=Qk (c/2%12) (show(0:Int)<4 by decide);refine{_,M,_,_,M,M,{(_),(_)},_,_,M,M,(by show(0:Int)<12;decide),_,_,M,M,(by show(0:Int)<4;decide),_,_,M,M,?_}
  cbv
  generalize c/2%12%4=m at b0 b1⊢;refine{1+m,M,(),(),λD hD=>iG (n:=(1+m).toNat) (lo:=0) (λi ys H2=>Ck H H2/\∃rs:List Int,ys=rs.map V.int/\rs.length=i/\∀k∈rs,0<=k/\k<10^39) {am hD,[],M,M,λ_ z=>VE z Zc} (λi ys H2 hi w I=>?_)<|λys H2 w I=>?_}
  .let{U,rs,rfl,lr,hb}:=w;let{sp,Y,p0,p1}:=vp (c:=c/24) (n:=5) (L:=[.int 1,.int 3,.int 256,.int 65536,.int 5000]) (P:=λm=>0<=m/\m<=65536) {{(_),(_)},{(_),(_)},{(_),(_)},{(_),(_)},{(_),(_)},trivial} M (_);refine{_,M,_,M,(by show 5<=sizeLine;decide),λp np=>{_,M,_,_,M,M,{(_),(_)},_,_,M,M,(by show(0:Int)<5;decide),p,_,_,_,M,M,DI.of ai,Y,_,_,M,M,.inr {(),()},_,_,M,M,?_}};let O:=am (o:= .lst [.int 1,.int 3,.int 256,.int 65536,.int 5000]) np
   cbv
   generalize upd H2 p (.lst [.int 1,.int 3,.int 256,.int 65536,.int 5000])=H3 at O⊢;let{x0,x1}:=JY (i:=0+(i:Int)) () () p0 p1;generalize (0+(i:Int))*sp=x at x0 x1⊢;refine NL.mk hi (O _ _ I) (bQ<|by rw[Q0];lia) {bT (U.trans O) hD,rs++ [st+x],by rw[Q9];rfl,by rw[Q6,lr];rfl,λk hk=>?_};rcases Q5.mp hk with hk|hk
   .exact hb k hk
   .rw[Q7.mp hk];constructor<;>lia
  .let{U,rs,rfl,lr,hb}:=w;exact q H2 D rs U hD I () hb
 clear z;refine{_,M,c,1,M,λn n0 n1=>?_};refine{_,M,_,_,M,M,(by show(0:Int)<5;decide),?_}
 cbv
 generalize n%5=way;let G:=Qg (n/5) (show(50:Int)≠0 by decide);let s1:=Qk (n/5) (show(0:Int)<50 by decide);refine{_,M,_,_,M,M,{(_),(_)},_,_,M,M,(by show(0:Int)<50;decide),?_}
 cbv
 generalize n/5%50=st at G s1⊢;refine dU (Ir H c n way) (λnx go=>?_)<|λZ H1 w=>?_
 .refine{_,M,M,_,M,cT (λz=>?_)<|λz=>go _ _ {M,st,M,G,()}};let a0:=Qg (c/5) (QY x9);let a1:=Qk (c/5) x9;refine{_,M,_,_,M,M,{(_),(_)},_,_,M,M,{(_),(_),(_)},_,_,M,M,x9,go _ _ {M,_,M,a0,?_}};rw[a2]at a1⊢;lia
 clear G s1 st;let{rfl,st,rfl,G,s1}:=w;refine dU (Ir H c n way) (λnx go=>?_)<|λZ H1 w=>?_
 .refine{_,M,M,_,M,cT (λz=>?_)<|λz=>go _ _ ⟨M,st,M,G,s1⟩};let a0:=Qg (n/5) (show(40:Int)≠0 by decide);let a1:=Qk (n/5) (show(0:Int)<40 by decide);exact{_,M,_,_,M,M,{(_),(_)},_,_,M,M,(by show(0:Int)<40;decide),_,_,M,M,.inl {(_),(_)},go _ _ {M,_,M,(),()}}
 clear G s1 st;let{rfl,st,rfl,G,s1}:=w;refine dU (Ir H c n way) (λnx go=>?_)<|λZ H1 w=>?_
 .refine{_,M,M,_,M,cT (λz=>?_)<|λz=>go _ _ ⟨M,st,M,G,s1⟩};let a0:=Qg (n/5) (show(9:Int)≠0 by decide);let a1:=Qk (n/5) (show(0:Int)<9 by decide);let b0:=Qg (n/45) (show(7:Int)≠0 by decide);let b1:=Qk (n/45) (show(0:Int)<7 by decide);exact{_,M,_,_,M,M,{(_),(_)},_,_,M,M,(by show(0:Int)<9;decide),_,_,M,M,.inl {(_),(_)},_,M,_,_,M,M,{(_),(_)},_,_,M,M,(by show(0:Int)<7;decide),_,_,M,M,go _ _ {M,_,M,(),()}}
 clear G s1 st;let{rfl,st,rfl,G,s1}:=w;refine dU (Ir H c n way) (λnx go=>?_)<|λZ H1 w=>?_
 .refine{_,M,M,_,M,cT (λz=>?_)<|λz=>go _ _ ⟨M,st,M,G,s1⟩};let a0:=Qg (n/5) (show(3000:Int)≠0 by decide);let a1:=Qk (n/5) (show(0:Int)<3000 by decide);exact{_,M,_,_,M,M,{(_),(_)},_,_,M,M,(by show(0:Int)<3000;decide),go _ _ {M,_,M,(),()}}
 clear G s1 st;let{rfl,st,rfl,G,s1}:=w;let{sp,Y,p0,p1}:=vp (c:=n/20000) (n:=5) (L:=[.int 1,.int 3,.int 256,.int 65536,.int 5000]) (P:=λm=>0<=m/\m<=65536) {{(_),(_)},{(_),(_)},{(_),(_)},{(_),(_)},{(_),(_)},trivial} M (_);refine{(by show 5<=sizeLine;decide),λp np=>{_,M,_,_,M,M,{(_),(_)},_,_,M,M,(by show(0:Int)<5;decide),p,_,_,_,M,M,DI.of ai,Y,?_}};let O:=am (o:= .lst [.int 1,.int 3,.int 256,.int 65536,.int 5000]) np
 cbv
 generalize upd H p (.lst [.int 1,.int 3,.int 256,.int 65536,.int 5000])=H3 at O⊢;let b0:=Qg (n/100000) (show(4:Int)≠0 by decide);let b1:=Qk (n/100000) (show(0:Int)<4 by decide);refine{_,M,_,_,M,M,{(_),(_)},_,_,M,M,(by show(0:Int)<4;decide),_,_,M,M,?_}
 cbv
 generalize n/100000%4=m at b0 b1⊢;refine{1+m,M,(),(),λD hD=>iG (n:=(1+m).toNat) (lo:=0) (λi ys H2=>Ck H3 H2/\∃rs:List Int,ys=rs.map V.int/\rs.length=i/\∀k∈rs,0<=k/\k<10^39) {am hD,[],M,M,λ_ z=>VE z Zc} (λi ys H2 hi w I=>?_)<|λys H2 w I=>?_}
 .let{U,rs,rfl,lr,hb}:=w;let{x0,x1}:=JY (i:=0+(i:Int)) () () p0 p1;refine{_,M,_,M,_,M,_,_,M,M,.inr {(),()},_,_,M,M,?_}
  cbv
  generalize (0+(i:Int))*sp=x at x0 x1⊢;refine NL.mk hi I (bQ<|by rw[Q0];lia) {bT U hD,rs++ [st+x],by rw[Q9];rfl,by rw[Q6,lr];rfl,λk hk=>?_};rcases Q5.mp hk with hk|hk
  .exact hb k hk
  .rw[Q7.mp hk];constructor<;>lia
 .let{U,rs,rfl,lr,hb}:=w;exact q H2 D rs (O.trans U) (c7 O hD) I () hb
def Wh(F:RE)(d:RC):Addr->Prop:=λb=>F b\/b=d
def Fr.wh{d:RC}(f:Fr F F' H H'):Fr (Wh F d) (Wh F' d) H H':=λb o n G=>{(f b o (λz=>n<|.inl z) G).1,λz=>z.elim (f b o (λz=>n<|.inl z) G).2 λz=>n<|.inr z}
def Fr.wd{d:RC}:Fr (Wh F d) (Wh F d) H (upd H d o):=λb o n G=>{by rwa[ae λz=>n (.inr z)],n}
structure Jd(K:Wp)(t:N6)(H:Hp)(a d:RC)(F:RE)(x:NF)(ds:List DR):Prop where
 A:NI K t H a F x
 di:H d=some (.dK<|az x.st.kv)
 nd:¬F d
 kb:∀k∈x.st.kv.map (·.1),0<=k/\k<10^40
 iv:∀p∈x.st.kv,∃i:Int,p.2= .int i
 le:x.st.kv.length<=400
 dy:PL x ds
 D:Oy ds
 tb:tbl ds=x.st.kv
 mx:∀y∈ds,∀m,y.r= .mark m->m<=x.ma
 fl:x.fl=0
 ho:x.ho=[]
def KQ{kv:RH}{i:Int}(h:∀p∈kv,∃i:Int,p.2= .int i):∀p∈bf kv k (.int i),∃i:Int,p.2= .int i:=λp z=>by
 unfold bf at z;split at z
 .let{q,hq,rfl}:=Qe.mp z;by_cases c:q.1=k
  .exact{i,by rw[VA c]}
  .rw[Vz c];exact h q hq
 .rcases Q5.mp z with y|y
  .exact h p y
  .rw[Q7.mp y];exact⟨i,M⟩
def Oy.snoc{y:DR}(D:Oy ds)(k0:∀k,y.r.key=some k->0<=k)(O:∀m,y.r= .mark m->∀z∈ds,z.r≠ .mark m)(Y:∀k,y.r= .drop k->(ay (tbl ds) k).isSome=true):Oy (ds++ [y]):=by
 let at_:∀(i:Nat)(z:DR),(ds++ [y])[i]?=some z->ds[i]?=some z\/(i=ds.length/\z=y):=λi z h=>by
  rcases Nat.lt_trichotomy i ds.length with c|c|c
  .rw[QG c]at h;exact .inl h
  .rw[c,QD (Q4 _),XI]at h;exact .inr {c,(VB h).symm}
  .rw[ZF (by rw[Q6,QT];lia)]at h;cases h
 refine{λz hz k hk=>?_,λi j u v m hu Z G I=>?_,λi z k hz U=>?_}
 .rcases Q5.mp hz with h|h
  .exact D.kb z h k hk
  .rw[Q7.mp h]at hk;exact k0 k hk
 .rcases at_ i u hu with h1|⟨h1,rfl⟩<;>rcases at_ j v Z with h2|⟨h2,rfl⟩
  .exact D.un i j u v m h1 h2 G I
  .exact VE G<|O m I u (Q2 h1)
  .exact VE I<|O m G v (Q2 h2)
  .rw[h1,h2]
 .rcases at_ i z hz with h1|⟨h1,rfl⟩
  .rw[QE (QU (Q1.mp h1).1)];exact D.dr i z k h1 U
  .rw[h1,QE (Q4 _),Qw];exact Y k U
def PL.snoc{x:NF}{y:DR}(h:PL x ds)(e:x'.di=x.di++ [(y.p,y.r.vs)]):PL x' (ds++ [y]):=by
 unfold PL at h⊢;rw[e,h,Q9];rfl
section
variable{d:RC}{x:NF}{i:Int}
def Jd.fr(J:Jd K t H a d F x ds)(A:NI K t H' a F' x)(f:Fr F F' H H'):Jd K t H' a d F' x ds:={A,(f _ _ J.nd J.di).1,(f _ _ J.nd J.di).2,J.kb,J.iv,J.le,J.dy,J.D,J.tb,J.mx,J.fl,J.ho}
def Jd.same(J:Jd K t H a d F x ds)(s:Ck H H'):Jd K t H' a d F x ds:=J.fr (J.A.same s) (Fr.of_same s)
def Jd.put(J:Jd K t H a d F x ds)(A:NI K t H' a F' x')(f:Fr F F' H H')(e:x'.st=x.st.put k (.int i))(m:x'.ma=x.ma)(e2:x'.di=x.di++ [(r,[.str Rg,.int k,.int i])])(O:x'.fl=x.fl)(U:x'.ho=x.ho)(k0:0<=k/\k<10^40)(l:x.st.kv.length<=399):Jd K t (L2.upd H' d<|.dK<|az<|bf x.st.kv k<|.int i) a d F' x' (ds++ [{r,.put k i}]):=by
 let{Y,I}:=f _ _ J.nd J.di;let G:x'.st.kv=bf x.st.kv k (.int i):=by rw[e];exact Hm.three_kv
 refine{A.upd I (λxs z=>by rw[Y]at z;cases z),by rw[G];exact ai,I,λz hz=>?_,by rw[G];exact KQ J.iv,?_,J.dy.snoc e2,J.D.snoc (λz hz=>by cases hz;exact k0.1) (λ_ z=>by cases z) (λ_ z=>by cases z),?_,λy hy z hz=>?_,O.trans J.fl,U.trans J.ho}
 .rw[G,rc]at hz;split at hz
  .exact J.kb z hz
  .rcases Q5.mp hz with y|y
   .exact J.kb z y
   .rwa[Q7.mp y]
 .rw[G];have:=b6 x.st.kv k (.int i);lia
 .rw[qt,J.tb,G];rfl
 .rw[m];rcases Q5.mp hy with h|h
  .exact J.mx y h z hz
  .rw[Q7.mp h]at hz;cases hz
def Jd.drop(J:Jd K t H a d F x ds)(A:NI K t H' a F' x')(f:Fr F F' H H')(e:x'.st=x.st.drop k)(m:x'.ma=x.ma)(e2:x'.di=x.di++ [(r,[.str Pn,.int k])])(U:x'.fl=x.fl)(Y:x'.ho=x.ho)(k0:0<=k)(hs:(ay x.st.kv k).isSome=true):Jd K t (L2.upd H' d<|.dK<|az<|bG x.st.kv k) a d F' x' (ds++ [{r,.drop k}]):=by
 let{Z,O}:=f _ _ J.nd J.di;let G:x'.st.kv=bG x.st.kv k:=by rw[e];exact Hm.three_kv
 let sub:∀p∈bG x.st.kv k,p∈x.st.kv:=λp I=>(Qt.mp I).1;refine{A.upd O (λxs z=>by rw[Z]at z;cases z),by rw[G];exact ai,O,λz hz=>?_,by rw[G];exact λp I=>J.iv p<|sub p I,?_,J.dy.snoc e2,J.D.snoc (λz hz=>by cases hz;exact k0) (λ_ z=>by cases z) (λz hz=>by cases hz;rwa[J.tb]),?_,λy hy z hz=>?_,U.trans J.fl,Y.trans J.ho}
 .rw[G]at hz;let{p,I,rfl}:=Qe.mp hz;exact J.kb _<|Qe.mpr {p,sub p I,M}
 .rw[G];exact Qu (Qm _ _) J.le
 .rw[qt,J.tb,G];rfl
 .rw[m];rcases Q5.mp hy with h|h
  .exact J.mx y h z hz
  .rw[Q7.mp h]at hz;cases hz
def Jd.mark(J:Jd K t H a d F x ds)(A:NI K t H' a F' x')(h1:H' d=some (.dK<|az x.st.kv))(h2:¬F' d)(e:x'.st=x.st)(m:x'.ma=x.ma+1)(e2:x'.di=x.di++ [(r,[.str Ps,.int (x.ma+1)])])(G:x'.fl=x.fl)(I:x'.ho=x.ho):Jd K t H' a d F' x' (ds++ [{r,.mark<|x.ma+1}]):=by
 refine{A,by rwa[e],h2,by rw[e];exact J.kb,by rw[e];exact J.iv,by rw[e];exact J.le,J.dy.snoc e2,J.D.snoc (λz hz=>by cases hz) (λz hz y hy h=>?_) (λ_ z=>by cases z),?_,λy hy z hz=>?_,G.trans J.fl,I.trans J.ho}
 .cases hz;have:=J.mx y hy _ h;lia
 .rw[qt,J.tb,e];rfl
 .rw[m];rcases Q5.mp hy with h|h
  .have:=J.mx y h z hz;lia
  .rw[Q7.mp h]at hz;cases hz;lia
def Jd.len(J:Jd K t H a d F x ds):(ds.length:Int)=x.now+x.ma:=by
 have:=J.A.ok.dl;rw[J.dy,Q0]at this;exact this
end
def za(K:Wp)(t:N6):Sp:=λvs H Q _=>∃(a d:RC)(c:Int)(F:RE)(x:NF)(ds:List DR)(N:Nat),vs=[.ref a,.ref d,.int c]/\Jd K t H a d F x ds/\x.now+x.ma<3900/\x.st.kv.length<=N/\300<=N/\N<=390/\
 ∀(H':Hp)(F':RE)(x':NF)(more:List DR),Jd K t H' a d F' x' (ds++more)->x'.now<=x.now+4->x'.ma=x.ma->x'.st.kv.length<=N->Fr (Wh F d) (Wh F' d) H H'->Q .non H'
def qR:Bs P w K mg base N8 7 t.tN t.nC [hW,jX,ff] (za K t):=by
 refine T.tQ.okl zj λs H vs Q E U h _=>?_;intro X;let{a,d,c,F,x,ds,N,rfl,J,l1,l0,N1,N2,q}:=h;refine aj (ND 3<|aI (AK T) U.mo {_} T.Lb T.CP.kp T.LI .nil au (ac (ao aR HN af) ag))
   (mX (λx=>(eZ VP M (eG {_} T.iN (ac (aG aE {_} T.bS bq (ac NJ ag)) ag)) (OQ 4)
    x)) ?_)
 refine Ge (λx y=>aU (aA cY (ao aT HN af) af<|aC _) x y) ?_;refine mX (λx=>aU (zr<|Cu (iV U) (aS aX NJ Nl<|λ_ _=>M) E5) x aL) ?_;refine aj (aN<|aO Ac T.aP T.Hz (vI T) U.mo T.HL .nil au<|ac (aS aX NJ Nl<|λ_ _=>M) ag)
   (aw (aN<|dO QW ZE XU Dg E5<|ac (aS aX NJ Nl<|λ_ _=>M) ag) ?_)
 intros
 refine mX (λx=>aU (aA eI (aG EV {_} T.bS bq (ac E5 ag)) af<|aC _) x aL) ?_;refine aj (ND 5<|ao cI (ao aT (ao bi (ao aR HN af) Nl)<|ao io af af)<|aS aX (cH<|ac af<|ac (FY B0 af) ag) (ao aT (ao aR HN af) af)<|λ_ _=>M)
   (bV (λx=>aU (aA cY (ao aT (ao aR HN af) af) af<|aC _) x aL) ?_)
 refine aw (ND 5<|ao mN (ao aT (ao bi (ao AI HN<|ao cI af<|ao io af af) Nl)<|ao cI af<|ao io af af)<|ao io af af) ?_
 intros
 refine aj (aN<|aO Ac T.aP T.IV (xE T) U.mo T.Jv .nil au<|ac (aS aX NJ Nl<|λ_ _=>M)<|ac OP ag)
   (aw (kL (iV U) E5 (aS aX NJ Nl<|λ_ _=>M) OP M) ?_)
 intros
 refine{_,M,_,_,M,M,{(_),(_)},_,M,λH1 r rs s1 nr U lr rb=>?_};let J1:=J.same s1;let nF:¬F r:=J.A.out nr;let a2:r≠d:=al J.di nr|>.symm;refine{_,M,r,_,M,.inl<|DI.of U,?_};rw[Q0];refine{(rs.length:Int),M,(),(),wj (n:=(rs.length:Int).toNat) (λi W H'=>∃(F':RE)(x':NF)(more:List DR)(v4 v5:RX),W=[some (.ref a),some (.ref d),some (.int c),some (.ref r),v4,v5]/\Jd K t H' a d F' x' (ds++more)/\x'.now<=x.now+i/\x'.ma=x.ma/\x'.st.kv.length<=N/\Fr (Wh F d) (Wh F' d) H1 H') {F,x,[],none,none,M,(by rwa[Z6]),(),M,l0,Fr.refl} (λi W H2 hi w=>?_)<|λW H2 w=>?_}
 .let{Z,G,mo,v4,v5,rfl,I,l2,m2,e2,Y}:=w;let{O,a0}:=Y _ _ (λz=>z.elim nF a2) U;let hi':i<rs.length:=();obtain⟨k,ek⟩:∃k,rs[i]?=some k:={_,Q3 hi'};let{k0,k1}:=rb k (Q2 ek);let at1:OR (rs.map V.int) (0+(i:Int))=some (.int k):=by
   rw[XM];refine rH ?_;rw[Qp,ek];rfl
  let{a3,a4,a5,a6,_}:=I.A.ins;refine{_,M,_,_,M,M,(by show(0:Int)<4;decide),M,_,M,cT (λz=>?_)<|λz=>?_}
  .refine{_,M,_,M,r,_,_,_,M,M,DI.of O,at1,_,M,d,_,M,Nm.k (k:=Sum.inl k) I.di,_,M,?_};rw[M9];cases ev:ay G.st.kv k with
   |none=>exact dP {Z,G,mo,_,_,M,I,(),m2,e2,Y}
   |some v=>
    refine cC {_,M,a,a3,a4,M,a5,a6 _ ∅,_,M,_,M,r,_,_,_,M,M,DI.of O,at1,a,k,Z,G,M,I.A,k0,(),λ_ H3 F3 b3 r3 q3 b4 A3 N3 f3=>?_,λz=>by rw[ev]at z;cases z};let{d3,n3}:=f3 _ _ I.nd I.di;let{aa,b5}:=f3 _ _ (λz=>a0<|.inl z) O;refine{_,M,.inr<|.inr<|.inl {M,.inl {_,d3}},_,M,_,M,r,_,_,_,M,M,DI.of aa,at1,d,_,Sum.inl k,v,M,M,d3,M9.trans ev,?_};rw[qb];let J3:=I.drop A3 f3 M M M M M k0 (by rw[ev];rfl);rw[Qi]at J3;exact{F3,_,_,_,_,M,J3,by show G.now+1<=_;lia,m2,by rw[show(G.st.drop k).kv=bG G.st.kv k from Hm.three_kv];exact Qu (Qm _ _) e2,(Y.trans f3.wh).trans Fr.wd}
  .refine{_,M,d,_,M,I.di,_,_,M,M,_,M,cT (λy=>?_)<|λy=>{Z,G,mo,_,_,M,I,(),m2,e2,Y}};let y:=VH y;rw[a8]at y;refine dU (λW H'=>∃v:Int,W=[some (.ref a),some (.ref d),some (.int c),some (.ref r),some (.int<|0+(i:Int)),some (.int v)]/\Ck H2 H') (λnx go=>?_)<|λW H3 w=>?_
   .let{sg,ab,g0}:=vp (c:=c/16) (n:=2) (L:=[.int 1,.int (-1)]) (P:=λm=> -2<m/\m<2) {{(_),(_)},{(_),(_)},trivial} M (_);exact{_,M,_,_,M,M,{(_),(_)},_,M,_,_,M,M,_,_,M,M,{(_),(_),(_)},_,_,M,M,tD,_,M,(by show 2<=sizeLine;decide),λp np=>{_,M,_,_,M,M,{(_),(_)},_,_,M,M,(by show(0:Int)<2;decide),p,_,_,_,M,M,DI.of ai,ab,_,_,M,M,.inr {(),()},go _ _ {_,M,am np}}}
   let{v,rfl,s3}:=w;refine dU (λW H'=>∃v:Int,W=[some (.ref a),some (.ref d),some (.int c),some (.ref r),some (.int<|0+(i:Int)),some (.int v)]/\Ck H2 H') (λnx go=>?_)<|λW H4 w=>?_
   .refine{_,M,_,_,M,M,{(_),(_)},_,_,M,M,(by show(0:Int)<2;decide),M,_,M,cT (λ_=>?_)<|λ_=>go _ _ ⟨v,M,s3⟩};exact{_,M,_,_,M,M,{(_),(_),(_)},_,_,M,M,.inl {(_),(_)},_,_,M,M,{(_),(_)},_,M,_,_,M,M,_,_,M,M,{(_),(_),(_)},_,_,M,M,.inl {(_),(_)},_,_,M,M,(by show(0:Int)<2*10^(39:Int).toNat;decide),_,_,M,M,{(_),(_),(_)},_,_,M,M,go _ _ {_,M,s3}}
   clear s3 v;let{v,rfl,s4}:=w;let J4:=I.same s4;let{ah,an,ax,b1,_}:=J4.A.ins;let a1:=s4 _ _ O;refine{_,M,a,ah,an,M,ax,b1 _ ∅,_,M,_,M,r,_,_,_,M,M,DI.of a1,at1,_,M,a,k,v,Z,G,M,J4.A,k0,(),λH5 F5 bb r5 q5 bd A5 N5 f5=>?_};let{d5,n5}:=f5 _ _ J4.nd J4.di;let{b2,be}:=f5 _ _ (λz=>a0<|.inl z) a1;refine{_,M,_,M,_,M,_,M,r,_,_,_,M,M,DI.of b2,at1,d,_,M,O1.k (k:=Sum.inl k) d5 (by rw[a8];exact a9 ()),?_};rw[cw];let J5:=J4.put A5 f5 M M M M M {k0,()} ();rw[Qi]at J5;exact{F5,_,_,_,_,M,J5,by show G.now+1<=_;lia,m2,by rw[show(G.st.put k<|.int v).kv=bf G.st.kv k (.int v) from Hm.three_kv];have:=b6 G.st.kv k (.int v);lia,(Y.trans<|(Fr.of_same s4).trans f5.wh).trans Fr.wd}
 .let{Z,G,mo,v4,v5,rfl,I,l2,m2,e2,Y}:=w;exact q H2 Z G mo I () m2 e2<|(Fr.of_same s1).trans Y
def Dr{a b:RH}(G:(a.map (·.1)).Nodup)(I:(b.map (·.1)).Nodup)(h:∀k,ay a k=ay b k):a.Perm b:=by
 refine(Xs ((QK.mp G).imp λh e=>h<|by rw[e])<|(QK.mp I).imp λh e=>h<|by rw[e]).mpr λp=>{λz=>?_,λz=>?_}
 .have:=br G (k:=p.1) (v:=p.2) z;rw[h]at this;exact bc this
 .have:=br I (k:=p.1) (v:=p.2) z;rw[<-h]at this;exact bc this
def Oy.key(D:Oy ds)(h:k∈(tbl<|ds.take n).map (·.1)):0<=k:=by
 let{z,hz,G}:=Ap h;exact D.kb z (QX hz) k G
def Jj(X:NG)(kd:Int)(av e:V)(ds:List DR):List (Int×V):=(tbl<|ds.take X.n).filter λp=>X.cov kd av e p.1
def wm{kv:RH}{f:R3}(nd:(kv.map (·.1)).Nodup):ay (kv.filter λp=>f p.1) k=if f k=true then ay kv k else none:=by
 let z:((kv.filter λp=>f p.1).map (·.1)).Nodup:=nd.sublist (ZN.map _);by_cases c:f k=true
 .rw[VA c];cases h:ay kv k with
  |some v=>exact br z<|Qt.mpr {bc h,c}
  |none=>
   cases h2:ay (kv.filter λp=>f p.1) k with
   |none=>rfl
   |some v=>
    have:=br nd (Qt.mp<|bc h2).1;rw[h]at this;cases this
 .rw[Vz c];cases h2:ay (kv.filter λp=>f p.1) k with
  |none=>rfl
  |some v=>exact VE (Qt.mp<|bc h2).2 c
def Inv.due{kd:Int}(I:Inv kd av e ds X)(D:Oy ds):X.cp.Perm (Jj X kd av e ds):=by
 let z:=Fv (l:=ds.take X.n);refine Dr I.nd (z.sublist<|ZN.map _) λk=>?_;unfold Jj;rw[wm z];by_cases k0:0<=k
 .exact I.cp k k0
 .let h1:ay X.cp k=none:=by
   cases c:ay X.cp k with
   |none=>rfl
   |some v=>exact VE (I.kp k<|HM.mpr<|by rw[c];rfl) k0
  let h2:ay (tbl<|ds.take X.n) k=none:=by
   cases c:ay (tbl<|ds.take X.n) k with
   |none=>rfl
   |some v=>exact VE (D.key<|HM.mpr<|by rw[c];rfl) k0
  rw[h1,h2,ite_self]
def G0{P:R3}{xs:RH}{p:Int×V}(e:xs[i]?=some p):(xs.take<|i+1).filter (λp=>P p.1)=(xs.take i).filter (λp=>P p.1)++(if P p.1=true then[p]else[]):=by
 rw[Qo,e,QB];by_cases c:P p.1=true
 .rw[VA c];simp[c]
 .rw[Vz c];simp[c]
def Dz{P:R3}{xs:RH}{y:Int}(nd:(xs.map (·.1)).Nodup)(e:xs[i]?=some (y,v)):ay ((xs.take i).filter<|λp=>P p.1) y=none:=by
 cases c:ay ((xs.take i).filter<|λp=>P p.1) y with
 |none=>rfl
 |some w=>
  exfalso;let h:=(Qt.mp<|bc c).1;let{G,I,z}:=QC h;rw[Q8]at I;rw[ZG]at z;let{hi,O}:=Q1.mp e;let w:=Z1.mp nd G i (by rw[Q0];lia) (by rwa[Q0]) ();rw[List.getElem_map,List.getElem_map,z,O]at w;exact w M
def zL{kd:Int}{a:V}:hO (.ref q) kd a e k=hN kd a e k:=by
 unfold hO;rw[Vz λz=>by cases z]
section
variable{kd:Int}
def Inv.begin:Inv kd av e ds {.ref p,av,ds.length,[],none}:=by
 refine{Q4 _,QZ,λk _=>?_,(λ_ z=>by cases z),λk _ h=>?_,(λ_ z=>by cases z)}
 .rw[Vz]
  .exact jO
  .unfold NG.cov;show ¬(hN kd av e k&&!hO (.ref p) kd av e k)=true;rw[zL];cases hN kd av e k<;>simp
 .let h:hO (.ref p) kd av e k=true:=h;rwa [zL]at h
def Inv.open{g nd:RC}(I:Inv kd av e ds X)(G:X.rv= .ref q):Inv kd av e ds {X with pg:=some (P9 g nd q X.ra)}:=
 {I.le,I.nd,I.cp,I.kp,I.su,λP h=>by
  cases h;exact{G,M,Qf _,(λ_ z=>by cases z),λ_=>⟨M,M⟩,λ_ z=>by cases z}}
def Inv.read{P:NZ}{f:RC}(I:Inv kd av e ds X)(U:X.pg=some P)(hf:P.fd=none)(Y:(ts.map (·.k)).Nodup)(Z:∀k v,(k,v)∈ts.map Tp.kv↔(k,v)∈tbl ds/\hN kd P.ta e k=true/\R k=false)(G:∀k,0<=k->R k=true->hN kd P.ta e k=true)(O:∀k,R k=hO v kd a' e k):Inv kd av e ds {X with pg:=some {P with fd:=some (f,ts),ah:=v,aa:=a'}}:=by
 let q:=I.pg P U;let{h1,h2}:=q.un hf;refine{I.le,I.nd,I.cp,I.kp,I.su,λP' h=>?_};cases h;refine{q.rn,q.ra,q.nl,q.nk,(λz=>by cases z),λy hy=>?_};cases hy;refine{X.n,ds.length,Q4 _,I.le,Q4 _,Y,λk w=>?_,λk k0 h=>G k k0<|(O k).trans h,λk x=>?_,λm hm=>?_}
 .rw[Z k w,Qw,O]
 .show(k,x)∈P.no↔_/\cO k ((ds.take X.n).drop X.n)=some x;rw[h1,XJ (by rw[Q8];lia)];exact{(λz=>by cases z),(λz=>by cases z.2)}
 .rw[show P.cl=some m from hm]at h2;cases h2
def Inv.close{P:NZ}{y:Addr×List Tp}{z:DR}(I:Inv kd av e ds X)(O:X.pg=some P)(hy:P.fd=some y)(Z:z.r= .mark m):Inv kd av e (ds++ [z]) {X with pg:=some {P with cl:=some m}}:=by
 let J:=I.more (more:=[z]);let q:=J.pg P O;refine{J.le,J.nd,J.cp,J.kp,J.su,λP' h=>?_};cases h;refine{q.rn,q.ra,q.nl,q.nk,(λh=>by rw[show P.fd=none from h]at hy;cases hy),λU hy'=>?_};let{nr,mr,l1,l2,Y,h1,h2,h3,h4,h5}:=(I.pg P O).fd U hy';let{a0,a1,_}:=q.fd U hy';refine{nr,mr,l1,l2,by rw[Q6];lia,h1,by rwa[QE Y],h3,by rwa[QE I.le],λm' G=>?_};cases G;exact{ds.length,z,by rw[QD (Q4 _),XI];rfl,Z,Y,I.le}
def Ou(av:V)(p:RC)(v a':V)(m:Int)(ds:List DR)(X:NG):Prop:=(X.rv= .ref p/\X.ra=av/\∃P,X.pg=some P/\P.ah=v/\P.aa=a'/\P.cl=some m)\/(X.pg=none/\X.rv=v/\X.ra=a'/\∃(j:Nat)(x:DR),j<X.n/\ds[j]?=some x/\x.r= .mark m)
def Ou.step{x:DR}(h:Ou ta p v a' m ds X)(hx:ds[X.n]?=some x):Ou ta p v a' m ds (a7 kd av e X x):=by
 let sn:=y3 (kd:=kd) (av:=av) (e:=e) (X:=X) (x:=x);rcases h with⟨h1,h2,P,O,h4,Z,h6⟩|⟨h1,h2,O,j,y,h4,Z,h6⟩
 .rcases oe (X:=X) (kd:=kd) (av:=av) (e:=e) (x:=x)with⟨z,U,G,g4,g5⟩|⟨I,m',z,U,G,g4,g5,g6⟩
  .refine .inl {z.trans h1,U.trans h2,?_};cases c:(a7 kd av e X x).pg with
   |some I=>
    let{P2,Y,e2}:=G I c;rw[O]at Y;cases Y;exact{I,M,by rwa[e2],by rwa[e2],by rwa[e2]}
   |none=>
    rw[c,O]at g5;cases g5
  .rw[O]at z;cases z;rw[h6]at G;cases G;exact .inr {g6,g4.trans h4,g5.trans Z,X.n,x,(),hx,U}
 .rcases oe (X:=X) (kd:=kd) (av:=av) (e:=e) (x:=x)with⟨z,U,G,g4⟩|⟨I,m',z,_⟩
  .refine .inr {?_,z.trans h2,U.trans O,j,y,(),Z,h6};cases c:(a7 kd av e X x).pg with
   |none=>rfl
   |some I=>
    let{P2,Y,_}:=G I c;rw[h1]at Y;cases Y
  .rw[h1]at z;cases z
end
def Ou.fold{kd:Int}{ta av e:V}{p:RC}{v a':V}{m:Int}{ds:List DR}:∀{l:List DR}{X:NG},Ou ta p v a' m ds X->(∀(i:Nat)(x:DR),l[i]?=some x->ds[X.n+i]?=some x)->Ou ta p v a' m ds (l.foldl (a7 kd av e) X)
 | [],_,h,_=>h
 |x::r,X,h,g=>Ou.fold (l:=r) (X:=a7 kd av e X x) (h.step<|g 0 x M) λi y hy=>by
  rw[y3,Nat.add_assoc,Nat.add_comm 1 i];exact g (i+1) y hy
def NI.nd{x:NF}(A:NI K t H a F x):(x.st.kv.map (·.1)).Nodup:=by
 let{s,l,wr,p,h,Fs,Fl,Wn,O,g}:=A;let{_,_,_,_,nd,_}:=Wn.sl;exact nd
def NI.rise{x:NF}(A:NI K t H a F x):db x.ks:=by
 let{_,_,_,_,_,_,L}:=A.lvs;exact L.rise
def NI.notup{x:NF}(A:NI K t H a F x)(e:H b=some (.tup xs)):¬F b:=λz=>by
 let{o,G,n}:=A.dom z;rw[e]at G;exact n _ (VB G).symm
def CJ{kv:RH}{z:R3}(nd:(kv.map (·.1)).Nodup)(O:(ts.map (·.k)).Nodup)(G:∀k v,(k,v)∈ts.map Tp.kv↔(k,v)∈kv/\R k=true/\z k=false)(le:∀p∈kv,z p.1=true->R p.1=true):(kv.filter λp=>R p.1).length=(kv.filter λp=>z p.1).length+ts.length:=by
 let I:kv.Nodup:=(QK.mp nd).imp λh e=>h (VS Prod.fst e);let U:(ts.map Tp.kv).Nodup:=QK.mpr ((QK.mp O).imp λh e=>h<|VS Prod.fst e);let Y:(kv.filter λp=>R p.1).Perm ((kv.filter λp=>z p.1)++ts.map Tp.kv):=by
  refine(Xs (List.Pairwise.filter _ I)<|X7.mpr {List.Pairwise.filter _ I,U,λx hx y hy e=>?_}).mpr λx=>?_
  .let h1:=(Qt.mp hx).2;let h2:=((G y.1 y.2).mp hy).2.2;rw[e,h2]at h1;cases h1
  .rw[Q5,Qt,Qt,G x.1 x.2];constructor
   .rintro ⟨h1,h2⟩;cases c:z x.1 with
    |true=>exact .inl ⟨h1,M⟩
    |false=>exact .inr ⟨h1,h2,M⟩
   .rintro (⟨h1,h2⟩|⟨h1,h2,_⟩)
    .exact{h1,le x h1 h2}
    .exact⟨h1,h2⟩
 have:=Y.length_eq;rwa [Q6,Q0]at this
def Oe(kd:Int)(st:Hm)(a:V):Int:=if kd=0 then st.low-Oh a/(65536/st.low)else 0
def PN(st:Hm)(R:R3):Nat:=(st.kv.filter λp=>R p.1).length
def Mt{kd:Int}{a:V}(z:N9 st)(ok:O6 kd a e):0<=Oe kd st a/\Oe kd st a<=256:=by
 unfold Oe;split
 .let l:=gF z;let p:=bO l;let w:∀x∈([4,8,16,32,64,128,256]:RF),65536/(65536/x)=x/\0<65536/x:=by decide
  let{I,G}:=w _ l;subst kd;let{i,j,rfl,rfl,i0,O,U}:=ok.s;let h1:=XR i0 (XG G);let h2:=XD G (show i<=65536 by lia);rw[I]at h2;show 0<=st.low-i/(65536/st.low)/\st.low-i/(65536/st.low)<=256;lia
 .lia
def pot{kd n:Int}(U:BJ t H' F' st kd n av e v ts a' R)(z:N9 st)(nd:(st.kv.map (·.1)).Nodup)(k0:∀k∈st.kv.map (·.1),0<=k)(Y:5<=n)(G:v≠ .non):20+4*(PN st R:Int)+Oe kd st a'<=4*(PN st (hN kd av e):Int)+Oe kd st av:=by
 let sp:=CJ nd U.nd U.me λp I=>U.less p.1 (k0 _<|Zx I);let O:0<65536/st.low:=by
  let{_,_,R}:=vn (gF z);exact R.wpos'
 let ps:Oe kd st a'<=Oe kd st av:=by
  rcases U.rest with⟨y,_⟩|⟨q,_,_,_,_,_,m⟩
  .exact VE y G
  .unfold Oe;split
   .have:=XD O (m<|by assumption);lia
   .exact Zn _
 unfold PN;rcases U.far with y|y|⟨y,w⟩
 .exact VE y G
 .lia
 .unfold Oe;rw[VA y,VA y];lia
def Ot(F:RE)(X:NG)(c dd d:RC):Addr->Prop:=λb=>F b\/X.mut c dd b\/b=d
abbrev _root_.R4:=Addr×List V
structure Nq(K:Wp)(t:N6)(H:Hp)(sc a d c p dd:RC)(n:R4)(F:RE)(x:NF)(ds:List DR)(X:NG)(kd:Int)(av e:V)(ns:RF):Prop where
 J:Jd K t H a d F x ds
 C:NK t H c a p dd kd av e X
 nF:∀b,X.adr c p dd b->¬F b
 nm:¬X.mut c dd d
 hn:H n.1=some (.tup n.2)
 I:Inv kd av e ds X
 cS:P1 K (Ot F X c dd d) H sc (ns.map V.int)
section
variable{sc d:RC}{n:R4}{x:NF}{kd:Int}
def NK.nadr(C:NK t H c a p dd kd av e X)(hb:H b=some (.dK kvs))(I:¬X.mut c dd b):¬X.adr c p dd b:=λh=>by
 let tk:∀{q:RC}{a':V},NM t H q kd a' e->q≠b:=λh=>h.nd hb λ_ _ _ z=>by cases z
 rcases h with h|h|h|⟨P,G,h|h|⟨y,hy,h⟩⟩
 .exact I h
 .exact tk C.tk.1 h.symm
 .rcases C.rt with g|⟨q,h1,h2,_⟩
  .rw[g]at h;cases h
  .rw[h1]at h;cases h;exact tk h2 M
 .exact tk (C.pg P G).1.tk.1 h.symm
 .rcases(C.pg P G).1.ah with g|⟨q,h1,h2,_⟩
  .rw[g]at h;cases h
  .rw[h1]at h;cases h;exact tk h2 M
 .have:=((C.pg P G).1.fd y hy).1;rw[<-h,hb]at this;cases this
def Nq.go(S:Nq K t H sc a d c p dd n F x ds X kd av e ns){more:List DR}(J:Jd K t H' a d F' x' (ds++more))(f:Fr (Wh F d) (Wh F' d) H H'):Nq K t H' sc a d c p dd n F' x' (ds++more) X kd av e ns/\Fr (Ot F X c dd d) (Ot F' X c dd d) H H':=by
 let fo:Fr (Ot F X c dd d) (Ot F' X c dd d) H H':=λb o O G=>by
  let{h1,h2}:=f b o (λz=>O<|z.elim .inl λz=> .inr<|.inr z) G;exact{h1,λz=>z.elim (λz=>h2<|.inl z) λz=>z.elim (λz=>O<|.inr<|.inl z) λz=>h2<|.inr z}
 let nd:=S.C.nadr S.J.di S.nm;let U:∀b,X.adr c p dd b->∀o,H b=some o->H' b=some o/\¬F' b:=λb hb o G=>by
  let{h1,h2}:=f b o (λz=>z.elim (S.nF b hb) λz=>nd<|z▸hb) G;exact{h1,λz=>h2<|.inl z}
 let tu:∀b xs,H b=some (.tup xs)->H' b=some (.tup xs):=λb xs G=>(f b _ (λz=>z.elim (S.J.A.notup G) λz=>by rw[z,S.J.di]at G;cases G) G).1;refine{{J,S.C.go λb o G h=>?_,λb hb=>?_,S.nm,tu _ _ S.hn,S.I.more,S.cS.fr fo},fo}
 .rcases h with h|⟨xs,h⟩
  .exact(U b h o G).1
  .rw[h]at G⊢;exact tu b xs G
 .let{o,G,_}:=S.C.dom hb;exact(U b hb o G).2
def Nq.fo(S:Nq K t H sc a d c p dd n F x ds X kd av e ns)(G:X'=l.foldl (a7 kd av e) X)(C:NK t H' c a p dd kd av e X')(I:Inv kd av e ds X')(k:∀b o,¬X.mut c dd b->H b=some o->H' b=some o):Nq K t H' sc a d c p dd n F x ds X' kd av e ns/\Fr (Ot F X c dd d) (Ot F X' c dd d) H H':=by
 let O:∀b,X'.mut c dd b->X.mut c dd b:=λb h=>by rw[G]at h;exact wk h
 let fo:Fr (Ot F X c dd d) (Ot F X' c dd d) H H':=λb o U Y=>{k b o (λz=>U<|.inr<|.inl z) Y,λz=>U<|z.imp id λz=>z.imp (O b) id};let A:=S.J.A.mut S.C S.nF k;exact{{{A,k _ _ S.nm S.J.di,S.J.nd,S.J.kb,S.J.iv,S.J.le,S.J.dy,S.J.D,S.J.tb,S.J.mx,S.J.fl,S.J.ho},C,λb h=>S.nF b (by rw[G]at h;exact Bd h),λz=>S.nm<|O d z,k _ _ (S.C.nmut S.hn (λ_ _ _ z=>by cases z) λ_ z=>by cases z) S.hn,I,S.cS.fr fo},fo}
def Nq.turn(S:Nq K t H sc a d c p dd n F x ds X kd av e ns){g:RC}{G:List DR}(U:X.mut c dd g)(J:H' d=some (.dK<|az x.st.kv)->¬F' d->Jd K t H' a d F' x' G)(C:NK t H' c a p dd kd av e X')(nF:∀b,X'.adr c p dd b->¬F' b)(I:Inv kd av e G X')(Y:∀b o,H b=some o->X'.mut c dd b->X.mut c dd b)(k:∀b o,b≠g->¬F b->H b=some o->H' b=some o/\¬F' b):Nq K t H' sc a d c p dd n F' x' G X' kd av e ns/\Fr (Ot F X c dd d) (Ot F' X' c dd d) H H':=by
 let fo:Fr (Ot F X c dd d) (Ot F' X' c dd d) H H':=λb o O Z=>by
  let{h1,h2}:=k b o (λz=>O<|.inr<|.inl<|z▸U) (λz=>O<|.inl z) Z;exact{h1,λz=>z.elim h2 λz=>z.elim (λz=>O<|.inr<|.inl<|Y b o Z z) λz=>O<|.inr (.inr z)}
 let{d1,d2}:=k d _ (λz=>S.nm<|z▸U) S.J.nd S.J.di;exact{{J d1 d2,C,nF,λz=>S.nm<|Y d _ S.J.di z,(k n.1 _ (λz=>S.C.nmut S.hn (λ_ _ _ z=>by cases z) (λ_ z=>by cases z)<|z▸U) (S.J.A.notup S.hn) S.hn).1,I,S.cS.fr fo},fo}
def JZ{P G:NZ}(O:X.pg=some P)(I:X'.pg=some G)(U:G.g=P.g)(e2:G.nd=P.nd)(z:X'.mut c dd b):X.mut c dd b:=by
 rcases z with z|z|⟨Y,z,h⟩
 .exact .inl z
 .exact .inr<|.inl z
 .rw[I]at z;cases z;rw[U,e2]at h;exact .inr<|.inr ⟨P,O,h⟩
def U_hO(U:BJ t H1 F st kd m ta e v ts a' R)(z:Int):R z=hO v kd a' e z:=by
 rcases U.rest with⟨h1,h2⟩|⟨q,h1,_,_,_,h2,_⟩
 .rw[h1,h2];unfold hO;rw[VA M]
 .rw[h1,h2,zL]
end
def LC{m:Nat}:∀(i:Nat)(x:DR),((ds.drop n).take m)[i]?=some x->ds[n+i]?=some x:=λi d h=>by
 rw[Xq]at h;split at h
 .rwa [ZA]at h
 .cases h
section
variable{sc d:RC}{n:R4}{x:NF}{kd:Int}
def Nq.off(S:Nq K t H sc a d c p dd n F x ds X kd av e ns)(hb:H b=some o)(I:∀C d fs,o≠ .ins C d fs)(G:∀k,o≠ .dK k)(O:¬F b):¬Ot F X c dd d b:=λz=>by
 rcases z with z|z|z
 .exact O z
 .exact S.C.nmut hb I G z
 .rw[z,S.J.di]at hb;exact G _ (VB hb).symm
def Jd.kl(J:Jd K t H a d F x ds):x.ks.length<=400:=by
 let G:x.ks.Nodup:=J.A.rise.imp λh=>Int.ne_of_lt h;have:=gl G (S:=x.st.kv.map (·.1)) λz hz=>HM.mpr ((J.A.ok.ks z).mp hz);rw[Q0]at this;exact Qu this J.le
def Jd.k0(J:Jd K t H a d F x ds):∀k∈x.ks,0<=k/\k<10^40:=λk hk=>J.kb k (HM.mpr<|(J.A.ok.ks k).mp hk)
end
section
variable{sc d:RC}{n:R4}{x:NF}{kd:Int}
def Nq.opn(S:Nq K t H sc a d c p dd n F x ds X kd av e ns){g nd:RC}(U:X.rv= .ref q)(A:NI K t H' a F' {x with ma:=x.ma+1,di:=x.di++ [(r,[.str Ps,.int (x.ma+1)])]})(C:NK t H' c a p dd kd av e {X with pg:=some (P9 g nd q X.ra)})(Y:∀b,({X with pg:=some (P9 g nd q X.ra)}:NG).adr c p dd b->¬F' b)(Z:H g=none)(nn:H nd=none)(k:∀b o,b≠c->¬F b->H b=some o->H' b=some o/\¬F' b):
  ∃(G:NF)(mo:List DR)(X2:NG)(P:NZ),Nq K t H' sc a d c p dd n F' G (ds++mo) X2 kd av e ns/\Fr (Ot F X c dd d) (Ot F' X2 c dd d) H H'/\G.now=x.now/\G.ma=x.ma+1/\G.st=x.st/\X2.pg=some P/\P.fd=none/\P.cl=none/\P.ta=X.ra:=by
 let{S2,f2}:=S.turn (.inl M) (λh1 h2=>S.J.mark A h1 h2 M M M M M) C Y (S.I.open U).more (λb o O z=>by
  rcases z with z|z|⟨P,z,h⟩
  .exact .inl z
  .exact .inr<|.inl z
  .cases z;rcases h with h|h
   .rw[show b=g from h,Z]at O;cases O
   .rw[show b=nd from h,nn]at O;cases O) k
 exact{_,_,_,_,S2,f2,M,M,M,M,M,M,M}
def Nq.rd(S:Nq K t H sc a d c p dd n F x ds X kd av e ns){P:NZ}{f:RC}(G:X.pg=some P)(hf:P.fd=none)(hc:P.cl=none)(A:NI K t H' a F' x)(C:NK t H' c a p dd kd av e {X with pg:=some {P with fd:=some (f,ts),ah:=v,aa:=a'}})(O:∀b,({X with pg:=some {P with fd:=some (f,ts),ah:=v,aa:=a'}}:NG).adr c p dd b->¬F' b)(k:∀b o,b≠P.g->¬F b->H b=some o->H' b=some o/\¬F' b)(U:∃H1,BJ t H1 F' x.st kd m P.ta e v ts a' R):
  ∃(X2:NG)(z:NZ)(y:Addr×List Tp),Nq K t H' sc a d c p dd n F' x ds X2 kd av e ns/\Fr (Ot F X c dd d) (Ot F' X2 c dd d) H H'/\X2.pg=some z/\z.fd=some y/\z.cl=none/\z.ah=v/\z.aa=a':=by
 let{H1,U}:=U;let{Y,Z}:=S.turn (.inr<|.inr {_,G,.inl M}) (λh1 h2=>⟨A,h1,h2,S.J.kb,S.J.iv,S.J.le,S.J.dy,S.J.D,S.J.tb,S.J.mx,S.J.fl,S.J.ho⟩) C O (S.I.read G hf U.nd (by rw[S.J.tb];exact U.me) U.less<|U_hO U) (λb o _=>JZ G M M M) k;exact{_,_,_,Y,Z,M,M,hc,M,M}
def Nq.cls(S:Nq K t H sc a d c p dd n F x ds X kd av e ns){P:NZ}{y:Addr×List Tp}(z:X.pg=some P)(hy:P.fd=some y)(A:NI K t H' a F' {x with ma:=x.ma+1,di:=x.di++ [(r,[.str Ps,.int (x.ma+1)])]})(C:NK t H' c a p dd kd av e {X with pg:=some {P with cl:=some (x.ma+1)}})(U:∀b,({X with pg:=some {P with cl:=some (x.ma+1)}}:NG).adr c p dd b->¬F' b)(k:∀b o,b≠P.g->¬F b->H b=some o->H' b=some o/\¬F' b):
  ∃(G:NF)(mo:List DR)(X2:NG),Nq K t H' sc a d c p dd n F' G (ds++mo) X2 kd av e ns/\Fr (Ot F X c dd d) (Ot F' X2 c dd d) H H'/\G.now=x.now/\G.ma=x.ma+1/\G.st=x.st/\Ou P.ta P.tk P.ah P.aa (x.ma+1) (ds++mo) X2:=by
 let{Y,Z}:=S.turn (.inr<|.inr {_,z,.inl M}) (λh1 h2=>S.J.mark A h1 h2 M M M M M) C U (S.I.close z hy M) (λb o _=>JZ z M M M) k;let O:=S.I.pg P z;exact{_,_,_,Y,Z,M,M,M,.inl {O.rn,O.ra.symm,_,M,M,M,M}}
def Ou.fin(Wr:Ou ta q v a' m ds X)(I:Inv kd av e ds X)(Z:ds.length<=X.n):X.pg=none:=by
 rcases Wr with⟨_,_,P,h1,_,_,h2⟩|⟨h,_⟩
 .exfalso;let G:=I.pg P h1;cases O:P.fd with
  |none=>rw[(G.un O).2]at h2;cases h2
  |some y=>
   let{nr,mr,_,_,_,_,_,_,_,cl}:=G.fd y O;let{j,z,U,_,_,Y}:=cl m h2;have:=(Q1.mp U).1;lia
 .exact h
end
structure Fst(t:N6)(H:Hp)(c a p dd:RC)(kd:Int)(av e:V)(X:NG)(E:RE):Prop where
 C:NK t H c a p dd kd av e X
 n:∀b,X.adr c p dd b->¬E b
def Fst.fr{kd:Int}{E E':RE}(h:Fst t H c a p dd kd av e X E)(f:Fr E E' H H')(tu:∀b xs,H b=some (.tup xs)->¬E b):Fst t H' c a p dd kd av e X E':=
 {h.C.go λb o G hb=>(f b o (hb.elim (h.n b) λ⟨xs,z⟩=>tu b xs<|z▸G) G).1,λb hb=>by
  let{o,G,_}:=h.C.dom hb;exact(f b o (h.n b hb) G).2}
def Nq.tu{sc d:RC}{n:R4}{x:NF}{kd:Int}(S:Nq K t H sc a d c p dd n F x ds X kd av e ns):∀b xs,H b=some (.tup xs)->¬Ot F X c dd d b:=λb xs hb=>S.off hb (λ_ _ _ z=>by cases z) (λ_ z=>by cases z) (S.J.A.notup hb)
def sL{kd:Int}{av e:V}:∀{l:List DR}{X:NG},X.pg=none->(l.foldl (a7 kd av e) X).pg=none/\(l.foldl (a7 kd av e) X).rv=X.rv/\(l.foldl (a7 kd av e) X).ra=X.ra
 | [],_,h=>⟨h,M,M⟩
 |x::r,X,h=>by
  rcases oe (X:=X) (kd:=kd) (av:=av) (e:=e) (x:=x)with⟨z,I,O,_⟩|⟨P,m,z,_⟩
  .let h':(a7 kd av e X x).pg=none:=by
    cases c:(a7 kd av e X x).pg with
    |none=>rfl
    |some P=>
     let{Z,G,_}:=O P c;rw[h]at G;cases G
   let{U,k2,Y}:=sL (kd:=kd) (av:=av) (e:=e) (l:=r) h';exact{U,k2.trans z,Y.trans I}
  .rw[h]at z;cases z
def NI.sz{x:NF}(A:NI K t H a F x):N9 x.st:=by
 let{s,l,wr,p,h,Fs,Fl,Wn,O,g}:=A;let{_,_,_,_,_,z}:=Wn.sl;exact z
def P5(kd:Int)(st:Hm)(e:V)(X:NG):Int:=4*(PN st (hO X.rv kd X.ra e):Int)+Oe kd st X.ra
def y9(K:Wp)(t:N6):Sp:=λvs H Q _=>∃(sc a d c p dd:RC)(n:R4)(F:RE)(x:NF)(ds:List DR)(X:NG)(kd m:Int)(av e cv:V)(ns:RF),vs=[.ref c,.ref a,.ref d,cv,.int m]/\(cv= .non\/∃z:Int,cv= .int z)/\Nq K t H sc a d c p dd n F x ds X kd av e ns/\X.pg=none/\1<=m/\m<=12/\x.now+x.ma<=1500/\x.st.kv.length<=300/\
 ∀(H':Hp)(F':RE)(x':NF)(mo:List DR)(X':NG),Nq K t H' sc a d c p dd n F' x' (ds++mo) X' kd av e ns->Fr (Ot F X c dd d) (Ot F' X' c dd d) H H'->X'.pg=none->X'.n=(ds++mo).length->x'.now<=x.now+4->x'.ma<=x.ma+2->x'.st.kv.length<=300->(X.rv= .non->X'.rv= .non)->(cv= .non->x'.now=x.now/\x'.st=x.st/\(5<=m->X'.rv≠ .non->20+P5 kd x.st e X'<=P5 kd x.st e X))->Q .non H'
def zC:Bs P w K mg base N8 11 t.tM t.nB [nJ,hW,jX,ff,u5] (y9 K t):=by
 refine T.tP.okl zi λs H vs Q E hr h _=>?_;intro X;let{sc,a,d,c,p,dd,n,F,x,ds,X',kd,m,av,e,cv,ns,rfl,bb,S,hp,m0,m1,l,l0,q}:=h;refine bV (λx=>aU (aA dW (bM Ac T.aJ T.m7 (lM T) hr.mo T.nP .nil au) bg<|aC _) x aL) ?_;refine aj (aN<|bM Ac T.aJ T.BN (mW T) hr.mo T.BR .nil au)
   (aj (aN<|aO Ac T.aJ T.BM (mV T) hr.mo T.BQ .nil au<|ac Nl ag)
   (bV (λx=>aU (aA dW NJ bg<|aC _) x aL) ?_))
 refine aw (aN<|aI (qR T) hr.mo {_} T.AZ T.tQ.kp T.Bx .nil au (ac E5<|ac HN<|ac NJ ag)) ?_
 intros
 refine aw (aN<|bM Ac T.aJ T.AW (lX T) hr.mo T.By .nil au) ?_
 intros
 refine aw (aN<|aO Ac T.aJ T.sP (iT T) hr.mo T.tm .nil au<|ac af ag) ?_
 intros
 let bd:∀(H5:Hp)(Y:RE)(G:NF)(mo:List DR)(Z X6:NG),Nq K t H5 sc a d c p dd n Y G (ds++mo) Z kd av e ns->G.now+G.ma<=1506->X6=(((ds++mo).drop Z.n).take (2000:Int).toNat).foldl (a7 kd av e) Z->X6.n=(ds++mo).length:=λH5 Y G mo Z X6 O b5 e6=>by
  let dl:=O.J.len;have:=O.I.le;rw[e6,zP,Q8,QF,show(2000:Int).toNat=2000 from rfl];lia
 refine dU (λW H5=>W=[some (.ref c),some (.ref a),some (.ref d),some cv,some (.int m)]/\∃(Y:RE)(G:NF)(mo:List DR)(Z:NG),Nq K t H5 sc a d c p dd n Y G (ds++mo) Z kd av e ns/\Fr (Ot F X' c dd d) (Ot Y Z c dd d) H H5/\G.now<=x.now+4/\G.ma<=x.ma+2/\G.st.kv.length<=300/\(X'.rv= .non->Z=X')/\(cv= .non->G.now=x.now/\G.st=x.st)/\((Z.rv= .non/\Z.pg=none)\/∃(ta v a':V)(q1:RC)(mk:Int),Ou ta q1 v a' mk (ds++mo) Z/\(cv= .non->5<=m->v≠ .non->20+(4*(PN x.st (hO v kd a' e):Int)+Oe kd x.st a')<=P5 kd x.st e X'))) (λnx go=>?_)<|λW H5 w=>?_
 .let{dc,hc}:=S.C.ob;refine{_,M,c,dc,_,M,hc,{_},c,a,p,dd,kd,av,e,X',M,S.C,M,_,M,?_};rcases S.C.rt with hv|⟨q1,hv,_,_⟩
  .rw[hv];exact m9 M<|go _ _ {M,F,x,[],X',by rw[Z6];exact S,Fr.refl,(),(),l0,λ_=>M,λ_=>⟨M,M⟩,.inl ⟨hv,hp⟩}
  rw[hv];refine vZ (λz=>by cases z) ?_;refine{_,M,c,dc,_,M,hc,{_},c,a,p,dd,q1,kd,av,e,X',F,x,M,S.C,hp,hv,S.J.A,S.nF,(),λH3 F3 r g nd A3 C3 a5 ng nn k3=>?_};let{x3,a6,X3,P3,S3,f3,b1,b2,b3,p3,a0,aa,ab}:=S.opn hv A3 C3 a5 ng nn k3;let sz:N9 x3.st:=S3.J.A.sz;clear A3 C3 a5 ng nn k3 hc;let{be,ah}:=S3.C.ob;let kl:=S3.J.kl;let le:=S3.J.le
  cbv
  refine{_,M,c,be,_,M,ah,{_},_,M,c,a,p,dd,m,kd,av,e,X3,P3,F3,x3,M,S3.C,p3,a0,S3.J.A,S3.nF,(),(),(),(),λk hk=>(S3.J.k0 k hk).1,S3.J.iv,λH4 F4 f l v ts a' R A4 C4 an k4 E4 _ _ _ _=>?_};let pt:5<=m->v≠ .non->20+(4*(PN x.st (hO v kd a' e):Int)+Oe kd x.st a')<=P5 kd x.st e X':=λh5 nv=>by
   let{H1,U}:=E4;let h:=pot U sz S3.J.A.nd (λk hk=>(S3.J.kb k hk).1) h5 nv;rw[b3,ab,show R=hO v kd a' e from funext λz=>U_hO U z]at h;unfold P5;rw[hv,show hO (.ref q1) kd X'.ra e=hN kd X'.ra e from funext λz=>zL];lia
  let{X4,P4,y4,S4,f4,p4,ax,bl,bo,bt}:=S3.rd p3 a0 aa A4 C4 an k4 E4;let f4:=f3.trans f4;clear S3 A4 C4 an k4 E4 ah f3 p3 a0 aa ab
  cbv
  refine dU (λW H5=>W=[some (.ref c),some (.ref a),some (.ref d),some cv,some (.int m)]/\∃(Y:RE)(G:NF)(mo:List DR),Nq K t H5 sc a d c p dd n Y G (ds++mo) X4 kd av e ns/\Fr (Ot F X' c dd d) (Ot Y X4 c dd d) H H5/\G.now<=x.now+4/\G.ma<=x.ma+1/\G.st.kv.length<=300/\(cv= .non->G.now=x.now/\G.st=x.st)) (λnx go=>?_)<|λW H5 w=>?_
  .rcases bb with rfl|⟨z,rfl⟩
   .exact{_,M,M,_,M,m9 M<|go _ _ {M,F4,x3,a6,S4,f4,(),(),by rwa[b3],λ_=>⟨b1,b3⟩}}
   .refine{_,M,M,_,M,vZ (λz=>by cases z) ?_};refine{_,M,_,M,_,M,a,d,z,F4,x3,_,300,M,S4.J,(),by rwa[b3],(_),(_),λH5 Y G a1 J5 l5 m5 e5 f5=>?_};let{O,fo}:=S4.go J5 f5;exact go _ _ {M,Y,G,a6++a1,by rwa[<-Qi],f4.trans fo,(),(),e5,λz=>by cases z}
  clear S4 f4 b1 b2 b3;let{rfl,Y,G,a1,O,f5,d1,d2,d3,d4}:=w;let{a2,a3}:=O.C.ob
  cbv
  refine{_,M,c,a2,_,M,a3,{_},c,a,p,dd,kd,av,e,X4,P4,y4,Y,G,M,O.C,p4,ax,bl,O.J.A,O.nF,(),λH6 F6 r6 A6 C6 bv k6=>?_};let{x6,bw,X6,S6,f6,g1,g2,g3,T6}:=O.cls p4 ax A6 C6 bv k6;rw[bo,bt]at T6;exact go _ _ {M,F6,x6,a1++bw,X6,by rwa[<-Qi],f5.trans f6,(),(),by rwa[g3],(λz=>by rw[hv]at z;cases z),λz=>{g1.trans (d4 z).1,g3.trans (d4 z).2},.inr {_,v,a',_,_,by rwa[<-Qi],λ_=>pt}}
 let{rfl,Y,G,mo,Z,O,f5,d1,d2,d3,d5,d6,d7}:=w;clear S;let{a2,a3}:=O.C.ob;let dl:=O.J.len
 cbv
 refine{_,M,c,a2,_,M,a3,{_},c,a,p,dd,kd,2000,av,e,Z,Y,G,_,M,O.C,O.J.A,O.J.dy,O.I,O.J.D,(),(_),λH6 X6 e6 C6 I6 k6=>?_};let{S6,f6}:=O.fo e6 C6 I6 k6;let n6:=bd H5 Y G mo Z X6 O () e6;rcases d7 with⟨v5,p5⟩|⟨ta,v,a',q1,mk,T5,pt⟩
 .let{k1,k2,k3}:=sL (kd:=kd) (av:=av) (e:=e) (l:=((ds++mo).drop Z.n).take (2000:Int).toNat) p5;rw[<-e6]at k1 k2 k3;exact q H6 Y G mo X6 S6 (f5.trans f6) k1 n6 d1 d2 d3 (λ_=>k2.trans v5) λz=>{(d6 z).1,(d6 z).2,λ_ h=>VE (k2.trans v5) h}
 .let T6:=T5.fold (kd:=kd) (av:=av) (e:=e) (l:=((ds++mo).drop Z.n).take (2000:Int).toNat) LC;rw[<-e6]at T6;let b4:=T6.fin I6 ();obtain⟨a4,bx⟩:X6.rv=v/\X6.ra=a':=by
   rcases T6 with⟨_,_,P,h1,_⟩|⟨_,h1,h2,_⟩
   .rw[b4]at h1;cases h1
   .exact⟨h1,h2⟩
  refine q H6 Y G mo X6 S6 (f5.trans f6) b4 n6 d1 d2 d3 (λz=>?_) λz=>{(d6 z).1,(d6 z).2,λh5 h=>?_}
  .let e5:=d5 z;rcases T5 with⟨h1,_⟩|⟨_,h1,_⟩
   .rw[e5,z]at h1;cases h1
   .rwa[a4,<-h1,e5]
  .rw[a4]at h;let h2:=pt z h5 h;unfold P5 at h2⊢;rwa[a4,bx]
structure Cp where
 c:Addr
 p:Addr
 dd:Addr
 av:V
 e:V
 X:NG
def Cp.mut(y:Cp):Addr->Prop:=y.X.mut y.c y.dd
structure C83(t:N6)(H:Hp)(a d:RC)(F:RE)(ds:List DR)(kd:Int)(y:Cp):Prop where
 C:NK t H y.c a y.p y.dd kd y.av y.e y.X
 nF:∀b,y.X.adr y.c y.p y.dd b->¬F b
 nm:¬y.mut d
 I:Inv kd y.av y.e ds y.X
section
variable{sc d:RC}{n:R4}{x:NF}{kd:Int}
def NK.nadI(z:NK t H c a p dd kd av e X)(hb:H b=some o)(hl:∀xs,o≠ .lst xs)(tk:∀{q:RC}{k:Int}{a' e:V},NM t H q k a' e->q≠b)(I:¬X.mut c dd b):¬X.adr c p dd b:=λh=>by
 rcases h with h|h|h|⟨P,G,h|h|⟨y,hy,h⟩⟩
 .exact I h
 .exact tk z.tk.1 h.symm
 .rcases z.rt with g|⟨q,h1,h2,_⟩
  .rw[g]at h;cases h
  .rw[h1]at h;cases h;exact tk h2 M
 .exact tk (z.pg P G).1.tk.1 h.symm
 .rcases(z.pg P G).1.ah with g|⟨q,h1,h2,_⟩
  .rw[g]at h;cases h
  .rw[h1]at h;cases h;exact tk h2 M
 .have:=((z.pg P G).1.fd y hy).1;rw[<-h,hb]at this;exact hl _<|VB this
def NK.apart{U p' G:RC}{Y:Int}{Z e':V}(C:NK t H c a p dd kd av e X)(I:NK t H U a p' G Y Z e' X')(h:∀b,X.mut c dd b->¬X'.mut U G b):∀b,X.mut c dd b->¬X'.adr U p' G b:=λb hb=>by
 let O:=h b hb;rcases hb with rfl|rfl|⟨P,hP,rfl|rfl⟩
 .let{dx,ho}:=C.ob;exact I.nadI ho (λ_ z=>by cases z) (λh=>h.ne ho M) O
 .exact I.nadr C.cp O
 .let{dg,hg}:=(C.pg P hP).1.ob;exact I.nadI hg (λ_ z=>by cases z) (λh=>h.ne hg M) O
 .exact I.nadr (C.pg P hP).1.no O
end
structure O0(K:Wp)(t:N6)(H:Hp)(sc lc a d:RC)(n:R4)(F:RE)(x:NF)(ds:List DR)(L:List Cp)(kd:Int)(ns:RF):Prop where
 J:Jd K t H a d F x ds
 hn:H n.1=some (.tup n.2)
 cS:P1 K (Wh F d) H sc (ns.map V.int)
 hl:H lc=some (.lst<|L.map λy=>V.ref y.c)/\¬F lc
 cs:∀(i:Nat)(y:Cp),L[i]?=some y->C83 t H a d F ds kd y/\y.X.pg=none
 ap:∀(i j:Nat)(y z:Cp),i≠j->L[i]?=some y->L[j]?=some z->∀b,y.mut b->¬z.mut b
def Og(F:RE)(d:RC)(L:List Cp)(b:RC):Prop:=¬Wh F d b/\∀y∈L,¬y.mut b
section
variable{sc lc d:RC}{n:R4}{x:NF}{kd:Int}{y:Cp}
def O0.off(Wo:O0 K t H sc lc a d n F x ds L kd ns)(hb:H b=some o)(I:∀C d fs,o≠ .ins C d fs)(G:∀k,o≠ .dK k)(O:¬F b):Og F d L b:=
 {λz=>z.elim O λz=>by rw[z,Wo.J.di]at hb;exact G _ (VB hb).symm,λy hy z=>by
  let{i,hi}:=ZH hy;exact(Wo.cs i y hi).1.C.nmut hb I G z}
def O0.new(Wo:O0 K t H sc lc a d n F x ds L kd ns)(hb:H b=none):Og F d L b:=
 {(λz=>z.elim (Wo.J.A.out hb) λz=>by rw[z,Wo.J.di]at hb;cases hb),λy hy z=>by
   let{i,hi}:=ZH hy;let{o,G,_}:=(Wo.cs i y hi).1.C.dom (.inl z);rw[hb]at G;cases G}
def O0.at(Wo:O0 K t H sc lc a d n F x ds L kd ns)(O:L[i]?=some y):Nq K t H sc a d y.c y.p y.dd n F x ds y.X kd y.av y.e ns:=by
 let{{C,U,Y,I},_}:=Wo.cs i y O;refine{Wo.J,C,U,Y,Wo.hn,I,?_};rcases Wo.cS with⟨rd,G⟩|h
 .refine .inl {rd,λz=>?_};rcases z with z|z|z
  .exact G<|.inl z
  .rcases rd with rd|⟨ob,rd⟩
   .exact C.nmut rd (λ_ _ _ z=>by cases z) (λ_ z=>by cases z) z
   .exact C.nmut rd (λ_ _ _ z=>by cases z) (λ_ z=>by cases z) z
  .exact G<|.inr z
 .exact .inr h
def O0.same(Wo:O0 K t H sc lc a d n F x ds L kd ns)(s:Ck H H'):O0 K t H' sc lc a d n F x ds L kd ns:=
 {Wo.J.same s,s _ _ Wo.hn,Wo.cS.fr<|Fr.of_same s,{s _ _ Wo.hl.1,Wo.hl.2},λi y e=>{{(Wo.cs i y e).1.C.same s,(Wo.cs i y e).1.nF,(Wo.cs i y e).1.nm,(Wo.cs i y e).1.I},(Wo.cs i y e).2},Wo.ap}
def O0.go(Wo:O0 K t H sc lc a d n F x ds L kd ns)(J:Jd K t H' a d F' x' (ds++mo))(f:Fr (Wh F d) (Wh F' d) H H'):O0 K t H' sc lc a d n F' x' (ds++mo) L kd ns/\∀b o,H b=some o->Og F d L b->H' b=some o/\Og F' d L b:=by
 let tu:∀b xs,H b=some (.tup xs)->H' b=some (.tup xs):=λb xs G=>(f b _ (λz=>z.elim (Wo.J.A.notup G) λz=>by rw[z,Wo.J.di]at G;cases G) G).1;refine{{J,tu _ _ Wo.hn,Wo.cS.fr f,?_,λi y U=>?_,Wo.ap},λb o G O=>{(f b o O.1 G).1,(f b o O.1 G).2,O.2}}
 .let{h1,h2}:=f _ _ (Wo.off Wo.hl.1 (λ_ _ _ z=>by cases z) (λ_ z=>by cases z) Wo.hl.2).1 Wo.hl.1;exact{h1,λz=>h2<|.inl z}
 .let{S,_}:=(Wo.at U).go J f;exact{⟨S.C,S.nF,S.nm,S.I⟩,(Wo.cs i y U).2}
set_option tactic.hygienic true in
def FI(z:L[i]?=some y):(L.set i {y with X:=X'}).map (λy=>V.ref y.c)=L.map λy=>V.ref y.c:=by
 rw[Vd];refine List.ext_getElem? λj=>?_;rw[Qs];split
 .rename_i h
  subst h;split
  .rw[Qp,z];rfl
  .rename_i h
   rw[ZF ()]
 .rfl
set_option tactic.hygienic true in
def O0.back(Wo:O0 K t H sc lc a d n F x ds L kd ns)(U:L[i]?=some y)(S:Nq K t H' sc a d y.c y.p y.dd n F' x' (ds++mo) X' kd y.av y.e ns)(f:Fr (Ot F y.X y.c y.dd d) (Ot F' X' y.c y.dd d) H H')(hp:X'.pg=none):O0 K t H' sc lc a d n F' x' (ds++mo) (L.set i {y with X:=X'}) kd ns/\∀b o,H b=some o->Og F d L b->H' b=some o/\Og F' d (L.set i {y with X:=X'}) b:=by
 let S0:=Wo.at U;let hi:=(Q1.mp U).1;let at_:∀(j:Nat)(z:Cp),(L.set i {y with X:=X'})[j]?=some z->(j=i/\z={y with X:=X'})\/(j≠i/\L[j]?=some z):=λj z h=>by
  rw[Qs]at h;split at h
  .rename_i e
   exact .inl {e.symm,(VB h).symm}
  .rename_i e
   exact .inr {λz=>e z.symm,h}
 let G:∀(j:Nat)(z:Cp),j≠i->L[j]?=some z->Fst t H' z.c a z.p z.dd kd z.av z.e z.X (Ot F' X' y.c y.dd d):=λj z ne Y=>by
  let{{C,nF,nm,I},_}:=Wo.cs j z Y;refine Fst.fr (E:=Ot F y.X y.c y.dd d) {C,λb hb w=>?_} f S0.tu;rcases w with w|w|w
  .exact nF b hb w
  .exact S0.C.apart C (λb h1 h2=>Wo.ap i j y z (Ne.symm ne) U Y b h1 h2) b w hb
  .exact C.nadr Wo.J.di nm<|w▸hb
 let Np:∀b o,H b=some o->Og F d L b->H' b=some o/\Og F' d (L.set i {y with X:=X'}) b:=λb o eb Z=>by
  let{h1,h2}:=f b o (λw=>by
   rcases w with w|w|w
   .exact Z.1<|.inl w
   .exact Z.2 y (Q2 U) w
   .exact Z.1<|.inr w) eb
  refine{h1,λw=>h2<|w.elim .inl λw=> .inr (.inr w),λz hz w=>?_};let{j,hj}:=ZH hz;rcases at_ j z hj with⟨_,rfl⟩|⟨_,e⟩
  .exact h2<|.inr (.inl w)
  .exact Z.2 z (Q2 e) w
 refine{{S.J,S.hn,?_,?_,λj z Y=>?_,λj k u v ne eu ev b h1 h2=>?_},Np}
 .rcases S.cS with⟨rd,nf⟩|h
  .exact .inl {rd,λz=>nf<|z.elim .inl λz=> .inr<|.inr z}
  .exact .inr h
 .rw[FI U];let{h1,h2}:=Np _ _ Wo.hl.1 (Wo.off Wo.hl.1 (λ_ _ _ z=>by cases z) (λ_ z=>by cases z) Wo.hl.2);exact{h1,λz=>h2.1<|.inl z}
 .rcases at_ j z Y with⟨_,rfl⟩|⟨ne,e⟩
  .exact{⟨S.C,S.nF,S.nm,S.I⟩,hp}
  .let{{C,nF,nm,I},pz}:=Wo.cs j z e;let O:=G j z ne e;exact{{O.C,λb hb w=>O.n b hb<|.inl w,nm,I.more},pz}
 .rcases at_ j u eu with⟨j1,rfl⟩|⟨j1,e1⟩<;>rcases at_ k v ev with⟨k1,rfl⟩|⟨k1,e2⟩
  .exact ne<|j1.trans k1.symm
  .exact(G k v k1 e2).n b (.inl h2)<|.inr (.inl h1)
  .exact(G j u j1 e1).n b (.inl h1)<|.inr (.inl h2)
  .exact Wo.ap j k u v ne e1 e2 b h1 h2
def O0.wr(Wo:O0 K t H sc lc a d n F x ds L kd ns)(hb:H b=some (.dK kvs))(U:Og F d L b)(G:∀z o,z≠b->H z=some o->H' z=some o):O0 K t H' sc lc a d n F x ds L kd ns:=by
 let J:=Wo.J;let A:NI K t H' a F x:=J.A.keep (λz hz=>by
  let{o,Y,_}:=J.A.dom hz;rw[Y];exact G z o (λw=>U.1<|.inl<|w▸hz) Y) λz xs O=>G z _ (λw=>by rw[w,hb]at O;cases O) O
 let fr:Fr (λz=>Wh F d z\/z=b) (λz=>Wh F d z\/z=b) H H':=λz o Z O=>{G z o (λw=>Z<|.inr w) O,Z};refine{{A,G _ _ (λw=>U.1<|.inr w.symm) J.di,J.nd,J.kb,J.iv,J.le,J.dy,J.D,J.tb,J.mx,J.fl,J.ho},G _ _ (λw=>by let h:=Wo.hn;rw[w,hb]at h;cases h) Wo.hn,?_,{G _ _ (λw=>by let h:=Wo.hl.1;rw[w,hb]at h;cases h) Wo.hl.1,Wo.hl.2},λi y ey=>?_,Wo.ap}
 .rcases Wo.cS with⟨rd,nf⟩|h
  .refine .inl {?_,nf};rcases rd with rd|⟨ob,rd⟩
   .exact .inl<|G _ _ (λw=>by rw[w,hb]at rd;cases rd) rd
   .exact .inr {ob,G _ _ (λw=>by rw[w,hb]at rd;cases rd) rd}
  .exact .inr h
 .let{{C,nF,nm,I},pg}:=Wo.cs i y ey;let na:=C.nadr hb (U.2 y<|Q2 ey);refine{{C.go λz o' O hz=>G z o' (λw=>?_) O,nF,nm,I},pg};rcases hz with hz|⟨xs,hz⟩
  .exact na<|w▸hz
  .rw[w,hb,hz]at O;cases O
end
section
variable{H6:Hp}{sc lc d:RC}{n:R4}{x:NF}{kd:Int}{y:Cp}
def NK.nol(C:NK t H c a p dd kd av e X)(I:X.pg=none)(h:X.adr c p dd b)(hb:H b=some (.lst xs)):False:=by
 let tk:∀{q:RC}{a':V},NM t H q kd a' e->q≠b:=λh=>h.nd hb λ_ _ _ z=>by cases z
 rcases h with h|h|h|⟨P,G,_⟩
 .exact C.nmut hb (λ_ _ _ z=>by cases z) (λ_ z=>by cases z) h
 .exact tk C.tk.1 h.symm
 .rcases C.rt with g|⟨q,h1,h2,_⟩
  .rw[g]at h;cases h
  .rw[h1]at h;cases h;exact tk h2 M
 .rw[I]at G;cases G
def O0.add(Wo:O0 K t H sc lc a d n F x ds L kd ns)(a0:sc≠lc\/∀H',DI K H' sc (ns.map V.int))(s:Ck H H6)(C:NK t H6 c a p dd kd av e {.ref p,av,ds.length,[],none})(nc:H c=none)(nd:H dd=none)(Y:¬F p):O0 K t (upd H6 lc<|.lst<|(L.map λy=>V.ref y.c)++ [V.ref c]) sc lc a d n F x ds (L++ [{c,p,dd,av,e,{.ref p,av,ds.length,[],none}}]) kd ns:=by
 let O:=Wo.same s;obtain⟨o,Z⟩:∃o,o=HO.lst ((L.map λy=>V.ref y.c)++ [V.ref c]):={_,M};rw[<-Z];let U:∀z o',z≠lc->H6 z=some o'->upd H6 lc o z=some o':=λz o' n e=>by rwa[ae n]
 let ne:∀{z:RC}{o':HO},H6 z=some o'->(∀xs,o'≠ .lst xs)->z≠lc:=λh1 h2 w=>by
  rw[w,O.hl.1]at h1;exact h2 _ (VB h1).symm
 let J:=O.J;let A:NI K t (upd H6 lc o) a F x:=J.A.keep (λz hz=>by rw[ae λw:z=lc=>Wo.hl.2 (w▸hz)]) λz xs G=>U z _ (ne G λ_ z=>by cases z) G;let go:∀{c p dd:RC}{av e:V}{X:NG},NK t H6 c a p dd kd av e X->X.pg=none->NK t (upd H6 lc o) c a p dd kd av e X:=λC hp=>C.go λz o' G hz=>U z o' (λw=>by
  rcases hz with hz|⟨xs,hz⟩
  .exact C.nol hp hz<|w▸O.hl.1
  .rw[hz]at G;exact ne G (λ_ z=>by cases z) w) G
 let at_:∀(j:Nat)(z:Cp),(L++ [{c,p,dd,av,e,{.ref p,av,ds.length,[],none}}])[j]?=some z->L[j]?=some z\/(j=L.length/\z={c,p,dd,av,e,{.ref p,av,ds.length,[],none}}):=λj z h=>by
  rcases Nat.lt_trichotomy j L.length with k|k|k
  .rw[QG k]at h;exact .inl h
  .rw[k,QD (Q4 _),XI]at h;exact .inr {k,(VB h).symm}
  .rw[ZF (by rw[Q6,QT];lia)]at h;cases h
 let mt:∀z,({c,p,dd,av,e,{.ref p,av,ds.length,[],none}}:Cp).mut z->H z=none:=λz hz=>by
  rcases hz with z1|z1|⟨P,z1,_⟩
  .rwa[show z=c from z1]
  .rwa[show z=dd from z1]
  .cases z1
 let ol:∀(j:Nat)(z:Cp),L[j]?=some z->∀b,z.mut b->H b≠none:=λj z G b hb w=>by
  let{o,Z,_}:=(Wo.cs j z G).1.C.dom (.inl hb);rw[w]at Z;cases Z
 refine{{A,U _ _ (ne J.di λ_ z=>by cases z) J.di,J.nd,J.kb,J.iv,J.le,J.dy,J.D,J.tb,J.mx,J.fl,J.ho},U _ _ (ne O.hn λ_ z=>by cases z) O.hn,?_,{by rw[ai,Z,Q9];rfl,Wo.hl.2},λj z G=>?_,λj k u v jk eu ev b h1 h2=>?_}
 .rcases a0 with h|h
  .rcases O.cS with⟨rd,nf⟩|h'
   .exact .inl {rd.imp (U _ _ h) λ⟨ob,rd⟩=>{ob,U _ _ h rd},nf}
   .exact .inr h'
  .exact .inr h
 .rcases at_ j z G with h|⟨_,rfl⟩
  .let{{C',nF,nm,I},pg}:=O.cs j z h;exact{{go C' pg,nF,nm,I},pg}
  .refine{{go C M,λb hb=>?_,λz=>?_,Inv.begin},M}
   .rcases hb with hb|hb|hb|⟨P,z,_⟩
    .exact Wo.J.A.out<|mt b hb
    .rwa[show b=p from hb]
    .cases hb;exact Y
    .cases z
   .have:=mt d z;rw[Wo.J.di]at this;cases this
 .rcases at_ j u eu with e1|⟨j1,rfl⟩<;>rcases at_ k v ev with e2|⟨k1,rfl⟩
  .exact Wo.ap j k u v jk e1 e2 b h1 h2
  .exact ol j u e1 b h1<|mt b h2
  .exact ol k v e2 b h2<|mt b h1
  .exact jk<|j1.trans k1.symm
end
def PQ(i j m:Int)(L:List Cp):Prop:=L.length=m.toNat/\∀(k:Nat)(y:Cp),L[k]?=some y->y.av= .int (Nr i j m k)/\y.e= .int (Nr i j m<|k+1)
set_option tactic.hygienic true in
def PQ.set{i j:Int}{y:Cp}(P:PQ i j m L)(G:L[n]?=some y):PQ i j m (L.set n {y with X:=X'}):=by
 refine{by rw[QJ];exact P.1,λk z h=>?_};rw[Qs]at h;split at h
 .rename_i e
  subst e;split at h
  .cases h;exact P.2 _ y G
  .cases h
 .exact P.2 k z h
set_option tactic.hygienic true in
def FJ{G z:Cp}(h:(L.set i G)[j]?=some z):(j=i/\z=G)\/(j≠i/\L[j]?=some z):=by
 rw[Qs]at h;split at h
 .rename_i e
  split at h
  .exact .inl {e.symm,(VB h).symm}
  .cases h
 .rename_i e
  exact .inr {λz=>e z.symm,h}
def Kk{sc d:RC}{n:R4}{x:NF}{kd:Int}(S:Nq K t H sc a d c p dd n F x ds X kd av e ns)(l:x.st.kv.length<=300)(z:X.rv≠ .non):0<=P5 kd x.st e X/\P5 kd x.st e X<=1456:=by
 rcases S.C.rt with h|⟨q,_,_,G⟩
 .exact VE h z
 let h1:=Mt S.J.A.sz G;let h2:=Qm (λp:Int×V=>hO X.rv kd X.ra e p.1) x.st.kv;unfold P5 PN;lia
def FP(h:(L.map λy=>V.ref y.c)[i]?=some v):∃y,L[i]?=some y/\v= .ref y.c:=by
 rw[Qp]at h;cases c:L[i]? with
 |none=>rw[c]at h;cases h
 |some y=>rw[c]at h;cases h;exact⟨y,M,M⟩
def Aq{xs:RH}{y:Int}{w:V}(nd:(xs.map (·.1)).Nodup)(e:xs[i]?=some (y,v))(h:(y,w)∈xs.take i):False:=by
 let h1:=Dz (P:=λ_=>true) nd e;let h2:(ay ((xs.take i).filter λp=>(λ_=>true) p.1) y).isSome=true:=HM.mp (Qe.mpr {(y,w),Qt.mpr ⟨h,M⟩,M});rw[h1]at h2;cases h2
def zN(kd k:Int):Int:=if kd=0 then tz (k%65536)else k
def Je{kd i j:Int}(h:kd=0\/kd=1):hN kd (.int i) (.int j) k=true↔i<=zN kd k/\zN kd k<j:=by
 let e:hN kd (.int i) (.int j) k=(decide (i<=zN kd k)&&decide (zN kd k<j)):=by rcases h with rfl|rfl<;>rfl
 rw[e,QA,VO,VO]
def F7{i j:Int}{kd z:Int}{k l:Nat}(I:0<m)(G:i<=j)(hk:kd=0\/kd=1)(lt:k<l)(h1:hN kd (.int<|Nr i j m k) (.int<|Nr i j m<|k+1) z=true)(h2:hN kd (.int<|Nr i j m l) (.int<|Nr i j m<|l+1) z=true):False:=by
 let c:=zT (m:=m) I G (k+1) (l-(k+1));rw[show k+1+(l-(k+1))=l by lia]at c;rw[Je hk]at h1 h2;lia
def G9{f:Nat->Int}{z:Int}(G:f 0<=z):∀n,z<f n->∃k,k<n/\f k<=z/\z<f (k+1)
 |0,h=>by lia
 |n+1,h=>by
  by_cases c:z<f n
  .let{k,h1,h2}:=G9 G n c;exact{k,(),h2}
  .exact{n,(),(),h}
def F8{i j:Int}{kd z:Int}(I:0<m)(O:m=((m.toNat:Nat):Int))(G:i<=j)(hk:kd=0\/kd=1):hN kd (.int i) (.int j) z=true↔∃k,k<m.toNat/\hN kd (.int<|Nr i j m k) (.int<|Nr i j m<|k+1) z=true:=by
 rw[Je hk];constructor
 .rintro ⟨h1,h2⟩;let{k,U,Y}:=G9 (f:=Nr i j m) (z:=zN kd z) (by rwa[OO]) m.toNat (by rwa[Bn O I]);exact{k,U,(Je hk).mpr Y}
 .rintro ⟨k,h1,h2⟩;rw[Je hk]at h2;have:=wv (m:=m) I G k;have:=CK (m:=m) (k:=k+1) O I G h1;lia
def FG(K:Wp):Sp:=λvs H Q _=>∃(a:RC)(ns:RF),vs=[.ref a]/\DI K H a (ns.map V.int)/\ns.length<=63/\∀H',Q (.bl true) H'
def K5:Bs P w K mg base N8 12 t.Kg t.DH [ge] (FG K):=by
 refine T.MR.okl OV λs H vs Q E O h _=>?_;intro X;let{sc,ns,rfl,hS,cf,q}:=h;refine aj (kK (i:=1) OV.nd M (Or.inr M)<|qO T.MA (vH T) O.mo {_} T.MD T.HK .nil au)
   (aj (ND 2 e7)
   (aj (ND 3<|aI (vA T) O.mo {_} T.HA T.xW.kp T.HC .nil au (ac Ac ag))
   (aj (ND 4<|ao bi af<|ao aT (ao aR (aI (lK T) O.mo {_} T.bX T.bJ.kp T.bY .nil au (ac Ac<|ac af ag)) af) af)
   (aj (IC (i:=5) M (Hc.of (M':=["_law_part"]) (N:=[ge,hW,jX,fx,u5,x5,ff,O',nJ,oZ,nG,xU,P']) (N':=[ge,hW,jX,fx,u5,x5,ff,O',nJ,oZ,nG,xU,P']) (dsc:=ak AC) M M ∅) (cX<|aI (Gb T) O.mo {_} T.MY T.JA.kp T.MZ .nil au (ac (aI (xw T) O.mo {_} T.IZ T.Ae.kp T.Jp .nil au (ac NJ ag))<|ac (ao bi af<|ao aT (aI (lK T) O.mo {_} T.bX T.bJ.kp T.bY .nil au (ac Ac<|ac af ag)) af) ag)) (λ_ _ _ _ _=>(gQ T.LX (ui T) O.mo {_} T.LZ T.ut.choose_spec.1 T.ut.choose_spec.2 au (ac HN<|ac Ac ag))) OV.nd M M)
   (bV (λx=>(eZ VP M (cX<|gk iP Ac (gP af)<|gP af) (OQ 6)
    x)) ?_)))))
 refine Ge (λx y=>aU (aA cY (ao aT P7 af) af<|aC _) x y) ?_;refine aw (aN<|aI (qR T) O.mo {_} T.AZ T.tQ.kp T.Bx .nil au (ac E5<|ac HN<|ac (ao aR P7 af) ag)) ?_
 intros
 refine aw (aN<|aI (zC T) O.mo {_} T.AY T.tP.kp T.Bw .nil au (ac (aS aX OP (ao aT (ao aR P7 af)<|aG aE {_} T.bS bq (ac OP ag))<|λ_ _=>M)<|ac E5<|ac HN<|ac (ao aR P7 af)<|ac Nl ag)) ?_
 intros
 refine aj (ND 7 e7)
   (bV (λx=>(eZ VP M (cX OP) (OQ 8)
    x)) ?_)
 refine mX (λx=>(eZ VP M (eG {_} T.iN (ac af ag)) (OQ 9)
    x)) ?_
 refine mX (λx=>aU (aA dW (bM pv8 T.aJ T.m7 (lM T) O.mo T.nP .nil au) bg<|aC _) x aL) ?_;refine aw (aN<|aI (zC T) O.mo {_} T.AY T.tP.kp T.Bw .nil au (ac pv8<|ac E5<|ac HN<|ac bg<|ac af ag)) ?_
 intros
 refine bV (λx=>(eZ VP M (cX OP) (OQ 8)
    x)) ?_
 refine aj (aN<|aO pv8 T.aJ T.sP (iT T) O.mo T.tm .nil au<|ac af ag)
   (aw (eZ VP M (vq<|zx QW ZT XC vK<|bM pv8 T.aJ T.Gv (uj T) O.mo T.Hk .nil au) (Cr M<|jR (OQ 10)<|jR (OQ 11) zt)
    (jQ (aU (zr<|Cu (iV O) FS pv7)
    (aD<|aK Mu)
    aL)
    (aD<|kL (iV O) pv7 FS pv11 M))) ?_)
 intros
 refine aj (ND 12 e7)
   (bV (λx=>(uw (eZ VP M (IE HN) (OQ 10)
    x))) ?_)
 refine aw (aU (cE<|aI (xz T) O.mo {_} T.Ja T.Af.kp T.Jq .nil au (ac NJ<|ac FS ag))
    (aD<|kL (iV O) pv12 FS (Dc (iV O) HN FS<|λ_ _=>M) M)
    aL) ?_
 intros
 refine aw (aK<|gy (bZ (IG O.u20) pv7 pv12<|aC _)<|fQ<|bZ (K0 K M O.u20) (mM M (Hc.of (M':=[nJ]) (N:=[ge,hW,jX,fx,u5,x5,ff,O',nJ,oZ,nG,xU,P']) (N':=[ge,hW,jX,fx,u5,x5,ff,O',"",oZ,nG,xU,P']) (dsc:=ak AC) M M ∅) (cX OP) (λ_ _ _ _ _=>(aA dW (bM Ac T.aJ T.m7 (lM T) O.mo T.nP .nil au) bg<|aC _))<|λ_ _ _ _ _=>Ac) (cH ag)<|aC _) ?_
 intros
 refine λa dx na cg d6=>{a,dx,M,ai,λH1 F1 A1 f1=>{M,λd n1=>?_}};let o1:∀b o,H b=some o->H1 b=some o/\¬F1 b:=λb o e=>f1 b o (al e na) (by rwa[ae (al e na),ae (al e cg)]);let J2:Jd K t (upd H1 d<|.dK []) a d F1 NF.new []:={A1.same<|am n1,ai,A1.out n1,(λ_ z=>by cases z),(λ_ z=>by cases z),(_),M,{(λ_ z=>by cases z),(λi j x y m h=>by rw[X9]at h;cases h),(λi x k h=>by rw[X9]at h;cases h)},M,(λ_ z=>by cases z),M,M};let o2:∀b o,H b=some o->upd H1 d (.dK []) b=some o/\¬Wh F1 d b:=λb o e=>{by rw[ae (al (o1 b o e).1 n1)];exact(o1 b o e).1,λz=>z.elim (o1 b o e).2<|al (o1 b o e).1 n1};show yX _ _ _ _ (upd H1 d<|.dK []);generalize upd H1 d (.dK [])=H2 at J2 o2⊢;let cS:=(P1.of (F:=λ_=>False) hS λ_ _ z=>z).fr (F':=Wh F1 d) (H':=H2) λb o _ e=>o2 b o e;clear o1 o2 hS A1 f1 n1 na cg d6;refine{_,M,sc,ns,M,cS.sq,λH3 nb kd i j s3 c5 hk on=>?_};let J3:=J2.same s3;let bl:=cS.fr (Fr.of_same s3);clear J2 cS s3;obtain⟨c0,ci⟩:∃c:Int,ns.getD (0:Int).toNat 0=c:={_,M}
 cbv
 refine{_,M,sc,ns,0,M,bl.sq,(_),_,_,M,M,{(_),(_)},_,_,M,M,(by show(0:Int)<12;decide),_,_,M,M,?_};rw[ci];let d7:=Qg (c0/5) (show(12:Int)≠0 by decide);let da:=Qk (c0/5) (show(0:Int)<12 by decide);obtain⟨my,cj⟩:∃m:Int,1+c0/5%12=m:={_,M};let df:1<=my:=();let dg:my<=12:=()
 cbv
 rw[cj];clear cj d7 da;obtain⟨m,em⟩:∃m:Int,1+c0%5=m:={_,M};let m0:1<=m:=by have:=Qg c0 (show(5:Int)≠0 by decide);lia
 let m1:m<=5:=by have:=Qk c0 (show(0:Int)<5 by decide);lia
 refine{_,M,nb,kd,i,j,M,Na.of c5,on,hk,λH4 pt s4 dm TK=>?_};refine{_,M,sc,ns,0,M,(bl.fr<|Fr.of_same s4).sq,(_),?_};rw[ci];refine{_,_,M,M,(by show(0:Int)<5;decide),_,_,M,M,?_}
 cbv
 rw[em];refine{pt,kd,m,i,j,M,TK,on,m0,(),hk,λH5 l as s5 hl ck PT cn=>?_};let J5:=(J3.same s4).same s5;let c8:=(bl.fr<|Fr.of_same s4).fr (Fr.of_same s5);let c4:=s5 _ _ (s4 _ _ c5);let mn:m=((m.toNat:Nat):Int):=();let ij:i<=j/\0<=i:=by
  rcases hk with rfl|rfl
  .let{_,_,e1,e2,h1,h2,_}:=on.s;cases e1;cases e2;exact⟨h2,h1⟩
  .let{_,e1,h1,h2}:=on.u;cases e1;rcases h2 with h2|⟨_,h2,h3⟩
   .cases h2
   .cases h2;exact⟨h3,h1⟩
 let dp:∀k:Nat,k<m.toNat->O6 kd (.int<|Nr i j m k) (.int<|Nr i j m<|k+1):=λk hk'=>by
  let h1:=wv (m:=m) () ij.1 k;let h2:=nK (m:=m) () ij.1 k;let h3:Nr i j m (k+1)<=j:=CK mn () ij.1 hk';let h4:=ij.2;rcases hk with rfl|rfl
  .let{_,_,e1,e2,_,_,j6}:=on.s;cases e1;cases e2;exact .inl {M,_,_,M,M,(),h2,()}
  .exact .inr<|.inl {M,_,M,(),.inr {_,M,h2}}
 let co:∀b∈as,¬F1 b:=λb hb=>J3.A.out (c7 s4<|cn b hb);refine{l,M,{_,DI.of hl},λD hD=>?_};let ct:sc≠D\/∀H',DI K H' sc (ns.map V.int):=by
  rcases c8 with⟨rd,_⟩|h
  .exact .inl<|rd.elim (λh=>al h hD) λ⟨_,h⟩=>al h hD
  .exact .inr h
 let lD:l≠D:=al hl hD;refine oA (K:=K) (a:=l) (xs:=as.map V.ref) (λn ys H3=>∃L:List Cp,O0 K t H3 sc D a d (nb,[.int kd,.int i,.int j]) F1 NF.new [] L kd ns/\ys=L.map (λy=>V.ref y.c)/\L.length=n/\(∀(k:Nat)(y:Cp),L[k]?=some y->y.av= .int (Nr i j m k)/\y.e= .int (Nr i j m<|k+1))/\(∀b o,H5 b=some o->H3 b=some o)) {[],?_,M,M,(λk y h=>by rw[X9]at h;cases h),am hD} (λn ys H' _ w=>?_) (λn v ys H' hx w aa=>?_)<|λys H6 w aa=>?_
 .exact{J5.same<|am hD,am hD _ _ c4,c8.fr<|Fr.of_same<|am hD,{ai,J5.A.out hD},(λk y h=>by rw[X9]at h;cases h),(λk _ y _ _ h=>by rw[X9]at h;cases h)}
 .let{_,_,_,_,_,k}:=w;exact DI.of<|k _ _ hl
 .let{L,Wo,rfl,ll,pp,k5}:=w;let hn:=(Q1.mp hx).1;rw[Q0]at hn;rw[Qp]at hx;obtain⟨b,eb⟩:∃b,as[n]?=some b:={_,Q3 hn};rw[eb]at hx;cases hx;let dq:=(PT n b eb).same k5;let dr:=dp n ();refine{_,M,_,M,λc dx nc dt eq=>?_};let bo:=bT (am (o:= .own c) dt) (o:= .ins t.aW dx []) nc;refine{c,dx,a,b,kd,_,_,F1,NF.new,M,ai,Wo.J.A.same bo,dq.same bo,dr,λH7 dd C du kp=>{M,?_}};let s6:Ck H' H7:=λz o e=>kp z o (al e nc) (bo _ _ e);let dv:H' dd=none:=c7 bo du;let W7:=Wo.add ct s6 C nc dv (co b<|Q2 eb);refine NL.mk (by rwa[Q0]) (s6 _ _ aa) (bQ<|by rw[Q0];lia) {_,W7,by rw[Q9];rfl,by rw[Q6,ll];rfl,λk y h=>?_,λz o e=>?_}
  .rcases XH k L.length with hk'|hk'
   .rw[QG hk']at h;exact pp k y h
   .rw[QD hk']at h;let{e1,e2}:=Q1.mp h;rw[QT]at e1;let ek:k=n:=();subst ek;rw[show k-L.length=0 by lia]at h;cases h;exact⟨M,M⟩
  .rw[ae (al e hD)];exact s6 _ _<|k5 z o e
 let{L,Wo,rfl,ll,pp,k5}:=w;rw[Q0,ck]at ll;clear k5 ct c8 c4 J5 hl PT cn co TK dm s5 s4 J3 bl lD hD c5 ck;let P0:PQ i j m L:=⟨ll,pp⟩;clear ll pp aa;obtain⟨nv,env⟩:∃nv:Addr×List V,nv=(nb,[.int kd,.int i,.int j]):={_,M};rw[<-env]at Wo;let{cs,cu,sb}:=G8 ns (some 2) (some 42);let dz:cs.length<=63:=Qu sb.length_le cf;unfold fj
 cbv
 refine{_,M,_,M,_,M,sc,_,M,Wo.cS.sq,λp2 c9=>?_};rw[cu];let s9:=am (o:= .lst<|cs.map V.int) c9;let h9:upd H6 p2 (.lst<|cs.map V.int) p2=some (.lst<|cs.map V.int):=ai;let W9:=Wo.same s9;let n9:=Wo.new c9
 cbv
 generalize upd H6 p2 (.lst<|cs.map V.int)=H9 at W9 h9⊢;clear Wo s9 c9 cu sb;refine{p2,M,{_,DI.of h9},jW (K:=K) (a:=p2) (xs:=cs.map V.int) (λi' W H'=>∃(F':RE)(x':NF)(ah:List DR)(L':List Cp)(v6:RX),W=[some (.ref sc),some (.ref a),some (.ref d),some (.ref nb),some (.int my),some (.ref D),v6,none,none,none,none,none,none]/\O0 K t H' sc D a d nv F' x' ah L' kd ns/\PQ i j m L'/\x'.now<=4*i'/\x'.ma<=2*i'/\x'.st.kv.length<=300/\H' p2=some (.lst<|cs.map V.int)/\Og F' d L' p2) {F1,_,_,L,none,M,W9,P0,(_),(_),(_),h9,n9} (λi W H' _ w=>by let{_,_,_,_,_,_,_,_,_,_,_,h,_}:=w;exact DI.of h) (λi' z W H' hz w=>?_)<|λW H' w=>?_}
 .clear W9 P0 h9 n9;let{F',x',ah,L',v6,rfl,Wo,P,l1,l2,l3,h2,n2}:=w;let hi:=(Q1.mp hz).1;rw[Q0]at hi;let{z',_,rfl}:=Qe.mp (Q2 hz);unfold fj
  cbv
  refine{_,M,_,_,M,M,(by show(0:Int)<2;decide),M,_,M,cT (λy=>?_)<|λy=>?_}
  .refine{_,M,_,M,_,M,_,_,M,M,{(_),(_)},a,d,_,F',x',ah,300,M,Wo.J,(),l3,(_),(_),λH3 F3 x3 mo J3 b1 b2 b3 f3=>?_};let{W3,k3}:=Wo.go J3 f3;let{h3,n3}:=k3 _ _ h2 n2;exact{F3,x3,_,L',_,M,W3,P,(),(),b3,h3,n3}
  .let lm:(0:Int)<((L'.map λy=>V.ref y.c).length:Int):=by rw[Q0,P.1];lia
   let z0:=Qg (z'/2) (QY lm);let z1:=Qk (z'/2) lm;rw[Q0]at z0 z1 lm;obtain⟨u,hu⟩:∃u,L'[(z'/2%(L'.length:Int)).toNat]?=some u:={_,Q3 ()};let at1:OR (L'.map λy=>V.ref y.c) (z'/2%(L'.length:Int))=some (.ref u.c):=by
    rw[<-Xm z0];refine rH ?_;rw[Qp,hu];rfl
   refine{_,M,_,M,_,_,M,M,{(_),(_)},_,M,D,_,M,.inl<|DI.of Wo.hl.1,_,_,M,M,(by rwa[Q0]),D,_,_,_,M,M,DI.of Wo.hl.1,(by rwa[Q0]),_,M,_,M,_,M,_,_,M,M,{(_),(_)},_,M,sc,a,d,u.c,u.p,u.dd,nv,F',x',ah,u.X,kd,my,u.av,u.e,_,ns,M,.inr {_,M},Wo.at hu,(Wo.cs _ u hu).2,df,dg,(),l3,λH3 F3 x3 mo X3 S3 f3 e0 _ b1 b2 b3 _ _=>?_};let{W3,k3}:=Wo.back hu S3 f3 e0;let{h3,n3}:=k3 _ _ h2 n2;exact{F3,x3,_,_,_,M,W3,P.set hu,(),(),b3,h3,n3}
 clear W9 P0 h9 n9;let{F',x',ah,L',v6,rfl,Wo,P,l1,l2,l3,_,_}:=w;rw[Q0]at l1 l2;let a1:x'.now<=252:=();let a2:x'.ma<=126:=();clear l1 l2;refine λfo ca=>?_;let s9:=am (o:= .dK []) ca;let h9:upd H' fo (.dK []) fo=some (.dK []):=ai;let W9:=Wo.same s9;let n9:=Wo.new ca
 cbv
 generalize upd H' fo (.dK [])=H9 at W9 h9⊢;clear Wo s9 ca;obtain⟨cl,be⟩:∃cl,L'.map (λy=>V.ref y.c)=cl:={_,M};let bt:=W9.hl.1;rw[be]at bt;let an:cl.length=m.toNat:=by rw[<-be,Q0];exact P.1
 refine{_,M,D,M,{_,DI.of bt},jW (K:=K) (a:=D) (xs:=cl) (λi2 W H'=>∃(F2:RE)(G:NF)(ab:List DR)(L2:List Cp)(v8 v9:RX),W=[some (.ref sc),some (.ref a),some (.ref d),some (.ref nb),some (.int my),some (.ref D),v6,some (.ref fo),v8,v9,none,none,none]/\O0 K t H' sc D a d nv F2 G ab L2 kd ns/\PQ i j m L2/\L2.map (λy=>V.ref y.c)=cl/\G.now=x'.now/\G.st=x'.st/\G.ma<=x'.ma+146*i2/\(∀(k:Nat)(y:Cp),k<i2->L2[k]?=some y->y.X.rv= .non)/\H' fo=some (.dK [])/\Og F2 d L2 fo) {F',x',ah,L',none,none,M,W9,P,be,M,M,(),(λk y h=>()),h9,n9} (λi W H' _ w=>by let{_,_,_,_,_,_,_,Wo,_,e,_}:=w;let h:=Wo.hl.1;rw[e]at h;exact DI.of h) (λi2 z W H2 hz w=>?_)<|λW H2 w=>?_}
 .clear W9 P h9 n9 bt be;let{F2,G,ab,L2,v8,v9,rfl,Wo,P,el,b1,b2,b3,b4,h2,n2}:=w;let hi:=(Q1.mp hz).1;rw[an]at hi;rw[<-el]at hz;let{y,ey,rfl}:=FP hz;let S0:=Wo.at ey;let l2:G.st.kv.length<=300:=by rwa[b2]
  unfold fj
  cbv
  refine{200,M,(_),(_),wj (n:=(200:Int).toNat) (λk W H'=>∃(F3:RE)(x3:NF)(mo:List DR)(X3:NG)(v9:RX),W=[some (.ref sc),some (.ref a),some (.ref d),some (.ref nb),some (.int my),some (.ref D),v6,some (.ref fo),some (.ref y.c),v9,none,none,none]/\Nq K t H' sc a d y.c y.p y.dd nv F3 x3 (ab++mo) X3 kd y.av y.e ns/\Fr (Ot F2 y.X y.c y.dd d) (Ot F3 X3 y.c y.dd d) H2 H'/\X3.pg=none/\x3.now=G.now/\x3.st=G.st/\∃jn:Nat,jn<=73/\x3.ma<=G.ma+2*jn/\(X3.rv≠ .non->jn=k/\20*(k:Int)+P5 kd G.st y.e X3<=1456)) {F2,G,[],y.X,v9,M,by rwa[Z6],Fr.refl,(Wo.cs _ y ey).2,M,M,0,(_),(),λnv=>{M,by have:=(Kk S0 l2 nv).2;lia}} (λk W H3 hk w=>?_)<|λW H3 w=>?_}
  .let{F3,x3,mo,X3,v9,rfl,S,f3,hp,c1,c2,jn,j1,j2,j3}:=w;let{dc,hc}:=S.C.ob;unfold fj
   cbv
   refine{_,M,y.c,dc,_,M,hc,{_},y.c,a,y.p,y.dd,kd,y.av,y.e,X3,M,S.C,M,_,M,?_};by_cases hv:X3.rv= .non
   .rw[hv];exact m9 M {F3,x3,mo,X3,_,M,S,f3,hp,c1,c2,jn,j1,j2,λh=>VE hv h}
   let{j4,j5}:=j3 hv;let l4:x3.st.kv.length<=300:=by rwa[c2]
   let mb:=(Kk S l4 hv).1;rw[c2]at mb;refine vZ hv {_,M,_,M,_,M,sc,a,d,y.c,y.p,y.dd,nv,F3,x3,_,X3,kd,12,y.av,y.e,.non,ns,M,.inl M,S,hp,(_),(_),(),l4,λH4 F4 x4 e6 X4 S4 f4 e9 _ e1 e2 e3 _ e5=>?_};let{g1,g2,g3}:=e5 M;refine{F4,x4,mo++e6,X4,_,M,by rwa[<-Qi],f3.trans f4,e9,g1.trans c1,g2.trans c2,jn+1,(),(),λh=>{(),?_}};have:=g3 (_) h;rw[c2]at this;lia
  .let{F3,x3,mo,X3,v9,rfl,S,f3,hp,c1,c2,jn,j1,j2,j3}:=w;let hv:X3.rv= .non:=Classical.byContradiction λh=>by
    have:=(j3 h).1;have:(200:Int).toNat=200:=M;lia
   let{W3,k3}:=Wo.back ey S f3 hp;let{h3,n3}:=k3 _ _ h2 n2;refine{F3,x3,_,_,_,_,M,W3,P.set ey,(FI ey).trans el,c1.trans b1,c2.trans b2,(),λk z hk hz=>?_,h3,n3};rcases FJ hz with⟨_,rfl⟩|⟨ne,e⟩
   .exact hv
   .exact b4 k z () e
 clear W9 P h9 n9 bt be;let{F2,G,ab,L2,v8,v9,rfl,Wo,P,el,b1,b2,b3,b4,h2,n2}:=w;rw[an]at b3;let l2:G.st.kv.length<=300:=by rwa[b2]
 let b5:∀(k:Nat)(y:Cp),L2[k]?=some y->y.X.rv= .non:=λk y h=>b4 k y (by have:=(Q1.mp h).1;rw[P.1]at this;rwa[an]) h;let a3:G.now+G.ma<=1500:=();clear b1 b3 b4;let bv:=Wo.hl.1;rw[el]at bv;refine{_,M,D,M,{_,DI.of bv},jW (K:=K) (a:=D) (xs:=cl) (λi3 W H'=>∃(L3:List Cp)(fk:RH)(v8 Y a4:RX),W=[some (.ref sc),some (.ref a),some (.ref d),some (.ref nb),some (.int my),some (.ref D),v6,some (.ref fo),v8,v9,Y,a4,none]/\O0 K t H' sc D a d nv F2 G ab L3 kd ns/\PQ i j m L3/\L3.map (λy=>V.ref y.c)=cl/\(∀(k:Nat)(y:Cp),L3[k]?=some y->y.X.rv= .non)/\H' fo=some (.dK<|az fk)/\Og F2 d L3 fo/\(fk.map (·.1)).Nodup/\(∀z v,ay fk z=some v↔ay G.st.kv z=some v/\∃k,k<i3/\hN kd (.int<|Nr i j m k) (.int<|Nr i j m<|k+1) z=true)/\fk.length<=400*i3) {L2,[],v8,none,none,M,Wo,P,el,b5,h2,n2,QZ,(λz v=>{(λh=>by cases h),λh=>by let{_,k,h,_}:=h;lia}),(_)} (λi W H' _ w=>by let{_,_,_,_,_,_,Wo,_,e,_}:=w;let h:=Wo.hl.1;rw[e]at h;exact DI.of h) (λi3 z W H3 hz w=>?_)<|λW H3 w=>?_}
 .clear Wo P el b5 h2 n2 bv;let{L3,fk,v8,Y,a4,rfl,Wo,P,el,rn,h3,n3,nd,iff,fl}:=w;let hi:=(Q1.mp hz).1;rw[an]at hi;rw[<-el]at hz;let{y,ey,rfl}:=FP hz;let{ea,ee}:=P.2 _ y ey;let S0:=Wo.at ey;let dl:=S0.J.len;let{dc,hc}:=S0.C.ob;unfold fj
  cbv
  refine{_,M,y.c,dc,_,M,hc,{_},y.c,a,y.p,y.dd,kd,2000,y.av,y.e,y.X,F2,G,_,M,S0.C,S0.J.A,S0.J.dy,S0.I,S0.J.D,(),(_),λH4 X4 e4 C4 I4 k4=>?_};let{S4,f4}:=S0.fo e4 C4 I4 k4;let n4:X4.n=ab.length:=by
   have:=S0.I.le;rw[e4,zP,Q8,QF,show(2000:Int).toNat=2000 from rfl];lia
  let{g1,g2,_}:=sL (kd:=kd) (av:=y.av) (e:=y.e) (l:=(ab.drop y.X.n).take (2000:Int).toNat) (Wo.cs _ y ey).2;rw[<-e4]at g1 g2;let cv:X4.rv= .non:=g2.trans (rn _ y ey);let{W4,kk}:=Wo.back (mo:=[]) ey (by rwa[Z6]) f4 g1;rw[Z6]at W4;let{h4,m4}:=kk _ _ h3 n3;let nk:=S4.J.A.nd;let cy:∀z v,(z,v)∈X4.cp↔ay G.st.kv z=some v/\hN kd y.av y.e z=true:=λz v=>by
   rw[(S4.I.due S4.J.D).mem_iff];unfold Jj;rw[n4,Qw,S4.J.tb,Qt];refine and_congr {br nk,bc} ?_;unfold NG.cov hO;rw[cv,VA M,Bool.not_false,Bool.and_true]
  let er:X4.cp.length<=300:=by
   rw[(S4.I.due S4.J.D).length_eq];unfold Jj;rw[n4,Qw,S4.J.tb];exact Qu (Qm _ _) l2
  let cz:=S4.I.nd;clear C4 I4 k4 f4 hc dc S0 e4 g2 kk Wo h3 n3;let{dc,hc}:=S4.C.ob
  cbv
  refine{_,M,y.c,dc,_,M,hc,{_},y.c,a,y.p,y.dd,kd,y.av,y.e,X4,M,S4.C,λr nr=>?_};let O:upd H4 r (.dK<|az X4.cp) r=some (.dK<|az X4.cp):=ai;let s5:=am (o:= .dK<|az X4.cp) nr
  cbv
  generalize upd H4 r (.dK<|az X4.cp)=H5 at O s5⊢;refine{.inr<|.inr<|.inl {M,.inl {_,O}},r,az X4.cp,M,M,O,λvw cb=>?_};let d0:upd H5 vw (Ol vw r) r=some (.dK<|az X4.cp):=by rwa[ae (al O cb)]
  refine{vw,r,az X4.cp,M,ai,d0,λob=>?_};let fr:fo≠r:=al h4 nr;let cd:∀b o,H4 b=some o->upd (upd H5 vw<|Ol vw r) r (.frz ob<|.dK<|az X4.cp) b=some o:=λb o e=>by
   rw[ae (al e nr),ae (al (s5 _ _ e) cb)];exact s5 _ _ e
  let fq:upd (upd H5 vw<|Ol vw r) r (.frz ob<|.dK<|az X4.cp) r=some (.frz ob<|.dK<|az X4.cp):=ai
  cbv
  generalize upd (upd H5 vw<|Ol vw r) r (.frz ob<|.dK<|az X4.cp)=H7 at cd fq⊢;clear O d0 s5 cb;refine qf (λu W H'=>∃(Z:RH)(Y a4:RX),W=[some (.ref sc),some (.ref a),some (.ref d),some (.ref nb),some (.int my),some (.ref D),v6,some (.ref fo),some (.ref y.c),v9,Y,a4,none]/\(∀b o,b≠fo->H4 b=some o->H' b=some o)/\H' r=some (.frz ob<|.dK<|az X4.cp)/\H' fo=some (.dK<|az Z)/\(Z.map (·.1)).Nodup/\(∀z v,ay Z z=some v↔ay fk z=some v\/(z,v)∈X4.cp.take u)/\Z.length<=fk.length+u) {fk,Y,a4,M,λb o _ e=>cd b o e,fq,cd _ _ h4,nd,(λz v=>{.inl,λh=>h.elim id λh=>by rw[List.take_zero]at h;cases h}),Q4 _} (λu W H' _ w=>by let{_,_,_,_,_,h,_}:=w;exact h) (λu k v p' W H' eu w np=>?_)<|λW H' w=>?_
  .let{Z,Y,a4,rfl,kp,hf,h7,ce,a0,l7}:=w;let{U,rfl,en}:=ou eu;let lu:=(Q1.mp en).1;refine{p',_,M,Na.of ai,M,_,_,M,_,_,M,M,?_};let s8:=am (o:= .tup [kV (Sum.inl U),v]) np;let h8:=s8 _ _ h7;let d1:=s8 _ _ hf;let d2:∀b o,b≠fo->H4 b=some o->upd H' p' (.tup [kV (Sum.inl U),v]) b=some o:=λb o ne e=>s8 _ _ (kp b o ne e)
   cbv
   generalize upd H' p' (.tup [kV (Sum.inl U),v])=H8 at h8 d1 d2⊢;let ec:=(cy U v).mp (Q2 en);let fresh:ay Z U=none:=by
    cases c:ay Z U with
    |none=>rfl
    |some w=>
     exfalso;rcases(a0 U w).mp c with h|h
     .let{_,k,lk,ed}:=(iff U w).mp h;let h5:=ec.2;rw[ea,ee]at h5;exact F7 () ij.1 hk lk ed h5
     .exact Aq cz en h
   let g8:=Nm.k (k:=Sum.inl U) h8;rw[M9,fresh]at g8;refine{_,M,_,M,fo,_,M,g8,_,M,dP ?_};unfold uE
   cbv
   refine{_,M,_,M,_,M,fo,_,M,O1.k (k:=Sum.inl U) h8 (by rw[a8];exact a9 ()),?_};rw[cw,mH v fresh];refine{Z++ [(U,v)],_,_,M,λb o ne e=>by rw[ae ne];exact d2 b o ne e,by rwa[ae (Ne.symm fr)],ai,?_,λz w=>?_,by rw[Q6];show Z.length+1<=_;lia}
   .rw[Q9];refine X7.mpr {ce,QR.mpr ⟨Zc,QZ⟩,λa ha b hb e=>?_};rw[Q7.mp hb]at e;rw[e]at ha;have:=HM.mp ha;rw[fresh]at this;cases this
   .rw[<-mH v fresh,de,Qo,en];by_cases c:z=U
    .rw[VA c,c];constructor
     .intro h;cases h;exact .inr<|Q5.mpr (.inr Qa)
     .rintro (h|h)
      .have:=(a0 U w).mpr (.inl h);rw[fresh]at this;cases this
      .rcases Q5.mp h with h|h
       .exact(Aq cz en h).elim
       .cases Q7.mp h;rfl
    .rw[Vz c,a0 z w];refine or_congr_right {λh=>Q5.mpr<|.inl h,λh=>?_};rcases Q5.mp h with h|h
     .exact h
     .cases Q7.mp h;exact VE M c
  .let{Z,Y,a4,rfl,kp,hf,h7,ce,a0,l7}:=w;rw[a8,Qw]at a0;rw[a8]at l7;let W7:=W4.wr h4 m4 kp;refine{_,Z,_,_,_,M,W7,P.set ey,(FI ey).trans el,λk z hz=>?_,h7,m4,ce,λz v=>?_,()}
   .rcases FJ hz with⟨_,rfl⟩|⟨_,e⟩
    .exact cv
    .exact rn k z e
   .rw[a0 z v,iff z v,cy z v,ea,ee];constructor
    .rintro (⟨h1,k,h2,h3⟩|⟨h1,h2⟩)
     .exact{h1,k,(),h3}
     .exact{h1,i3,(),h2}
    .rintro ⟨h1,k,h2,h3⟩;rcases XH k i3 with c|c
     .exact .inl ⟨h1,k,c,h3⟩
     .rw[show k=i3 by lia]at h3;exact .inr ⟨h1,h3⟩
 clear Wo P el b5 h2 n2 bv;let{L3,fk,v8,Y,a4,rfl,Wo,P,el,rn,h3,n3,nd,iff,fl}:=w;rw[an]at iff fl;let nk:=Wo.J.A.nd;let iv:=Wo.J.iv;let fv:∀z,ay fk z=ay (G.st.kv.filter λp=>hN kd (.int i) (.int j) p.1) z:=λz=>by
  rw[wm nk];refine Option.ext λv=>?_;rw[iff z v,<-F8 () mn ij.1 hk];by_cases c:hN kd (.int i) (.int j) z=true
  .rw[VA c];exact{λh=>h.1,λh=>⟨h,c⟩}
  .rw[Vz c];exact{λh=>VE h.2 c,λh=>by cases h}
 clear iff fl dz an;subst env;refine λb bw=>?_;let bx:=Wo.J.di;let bd:b≠d:=λz=>by rw[z,bx]at bw;cases bw
 let sb:=am (o:= .dK []) bw;let c3:upd H3 b (.dK []) b=some (.dK []):=ai;let a5:=sb _ _ bx;let a6:=sb _ _ Wo.hn
 cbv
 generalize upd H3 b (.dK [])=ef at sb c3 a5 a6⊢;refine{d,_,a5,_,M,d,_,M,a5,λob=>EM (ob:=ob) (d:=d) (kvs:=az G.st.kv) (λu W H'=>∃Y:Option V,W=[some (.ref sc),some (.ref a),some (.ref d),some (.ref nb),some (.int my),some (.ref D),v6,some (.ref fo),v8,v9,Y,a4,some (.ref b)]/\(∀c o,c≠b->c≠d->ef c=some o->H' c=some o)/\H' d=some (.frz ob<|.dK<|az G.st.kv)/\H' b=some (.dK<|az<|(G.st.kv.take u).filter λp=>hN kd (.int i) (.int j) p.1)) ?_ (λi W H' _ w=>?_) (λu k v W H' hk' w=>?_)<|λW H' w=>?_}
 .exact{_,M,λc o _ n2 h=>by rwa[ae n2],ai,by rwa[ae bd]}
 .let{_,_,_,h,_}:=w;exact h
 .let{Y,rfl,kp,ax,bb}:=w;let{y,rfl,eg}:=ou hk';let ym:=Q2 eg;let ej:=kp _ _ (λz:nb=b=>by let h:=a6;rw[show((nb,[V.int kd,.int i,.int j]):R4).1=nb from rfl,z,c3]at h;cases h) (λz:nb=d=>by let h:=a6;rw[show((nb,[V.int kd,.int i,.int j]):R4).1=nb from rfl,z,a5]at h;cases h) a6;let st:=G0 (P:=λz=>hN kd (.int i) (.int j) z) eg;unfold fj
  cbv
  refine{_,M,_,M,nb,kd,y,i,j,M,Na.of ej,hk,_,M,?_};cases cc:hN kd (.int i) (.int j) y with
  |false=>
   rw[cc]at st;exact dP {_,M,kp,ax,by rw[bb,st];simp}
  |true=>
   let g2:Nm H' d (.int y) (some v):= .inl {_,Sum.inl y,.inr ⟨ob,ax⟩,M,by rw[M9,br nk ym]};let p2:=O1.k (k:=Sum.inl y) (v:=v) bb (by rw[a8];let h1:=Qm (λp:Int×V=>hN kd (.int i) (.int j) p.1) (G.st.kv.take u);rw[Q8]at h1;exact a9 ());rw[cw,mH v (Dz (P:=λz=>hN kd (.int i) (.int j) z) nk eg),show[(y,v)]=(if hN kd (.int i) (.int j) y=true then[(y,v)]else[]) by rw[cc];rfl,<-st]at p2;refine cC {_,M,_,M,d,_,M,g2,_,M,_,M,b,_,M,p2,?_};exact{_,M,λc o h1 h2 h3=>by rw[ae h1];exact kp c o h1 h2 h3,by rwa[ae (Ne.symm bd)],ai}
 let{Y,rfl,kp,ax,bb}:=w;refine{ob,ax,?_};rw[a8,Qw]at bb;let d3:upd H' d (.dK<|az G.st.kv) b=some (.dK<|az<|G.st.kv.filter λp=>hN kd (.int i) (.int j) p.1):=by rwa[ae bd]
 let s6:Ck H3 (upd H' d<|.dK<|az G.st.kv):=λz o ez=>by
  by_cases c:z=d
  .rwa[c,ai,<-bx,<-c]
  .rw[ae c];exact kp z o (al ez bw) c (sb _ _ ez)
 cbv
 generalize upd H' d (.dK<|az G.st.kv)=H6 at d3 s6⊢;let W6:=Wo.same s6;let h6:=s6 _ _ h3;clear kp ax bb sb c3 a5 a6 bx Wo;let nf:((G.st.kv.filter λp=>hN kd (.int i) (.int j) p.1).map (·.1)).Nodup:=nk.sublist (ZN.map _);refine{_,M,_,M,fo,b,_,_,M,M,h6,d3,by rw[a8,a8];exact(Dr nd nf fv).length_eq,λz hz=>?_,_,M,cC ?_}
 .unfold az at hz;let{w,hw,rfl}:=Qe.mp hz;let h1:=br nd (k:=w.1) (v:=w.2) hw;rw[fv]at h1;let{i',ei}:=iv w (Qt.mp<|bc h1).1;exact{by show Fl w.2;rw[ei];exact VU,by show ay (az _) (Sum.inl w.1)=_;rwa[M9]}
 let d4:=W6.hl.1;refine{_,M,D,M,{_,DI.of d4},λD2 d5=>iH (K:=K) (a:=D) (xs:=L3.map λy=>V.ref y.c) (λn ys H2=>H2=upd H6 D2 (.lst ys)/\ys=[]) ⟨M,M⟩ (λi ys H2 _ w=>DI.of<|by rw[w.1];exact am d5 _ _ d4) (λu v ys H2 hx w aa=>?_)<|λys H2 w aa=>?_}
 .let{rfl,rfl}:=w;let hu:=(Q1.mp hx).1;let{y,ey,rfl}:=FP hx;let C:=(W6.cs _ y ey).1.C.same (am (o:= .lst []) d5);let{dc,hc}:=C.ob;refine{_,M,y.c,dc,_,M,hc,{_},y.c,a,y.p,y.dd,kd,y.av,y.e,y.X,M,C,M,_,M,?_};rw[rn _ y ey];exact m9 M<|Ni.mk hu aa ⟨M,M⟩
 let{rfl,rfl}:=w;refine{(by show 0<=sizeLine;decide),λe8 eo=>{D2,e8,_,M,M,DI.of<|am eo _ _ aa,DI.of ai,q _}}
end
end SW
namespace ZK
open PySem PySem.W SW L2
def fM{P:Params}{x qual:Str}{st:Stmt}{a:RC}{kV G I z ct:RI}{O:R1}(l:(K P).lookup a=some (f<|D x qual st N kV G I O z ct):=by kernel_rfl)(c:codeIn (K P) z qual=true:=by kernel_rfl)(k:keepIn (K P) (.ref a)=true:=by kernel_rfl):NC (K P) x qual st a (D x qual st N kV G I O z ct):=Lz l c k
def nA{P:Params}{C:RC}{x:Str}(h:findIn (K P) (.ref C) x=some none:=by kernel_rfl):Bt (K P) C x:=h
def fT{P:Params}{x qual:Str}{st:Stmt}{a b:RC}{kV G I z ct:RI}{O:R1}(l:(K P).lookup a=some (f<|D x qual st (R b) kV G I O z ct):=by kernel_rfl)(c:codeIn (K P) z qual=true:=by kernel_rfl)(k:keepIn (K P) (.ref a)=true:=by kernel_rfl):LS (K P) x qual st b a (D x qual st (R b) kV G I O z ct):=Dy l c k
def fU{P:Params}{x qual:Str}{st:Stmt}{a b:RC}{kV G I z ct:RI}{O:R1}(l:(K P).lookup a=some (f<|D x qual st (R b) kV G I O z ct):=by kernel_rfl)(c:codeIn (K P) z qual=true:=by kernel_rfl)(k:keepIn (K P) (.ref a)=true:=by kernel_rfl):OF (K P) x qual st a (D x qual st (R b) kV G I O z ct):=(Dy l c k).1
def LP{P:Params}:(K P).lookup 238=some {(T nI),none,.seq #[(.int 0 488),(.int 65536 489)] 0, #[]}:=by kernel_rfl
def LO{P:Params}:(K P).lookup 265=some {(T nI),none,.seq #[(.int 0 523),N] 0, #[]}:=by kernel_rfl
def LN{P:Params}:(K P).lookup 292=some {(T nI),none,.seq #[N,(.int 0 557)] 0, #[]}:=by kernel_rfl
def LM{P:Params}:(K P).lookup 312=some {(T nI),none,.seq #[(.int 10 583),N] 0, #[]}:=by kernel_rfl
def T424{P:Params}:(K P).lookup 424=some {(T nI),none,.seq #[N] 0, #[]}:=by kernel_rfl
def T439{P:Params}:(K P).lookup 439=some {(T nI),none,.seq #[(.int 10 754)] 0, #[]}:=by kernel_rfl
def T832{P:Params}:(K P).lookup 832=some {(T nI),none,.seq #[(.int 0 1265)] 0, #[]}:=by kernel_rfl
end ZK
namespace SW
open PySem L2
set_option maxHeartbeats 0
variable{α:Type}{YP:World->Heap->Prop}
def Pc{us:List α}(hl:us.length=1):∃z,us=[z]:=by rcases us with _|⟨z,_|⟨y,t⟩⟩<;>first|exact{_,M}|simp at hl
def PP{us:List α}(hl:us.length=2):∃z G,us=[z,G]:=by rcases us with _|⟨z,_|⟨G,_|⟨y,t⟩⟩⟩<;>first|exact{_,_,M}|simp at hl
def Pb{us:List α}(hl:us.length=3):∃z G I,us=[z,G,I]:=by rcases us with _|⟨z,_|⟨G,_|⟨I,_|⟨y,t⟩⟩⟩⟩<;>first|exact{_,_,_,M}|simp at hl
def us4{us:List α}(hl:us.length=4):∃z G I O,us=[z,G,I,O]:=by rcases us with _|⟨z,_|⟨G,_|⟨I,_|⟨O,_|⟨y,t⟩⟩⟩⟩⟩<;>first|exact{_,_,_,_,M}|simp at hl
def us5{us:List α}(hl:us.length=5):∃z G I O U,us=[z,G,I,O,U]:=by rcases us with _|⟨z,_|⟨G,_|⟨I,_|⟨O,_|⟨U,_|⟨y,t⟩⟩⟩⟩⟩⟩<;>first|exact{_,_,_,_,_,M}|simp at hl
open ZK in
def txt{P:Params}{h:Heap}{mg:RU}(X:(ZK.K P).In h)(G:h.Ns mainGlobals mg):Txt (ZK.K P) mg ZK.t:=by
 constructor
 case g_BITS=>exact{364,ZD X G<|by kernel_rfl}
 case g_PLACES=>exact{366,ZD X G<|by kernel_rfl}
 case g_STRETCHES_A_KEY=>exact{581,ZD X G<|by kernel_rfl}
 case g_MOST_IN_LEAF=>exact{860,ZD X G<|by kernel_rfl}
 case g_LEAST_IN_TWO=>exact{862,ZD X G<|by kernel_rfl}
 case g_LEAST_SIZE=>exact{1036,ZD X G<|by kernel_rfl}
 case g_GREATEST_SIZE=>exact{1038,ZD X G<|by kernel_rfl}
 all_goals first
  |exact ZK.fM
  |exact ZD X G<|by kernel_rfl
  |exact{(by kernel_rfl),(by kernel_rfl),(by kernel_rfl)}
  |exact ZK.nA
  |exact .all λus hl=>by let{_,_,rfl}:=PP hl;rfl
  |exact{(by kernel_rfl),(by kernel_rfl),(by kernel_rfl),(by kernel_rfl)}
  |exact .all λus hl=>by let{_,rfl}:=Pc hl;rfl
  |exact GI (by kernel_rfl) (by kernel_rfl) (by kernel_rfl)<|λz=>VE z (_)
  |exact .all λus hl=>by let{_,_,_,rfl}:=Pb hl;rfl
  |exact PySem.W.mg_none_of X G<|by kernel_rfl
  |exact ZK.fU
  |exact{{_,_,_,_,_,_,_,_,_,_,_,_,_,_,{_}},{[ZK.t.bP],M},(by kernel_rfl),(by kernel_rfl),(by kernel_rfl),(by kernel_rfl)}
  |exact GI (by kernel_rfl) (by kernel_rfl) (by kernel_rfl)<|λ_=>M
  |exact .all λus hl=>by let{_,_,_,_,_,rfl}:=us5 hl;rfl
  |exact .all λus hl=>by let{_,_,_,_,rfl}:=us4 hl;rfl
  |exact cV (ds:=[]) 2 M (fT (a:=446)) T439 λ_ _ _ _ _ _ us hl=>by let{_,_,rfl}:=PP hl;exact{_,M,M}
  |exact cV (ds:=[]) 2 M (fT (a:=839)) T832 λ_ _ _ _ _ _ us hl=>by let{_,_,rfl}:=PP hl;exact{_,M,M}
  |exact cV (ds:=[]) 3 M (fT (a:=245)) LP λ_ _ _ _ _ _ us hl=>by let{_,_,_,rfl}:=Pb hl;exact{_,M,M}
  |exact cV (ds:=[]) 3 M (fT (a:=272)) LO λ_ _ _ _ _ _ us hl=>by let{_,_,_,rfl}:=Pb hl;exact{_,M,M}
  |exact cV (ds:=[]) 3 M (fT (a:=299)) LN λ_ _ _ _ _ _ us hl=>by let{_,_,_,rfl}:=Pb hl;exact{_,M,M}
  |exact cV (ds:=[]) 4 M (fT (a:=317)) LM λ_ _ _ _ _ _ us hl=>by let{_,_,_,_,rfl}:=us4 hl;exact{_,M,M}
  |exact cV (ds:=[]) 4 M (fT (a:=431)) T424 λ_ _ _ _ _ _ us hl=>by let{_,_,_,_,rfl}:=us4 hl;exact{_,M,M}
  |exact{_,cV (ds:=[(.int 0 1265)]) 1 M (fT (a:=839)) T832 λ_ _ _ _ _ _ us hl=>by let{_,rfl}:=Pc hl;exact{_,M,M},(.cons {_,M} .nil)}
  |exact{_,cV (ds:=[(.int 0 488),(.int 65536 489)]) 1 M (fT (a:=245)) LP λ_ _ _ _ _ _ us hl=>by let{_,rfl}:=Pc hl;exact{_,M,M},(.cons {_,M}<|.cons {_,M} .nil)}
  |exact{_,cV (ds:=[(.int 0 523),N]) 1 M (fT (a:=272)) LO λ_ _ _ _ _ _ us hl=>by let{_,rfl}:=Pc hl;exact{_,M,M},(.cons {_,M}<|.cons M .nil)}
  |exact{_,cV (ds:=[(.int 0 557)]) 2 M (fT (a:=299)) LN λ_ _ _ _ _ _ us hl=>by let{_,_,rfl}:=PP hl;exact{_,M,M},(.cons {_,M} .nil)}
  |exact{_,cV (ds:=[(.int 10 583),N]) 2 M (fT (a:=317)) LM λ_ _ _ _ _ _ us hl=>by let{_,_,rfl}:=PP hl;exact{_,M,M},(.cons {_,M}<|.cons M .nil)}
  |exact{_,cV (ds:=[(.int 10 754)]) 1 M (fT (a:=446)) T439 λ_ _ _ _ _ _ us hl=>by let{_,rfl}:=Pc hl;exact{_,M,M},(.cons {_,M} .nil)}
  |exact{_,cV (ds:=[(.int 65536 489)]) 2 M (fT (a:=245)) LP λ_ _ _ _ _ _ us hl=>by let{_,_,rfl}:=PP hl;exact{_,M,M},(.cons {_,M} .nil)}
  |exact{_,cV (ds:=[N,(.int 0 557)]) 1 M (fT (a:=299)) LN λ_ _ _ _ _ _ us hl=>by let{_,rfl}:=Pc hl;exact{_,M,M},(.cons M<|.cons {_,M} .nil)}
  |exact{_,cV (ds:=[N]) 2 M (fT (a:=272)) LO λ_ _ _ _ _ _ us hl=>by let{_,_,rfl}:=PP hl;exact{_,M,M},(.cons M .nil)}
  |exact{_,cV (ds:=[N]) 3 M (fT (a:=317)) LM λ_ _ _ _ _ _ us hl=>by let{_,_,_,rfl}:=Pb hl;exact{_,M,M},(.cons M .nil)}
  |exact{_,cV (ds:=[N]) 3 M (fT (a:=431)) T424 λ_ _ _ _ _ _ us hl=>by let{_,_,_,rfl}:=Pb hl;exact{_,M,M},(.cons M .nil)}
  |exact{{_,_,_,_,_,_,_,_,_,_,_,_,_,_,{_}},{[],M},(by kernel_rfl),(by kernel_rfl),(by kernel_rfl),(by kernel_rfl)}
def walk{l:PySem.W.OpenLaw}{q:RN}{loose:RS}{XP:Sn}{d:DefRec}{K:Params->Wp}(U:l.most=some 63)(I:d.params.defaults=[])
  (Y:∀(w:World)(h:Heap),YP w h->(K w.params).In h) (hd:d.name="law")
  (F:∀(w:World)(mg:Str->Option Value)(h:Heap),(K w.params).In h->h.Ns mainGlobals mg->∃t,Txt (K w.params) mg t):
  PySem.W.WalkO q loose XP YP l.row.toRowW d [] (λf vs=>PySem.call f vs):=by
 refine L2.walk_of (n:=63) (k:=12) (x:=ge) (CX:=λ_=>N8) (sp:=λw=>FG<|K w.params) U (_) I {M,(_),(_)} Y (λw mg fa h Z G O=>?_) (λ_ _ a ns hl _ hS=>{a,ns,M,hS,hl,λ_=>M}) λ_ _ _ _ _ z=>z;let{t,T}:=F w mg h Z G;let e:=O.symm.trans ((VS mg hd).trans T.M7);cases e;let{oc,od,kV,a0,pm,an,a1,ct,a2,e1,lk,a3}:=T.MR.ex;refine{t.DH,λs u=>?_,λbase _ _=>K5 T};rw[e1];exact .of_eq M
end SW
open PySem PySem.W PyProof.Rows
set_option maxRecDepth 100000 in
set_option maxHeartbeats 0 in
theorem PySem.Challenge.cw_staywalk_k83_whole_parts_together_holds : PySem.Challenge.rw_staywalk_k83_whole_parts_together.Holds := by
 w_on
 refine holds_law ZK.said λsaid=>?_;refine holds_open (q:=ZK.q) (loose:=["BySlots","Up","Down","ask"]) (Xt:=λs=>xlAt ZK.q [] s&&recOk (RowW.records<|OpenRow.toRowW<|OpenLaw.row PySem.Challenge.rw_staywalk_k83_whole_parts_together) s) (XP:=XL ZK.q []) (Yf:=Hook.obs ZK.H) (Ya:=Hook.val ZK.H) (YP:=Hook.says ZK.H) ZK.left (Hook.of ZK.H) (Hook.keeps ZK.H) (λs e=>xl_of s (QI.mp e).1) XL.keeps {_} {_} {_} (λs e=>recFacts_of (QI.mp e).2) {_} (by first|assumption|decide+kernel) ∅ ⟨M,M,M,M,M,∅⟩ ?hw ?hc
 (case hw=>w_witness2)
 exact SW.walk (l:=PySem.Challenge.rw_staywalk_k83_whole_parts_together) M M (λw h Y=>kIn_of Y) M λw mg h KX G=>⟨_,SW.txt KX G⟩
#print axioms PySem.Challenge.cw_staywalk_k83_whole_parts_together_holds
