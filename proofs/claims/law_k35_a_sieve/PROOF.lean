import PyProof.Rows.All
import PySem.Challenge.RW_staywalk_k35_a_sieve
import KE.KFromBytes
import KE.KIntText
import KE.KPairComp
import KE.KSortTup
import KE.KIsAll
import KE.KDictSum
import KE.KRevIter
import KE.KRevSl
import KE.KEqDict
import KE.KLam
import KE.LcSums
import KE.KDictOf
set_option Elab.async false
set_option linter.all false
set_option maxRecDepth 100000
set_option tactic.hygienic false
set_option compiler.extract_closed false
noncomputable section
local macro_rules (kind:=«term{_}»)|`({$x,*})=>`(⟨$x,*⟩)
local macro_rules|`(tactic|let $p:term:=$e)=>do
 let n:=Lean.Syntax.node .none
 let w:=λs=>n ``Lean.Parser.Tactic.rcasesPatLo #[n ``Lean.Parser.Tactic.rcasesPatMed #[Lean.mkNullNode #[s]],Lean.mkNullNode]
 let r←p.raw.rewriteBottomUpM (m:=Lean.MacroM) λs=>pure (if s.isIdent then w (n ``Lean.Parser.Tactic.rcasesPat.one #[s]) else if s.isOfKind ``Lean.Parser.Term.hole then w (n ``Lean.Parser.Tactic.rcasesPat.ignore #[s[0]]) else if s.isOfKind ``«term{_}» then w (n ``Lean.Parser.Tactic.rcasesPat.tuple s.getArgs) else if s.isOfKind Lean.choiceKind then (s.getArgs.find? (·.isOfKind ``Lean.Parser.Tactic.rcasesPatLo)).getD s else s)
 if r.isOfKind ``Lean.Parser.Tactic.rcasesPatLo then `(tactic|obtain $(⟨r[0]⟩):rcasesPatMed:=$e) else Lean.Macro.throwUnsupported
local macro_rules|`(!$n:num)=>`(nat_lit $n)
local macro_rules|`(tactic|lia)=>`(tactic|omega)
local macro_rules | `(()) => `(by lia)
local macro_rules | `((_)) => `(by decide)
local macro_rules | `(∅) => `(by decide+kernel)
local macro_rules | `({_}) => `(by rfl)
abbrev M:=@rfl
local macro_rules|`(tactic|ac_rfl)=>`(tactic|(first|exact .inl M|exact .inr M|assumption))
local macro_rules|`(tactic|subst_eqs)=>`(tactic|(intro _;rfl))
local macro_rules|`(tactic|and_intros)=>`(tactic|(first|exact Or.inl M|exact Or.inr (Or.inl M)|exact Or.inr<|Or.inr M))
set_option genSizeOf false
set_option maxHeartbeats 0
abbrev Q0:=@List.length_map
abbrev Q1:=@List.mem_of_getElem?
abbrev Q2:=@List.getElem?_eq_some_iff
abbrev Q3:=@List.getElem?_eq_getElem
abbrev Q4:=@List.mem_append
abbrev Q5:=@Nat.le_refl
abbrev Q6:=@List.mem_cons_self
abbrev Q7:=@List.mem_cons
abbrev Q8:=@List.length_append
abbrev Q9:=@List.map_append
abbrev Qa:=@List.mem_singleton
abbrev Qb:=@Array.length_toList
abbrev Qc:=@List.mem_cons_of_mem
abbrev Qd:=@List.length_take
abbrev Qe:=@Int.emod_lt_of_pos
abbrev Qf:=@Int.emod_nonneg
abbrev Qg:=@Bool.false_ne_true
abbrev Qh:=@Nat.zero_le
abbrev Qi:=@List.size_toArray
abbrev Qj:=@List.mem_map
abbrev Qk:=@List.pairwise_append
abbrev Ql:=@List.getElem?_map
abbrev Qm:=@List.getD_eq_getElem?_getD
abbrev Qn:=@List.length_filter_le
abbrev Qo:=@Nat.lt_of_lt_of_le
abbrev Qp:=@List.append_assoc
abbrev Qq:=@PySem.F.plainAttrs_list
abbrev Qr:=@List.length_cons
abbrev Qs:=@List.map_cons
abbrev Qt:=@List.take_add_one
abbrev Qu:=@Nat.le_trans
abbrev Qv:=@List.mem_append_right
abbrev Qw:=@List.getElem?_set
abbrev Qx:=@List.filter_append
abbrev Qy:=@Nat.ne_of_lt
abbrev Qz:=@Array.getElem?_toList
abbrev QA:=@List.mem_filter
abbrev QB:=@List.getElem_of_mem
abbrev QC:=@List.take_of_length_le
abbrev QD:=@Nat.sub_one_lt_of_le
abbrev QE:=@Bool.and_eq_true_iff
abbrev QF:=@List.take_length
abbrev QG:=@Array.toList_append
abbrev QH:=@List.length_set
abbrev QI:=@Option.map_eq_some_iff
abbrev QJ:=@List.take_append_drop
abbrev QK:=@List.mem_map_of_mem
abbrev QL:=@List.length_drop
abbrev QM:=@Bool.and_eq_true
abbrev QN:=@List.all_eq_true
abbrev QO:=@Nat.max_eq_right
abbrev QP:=@List.nodup_cons
abbrev QQ:=@Int.toNat_natCast
abbrev QR:=@List.map_map
abbrev QS:=@List.pairwise_map
abbrev QT:=@List.getElem?_append_right
abbrev QU:=@Nat.lt_of_le_of_ne
abbrev QV:=@Nat.le_of_lt
abbrev QW:=@Int.ne_of_gt
abbrev QX:=@List.lookup_cons
abbrev QY:=@List.getElem?_append_left
abbrev QZ:=@List.extract_eq_take_drop
abbrev Z0:=@PySem.F.slot_list_append
abbrev Z1:=@PySem.F.type_list_append
abbrev Z2:=@Nat.le_of_eq
abbrev Z3:=@PySem.W.kia_one
abbrev Z4:=@List.not_mem_nil
abbrev Z5:=@List.length_pos_iff
abbrev Z6:=@List.length_reverse
abbrev Z7:=@List.drop_eq_getElem_cons
abbrev Z8:=@List.pairwise_iff_getElem
abbrev Z9:=@Nat.add_lt_of_lt_sub'
abbrev Za:=@List.pairwise_cons
abbrev Zb:=@List.mem_of_mem_eraseIdx
abbrev Zc:=@Array.toList_extract
abbrev Zd:=@List.mem_of_mem_take
abbrev Ze:=@Int.eq_ofNat_of_zero_le
abbrev Zf:=@List.pairwise_singleton
abbrev Zg:=@List.flatten_cons
abbrev Zh:=@List.flatten_append
abbrev Zi:=@List.drop_eq_nil_of_le
abbrev Zj:=@List.mem_reverse
abbrev Zk:=@List.getElem_mem
abbrev Zl:=@List.nodup_nil
abbrev Zm:=@Bool.false_eq_true
abbrev Zn:=@List.length_replicate
abbrev Zo:=@List.length_singleton
abbrev Zp:=@List.getElem?_eq_none_iff
abbrev Zq:=@List.ne_nil_of_length_pos
abbrev Zr:=@Nat.lt_irrefl
abbrev Zs:=@List.eq_of_mem_replicate
abbrev Zt:=@PySem.W.mg_of
abbrev Zu:=@List.map_congr_left
abbrev Zv:=@List.drop_zero
abbrev Zw:=@PySem.F.plainAttrs_dict
abbrev Zx:=@Nat.le_succ
abbrev Zy:=@PySem.W.callWith_K
abbrev Zz:=@Nat.eq_zero_or_pos
abbrev ZA:=@List.filter_eq_nil_iff
abbrev ZB:=@PySem.W.methodCall_KW
abbrev ZC:=@List.lookup_cons_self
abbrev ZD:=@Int.le_refl
abbrev ZE:=@Nat.lt_succ_self
abbrev ZF:=@List.mem_flatMap
abbrev ZG:=@Nat.add_le_add_left
abbrev ZH:=@PySem.F.slot_list_extend
abbrev ZI:=@PySem.F.type_list_extend
abbrev ZJ:=@List.map_take
abbrev ZL:=@List.append_nil
abbrev ZM:=@List.find?_cons
abbrev ZN:=@Nat.ne_of_gt
abbrev ZO:=@List.take_sublist
abbrev ZP:=@Nat.pow_succ
abbrev ZQ:=@Nat.add_zero
abbrev ZR:=@List.getElem_drop
abbrev ZS:=@List.getElem_take
abbrev ZT:=@Nat.zero_lt_of_lt
abbrev ZU:=@Bool.eq_false_iff
abbrev ZV:=@List.perm_append_comm
abbrev ZW:=@List.filter_cons
abbrev ZX:=@List.any_cons
abbrev ZY:=@List.mem_append_left
abbrev ZZ:=@List.mem_iff_getElem
abbrev X0:=@Array.push_eq_append
abbrev X1:=@List.mem_of_mem_drop
abbrev X2:=@Int.lt_ediv_add_one_mul_self
abbrev X3:=@Nat.mul_comm
abbrev X4:=@Nat.lt_of_le_of_lt
abbrev X5:=@Nat.pos_of_ne_zero
abbrev X6:=@List.getElem?_drop
abbrev X7:=@Array.perm_iff_toList_perm
abbrev X8:=@Int.mul_nonneg
abbrev X9:=@List.getElem?_zip_eq_some
abbrev Xa:=@Nat.le_pred_of_lt
abbrev Xb:=@Option.isSome_iff_exists
abbrev Xc:=@List.getElem?_take_of_lt
abbrev Xd:=@PySem.F.slot_dict_items
abbrev Xe:=@List.getElem?_cons_succ
abbrev Xf:=@List.getElem?_set_self
abbrev Xg:=@Nat.div_div_eq_div_mul
abbrev Xh:=@Nat.zero_add
abbrev Xi:=@Bool.eq_iff_iff
abbrev Xj:=@List.of_mem_zip
abbrev Xk:=@Option.map_some
abbrev Xl:=@Nat.min_eq_left
abbrev Xm:=@PySem.F.slot_dict_pop
abbrev Xn:=@Int.mul_ediv_add_emod
abbrev Xo:=@Array.getElem_push_lt
abbrev Xp:=@List.pairwise_reverse
abbrev Xq:=@Array.toArray_toList
abbrev Xr:=@Bool.false_and
abbrev Xs:=@Nat.add_le_add_right
abbrev Xu:=@List.getElem?_append
abbrev Xv:=@List.length_eraseIdx
abbrev Xw:=@List.filterMap_cons
abbrev Xx:=@PySem.W.plainGet_of
abbrev Xy:=@PySem.W.callWith_K0
abbrev Xz:=@Int.toNat_of_nonneg
abbrev XA:=@List.take_succ_cons
abbrev XB:=@List.map_drop
abbrev XC:=@List.take_nil
abbrev XD:=@Int.natCast_nonneg
abbrev XE:=@Nat.lt_or_eq_of_le
abbrev XF:=@List.eraseIdx_append_of_length_le
abbrev XG:=@List.map_nil
abbrev XH:=@Option.isSome_map
abbrev XI:=@Int.mul_comm
abbrev XJ:=@Int.le_of_lt
abbrev XM:=@Nat.lt_of_succ_lt
abbrev XN:=@Nat.sub_pos_of_lt
abbrev XO:=@Array.toList_push
abbrev XQ:=@List.map_id'
abbrev XR:=@List.filter_congr
abbrev XS:=@List.eraseIdxIfInBounds_toArray
abbrev XT:=@Nat.le_of_not_lt
abbrev XU:=@PySem.W.kat_cons
abbrev XV:=@List.mem_flatten
abbrev XW:=@Int.mul_le_mul_of_nonneg_right
abbrev XX:=@Int.mul_le_mul_of_nonneg_left
abbrev XY:=@List.take_append_of_le_length
abbrev XZ:=@Nat.not_lt_zero
abbrev K0:=@PySem.F.slot_dict_setdefault
abbrev K2:=@Int.ediv_nonneg
abbrev K3:=@PySem.W.kat_yes
abbrev K4:=@List.mem_range
abbrev K5:=@Int.fdiv_eq_ediv_of_nonneg
abbrev K7:=@List.drop_drop
abbrev K8:=@Nat.sub_le
abbrev K9:=@Array.toList_setIfInBounds
abbrev Ka:=@PySem.W.kat_go
abbrev Kb:=@PySem.W.kat_no
abbrev Kc:=@if_neg
abbrev Kd:=@if_pos
abbrev Ke:=@PyProof.Rows.wpS_bind
abbrev Kf:=@Option.some.inj
abbrev Kg:=@PySem.Heap.get?_push_of_some
abbrev Kh:=@absurd
abbrev Ki:=@PyProof.Rows.wpS_pure
abbrev Kj:=@of_decide_eq_true
abbrev Kk:=@PySem.wpAny_bind
abbrev Kl:=@PySem.Heap.lt_size
abbrev Km:=@decide_eq_true
abbrev Kn:=@beq_eq_false_iff_ne
abbrev Ko:=@PySem.Heap.get?_push_size
abbrev Kp:=@beq_iff_eq
abbrev Kq:=@decide_eq_true_eq
abbrev Kr:=@decide_eq_false
abbrev Ks:=@congrArg
abbrev Kt:=@PySem.wpAny_pure
abbrev Ku:=@True.intro
abbrev Kv:=@PyProof.Rows.wpS_forRange
abbrev Kw:=@PySem.PassesOwn.never
abbrev Kx:=@List.Pairwise.nil
abbrev Ky:=@of_decide_eq_false
abbrev Kz:=@PySem.wpAny_Call_Name_kw
abbrev KA:=@PySem.wpAny_truthy_bool
abbrev KB:=@PySem.wpAny_mono
abbrev KC:=@List.Perm.append_right
abbrev KD:=@List.Perm.trans
abbrev KF:=@PyProof.Rows.wpS_modify
abbrev KG:=@PySem.wpAny_passesOwn
abbrev KH:=@beq_self_eq_true
abbrev KI:=@List.Perm.of_eq
abbrev KJ:=@List.Perm.append_left
abbrev KK:=@Prod.mk.inj
abbrev KL:=@PySem.Heap.get?_update_other
abbrev KM:=@PyProof.Rows.wpS_mono
abbrev KN:=@PySem.wpAny_holding
abbrev KO:=@PyProof.Rows.wpS_get
abbrev KP:=@PySem.wpAny_rule
abbrev KQ:=@PySem.Heap.get?_none_of_le
namespace L2
open PySem PySem.Spec PyProof.Rows
noncomputable def aG(s:Stmt)(j:Nat):Stmt:=match s with
 | .ClassDef _ _ _ body _ _ _ _ _ _ _=>body.getD j (.Pass {0,0,0,0})
 |_=> .Pass {0,0,0,0}
noncomputable def dY(s:Stmt):Arguments:=match s with
 | .FunctionDef _ a _ _ _ _ _ _ _ _=>a
 |_=>{posonlyargs:=[],args:=[],vararg:=none,kwonlyargs:=[],kw_defaults:=[],kwarg:=none,defaults:=[]}
noncomputable def bZ(s:Stmt):List Stmt:=match s with
 | .FunctionDef _ _ b _ _ _ _ _ _ _=>b
 |_=> []
noncomputable def ai(s:Stmt):Scope:=match s with
 | .FunctionDef _ _ _ _ _ _ sc _ _ _=>sc
 |_=>{kind:= .function,names:=[],isGenerator:=false,isCoroutine:=false}
end L2
namespace HD
open PySem PySem.W
abbrev _root_.Ln:=Program
abbrev _root_.Lp:=World
noncomputable def DW(p:Ln)(w:Lp)(n₀:Nat)(ann:Option Value):Nat->SharedT->Thread->Option SharedT
 |0,_,_=>none
 |n+1,s,t=>match through t with
  |true=>some s
  |false=>match Fast.tw6613529449190102663 n₀ ann t with
   |false=>none
   |true=>match Fast.tw10156331382660048174 (Fast.tw11892475500146522536 Fast.tw14364793385576792824) p w s t with
    |some (s',t')=>DW p w n₀ ann n s' t'
    |none=>none
def DV{p:Ln}{w:Lp}{z:Nat}{G:Option Value}{n:Nat}{s s':SharedT}{t:Thread}(h:DW p w z G n s t=some s'):topRun treeTable p w z G n s.abs t=some s'.abs:=by
 induction n generalizing s t with
 |zero=>cases h
 |succ n O=>
  unfold DW at h;rw[<-Fast.te6613529449190102663,<-Fast.te10156331382660048174,<-Fast.te11892475500146522536,<-Fast.te14364793385576792824]at h;unfold topRun;cases I:through t with
  |true=>rw[I]at h;cases h;rfl
  |false=>
   rw[I]at h;cases hk:stepOk z G t with
   |false=>rw[hk]at h;cases h
   |true=>
    rw[hk]at h;cases hs:stepT (denote treeTable) p w s t with
    |none=>rw[hs]at h;cases h
    |some x=>
     let{U,W}:=x;rw[hs]at h;show(match step (denote treeTable) p w s.abs t with| .go s' t'=>topRun treeTable p w z G n s' t'| .halt _ _=>none)=_;rw[stepT_spec hs];exact O h
noncomputable def Cn:List Obj->BT->Nat->Option (BT×Nat)
 | [],t,n=>some (t,n)
 |o::r,t,n=>match ((t.ins n o).get n).isSome with
  |true=>Cn r (t.ins n o) (n+1)
  |false=>none
theorem zg{z:Life}:∀{l:List Obj}{t t':BT}{n n':Nat},Cn l t n=some (t',n')->absHeap t' n' z={(absHeap t n z).objs++l.toArray,z}
 | [],t,t',n,n',h=>by
  cases h;rw[Array.append_empty];rfl
 |o::r,t,t',n,n',h=>by
  unfold Cn at h;cases g:((t.ins n o).get n).isSome with
  |false=>rw[g]at h;cases h
  |true=>
   rw[g]at h;rw[zg h,absHeap_ins g];show Heap.mk _ _=Heap.mk _ _;congr 1;show(absHeap t n z).objs.push o++r.toArray=_;rw[<-Array.append_singleton,Array.append_assoc];congr 1;simp
abbrev _root_.K':=Shared
def toT(s:K'):Option SharedT:=match Cn s.heap.objs.toList .nil 0 with
 |some (t,n)=>some ⟨t,n,s.heap.life,s.gens,s.drawn,s.toks,s.os⟩
 |none=>none
def FM{s:K'}{S:SharedT}(h:toT s=some S):S.abs=s:=by
 unfold toT at h;cases e:Cn s.heap.objs.toList .nil 0 with
 |none=>rw[e]at h;cases h
 |some x=>
  let{t,n}:=x;rw[e]at h;cases h;let{{G,z},gens,drawn,toks,os}:=s;show Shared.mk (absHeap t n z) _ _ _ _=_;rw[zg e];show Shared.mk (Heap.mk (#[]++G.toList.toArray) z) _ _ _ _=_;rw[Xq,Array.empty_append]
def GX(p:Ln)(w:Lp)(N:Nat)(s₀:K'):Option Shared:=match toT s₀ with
 |some S=>(DW p w S.n (s₀.heap.nsMap mainGlobals "__annotations__") N S<|topStub p).map SharedT.abs
 |none=>none
def EA{p:Ln}{w:Lp}{N:Nat}{s₀ s₁:K'}(h:GX p w N s₀=some s₁):topRun treeTable p w s₀.heap.objs.size (s₀.heap.nsMap mainGlobals "__annotations__") N s₀ (topStub p)=some s₁:=by
 unfold GX at h;cases e:toT s₀ with
 |none=>rw[e]at h;cases h
 |some S=>
  rw[e]at h;let{I,h1,rfl}:=QI.mp h;have z:=FM e;have G:S.n=s₀.heap.objs.size:=by
   rw[<-z];exact(absHeap_size _ _ _).symm
  rw[G]at h1;have:=DV h1;rw[z]at this;exact this
def endP(p:Ln)(w:Lp)(N:Nat):Option Shared:=((Fast.tw10274390034422433532 Fast.tw14364793385576792824 (opening p) w N (start<|opening p).1 (start<|opening p).2).bind<|Fast.tw14289696077712309145 p).bind λs₀=>match s₀.heap.isNs mainGlobals&&s₀.gens.size==0 with
 |true=>(GX p w N s₀).bind λs₁=>match staticsOk (importedModules p.main.body) s₀.heap s₁.heap&&namesBound p s₁.heap&&gensDone s₁&&laidKept s₀.heap s₁.heap with
  |true=>some s₁
  |false=>none
 |false=>none
noncomputable def gA(q:Ln)(s:K'):=(Fast.tw5160383126252970620 (R.mapR (λx=>x.name)<|Fast.tw3399658132070893891 q) (Fast.tw5991557255702980513 q) [] {s with gens:= #[]},s.heap.bltView)
abbrev _root_.Lq:=List Str
noncomputable def gB(p q:Ln)(loose:Lq)(Xt:Shared->Bool)(s:K'):=(Fast.tw10880121769531294198 s.heap (Fast.tw821141287760084731 q loose) (R.mapR (λx=>x.name)<|Fast.tw3399658132070893891 q) (R.mapR (λx=>x.fst)<|Fast.tw7409074990110511671 q) (R.mapR (λx=>x.name)<|Fast.tw13664370479719496447 q<|Fast.tw821141287760084731 q loose)&&Fast.tw14722251495701143533 s.heap (importedModules p.main.body)&&s.heap.isNs mainGlobals&&s.heap.isNs builtinsNs&&Fast.tw10994771534591457954 q s.heap&&Xt s&&(s.gens.size==0),Fast.tw479339242167458305 q s)
noncomputable def gC(q:Ln)(loose:Lq)(s:K'):=(Fast.tw16090120013241838585 q (Fast.tw3247288618530077131 q) s,Fast.tw2386780881361962483 q (Fast.tw821141287760084731 q loose) s,Fast.tw11698064438423848299 q loose s,Fast.tw7317090234206586261 q s,Fast.tw7369524293546568484 q loose s)
def left_of{p q:Ln}{loose:Lq}{Xt:Shared->Bool}{α:Type}{Yf:Shared->α}{Ya:World->α}{N:Nat}(O:∀w,(endP p w N).map (λs=>((gA q s,gB p q loose Xt s),gC q loose s))=some ((((openGood q loose).1,(openGood q loose).2.1),(true,true)),(openGood q loose).2.2.2.2))(hD:∀w,(endP p w N).map Yf=some (Ya w)):LeftO p q loose Xt Yf Ya N:=λw=>by
 let{s₁,e,z}:=QI.mp (O w);let{U,c}:=KK z;let{a,b}:=KK U;let{_,G,d}:=QI.mp (hD w);rw[e]at G;cases G;let{W,Y}:=KK a;let{Z,b2}:=KK b;have g:Fast.tw4187177175401517315 q loose (importedModules p.main.body) Xt true s₁=openGood q loose:=by
  exact Prod.ext W<|Prod.ext Y (Prod.ext Z<|Prod.ext b2 c)
 rw[<-Fast.te4187177175401517315]at g;unfold endP at e;rw[<-Fast.te10274390034422433532,<-Fast.te14364793385576792824,<-Fast.te14289696077712309145]at e;let{s₀,h0,e}:=Option.bind_eq_some_iff.mp e;unfold openEnds fencedOpening;rw[h0];show(topFrom treeTable p w N s₀).map _=_;unfold topFrom;cases I:(s₀.heap.isNs mainGlobals&&s₀.gens.size==0)with
 |false=>rw[I]at e;cases e
 |true=>
  rw[I]at e;let{s₂,h1,e}:=Option.bind_eq_some_iff.mp e;show Option.map _ ((topRun treeTable p w s₀.heap.objs.size (s₀.heap.nsMap mainGlobals "__annotations__") N s₀<|topStub p).bind _)=_;rw[EA h1];cases hs:(staticsOk (importedModules p.main.body) s₀.heap s₂.heap&&namesBound p s₂.heap&&gensDone s₂&&laidKept s₀.heap s₂.heap)with
  |false=>rw[hs]at e;cases e
  |true=>
   rw[hs]at e;cases e;show Option.map _ (match (staticsOk (importedModules p.main.body) s₀.heap s₁.heap&&namesBound p s₁.heap&&gensDone s₁&&laidKept s₀.heap s₁.heap)with|true=>some s₁|false=>none)=_;rw[hs];show some (_,_)=some (_,_);rw[g,d]
def two{α β:Type}{o:Option Shared}{f:Shared->α}{g:Shared->β}{a:α}{b:β}(h:o.map (λs=>(f s,g s))=some (a,b)):o.map f=some a/\o.map g=some b:=by
 cases o with
 |none=>cases h
 |some s=>
  have h:=KK (Kf h);exact{Ks some h.1,Ks some h.2}
end HD
namespace SW
open PySem L2
set_option maxHeartbeats 0
noncomputable def top(i:Nat):Stmt:=PySem.Challenge.pw_staywalk_k35_a_sieve.main.body.getD i (.Pass {0,0,0,0})
abbrev kT:=aG (top 4) 0
abbrev kS:=aG (top 5) 0
abbrev jw:=aG (top 6) 0
abbrev g9:=aG (top 7) 0
abbrev qN:=top 11
abbrev oj:=top 12
abbrev lW:=top 13
abbrev oh:=top 14
abbrev iA:=top 15
abbrev oi:=top 16
abbrev lX:=top 18
abbrev oo:=top 20
abbrev oe:=top 21
abbrev gr:=aG (top 22) 0
abbrev fE:=aG (top 22) 1
abbrev eF:=aG (top 23) 0
abbrev hI:=aG (top 23) 1
abbrev lY:=aG (top 24) 0
abbrev jv:=aG (top 24) 1
abbrev iK:=aG (top 25) 0
abbrev gH:=aG (top 25) 1
abbrev yU:=top 28
abbrev eE:=top 29
abbrev dh:=top 30
abbrev dj:=top 31
abbrev jt:=top 32
abbrev fw:=top 33
abbrev fF:=aG (top 37) 0
abbrev dU:=aG (top 37) 1
abbrev dw:=aG (top 37) 2
abbrev gy:=aG (top 37) 3
abbrev jy:=aG (top 37) 4
abbrev bU:=aG (top 37) 6
abbrev bI:=aG (top 37) 7
abbrev du:=aG (top 37) 8
abbrev cx:=aG (top 37) 9
abbrev b8:=aG (top 37) 10
abbrev gx:=aG (top 39) 0
abbrev gw:=aG (top 39) 1
abbrev gd:=top 43
abbrev gu:=aG (top 44) 0
abbrev iF:=aG (top 44) 1
abbrev gv:=aG (top 44) 2
abbrev iH:=aG (top 44) 3
abbrev iG:=aG (top 44) 4
abbrev dS:=aG (top 44) 6
abbrev jx:=aG (top 44) 7
abbrev cI:=aG (top 44) 9
abbrev gs:=aG (top 44) 10
abbrev dN:=aG (top 44) 11
abbrev dn:=aG (top 44) 12
abbrev cQ:=aG (top 44) 13
abbrev cR:=aG (top 44) 14
abbrev gE:=aG (top 46) 0
abbrev iI:=aG (top 46) 1
abbrev gF:=aG (top 46) 2
abbrev iJ:=aG (top 46) 3
abbrev mO:=aG (top 46) 4
abbrev gG:=aG (top 46) 15
abbrev fB:=top 48
abbrev iD:=top 49
abbrev fz:=top 51
abbrev ju:=top 52
abbrev iE:=top 53
abbrev cw:=top 54
abbrev fA:=top 55
abbrev iC:=top 56
abbrev gp:=top 58
abbrev iB:=top 59
abbrev yT:=top 60
set_option genInjectivity false in
structure IT where
 xy:Addr
 rR:FuncData
 uX:Addr
 oN:FuncData
 rZ:Addr
 mt:FuncData
 uV:Addr
 oK:FuncData
 nI:Addr
 iU:FuncData
 uW:Addr
 oM:FuncData
 r6:Addr
 mw:FuncData
 uY:Addr
 oO:FuncData
 uU:Addr
 oJ:FuncData
 g7:Addr
 gL:FuncData
 cp:Addr
 fV:FuncData
 je:Addr
 bP:FuncData
 sd:Addr
 fS:FuncData
 pq:Addr
 j3:FuncData
 nU:Addr
 dI:FuncData
 lM:Addr
 g6:FuncData
 FC:Addr
 uJ:FuncData
 jd:Addr
 eJ:FuncData
 kg:Addr
 fO:FuncData
 kh:Addr
 fP:FuncData
 pe:Addr
 jX:FuncData
 kf:Addr
 fN:FuncData
 kr:Addr
 fW:FuncData
 lI:Addr
 gW:FuncData
 gl:Addr
 dH:FuncData
 lH:Addr
 gU:FuncData
 gk:Addr
 dG:FuncData
 eU:Addr
 cG:FuncData
 gj:Addr
 dF:FuncData
 eT:Addr
 cE:FuncData
 eC:Addr
 cm:FuncData
 lG:Addr
 gT:FuncData
 lF:Addr
 gR:FuncData
 pf:Addr
 jY:FuncData
 lD:Addr
 gP:FuncData
 nO:Addr
 iZ:FuncData
 lE:Addr
 gQ:FuncData
 nR:Addr
 i5:FuncData
 nQ:Addr
 i4:FuncData
 lC:Addr
 gO:FuncData
 lB:Addr
 gN:FuncData
 lw:Addr
 gM:FuncData
 iy:Addr
 dP:FuncData
 gi:Addr
 dE:FuncData
 fY:Addr
 cW:FuncData
 fZ:Addr
 cX:FuncData
 lJ:Addr
 gX:FuncData
 nS:Addr
 i6:FuncData
 lK:Addr
 gY:FuncData
 nT:Addr
 i7:FuncData
 lL:Addr
 gZ:FuncData
 kq:Addr
 fR:FuncData
 nM:Addr
 iX:FuncData
 r9:Addr
 my:FuncData
 pj:Addr
 jZ:FuncData
 nN:Addr
 iY:FuncData
 eS:Addr
 cC:FuncData
 ko:Addr
 fQ:FuncData
 nK:Addr
 iW:FuncData
 d7:Addr
 cM:FuncData
 nJ:Addr
 iV:FuncData
 FB:Addr
 xn:FuncData
 bK:Addr
 kL:Addr
 dZ:Addr
 aQ:Addr
 cY:Addr
 bG:Addr
 a9:Addr
 d6:Addr
 aP:Addr
 a6:Addr
 bS:Addr
end SW
namespace ZK
open PySem PySem.W SW L2
noncomputable abbrev N:Value:= .none
noncomputable abbrev Jb(b:Bool):Value:= .bool b
noncomputable abbrev I(i:Int):Value:= .int i 0
noncomputable abbrev S(x:Str)(t:Nat):Value:= .str x t
noncomputable abbrev F(t:Nat):Value:= .str "/claim/cut.py" t
abbrev _root_.G':=Addr
noncomputable abbrev R(a:G'):Value:= .ref a
noncomputable abbrev T(n:String):Value:= .type n
abbrev _root_.Lg:=Value
noncomputable abbrev E(P:Params)(x:Str)(t:Nat)(v:Lg):DictEntry:={PyData.keyHash P x,.str x t,v}
abbrev _root_.Lj:=List Value
noncomputable abbrev c(vs:Lj):Obj:={.type "code",none,.fields vs.toArray, #[]}
abbrev o(n:Str)(a:Nat)(m:Str)(b d:Nat)(e g h i j:Int)(k:G')(l:Int)(r s t u:G')(v w:Int)(x:Nat):Obj:=c [S n a,S m b,F d,I e,I g,I h,I i,I j,R k,Jb true,I l,R r,N,R s,R t,R u,I v,I w,F x]
abbrev _root_.Lz:=Option Addr
abbrev D(nm qn:Str)(s:Stmt)(df kV dc pm:Lg)(an:Lz)(cd ct:Lg):FuncData:=fnOf nm qn (dY s) (bZ s) (ai s) df kV dc pm an cd ct
abbrev _root_.Lw:=FuncData
noncomputable abbrev f(d:Lw):Obj:={.type "function",none,.func d, #[]}
abbrev d10:=λx q s r=>D x q s N N N (S "law_staywalk_k35_a_sieve" 1123) none (R r) N
abbrev d11:=λx q s r=>D x q s N N N (S "staywalk.asks" 554) none (R r) N
abbrev d12:=λx q s r=>D x q s N N N (S "staywalk.bits" 330) none (R r) N
abbrev d13:=λx q s r=>D x q s N N N (S "staywalk.house" 946) none (R r) N
abbrev d14:=λx q s r=>D x q s N N N (S "staywalk.leaves" 607) none (R r) N
abbrev d15:=λx q s r=>D x q s N N N (S "staywalk.makes" 720) none (R r) N
abbrev d16:=λx q s r=>D x q s N N N (S "staywalk.slots" 783) none (R r) N
abbrev d17:=λx q s r=>D x q s N N N (S "staywalk.tokens" 394) none (R r) N
def t:IT:={129,d12 "turned" "turned" qN 128,136,d12 "mark_of" "mark_of" oj 135,143,d12 "place_of" "place_of" lW 142,150,d12 "slot_of" "slot_of" oh 149,157,d12 "stretch_of" "stretch_of" iA 156,164,d12 "slot_at" "slot_at" oi 163,171,D "is_whole" "is_whole" lX N N N (S "staywalk.wholes" 385) none (R 170) N,178,d17 "is_from" "is_from" oo 177,185,d17 "word_of" "word_of" oe 184,199,d17 "__init__" "Token.__init__" gr 198,206,d17 "words" "Token.words" fE 205,228,D "__init__" "BySlots.__init__" eF (R 221) N N (S "staywalk.tokens" 394) none (R 227) N,255,D "__init__" "Up.__init__" lY (R 248) N N (S "staywalk.tokens" 394) none (R 254) N,262,d17 "holds" "Up.holds" jv 261,282,D "__init__" "Down.__init__" iK (R 275) N N (S "staywalk.tokens" 394) none (R 281) N,289,d17 "holds" "Down.holds" gH 288,300,D "ask" "ask" yU (R 295) N N (S "staywalk.asks" 554) none (R 299) N,307,d11 "page_by_slots" "page_by_slots" eE 306,312,d11 "page_by_keys" "page_by_keys" dh 311,317,d11 "keys_of_page" "keys_of_page" dj 316,324,d11 "keys_near" "keys_near" jt 323,331,d11 "token_behind" "token_behind" fw 330,345,d14 "__init__" "Leaves.__init__" fF 344,350,d14 "add" "Leaves.add" dU 349,357,d14 "discard" "Leaves.discard" dw 356,364,d14 "has" "Leaves.has" gy 363,381,d14 "from_on" "Leaves.from_on" bU 380,386,d14 "down_from" "Leaves.down_from" bI 385,393,d14 "leaf_of" "Leaves.leaf_of" du 392,400,d14 "part_leaf" "Leaves.part_leaf" cx 399,407,d14 "join_small" "Leaves.join_small" b8 406,428,d15 "__init__" "Makes.__init__" gx 427,435,d15 "note" "Makes.note" gw 434,468,d16 "empty_row" "empty_row" gd 467,482,d16 "__init__" "Slots.__init__" gu 481,489,d16 "put" "Slots.put" iF 488,496,d16 "drop" "Slots.drop" gv 495,503,d16 "get" "Slots.get" iH 502,510,d16 "has" "Slots.has" iG 509,522,d16 "rows" "Slots.rows" dS 521,541,d16 "span" "Slots.span" cI 540,548,d16 "stop" "Slots.stop" gs 547,555,d16 "cell_of" "Slots.cell_of" dN 554,562,d16 "lying_at" "Slots.lying_at" dn 561,569,d16 "move_slot" "Slots.move_slot" cQ 568,576,d16 "begin_row" "Slots.begin_row" cR 575,597,d13 "__init__" "House.__init__" gE 596,604,d13 "put" "House.put" iI 603,611,d13 "drop" "House.drop" gF 610,618,d13 "get" "House.get" iJ 617,704,d13 "done" "House.done" gG 703,732,d10 "_law_cell_at" "_law_cell_at" fB 731,739,d10 "_law_mixed" "_law_mixed" iD 738,751,d10 "_law_run" "_law_run" fz 750,758,d10 "_law_deed" "_law_deed" ju 757,765,d10 "_law_house" "_law_house" iE 764,772,d10 "_law_numbers_told" "_law_numbers_told" cw 771,779,d10 "_law_numbers" "_law_numbers" fA 778,786,d10 "_law_token" "_law_token" iC 785,800,d10 "_law_answer" "_law_answer" gp 799,807,d10 "_law_words" "_law_words" iB 806,812,d10 "law" "law" yT 811,31,44,209,238,265,292,410,459,579,721,809}
abbrev ob(n m:Str)(a:Nat)(e g:Int)(k:G')(v:Nat):=o n a m (a+1) (a+2) e g 0 0 3 k 181 (k+1) (k+2) (k+3) (k+4) v e (v+1)
abbrev oa(n:Str):=ob n n
abbrev ea(P:Params)(x:Str)(t:Nat)(a:G'):=E P x t (R a)
def K:Params->Frag:=λP=>(!2,{N,none,.dict #[] 0, #[]})::
(!3,{(T "dict"),none,.dict #[E P "__name__" 165 (S "law_staywalk_k35_a_sieve" 1123),E P "__doc__" 166 N,E P "__package__" 167 N,E P "__loader__" 168 (.builtin "__main__.__loader__#opaque"),E P "__spec__" 169 N,ea P "__annotations__" 170 6,ea P "__builtins__" 171 4,E P "__file__" 173 (S "/claim/cut.py" 172),E P "__cached__" 174 N,ea P "_wall" 193 21,ea P "WalkError" 213 31,ea P "NoToken" 229 44,ea P "NoKey" 254 63,ea P "Twice" 279 82,ea P "TooOld" 304 101,ea P "NoMoment" 329 120,E P "BITS" 333 (.int 16 332),E P "PLACES" 335 (.int 65536 334),ea P "turned" 345 129,ea P "mark_of" 352 136,ea P "place_of" 359 143,ea P "slot_of" 367 150,ea P "stretch_of" 376 157,ea P "slot_at" 384 164,ea P "is_whole" 393 171,ea P "is_from" 403 178,ea P "word_of" 410 185,ea P "Token" 450 209,ea P "BySlots" 485 238,ea P "Up" 519 265,ea P "Down" 553 292,E P "STRETCHES_A_KEY" 557 (.int 4 556),ea P "ask" 564 300,ea P "page_by_slots" 577 307,ea P "page_by_keys" 583 312,ea P "keys_of_page" 589 317,ea P "keys_near" 598 324,ea P "token_behind" 606 331,E P "MOST_IN_LEAF" 610 (.int 8 609),E P "LEAST_IN_TWO" 612 (.int 5 611),ea P "Leaves" 719 410,ea P "Makes" 782 459,E P "LEAST_SIZE" 786 (.int 4 785),E P "GREATEST_SIZE" 788 (.int 256 787),ea P "empty_row" 794 468,ea P "Slots" 945 579,ea P "House" 1122 721,ea P "_law_cell_at" 1132 732,ea P "_law_mixed" 1141 739,ea P "_law_place" 1151 746,ea P "_law_run" 1157 751,ea P "_law_deed" 1169 758,ea P "_law_house" 1179 765,ea P "_law_numbers_told" 1189 772,ea P "_law_numbers" 1201 779,ea P "_law_token" 1208 786,ea P "_law_holds" 1219 793,ea P "_law_answer" 1229 800,ea P "_law_words" 1236 807,ea P "law" 1242 812] 60, #[]})::
(!4,{(T "module"),(some 0),.plain, #[]})::
(!30,{(T "dict"),none,.dict #[E P "__module__" 203 (S "staywalk.errors" 194),E P "__firstlineno__" 207 (.int 5 206),ea P "__static_attributes__" 208 29,ea P "__weakref__" 210 32,E P "__doc__" 211 N] 3, #[]})::
(!31,{(T "type"),none,.cls {"WalkError",[(T "ValueError")],[(R 31),(T "ValueError"),(T "Exception"),(T "BaseException"),(T "object")],30,"WalkError",true,[],[(R 44),(R 63),(R 82),(R 101),(R 120)],false,none,false}, #[some (R 22),none,some (S "WalkError" 196),some (S "WalkError" 204),some (.builtin "ValueError.__new__"),some (Jb true)]})::
(!43,{(T "dict"),none,.dict #[E P "__module__" 221 (S "staywalk.errors" 194),E P "__firstlineno__" 225 (.int 7 224),ea P "__static_attributes__" 226 42,E P "__doc__" 227 N] 2, #[]})::
(!44,{(T "type"),none,.cls {"NoToken",[(R 31)],[(R 44),(R 31),(T "ValueError"),(T "Exception"),(T "BaseException"),(T "object")],43,"NoToken",true,[],[],false,none,false}, #[some (R 35),none,some (S "NoToken" 214),some (S "NoToken" 222),some (.builtin "ValueError.__new__"),some (Jb true)]})::
(!128,oa "turned" 336 32 1 123 343)::
(!129,f t.rR)::
(!135,oa "mark_of" 346 39 1 130 350)::
(!136,f t.oN)::
(!142,oa "place_of" 353 41 1 137 357)::
(!143,f t.mt)::
(!149,oa "slot_of" 360 43 2 144 365)::
(!150,f t.oK)::
(!156,oa "stretch_of" 368 45 2 151 374)::
(!157,f t.iU)::
(!163,oa "slot_at" 377 48 2 158 382)::
(!164,f t.oM)::
(!170,oa "is_whole" 387 51 1 165 391)::
(!171,f t.mw)::
(!177,oa "is_from" 396 54 2 172 401)::
(!178,f t.oO)::
(!184,oa "word_of" 404 56 1 179 408)::
(!185,f t.oJ)::
(!198,ob "__init__" "Token.__init__" 423 60 4 193 430)::
(!199,f t.gL)::
(!205,ob "words" "Token.words" 433 65 1 200 437)::
(!206,f t.fV)::
(!208,{(T "dict"),none,.dict #[E P "__module__" 418 (S "staywalk.tokens" 394),E P "__firstlineno__" 422 (.int 58 421),ea P "__init__" 432 199,ea P "words" 439 206,ea P "__static_attributes__" 443 207,ea P "__dict__" 445 210,ea P "__weakref__" 447 211,E P "__doc__" 448 N] 4, #[]})::
(!209,{(T "type"),none,.cls {"Token",[(T "object")],[(R 209),(T "object")],208,"Token",true,[],[(R 238),(R 265),(R 292)],false,none,false}, #[none,none,some (S "Token" 411),some (S "Token" 419),some (.builtin "object.__new__"),some (Jb true)]})::
(!221,{(T "tuple"),none,.seq #[(.int 0 463),(.int 65536 464)] 0, #[]})::
(!227,ob "__init__" "BySlots.__init__" 465 69 3 222 471)::
(!228,f t.bP)::
(!237,{(T "dict"),none,.dict #[E P "__module__" 458 (S "staywalk.tokens" 394),E P "__firstlineno__" 462 (.int 67 461),ea P "__init__" 473 228,ea P "holds" 481 235,ea P "__static_attributes__" 482 236,E P "__doc__" 483 N] 2, #[]})::
(!238,{(T "type"),none,.cls {"BySlots",[(R 209)],[(R 238),(R 209),(T "object")],237,"BySlots",true,[],[],false,none,false}, #[some (R 214),none,some (S "BySlots" 451),some (S "BySlots" 459),some (.builtin "object.__new__"),some (Jb true)]})::
(!248,{(T "tuple"),none,.seq #[(.int 0 498),N] 0, #[]})::
(!254,ob "__init__" "Up.__init__" 499 78 3 249 505)::
(!255,f t.fS)::
(!261,ob "holds" "Up.holds" 508 83 2 256 513)::
(!262,f t.j3)::
(!264,{(T "dict"),none,.dict #[E P "__module__" 493 (S "staywalk.tokens" 394),E P "__firstlineno__" 497 (.int 76 496),ea P "__init__" 507 255,ea P "holds" 515 262,ea P "__static_attributes__" 516 263,E P "__doc__" 517 N] 2, #[]})::
(!265,{(T "type"),none,.cls {"Up",[(R 209)],[(R 265),(R 209),(T "object")],264,"Up",true,[],[],false,none,false}, #[some (R 241),none,some (S "Up" 486),some (S "Up" 494),some (.builtin "object.__new__"),some (Jb true)]})::
(!275,{(T "tuple"),none,.seq #[N,(.int 0 532)] 0, #[]})::
(!281,ob "__init__" "Down.__init__" 533 87 3 276 539)::
(!282,f t.dI)::
(!288,ob "holds" "Down.holds" 542 92 2 283 547)::
(!289,f t.g6)::
(!291,{(T "dict"),none,.dict #[E P "__module__" 527 (S "staywalk.tokens" 394),E P "__firstlineno__" 531 (.int 85 530),ea P "__init__" 541 282,ea P "holds" 549 289,ea P "__static_attributes__" 550 290,E P "__doc__" 551 N] 2, #[]})::
(!292,{(T "type"),none,.cls {"Down",[(R 209)],[(R 292),(R 209),(T "object")],291,"Down",true,[],[],false,none,false}, #[some (R 268),none,some (S "Down" 520),some (S "Down" 528),some (.builtin "object.__new__"),some (Jb true)]})::
(!295,{(T "tuple"),none,.seq #[(.int 10 558),N] 0, #[]})::
(!299,c [(S "ask" 559),(S "ask" 560),(F 561),(I 96),(I 4),(I 0),(I 0),(I 3),(R 296),(Jb true),(I 181),(R 297),N,N,N,(R 298),(I 562),(I 96),(F 563)])::
(!300,f t.uJ)::
(!306,oa "page_by_slots" 565 104 3 301 575)::
(!307,f t.eJ)::
(!311,c [(S "page_by_keys" 578),(S "page_by_keys" 579),(F 580),(I 118),(I 3),(I 0),(I 0),(I 3),(R 308),(Jb true),(I 181),(R 309),N,N,N,(R 310),(I 581),(I 118),(F 582)])::
(!312,f t.fO)::
(!316,c [(S "keys_of_page" 584),(S "keys_of_page" 585),(F 586),(I 121),(I 3),(I 0),(I 0),(I 3),(R 313),(Jb true),(I 181),(R 314),N,N,N,(R 315),(I 587),(I 121),(F 588)])::
(!317,f t.fP)::
(!323,oa "keys_near" 590 130 3 318 596)::
(!324,f t.jX)::
(!330,oa "token_behind" 599 134 2 325 604)::
(!331,f t.fN)::
(!344,ob "__init__" "Leaves.__init__" 625 143 1 339 629)::
(!345,f t.fW)::
(!349,c [(S "add" 632),(S "Leaves.add" 633),(F 634),(I 146),(I 2),(I 0),(I 0),(I 3),(R 346),(Jb true),(I 181),(R 347),N,N,N,(R 348),(I 635),(I 146),(F 636)])::
(!350,f t.gW)::
(!356,ob "discard" "Leaves.discard" 638 158 2 351 644)::
(!357,f t.dH)::
(!363,ob "has" "Leaves.has" 647 169 2 358 653)::
(!364,f t.gU)::
(!368,c [(S "many" 656),(S "Leaves.many" 657),(F 658),(I 173),(I 1),(I 0),(I 0),(I 3),(R 365),(Jb true),(I 181),(R 366),N,N,N,(R 367),(I 659),(I 173),(F 660)])::
(!380,c [(S "from_on" 669),(S "Leaves.from_on" 670),(F 671),(I 179),(I 3),(I 0),(I 0),(I 3),(R 377),(Jb true),(I 181),(R 378),N,N,N,(R 379),(I 672),(I 179),(F 673)])::
(!381,f t.dG)::
(!385,c [(S "down_from" 675),(S "Leaves.down_from" 676),(F 677),(I 187),(I 3),(I 0),(I 0),(I 3),(R 382),(Jb true),(I 181),(R 383),N,N,N,(R 384),(I 678),(I 187),(F 679)])::
(!386,f t.cG)::
(!392,ob "leaf_of" "Leaves.leaf_of" 681 197 2 387 689)::
(!393,f t.dF)::
(!399,ob "part_leaf" "Leaves.part_leaf" 692 208 2 394 699)::
(!400,f t.cE)::
(!406,ob "join_small" "Leaves.join_small" 702 214 2 401 708)::
(!407,f t.cm)::
(!409,{(T "dict"),none,.dict #[E P "__module__" 620 (S "staywalk.leaves" 607),E P "__firstlineno__" 624 (.int 141 623),ea P "__init__" 631 345,ea P "add" 637 350,ea P "discard" 646 357,ea P "has" 655 364,ea P "many" 661 369,ea P "all_of" 668 376,ea P "from_on" 674 381,ea P "down_from" 680 386,ea P "leaf_of" 691 393,ea P "part_leaf" 701 400,ea P "join_small" 710 407,ea P "__static_attributes__" 712 408,ea P "__dict__" 714 411,ea P "__weakref__" 716 412,E P "__doc__" 717 N] 4, #[]})::
(!410,{(T "type"),none,.cls {"Leaves",[(T "object")],[(R 410),(T "object")],409,"Leaves",true,[],[],false,none,false}, #[none,none,some (S "Leaves" 613),some (S "Leaves" 621),some (.builtin "object.__new__"),some (Jb true)]})::
(!427,ob "__init__" "Makes.__init__" 734 224 1 422 738)::
(!428,f t.gT)::
(!434,ob "note" "Makes.note" 741 227 3 429 747)::
(!435,f t.gR)::
(!458,{(T "dict"),none,.dict #[E P "__module__" 729 (S "staywalk.makes" 720),E P "__firstlineno__" 733 (.int 222 732),ea P "__init__" 740 428,ea P "note" 749 435,ea P "all_told" 756 442,ea P "value_at" 765 449,ea P "sweep" 773 456,ea P "__static_attributes__" 775 457,ea P "__dict__" 777 460,ea P "__weakref__" 779 461,E P "__doc__" 780 N] 4, #[]})::
(!459,{(T "type"),none,.cls {"Makes",[(T "object")],[(R 459),(T "object")],458,"Makes",true,[],[],false,none,false}, #[none,none,some (S "Makes" 722),some (S "Makes" 730),some (.builtin "object.__new__"),some (Jb true)]})::
(!467,c [(S "empty_row" 789),(S "empty_row" 790),(F 791),(I 244),(I 1),(I 0),(I 0),(I 3),(R 464),(Jb true),(I 181),(R 465),N,N,N,(R 466),(I 792),(I 244),(F 793)])::
(!468,f t.jY)::
(!481,ob "__init__" "Slots.__init__" 807 248 1 476 811)::
(!482,f t.gP)::
(!488,ob "put" "Slots.put" 814 253 3 483 821)::
(!489,f t.iZ)::
(!495,ob "drop" "Slots.drop" 824 261 2 490 829)::
(!496,f t.gQ)::
(!502,ob "get" "Slots.get" 832 269 2 497 838)::
(!503,f t.i5)::
(!509,ob "has" "Slots.has" 841 275 2 504 846)::
(!510,f t.i4)::
(!521,c [(S "rows" 856),(S "Slots.rows" 857),(F 858),(I 281),(I 1),(I 0),(I 0),(I 3),(R 518),(Jb true),(I 181),(R 519),N,N,N,(R 520),(I 859),(I 281),(F 860)])::
(!522,f t.gO)::
(!540,c [(S "span" 876),(S "Slots.span" 877),(F 878),(I 290),(I 3),(I 0),(I 0),(I 3),(R 537),(Jb true),(I 181),(R 538),N,N,N,(R 539),(I 879),(I 290),(F 880)])::
(!541,f t.gN)::
(!547,ob "stop" "Slots.stop" 882 300 2 542 888)::
(!548,f t.gM)::
(!554,ob "cell_of" "Slots.cell_of" 891 304 2 549 899)::
(!555,f t.dP)::
(!561,ob "lying_at" "Slots.lying_at" 902 312 2 556 913)::
(!562,f t.dE)::
(!568,ob "move_slot" "Slots.move_slot" 916 321 1 563 924)::
(!569,f t.cW)::
(!575,ob "begin_row" "Slots.begin_row" 927 334 1 570 932)::
(!576,f t.cX)::
(!578,{(T "dict"),none,.dict #[E P "__module__" 802 (S "staywalk.slots" 783),E P "__firstlineno__" 806 (.int 246 805),ea P "__init__" 813 482,ea P "put" 823 489,ea P "drop" 831 496,ea P "get" 840 503,ea P "has" 848 510,ea P "many" 855 517,ea P "rows" 861 522,ea P "moved" 868 529,ea P "cells" 875 536,ea P "span" 881 541,ea P "stop" 890 548,ea P "cell_of" 901 555,ea P "lying_at" 915 562,ea P "move_slot" 926 569,ea P "begin_row" 934 576,ea P "__static_attributes__" 938 577,ea P "__dict__" 940 580,ea P "__weakref__" 942 581,E P "__doc__" 943 N] 4, #[]})::
(!579,{(T "type"),none,.cls {"Slots",[(T "object")],[(R 579),(T "object")],578,"Slots",true,[],[],false,none,false}, #[none,none,some (S "Slots" 795),some (S "Slots" 803),some (.builtin "object.__new__"),some (Jb true)]})::
(!596,ob "__init__" "House.__init__" 960 345 1 591 964)::
(!597,f t.gX)::
(!603,ob "put" "House.put" 967 355 3 598 973)::
(!604,f t.i6)::
(!610,ob "drop" "House.drop" 976 361 2 605 981)::
(!611,f t.gY)::
(!617,ob "get" "House.get" 984 366 2 612 989)::
(!618,f t.i7)::
(!703,ob "done" "House.done" 1080 403 3 698 1087)::
(!704,f t.gZ)::
(!720,{(T "dict"),none,.dict #[E P "__module__" 955 (S "staywalk.house" 946),E P "__firstlineno__" 959 (.int 343 958),ea P "__init__" 966 597,ea P "put" 975 604,ea P "drop" 983 611,ea P "get" 991 618,ea P "has" 999 625,ea P "many" 1006 632,ea P "lay_mark" 1013 639,ea P "diary" 1022 647,ea P "makes" 1030 654,ea P "hold" 1037 661,ea P "let_go" 1045 668,ea P "held" 1052 675,ea P "sweep" 1059 682,ea P "was" 1068 689,ea P "page_at" 1079 697,ea P "done" 1089 704,ea P "refuse_outside" 1097 711,ea P "value_then" 1106 718,ea P "__static_attributes__" 1115 719,ea P "__dict__" 1117 722,ea P "__weakref__" 1119 723,E P "__doc__" 1120 N] 4, #[]})::
(!721,{(T "type"),none,.cls {"House",[(T "object")],[(R 721),(T "object")],720,"House",true,[],[],false,none,false}, #[none,none,some (S "House" 948),some (S "House" 956),some (.builtin "object.__new__"),some (Jb true)]})::
(!731,oa "_law_cell_at" 1125 419 2 726 1130)::
(!732,f t.fR)::
(!738,oa "_law_mixed" 1133 423 2 733 1139)::
(!739,f t.iX)::
(!750,c [(S "_law_run" 1152),(S "_law_run" 1153),(F 1154),(I 433),(I 1),(I 0),(I 0),(I 3),(R 747),(Jb true),(I 181),(R 748),N,N,N,(R 749),(I 1155),(I 433),(F 1156)])::
(!751,f t.my)::
(!757,oa "_law_deed" 1158 450 3 752 1167)::
(!758,f t.jZ)::
(!764,oa "_law_house" 1170 463 1 759 1177)::
(!765,f t.iY)::
(!771,oa "_law_numbers_told" 1180 469 2 766 1187)::
(!772,f t.cC)::
(!778,oa "_law_numbers" 1190 480 2 773 1199)::
(!779,f t.fQ)::
(!785,oa "_law_token" 1202 498 1 780 1206)::
(!786,f t.iW)::
(!799,oa "_law_answer" 1220 511 4 794 1227)::
(!800,f t.cM)::
(!806,oa "_law_words" 1230 514 1 801 1234)::
(!807,f t.iV)::
(!811,c [(S "law" 1237),(S "law" 1238),(F 1239),(I 518),(I 1),(I 0),(I 0),(I 3),(R 808),(Jb true),(I 181),(R 809),N,N,N,(R 810),(I 1240),(I 518),(F 1241)])::
(!812,f t.xn)::[]
noncomputable abbrev as:List Addr:=[809,2,3,4,30,31,43,44,128,129,135,136,142,143,149,150,156,157,163,164,170,171,177,178,184,185,198,199,205,206,208,209,221,227,228,237,238,248,254,255,261,262,264,265,275,281,282,288,289,291,292,295,299,300,306,307,311,312,316,317,323,324,330,331,344,345,349,350,356,357,363,364,368,380,381,385,386,392,393,399,400,406,407,409,410,427,428,434,435,458,459,467,468,481,482,488,489,495,496,502,503,509,510,521,522,540,541,547,548,554,555,561,562,568,569,575,576,578,579,596,597,603,604,610,611,617,618,703,704,720,721,731,732,738,739,750,751,757,758,764,765,771,772,778,779,785,786,799,800,806,807,811,812]
noncomputable abbrev p:Program:=PySem.Challenge.pw_staywalk_k35_a_sieve
abbrev q:Program:=view p [60]
def KT:Params->Frag:=λP=>(!809,PySem.W.tabObj #[])::K P
abbrev H:Hook:=kHook KT as λ_=>rfl
def said:OpenLaw.wellSaid PySem.Challenge.rw_staywalk_k35_a_sieve=true:=by
 rw[Fast.te9446332074065402090]
 kernel_rfl
noncomputable abbrev M':Nat:=11852
noncomputable abbrev L:List Str:="__name__"::"__doc__"::"__package__"::"__loader__"::"__spec__"::"__annotations__"::"__builtins__"::"__file__"::"__cached__"::"_wall"::"WalkError"::"NoToken"::"NoKey"::"Twice"::"TooOld"::"NoMoment"::"BITS"::"PLACES"::"turned"::"mark_of"::"place_of"::"slot_of"::"stretch_of"::"slot_at"::"is_whole"::"is_from"::"word_of"::"Token"::"BySlots"::"Up"::"Down"::"STRETCHES_A_KEY"::"ask"::"page_by_slots"::"page_by_keys"::"keys_of_page"::"keys_near"::"token_behind"::"MOST_IN_LEAF"::"LEAST_IN_TWO"::"Leaves"::"Makes"::"LEAST_SIZE"::"GREATEST_SIZE"::"empty_row"::"Slots"::"House"::"_law_cell_at"::"_law_mixed"::"_law_place"::"_law_run"::"_law_deed"::"_law_house"::"_law_numbers_told"::"_law_numbers"::"_law_token"::"_law_holds"::"_law_answer"::"_law_words"::[]
abbrev X:Shared->Bool:=λs=>xlAt q [] s&&recOk [] s
def lA:∀w:World,(HD.endP p w M').map (λs=>(((HD.gA q s,HD.gB p q L X s),HD.gC q L s),Hook.obs H s))=some (((((openGood q L).1,(openGood q L).2.1),(true,true)),(openGood q L).2.2.2.2),Hook.val H w):=λw=>by kernel_rfl
def left:LeftO p q L X (Hook.obs H) (Hook.val H) M':=HD.left_of (λw=>(HD.two<|lA w).1) (λw=>(HD.two<|lA w).2)
end ZK
abbrev eH:="self"
abbrev eN:="_law_cell"
abbrev eR:="key"
abbrev hH:="_law_calls"
abbrev hL:="_law_value"
abbrev hW:="<lambda>"
abbrev ir:="token"
abbrev ke:="list"
abbrev kj:="leaves"
abbrev kz:="_law_key"
abbrev lh:="__debug__"
abbrev lm:="_law_house_here"
abbrev lq:="_law_script"
abbrev ly:="_law_token_here"
abbrev mu:="many"
abbrev nj:="object.__class__"
abbrev nC:="range"
abbrev nX:="end"
abbrev oS:="value"
abbrev o5:="__name__"
abbrev pr:="__init__"
abbrev rW:="size"
abbrev sf:="at"
abbrev si:="_law_number"
abbrev ua:="most"
abbrev u4:="house"
abbrev u5:="_law_kept"
abbrev u6:="tuple"
abbrev va:="sorted"
abbrev vb:="_law_k"
namespace L2
open PySem PySem.Spec PyProof.Rows
abbrev Key:=Sum Int Str
noncomputable def jS:Key->Value->Bool
 | .inl k,v=>Value.isInt k v
 | .inr x,v=>Value.isStrOf x v
noncomputable def keyH(w:Lp):Key->Int
 | .inl k=>hashInt k
 | .inr x=>hashStr w x
def bD:∀{k:Key}{v:Lg},jS k v=true->(∃i t,k=Sum.inl i/\v=Value.int i t)\/(∃x t,k=Sum.inr x/\v=Value.str x t)
 | .inl i,v,h=>by
  let{t,e}:=Value.isInt_shape (k:=i) (v:=v) h;exact .inl ⟨i,t,M,e⟩
 | .inr x,v,h=>by
  let{t,e}:=Value.isStrOf_shape (x:=x) (v:=v) h;exact .inr ⟨x,t,M,e⟩
def Ax(i:Int)(t:Tok):jS (.inl i) (.int i t)=true:=by simp[jS,Value.isInt]
def Aw(x:Str)(t:Tok):jS (.inr x) (.str x t)=true:=by simp[jS,Value.isStrOf]
def GJ(a b:Int):decide ((Sum.inl a:Key)=Sum.inl b)=(a==b):=by
 by_cases e:a=b
 .subst e;simp
 .have h:¬(Sum.inl a:Key)=Sum.inl b:=λq=>e (Sum.inl.inj q);rw[Kr h];exact(Kn.mpr e).symm
def GG(a b:Str):decide ((Sum.inr a:Key)=Sum.inr b)=decide (a=b):=by
 by_cases e:a=b
 .subst e;simp
 .have h:¬(Sum.inr a:Key)=Sum.inr b:=λq=>e (Sum.inr.inj q);rw[Kr h,Kr e]
def GI(a:Int)(b:Str):decide ((Sum.inl a:Key)=Sum.inr b)=false:=Kr (λq=>nomatch q)
def GH(a:Str)(b:Int):decide ((Sum.inr a:Key)=Sum.inl b)=false:=Kr (λq=>nomatch q)
def bc(prog:Ln)(w:Lp):PySem.KeyKind prog w Key where
 is:=jS
 hash:=keyH w
 inj:=λv a b ha hb=>by
  rcases bD ha with⟨i,t,rfl,rfl⟩|⟨x,t,rfl,rfl⟩
  .rcases bD hb with⟨j,u,rfl,e⟩|⟨y,u,rfl,e⟩
   .injection e with e1 _;rw[e1]
   .exact nomatch e
  .rcases bD hb with⟨j,u,rfl,e⟩|⟨y,u,rfl,e⟩
   .exact nomatch e
   .injection e with e1 _;rw[e1]
 byValue:=λk v h=>by
  rcases bD h with⟨i,t,rfl,rfl⟩|⟨x,t,rfl,rfl⟩<;>rfl
 pyHash:=λhv h=>by
  rcases bD hv with⟨i,t,rfl,rfl⟩|⟨x,t,rfl,rfl⟩
  .exact wpAny_pyHash_int h
  .exact wpAny_pyHash_str h
 eqBool:=λhu hv h=>by
  rcases bD hu with⟨i,t,rfl,rfl⟩|⟨x,t,rfl,rfl⟩
  .rcases bD hv with⟨j,u,rfl,rfl⟩|⟨y,u,rfl,rfl⟩
   .rw[GJ]at h;exact wpAny_eqBool_int h
   .rw[GI]at h;exact SeqAt.EqAt.int_str i t y u _ _ _ _ h
  .rcases bD hv with⟨j,u,rfl,rfl⟩|⟨y,u,rfl,rfl⟩
   .rw[GH]at h;exact SeqAt.EqAt.str_int x t j u _ _ _ _ h
   .rw[GG]at h;exact wpAny_eqBool_str h
 «strs»:=λk x t v h=>by
  rcases bD h with⟨i,u,rfl,e⟩|⟨y,u,rfl,e⟩
  .exact nomatch e
  .injection e with e1 _;subst e1;cases v<;>rfl
def yp(prog:Ln)(w:Lp)(k:Key)(v:Lg):(bc prog w).is k v=jS k v:=rfl
def wY(prog:Ln)(w:Lp)(i:Int)(t:Tok):(bc prog w).is (.inl i) (.int i t)=true:=Ax i t
def wX(prog:Ln)(w:Lp)(x:Str)(t:Tok):(bc prog w).is (.inr x) (.str x t)=true:=Aw x t
inductive V where
 |non|bl (b:Bool)|int (i:Int)|str (x:Str)|byt (b:Array UInt8)|flt (b:UInt64)|ref (a:G')|ty (n:String)
 deriving DecidableEq
abbrev _root_.Lf:=List V
variable{a b:G'}{o u:HO}{h h':Heap}{H:Hp}{xs:Lf}{us:Lj}{P:Ln}{x:V}{w:Lp}
def RelV:V->Value->Prop
 | .non,u=>u=Value.none
 | .bl b,u=>u=Value.bool b
 | .int i,u=>∃t,u=Value.int i t
 | .str x,u=>∃t,u=Value.str x t
 | .byt b,u=>∃t,u=Value.bytes b t
 | .flt b,u=>∃t,u=Value.float b t
 | .ref a,u=>u=Value.ref a
 | .ty n,u=>u=Value.type n
abbrev Du:List V->List Value->Prop:=Paired RelV
def Du.length(r:Du xs us):xs.length=us.length:=Paired.length r
def Du.get{i:Nat}(h:Du xs us)(e:xs[i]?=some x):∃u,us[i]?=some u/\RelV x u:=by
 induction h generalizing i with
 |nil=>cases e
 |cons r t z=>cases i with
  |zero=>cases e;exact{_,M,r}
  |succ i=>exact z e
def Du.set{u:Lg}(r:RelV x u)(i:Nat)(h:Du xs us):Du (xs.set i x) (us.set i u):=by
 induction h generalizing i with
 |nil=>exact .nil
 |cons q t z=>cases i with
  |zero=>exact .cons r t
  |succ i=>exact .cons q<|z i
def Du.append{ys:Lf}{z:Lj}(h:Du xs us)(s:Du ys z):Du (xs++ys) (us++z):=by
 induction h with
 |nil=>exact s
 |cons r t G=>exact .cons r G
theorem Du.take:∀{xs:Lf}{us:Lj}(n:Nat),Du xs us->Du (xs.take n) (us.take n)
 |_,_,0,_=> .nil
 |_,_,_+1,.nil=> .nil
 |_,_,n+1,.cons r t=> .cons r (Du.take n t)
theorem Du.drop:∀{xs:Lf}{us:Lj}(n:Nat),Du xs us->Du (xs.drop n) (us.drop n)
 |_,_,0,r=>r
 |_,_,_+1,.nil=> .nil
 |_,_,n+1,.cons _ t=>Du.drop n t
def JM:Option V->Option Value->Prop
 |some v,some u=>RelV v u
 |none,none=>True
 |_,_=>False
def KV{κ:Type}:List (κ×V)->List (κ×Value)->Prop:=Paired λ(p:κ×V)(q:κ×Value)=>p.1=q.1/\RelV p.2 q.2
noncomputable def kV:Key->V
 | .inl i=> .int i
 | .inr x=> .str x
abbrev _root_.L':=List (Str×V)
abbrev _root_.Ma:=Int->Bool
abbrev _root_.Md:=Array Value
abbrev _root_.Mg:=List (Key×V)
abbrev _root_.Mj:=List (List Key×V)
inductive HO where
 |lst(xs:Lf)
 |tup(xs:Lf)
 |dK (kvs:Mg)|dT (kvs:Mj)
 |set(S:Ma)(n:Nat)
 |ins(C dx:G')(fs:L')
 |own(x:G')
 |xd(fs:L')
 |met(f x:G')
 |rng(lo hi:Int)
 |frz(o:Obj)(u:HO)
 |tbl(ps:Md)
 |ext(φ:Heap->Prop)
abbrev Hp:=Addr->Option HO
def upd(H:Hp)(a:G')(o:HO):Hp:=λb=>if b=a then some o else H b
def ag:upd H a o a=some o:=by unfold upd;rw[Kd M]
def ac(h:b≠a):upd H a o b=H b:=by unfold upd;rw[Kc h]
def dR:upd (upd H a o) a u=upd H a u:=by
 funext b;unfold upd;split<;>rfl
def bO(h:H a=some o)(h':H b=some u)(d:o≠u):a≠b:=by
 intro e;subst e;rw[h]at h';exact d<|Kf h'
def aj(h:H a=some o)(h':H b=none):a≠b:=by
 intro e;subst e;rw[h]at h';cases h'
section
variable(P:Ln)(w:Lp)
def II(H:Hp)(h:Heap)(a:G'):HO->Prop
 | .lst xs=>xs.length<=sizeLine/\∃(its:Lj)(n:Nat),Du xs its/\h.get? a=some {cls:= .type ke,data:= .seq its.toArray n}
 | .tup xs=>xs.length<=sizeLine/\∃its:List Value,Du xs its/\IsTup h a its.toArray
 | .dK kvs=>kvs.length<=sizeLine/\(a==sysModules)=false/\∃vs,KV kvs vs/\h.DictOf (bc P w) a vs
 | .dT kvs=>kvs.length<=sizeLine/\(a==sysModules)=false/\∃xs:List (List Key×Addr×Value),
   Paired (λ(p:List Key×V)(q:List Key×Addr×Value)=>p.1=q.1/\H q.2.1=some (.tup<|p.1.map kV)/\RelV p.2 q.2.2) kvs xs/\
   ∃o es ep,h.get? a=some o/\o.ExactDict/\o.data= .dict es ep/\es.toList=xs.map (entryOfKey<|tupleKind<|bc P w)/\(xs.map (·.1)).Nodup
 | .set S n=>h.SetOf (intKind P w) a S n
 | .ins C dx fs=>H dx=some (.own a)/\fs.length<=1000/\dx≠a/\h.get? a=some (PySem.W.instObj C dx)/\
   ∃mA,h.Ns1 dx mA/\(∀f,JM (fs.lookup f) (mA f))/\PySem.Within mA (fs.map (·.1))
 | .own _=>∃o,h.get? a=some o
 | .xd fs=>∃mA,h.Ns1 a mA/\∀f,JM (fs.lookup f) (mA f)
 | .rng lo hi=>∃t u v,h.get? a=some {cls:= .type nC,data:= .fields #[.int lo t,.int hi u,.int 1 v]}
 | .frz o u=>h.get? a=some o/\II H h a u
 | .tbl ps=>h.get? a=some {cls:= .none,data:= .fields ps}
 | .met f x=>h.get? a=some (PySem.W.methodObj (.ref f)<|.ref x)
 | .ext φ=>φ h/\(∃o,h.get? a=some o)/\∀h1 h2:Heap,φ h1->(∀o,h1.get? a=some o->h2.get? a=some o)->φ h2
def Iz(H:Hp)(h:Heap):Prop:=∀a o,H a=some o->II P w H h a o
end
section
variable{H':Hp}
def II.lt(x:II P w H h a o):a<h.objs.size:=by
 cases o with
 |lst xs=>let{_,_,_,_,e}:=x;exact Kl e
 |tup xs=>let{_,_,_,p}:=x;exact p.lt
 |dK kvs=>let{_,_,_,_,o,_,_,e,_}:=x;exact Kl e
 |dT kvs=>let{_,_,_,_,o,_,_,e,_}:=x;exact Kl e
 |set S n=>let{o,_,_,_,e,_}:=x;exact Kl e
 |ins C dx fs=>let{_,_,_,e,_}:=x;exact Kl e
 |own y=>let{_,e}:=x;exact Kl e
 |xd fs=>let{_,{_,_,_,e,_},_}:=x;exact Kl e
 |rng lo hi=>let{_,_,_,e}:=x;exact Kl e
 |frz ob u=>let{e,_}:=x;exact Kl e
 |tbl ps=>exact Kl<|show h.get? a=some _ from x
 |met f y=>exact Kl<|show h.get? a=some _ from x
 |ext z=>let{_,{_,e},_}:=x;exact Kl e
def Paired.mapP{α β:Type}{F G:α->β->Prop}{z:List α}{l₂:List β}(h:Paired F z l₂)(f:∀a b,F a b->G a b):Paired G z l₂:=by
 induction h with
 |nil=>exact .nil
 |cons r t I=>exact .cons (f _ _ r) I
def II.stay(x:II P w H h a o)(k:∀b u,(b=a\/H b=some (.own a))->h.get? b=some u->h'.get? b=some u)
  (I:∀b,H b=some (.own a)->H' b=some (.own a)) (O:∀b xs,H b=some (.tup xs)->H' b=some (.tup xs)):II P w H' h' a o:=by
 induction o with
 |lst xs=>let{z,its,n,r,e}:=x;exact{z,its,n,r,k _ _ (.inl M) e}
 |tup xs=>let{z,its,r,ob,e,c}:=x;exact{z,its,r,ob,k _ _ (.inl M) e,c}
 |dK kvs=>let{z,y,vs,r,ob,es,ep,e,c}:=x;exact{z,y,vs,r,ob,es,ep,k _ _ (.inl M) e,c}
 |dT kvs=>
  let{z,y,xs,r,ob,es,ep,e,c}:=x;exact{z,y,xs,Paired.mapP r λp q z=>{z.1,O _ _ z.2.1,z.2.2},ob,es,ep,k _ _ (.inl M) e,c}
 |set S n=>let{ob,es,ep,t,e,c}:=x;exact{ob,es,ep,t,k _ _ (.inl M) e,c}
 |ins C dx fs=>
  let{d,z,U,e,mA,{G,es,ep,e2,c},r}:=x;exact{I _ d,z,U,k _ _ (.inl M) e,mA,{G,es,ep,k _ _ (.inr d) e2,c},r}
 |own y=>let{ob,e}:=x;exact{ob,k _ _ (.inl M) e}
 |xd fs=>let{mA,{G,es,ep,e,c},r}:=x;exact{mA,{G,es,ep,k _ _ (.inl M) e,c},r}
 |rng lo hi=>let{t,u,v,e}:=x;exact{t,u,v,k _ _ (.inl M) e}
 |frz ob u Y=>let{e,q}:=x;exact{k _ _ (.inl M) e,Y q}
 |tbl ps=>
  have e:h.get? a=some {cls:= .none,data:= .fields ps}:=x;show h'.get? a=some {cls:= .none,data:= .fields ps};exact k a _ (.inl M) e
 |met f y=>
  have e:h.get? a=some (PySem.W.methodObj (.ref f)<|.ref y):=x;show h'.get? a=some (PySem.W.methodObj (.ref f)<|.ref y);exact k a _ (.inl M) e
 |ext Z=>let{p,{o,e},st}:=x;exact{st _ _ p λo q=>k _ _ (.inl M) q,{o,k _ _ (.inl M) e},st}
def Iz.lt(x:Iz P w H h)(e:H a=some o):a<h.objs.size:=(x a o e).lt
def Iz.fresh(x:Iz P w H h)(e:h.objs.size<=a):H a=none:=by
 cases q:H a with
 |none=>rfl
 |some u=>exact Kh (Qo (x.lt q) e)<|Zr _
def Iz.kept(x:Iz P w H h)(k:∀b u,h.get? b=some u->h'.get? b=some u):Iz P w H h':=λa o e=>
 (x a o e).stay (λb u _ q=>k b u q) (λ_ q=>q) λ_ _ q=>q
def Iz.laid(x:Iz P w H h)(k:∀b u,h.get? b=some u->h'.get? b=some u)(hp:h.objs.size<=a)(new:II P w (upd H a o) h' a o):Iz P w (upd H a o) h':=λb u e=>by
 have z:=x.fresh hp;by_cases hb:b=a
 .subst hb;rw[ag]at e;cases e;exact new
 .rw[ac hb]at e;exact(x b u e).stay (λc v _ q=>k c v q) (λc q=>by rw[ac (aj q z)];exact q) λc xs q=>by rw[ac (aj q z)];exact q
end
def Rd(H:Hp)(a:G')(u:HO):Prop:=H a=some u\/∃o,H a=some (.frz o u)
def Rd.ok(r:Rd H a u)(x:Iz P w H h):II P w H h a u:=by
 rcases r with r|⟨o,r⟩
 .exact x a u r
 .let{_,q}:=x a _ r;exact q
def Mut:Option HO->Prop
 |some (.lst _)=>True
 |some (.dK _)=>True
 |some (.dT _)=>True
 |some (.set _ _)=>True
 |some (.ins _ _ _)=>True
 |some (.ext _)=>True
 |_=>False
section
variable{x e:G'}{o':HO}
def Iz.write(ok:Iz P w H h)(U:Mut (H x))(he:e=x\/H e=some (.own x))(k:∀b u,b≠e->h.get? b=some u->h'.get? b=some u)(W:∃u,h'.get? e=some u)
  (new:II P w (upd H x o') h' x o'):Iz P w (upd H x o') h':=λb u q=>by
 have I:∀c y,H c=some (.own y)->c≠x:=λc y r z=>by subst z;rw[r]at U;exact U
 have O:∀c xs,H c=some (.tup xs)->c≠x:=λc xs r z=>by subst z;rw[r]at U;exact U
 by_cases hb:b=x
 .subst hb;rw[ag]at q;cases q;exact new
 .rw[ac hb]at q;by_cases G:b=e
  .have Y:H b=some (.own x):=by
    rcases he with z|z
    .exact Kh (G.trans z) hb
    .rwa[G]
   rw[q]at Y;cases Y;let{v,Z}:=W;exact{v,by rwa[G]}
  .refine(ok b u q).stay (λc v hc r=>k c v ?_ r) (λc r=>by rwa[ac (I c b r)]) λc xs r=>by rwa[ac (O c xs r)]
   rcases hc with rfl|hc
   .exact G
   .rintro rfl;rcases he with z|z
    .exact I c b hc z
    .rw[hc]at z;cases z;exact hb M
end
abbrev _root_.Lu:=List Addr
structure Un(fs ex:Lu)(H H':Hp)(h h':Heap):Prop where
 keep:∀b o,h.get? b=some o->H b=none->b∉fs->b∉ex->h'.get? b=some o
 slot:∀b o,h.get? b=some o->H b=none->b∈fs->b∉ex->∃sl,h'.get? b=some {o with slots:=sl}
 free:∀b o,h.get? b=some o->H b=none->b∉ex->H' b=none
 there:∀b o,h.get? b=some o->b∉ex->∃o',h'.get? b=some o'
 tups:∀b xs,H b=some (.tup xs)->H' b=some (.tup xs)
 frzs:∀b o u,H b=some (.frz o u)->H' b=some (.frz o u)
 tbls:∀b ps,H b=some (.tbl ps)->∃more,H' b=some (.tbl<|ps++more)
section
variable{fs fs' ex ex':Lu}{H1 H2:Hp}{h1 h2:Heap}{x e:G'}
def Un.any(u:Un fs ex H H1 h h1){ob:Obj}(q:h.get? b=some ob)(n:H b=none)(hx:b∉ex):∃z,h1.get? b=some {ob with slots:=z}:=by
 by_cases hb:b∈fs
 .exact u.slot b ob q n hb hx
 .exact{ob.slots,u.keep b ob q n hb hx}
def Un.kept(k:∀b u,h.get? b=some u->h'.get? b=some u):Un fs ex H H h h':=
 {λb ob q _ _ _=>k b ob q,λb ob q _ _ _=>{ob.slots,k b ob q},λ_ _ _ n _=>n,λb ob q _=>{ob,k b ob q},λ_ _ q=>q,λ_ _ _ q=>q,λ_ ps q=>{#[],by rw[q];simp}}
def Un.refl:Un fs ex H H h h:=Un.kept λ_ _ q=>q
def Un.laid(k:∀b u,h.get? b=some u->h'.get? b=some u)(hp:h.objs.size<=a)(z:H a=none):Un fs ex H (upd H a o) h h' where
 keep:=λb u q _ _ _=>k b u q
 slot:=λb u q _ _ _=>{u.slots,k b u q}
 free:=λb u q n _=>by rwa[ac (Qy<|Qo (Kl q) hp)]
 there:=λb u q _=>{u,k b u q}
 tups:=λb xs q=>by rw[ac (aj q z)];exact q
 frzs:=λb u xs q=>by rw[ac (aj q z)];exact q
 tbls:=λb ps q=>{#[],by rw[ac (aj q z),q];simp}
def Un.write(I:Mut (H x))(he:e=x\/H e=some (.own x))(k:∀b u,b≠e->h.get? b=some u->h'.get? b=some u)(O:∃u,h'.get? e=some u):Un fs ex H (upd H x o) h h':=by
 have hx:∀b,H b=none->b≠x:=λb n z=>by subst z;rw[n]at I;exact I
 have hb:∀b,H b=none->b≠e:=λb n z=>by
  subst z;rcases he with r|r
  .exact hx b n r
  .rw[n]at r;cases r
 have U:∀b u,H b=some u->¬Mut (some u)->b≠x:=λb u q nm z=>by subst z;rw[q]at I;exact nm I
 refine{λb u q n _ _=>k b u (hb b n) q,λb u q n _ _=>{u.slots,k b u (hb b n) q},λb u q n _=>by rwa[ac (hx b n)],λb u q _=>?_,
  λb xs q=>by rw[ac (U b _ q λz=>z)];exact q,λb u xs q=>by rw[ac (U b _ q λz=>z)];exact q,λb ps q=>{#[],by rw[ac (U b _ q λz=>z),q];simp}}
 by_cases G:b=e
 .subst G;exact O
 .exact{u,k b u G q}
end
def LU(h:Heap)(H:Hp):List Addr:=(List.range h.objs.size).filter λa=>(H a).isSome
def vP(h:Heap)(H:Hp):Heap:=PySem.W.hideAll h (LU h H)
def AC(h:Heap)(H:Hp):(vP h H).objs.size=h.objs.size:=PySem.W.hideAll_size _ _
def Cw{o:Obj}(e:h.get? b=some o)(n:H b=none):(vP h H).get? b=some o:=
 PySem.W.hideAll_get _ e λz=>by
  have q:(H b).isSome=true:=(QA.mp z).2;rw[n]at q;simp at q
def Ef{o:Obj}(e:(vP h H).get? b=some o):h.get? b=some o/\H b=none:=by
 have G:h.get? b=some o:=PySem.W.of_hideAll (LU h H) e;refine{G,?_};cases q:H b with
 |none=>rfl
 |some x=>
  have I:b∈LU h H:=QA.mpr {K4.mpr<|Kl G,by simp[q]};have z:(vP h H).get? b=none:=PySem.W.hideAll_none (LU h H) I;rw[z]at e;cases e
abbrev Jc:=PySem.W.Frag
abbrev _root_.Lm:=List (Addr×Obj)
abbrev _root_.Ls:=Value->Shared->Prop
abbrev _root_.Lv:=Around
abbrev _root_.Mb:=List Env
abbrev _root_.Mh:=List Expr
abbrev _root_.Mo:=List (Str×Value)
variable{C a b dx f it:G'}{A:Lv}{g':Array GenState}{CX:CXT}{op:CmpOp}{X:Cx}{d':Drawn}{c e tg:Expr}{fd:Lw}{base h h':Heap}{H H':Hp}{lo:Int}{g:Int->Int->Int}{J:Lm}{kw:Mo}{ch fp:Lu}{outer:Mb}{es:Mh}{body:List Stmt}{N ps:Lq}{vs xs:Lf}{us:Lj}{M':Model}{i j n t':Nat}{o:Option Value}{p pos pos':Pos}{P prog:Ln}{K:Jc}{r:R2}{R:Result->Shared->Prop}{scope:Scope}{s s':K'}{sp:Sp}{B:St}{m name qual x:Str}{t ta te:TE}{tb:TS}{tc:TT}{v y:V}{u:Lg}{E Q:Ls}{rd:V->V->Hp->VK->Prop}{w:Lp}
abbrev _root_.Lr:=Str->Option Value
structure Mod(K:Jc)(mg:Lr)(base:Heap):Prop where
 kin:K.In base
 glob:base.Ns mainGlobals mg
 blt:∃mb,base.Ns builtinsNs mb/\∀x:Str,x≠o5->mb x=bootBuiltins x
 nolimit:base.NoLimit
set_option genInjectivity false in
structure Cx where
 prog:Program
 w:World
 K:Jc
 mg:Str->Option Value
 base:Heap
 A:Around
 N:List Str
 s₀:Shared
 H₀:Hp
 env:Env
 outer:List Env
 stack:List Env
 ex:List Addr
 fn:Str->Bool
 calm:Bool
 pn:List (Addr×Obj)
 xe:Value->Shared->Prop
noncomputable def Jy(l:Mb):List Addr:=l.filterMap (·.frame)
abbrev Cx.fs(X:Cx):List Addr:=Jy X.outer
def Lc(sc:Scope)(x:Str):Prop:=sc.names.lookup x=some .local\/sc.names.lookup x=some .cell\/sc.names.lookup x=some .free
def Loc(sc:Scope)(x:Str):Prop:=sc.names.lookup x=some .local\/sc.names.lookup x=some .cell
def Look(env:Env)(h:Heap)(m:Lr)(x:Str)(u:Lg):Prop:=
 (env.kindOf x=some .local/\m x=some u)\/((env.kindOf x=some .cell\/env.kindOf x=some .free)/\∃c,env.cells.lookup x=some c/\h.IsCell c (some u))
structure Cx.Ok(X:Cx):Prop where
 mod:Mod X.K X.mg X.base
 kind:X.env.scope.kind= .function
 glob:X.env.globals=mainGlobals
 blt:X.env.builtins=builtinsNs
 above:X.s₀.heap.objs.size<=X.env.locals
 inj:∀x y c,X.env.cells.lookup x=some c->X.env.cells.lookup y=some c->x=y
 has:∀x,(X.env.kindOf x=some .cell\/X.env.kindOf x=some .free)->∃c,X.env.cells.lookup x=some c
 cab:∀x c,X.fn x=true->X.env.cells.lookup x=some c->X.s₀.heap.objs.size<=c
 hd:X.calm=true->X.A.handled=none
 frames:X.A.frames=some X.stack
 stk:X.stack=X.outer\/(X.stack=X.env::X.outer/\X.env.frame=some X.env.locals)
 exf:∀b∈X.ex,b≠X.env.locals/\∀x c,X.env.cells.lookup x=some c->c≠b
 bs:∀b o,X.base.get? b=some o->X.s₀.heap.get? b=some o/\X.H₀ b=none
 bsz:X.base.objs.size<=X.s₀.heap.objs.size
 noex:∀b o,X.base.get? b=some o->b∉X.ex
 exfs:∀b∈X.ex,b∉X.fs
 funs:X.s₀.heap.FunFrames X.base X.outer
 frf:∀b∈X.fs,X.H₀ b=none
structure Inv(X:Cx)(J:Lm)(B:List (Option V))(H:Hp)(s:K'):Prop where
 ok:X.Ok
 os:s.os=X.s₀.os
 bare:AllBare s.gens
 base:Un X.fs X.ex X.H₀ H X.s₀.heap s.heap
 loc:∃m,s.heap.Ns X.env.locals m/\∀(i:Nat)(x:Str)(v:V),X.N[i]?=some x->B[i]?=some (some v)->Lc X.env.scope x->∃u,RelV v u/\Look X.env s.heap m x u
 cell:∀x c,X.env.cells.lookup x=some c->∃v,s.heap.IsCell c v
 free:H X.env.locals=none
 freeC:∀x c,X.env.cells.lookup x=some c->H c=none
 pin:∀p∈X.pn++J,s.heap.get? p.1=some p.2/\H p.1=none/\p.1≠X.env.locals/\p.1∉X.fs/\∀v,p.2.data≠ .cell v
 hok:Iz X.prog X.w H s.heap
 len:B.length=X.N.length
section
variable{B:List (Option V)}
def Cx.Ok.nofr(ok:X.Ok){o:Obj}(e:X.base.get? b=some o):b∉X.fs:=λhb=>by
 have:=(ok.funs.mem hb).1;rw[e]at this;cases this
def Inv.bs(I:Inv X J B H s):∀b o,X.base.get? b=some o->s.heap.get? b=some o/\H b=none:=λb o e=>
 {I.base.keep b o (I.ok.bs b o e).1 (I.ok.bs b o e).2 (I.ok.nofr e)<|I.ok.noex b o e,I.base.free b o (I.ok.bs b o e).1 (I.ok.bs b o e).2<|I.ok.noex b o e}
def Inv.bk(I:Inv X J B H s):∀b o,X.base.get? b=some o->s.heap.get? b=some o:=λb o e=>(I.bs b o e).1
def Inv.mod(I:Inv X J B H s):Mod X.K X.mg X.base:=I.ok.mod
def Inv.kIn(I:Inv X J B H s):X.K.In s.heap:=I.ok.mod.kin.keeps I.bk
def Inv.lt(I:Inv X J B H s):X.env.locals<s.heap.objs.size:=by let{_,z,_}:=I.loc;exact z.lt
def Inv.sz(I:Inv X J B H s):X.s₀.heap.objs.size<=s.heap.objs.size:=Qu I.ok.above (QV I.lt)
def Inv.nofs(I:Inv X J B H s)(h:s.heap.objs.size<=a):a∉X.fs:=λhb=>by
 let{_,o,z,_}:=I.ok.funs.mem hb;exact Kh (Qo (Kl z)<|Qu I.sz h)<|Zr _
def Inv.cne(I:Inv X J B H s):∀x c,X.env.cells.lookup x=some c->c≠X.env.locals:=λx c e z=>by
 let{v,o,U,hd}:=I.cell x c e;let{m,{o',es,ep,G,O,_},_}:=I.loc;rw[z,G]at U;cases U;rw[O]at hd;cases hd
def Inv.funs(I:Inv X J B H s):s.heap.FunFrames X.base X.outer:=by
 have all:∀(l:Mb),(∀b∈Jy l,b∈X.fs)->X.s₀.heap.FunFrames X.base l->s.heap.FunFrames X.base l:=by
  intro l
  induction l with
  |nil=>intro _ _;trivial
  |cons env r O=>
   intro hs hl;let{hk,{L,o,hf,U,W,hd},Y}:=hl;have G:L∈X.fs:=hs L (by unfold Jy;rw[Xw,hf];exact Q6);let{Z,e}:=I.base.slot L o W (I.ok.frf L G) G λz=>I.ok.exfs L z G;exact{hk,{L,_,hf,U,e,hd},O (λb hb=>hs b<|by unfold Jy;rw[Xw,hf];exact Qc _ hb) Y}
 exact all X.outer (λ_ hb=>hb) I.ok.funs
def Inv.stack(I:Inv X J B H s):s.heap.FunFrames X.base X.stack:=by
 rcases I.ok.stk with e|⟨e,hf⟩
 .rw[e];exact I.funs
 .rw[e];let{m,z,_}:=I.loc;refine .cons (by rw[I.ok.kind];decide) hf z ?_ I.funs;exact KQ<|Qu I.ok.bsz I.ok.above
def Inv.stkSub(I:Inv X J B H s):∀b∈Jy X.stack,b∈X.env.locals::X.fs:=λb hb=>by
 rcases I.ok.stk with e|⟨e,hf⟩
 .rw[e]at hb;exact Qc _ hb
 .rw[e]at hb;unfold Jy at hb;rw[Xw,hf]at hb;exact hb
def Inv.stkFree(I:Inv X J B H s):∀b∈Jy X.stack,H b=none:=λb hb=>by
 rcases Q7.mp (I.stkSub b hb)with e|hb
 .rw[e];exact I.free
 .let{_,o,G,_}:=I.ok.funs.mem hb;exact I.base.free b o G (I.ok.frf b hb) λz=>I.ok.exfs b z hb
def Inv.step(I:Inv X J B H s)
  (G:∀b∈ch,(b∈X.ex\/X.s₀.heap.objs.size<=b)/\b≠X.env.locals/\(∀x c,X.env.cells.lookup x=some c->c≠b)/\∀p∈X.pn++J,p.1≠b)
  (keep:∀b o,b≠X.env.locals->b∉X.fs->b∉ch->s.heap.get? b=some o->H b=none->h'.get? b=some o)
  (slot:∀b o,b≠X.env.locals->b∈X.fs->b∉ch->s.heap.get? b=some o->H b=none->∃sl,h'.get? b=some {o with slots:=sl}) (free:∀b o,b∉ch->s.heap.get? b=some o->H b=none->H' b=none)
  (there:∀b o,b∉ch->s.heap.get? b=some o->∃o',h'.get? b=some o')
  (tups:∀b xs,H b=some (.tup xs)->H' b=some (.tup xs)) (frzs:∀b o u,H b=some (.frz o u)->H' b=some (.frz o u)) (tbls:∀b ps,H b=some (.tbl ps)->∃more,H' b=some (.tbl<|ps++more))
  (ns:∀m,s.heap.Ns X.env.locals m->h'.Ns X.env.locals m) (hok:Iz X.prog X.w H' h') (hg:AllBare g'):
  Inv X J B H' {s with heap:=h',gens:=g',drawn:=d',toks:=t'}:=by
 have a0:∀b o,X.s₀.heap.get? b=some o->b≠X.env.locals:=λb o e=>Qy (Qo (Kl e) I.ok.above);have W:∀b o,X.s₀.heap.get? b=some o->b∉X.ex->b∉ch:=λb o e hx hb=>by
  rcases(G b hb).1 with z|z
  .exact hx z
  .exact Kh (Qo (Kl e) z)<|Zr _
 have O:∀x c,X.env.cells.lookup x=some c->∀v,s.heap.IsCell c v->h'.IsCell c v:=λx c e v ⟨o,Z,hd⟩=>by
  have U:c∉ch:=λz=>(G c z).2.2.1 x c e M;by_cases hc:c∈X.fs
  .let{sl,q}:=slot c o (I.cne x c e) hc U Z (I.freeC x c e);exact{_,q,hd}
  .exact{o,keep c o (I.cne x c e) hc U Z<|I.freeC x c e,hd}
 refine{I.ok,I.os,hg,{λb o e n hb hx=>?_,λb o e n hb hx=>?_,λb o e n hx=>?_,λb o e hx=>?_,λb xs e=>tups b xs<|I.base.tups b xs e,λb o xs e=>frzs b o xs<|I.base.frzs b o xs e,λb ps e=>?_},?_,λx c e=>?_,?_,λx c e=>?_,λp hp=>?_,hok,I.len}
 .exact keep b o (a0 b o e) hb (W b o e hx) (I.base.keep b o e n hb hx)<|I.base.free b o e n hx
 .let{sl,Y}:=I.base.slot b o e n hb hx;let{a1,e2}:=slot b _ (a0 b o e) hb (W b o e hx) Y (I.base.free b o e n hx);exact⟨a1,e2⟩
 .let{o',Y}:=I.base.there b o e hx;exact free b o' (W b o e hx) Y<|I.base.free b o e n hx
 .let{o',Y}:=I.base.there b o e hx;exact there b o' (W b o e hx) Y
 .let{m1,Y}:=I.base.tbls b ps e;let{m2,e2}:=tbls b _ Y;exact{m1++m2,by rw[e2,Array.append_assoc]}
 .let{m,hn,hl}:=I.loc;refine{m,ns m hn,λi x v Y e2 e3=>?_};let{u,r,l}:=hl i x v Y e2 e3;refine{u,r,?_};rcases l with l|⟨k,c,e,z⟩
  .exact .inl l
  .exact .inr {k,c,e,O x c e _ z}
 .let{v,z}:=I.cell x c e;exact{v,O x c e v z}
 .let{m,{o,_,_,Z,_},_}:=I.loc;exact free _ o (λz=>(G _ z).2.1 rfl) Z I.free
 .let{v,o,Z,hd}:=I.cell x c e;exact free c o (λz=>(G c z).2.2.1 x c e M) Z<|I.freeC x c e
 .let{e,n,ne,nf,d}:=I.pin p hp;have U:p.1∉ch:=λz=>(G p.1 z).2.2.2 p hp M;exact{keep p.1 p.2 ne nf U e n,free p.1 p.2 U e n,ne,nf,d}
def Inv.un(I:Inv X J B H s)(u:Un X.fs [] H H' s.heap h')(hok:Iz X.prog X.w H' h'):Inv X J B H' {s with heap:=h',toks:=t'}:=by
 let{m,{o,es,ep,W,r},_}:=id I.loc;let{sl,Y}:=u.any W I.free (by simp);exact I.step (g':=s.gens) (d':=s.drawn) (ch:=[]) (λ_ z=>nomatch z) (λb o _ hb _ e n=>u.keep b o e n hb<|by simp) (λb o _ hb _ e n=>u.slot b o e n hb<|by simp) (λb o _ e n=>u.free b o e n<|by simp) (λb o _ e=>u.there b o e<|by simp) u.tups u.frzs u.tbls (λm' Z=>by
  let{o',O,U,G,r'}:=Z;rw[W]at G;cases G;exact{_,O,U,Y,r'}) hok I.bare
def Inv.call(I:Inv X J B H s)(u:Un (Jy X.stack) ch H H' s.heap h')(hok:Iz X.prog X.w H' h')(hg:AllBare g')
  (G:∀b∈ch,(b∈X.ex\/X.s₀.heap.objs.size<=b)/\b≠X.env.locals/\(∀x c,X.env.cells.lookup x=some c->c≠b)/\∀p∈X.pn++J,p.1≠b):
  Inv X J B H' {s with heap:=h',gens:=g',drawn:=d',toks:=t'}:=by
 let{m,{o,es,ep,Z,r},_}:=id I.loc;let{sl,U}:=u.any Z I.free λz=>(G _ z).2.1 rfl;exact I.step (ch:=ch) G (λb o U hb hc e n=>u.keep b o e n (λz=>(Q7.mp<|I.stkSub b z).elim U hb) hc) (λb o _ _ hc e n=>u.any e n hc) (λb o hc e n=>u.free b o e n hc) (λb o hc e=>u.there b o e hc) u.tups u.frzs u.tbls (λm' hm=>by
  let{o',W,Y,O,r'}:=hm;rw[Z]at O;cases O;exact{_,W,Y,U,r'}) hok hg
def Inv.turned(I:Inv X J B H s)(k:∀b o,b≠it->s.heap.get? b=some o->h'.get? b=some o)(U:H it=none)(O:it≠X.env.locals)
  (h1:it∈X.ex\/X.s₀.heap.objs.size<=it) (h2:∀x c,X.env.cells.lookup x=some c->c≠it) (W:∀p∈X.pn++J,p.1≠it):Inv X J B H {s with heap:=h',toks:=t'}:=by
 have G:∀b u,H b=some u->b≠it:=λb u e z=>by rw[z,U]at e;cases e
 refine I.step (g':=s.gens) (d':=s.drawn) (ch:=[it]) (λb hb=>?_) (λb o _ _ hc e _=>k b o (λz=>hc<|by simp[z]) e) (λb o _ _ hc e _=>{o.slots,k b o (λz=>hc<|by simp[z]) e}) (λ_ _ _ _ n=>n)
  (λb o hc e=>{o,k b o (λz=>hc<|by simp[z]) e}) (λ_ _ e=>e) (λ_ _ _ e=>e) (λb ps e=>{#[],by rw[e];simp}) (λm Y=>?_) (λb u e=>?_) I.bare
 .have e:b=it:=by simpa using hb
  subst e;exact⟨h1,O,h2,W⟩
 .let{o,es,ep,Z,r}:=Y;exact{o,es,ep,k _ o (Ne.symm O) Z,r}
 .refine(I.hok b u e).stay (λc v hc q=>k c v ?_ q) (λ_ q=>q) λ_ _ q=>q;rcases hc with z|z
  .rw[z];exact G b u e
  .exact G c _ z
def Inv.tok(I:Inv X J B H s)(t:Nat):Inv X J B H {s with toks:=t}:=I.un (h':=s.heap) (t':=t) Un.refl I.hok
def Inv.kept(I:Inv X J B H s)(k:∀b u,s.heap.get? b=some u->h'.get? b=some u):Inv X J B H {s with heap:=h',toks:=t'}:=I.un (Un.kept k) (I.hok.kept k)
def Inv.laid{o:HO}(I:Inv X J B H s)(k:∀b u,s.heap.get? b=some u->h'.get? b=some u)(hp:s.heap.objs.size<=a)(new:II X.prog X.w (upd H a o) h' a o):
  Inv X J B (upd H a o) {s with heap:=h',toks:=t'}:=I.un (Un.laid k hp<|I.hok.fresh hp) (I.hok.laid k hp new)
def Inv.write{x e:G'}{o:HO}(I:Inv X J B H s)(G:Mut (H x))(he:e=x\/H e=some (.own x))(k:∀b u,b≠e->s.heap.get? b=some u->h'.get? b=some u)(z:∃u,h'.get? e=some u)
  (new:II X.prog X.w (upd H x o) h' x o):Inv X J B (upd H x o) {s with heap:=h',toks:=t'}:=I.un (Un.write G he k z) (I.hok.write G he k z new)
def Inv.pins_of{G:Lm}(I:Inv X J B H s)(h:∀p∈G,s.heap.get? p.1=some p.2/\H p.1=none/\p.1≠X.env.locals/\p.1∉X.fs/\∀v,p.2.data≠ .cell v):Inv X G B H s:=
 {I.ok,I.os,I.bare,I.base,I.loc,I.cell,I.free,I.freeC,λp hp=>(Q4.mp hp).elim (λz=>I.pin p<|ZY _ z)<|h p,I.hok,I.len}
def rp(hN:N.Nodup)(a:N[i]?=some x)(b:N[j]?=some x):i=j:=by
 let{h1,z}:=Q2.mp a;let{h2,e2}:=Q2.mp b;exact(List.getElem_inj hN).mp<|z.trans e2.symm
abbrev _root_.Mq:=Unit->Shared->Prop
def ud{Q:Mq}(I:Inv X J B H s)(hN:X.N.Nodup)(hi:X.N[i]?=some x)(hx:Loc X.env.scope x)(r:RelV v u)
  (h:∀s',Inv X J (B.set i<|some v) H s'->(∃a,Heap.SameBut a s.heap s'.heap/\(a=X.env.locals\/X.env.cells.lookup x=some a))->Q Unit.unit s') (hf:X.fn x=true\/X.env.scope.names.lookup x=some .local:=by ac_rfl):wpAny M' A (storeName X.env x u) Q E s:=by
 let{m,hn,hl}:=id I.loc;have a0:(X.env.scope.kind== .class||(X.env.scope.kind== .module&&X.env.locals !=X.env.globals))=false:=by rw[I.ok.kind];rfl
 have W:i<B.length:=by rw[I.len];exact(Q2.mp hi).1
 have cne:=I.cne;have G:∀{a:G'}{h':Heap},(∃o,s.heap.get? a=some o/\H a=none)->Heap.SameBut a s.heap h'->Iz X.prog X.w H h':=λ{a h'} ha hs b ob e=>by
  let{_,_,U}:=ha;refine(I.hok b ob e).stay (λc w' hc q=>(hs.2 c ?_).trans q) (λ_ q=>q) λ_ _ q=>q;rintro rfl;rcases hc with rfl|hc
  .rw[U]at e;cases e
  .rw[U]at hc;cases hc
 rcases hx with hk|hk
 .refine wpAny_storeName_local hk hn (λh' a5 hs=>?_) a0;let{oL,_,_,a6,_}:=id hn;refine h _ {I.ok,I.os,I.bare,{λb o e n hb hx=>?_,λb o e n hb hx=>?_,I.base.free,λb o e hx=>?_,I.base.tups,I.base.frzs,I.base.tbls},{_,a5,λj y v' O e2 e3=>?_},λy c e=>?_,I.free,I.freeC,λp hp=>?_,G ⟨oL,a6,I.free⟩ hs,by simpa using I.len} {_,hs,.inl M}
  .exact(hs.2 b<|Qy<|Qo (Kl e) I.ok.above).trans<|I.base.keep b o e n hb hx
  .let{sl,O}:=I.base.slot b o e n hb hx;exact{sl,(hs.2 b<|Qy<|Qo (Kl e) I.ok.above).trans O}
  .let{o',O}:=I.base.there b o e hx;exact{o',(hs.2 b<|Qy<|Qo (Kl e) I.ok.above).trans O}
  .by_cases Y:j=i
   .subst Y;rw[hi]at O;cases O;rw[Xf W]at e2;cases e2;exact{u,r,.inl {hk,by simp}}
   .rw[List.getElem?_set_ne (Ne.symm Y)]at e2;let{u',r',q}:=hl j y v' O e2 e3;refine{u',r',?_};rcases q with⟨k,e⟩|⟨k,c,e,z⟩
    .refine .inl {k,?_};have:y≠x:=λe=>Y (rp hN O<|e▸hi);simp[this,e]
    .exact .inr {k,c,e,z.sameBut hs<|cne y c e}
  .let{w',z}:=I.cell y c e;exact{w',z.sameBut hs<|cne y c e}
  .let{e,n,ne,nf,d}:=I.pin p hp;exact{(hs.2 p.1 ne).trans e,n,ne,nf,d}
 .have Z:X.fn x=true:=by
   rcases hf with z|z
   .exact z
   .rw[z]at hk;cases hk
  let{c,hc}:=I.ok.has x (.inl hk);let{w',z}:=I.cell x c hc;refine wpAny_storeName_cell I.ok.kind hk hc z<|λh' a1 hs=>?_;let{oc,a2,a3}:=id z;refine h {s with heap:=h'} {I.ok,I.os,I.bare,{λb o e n hb hx=>?_,λb o e n hb hx=>?_,I.base.free,λb o e hx=>?_,I.base.tups,I.base.frzs,I.base.tbls},{m,hn.sameBut hs<|Ne.symm<|cne x c hc,λj y v' O e2 e3=>?_},λy c' e=>?_,I.free,I.freeC,λp hp=>?_,G {oc,a2,I.freeC x c hc} hs,by simpa using I.len} {c,hs,.inr hc}
  .exact(hs.2 b<|Qy<|Qo (Kl e)<|I.ok.cab x c Z hc).trans<|I.base.keep b o e n hb hx
  .let{sl,O}:=I.base.slot b o e n hb hx;exact{sl,(hs.2 b<|Qy<|Qo (Kl e)<|I.ok.cab x c Z hc).trans O}
  .let{o',O}:=I.base.there b o e hx;exact{o',(hs.2 b<|Qy<|Qo (Kl e)<|I.ok.cab x c Z hc).trans O}
  .by_cases Y:j=i
   .subst Y;rw[hi]at O;cases O;rw[Xf W]at e2;cases e2;exact{u,r,.inr {.inl hk,c,hc,a1}}
   .rw[List.getElem?_set_ne (Ne.symm Y)]at e2;let{u',r',q}:=hl j y v' O e2 e3;refine{u',r',?_};rcases q with q|⟨k,c',e,z'⟩
    .exact .inl q
    .refine .inr {k,c',e,z'.sameBut hs ?_};rintro rfl;exact Y<|rp hN O (I.ok.inj _ _ _ e hc▸hi)
  .by_cases a4:c'=c
   .subst a4;exact{_,a1}
   .let{w2,z2}:=I.cell y c' e;exact{w2,z2.sameBut hs a4}
  .let{e,n,ne,nf,d}:=I.pin p hp;refine{(hs.2 p.1 ?_).trans e,n,ne,nf,d};intro q;rw[q,a2]at e;have q':oc=p.2:=Kf e;exact d w'<|by rwa[<-q']
def qf{Q:Mq}(I:Inv X J B H s)(hN:X.N.Nodup)(hi:X.N[i]?=some x)(hx:Loc X.env.scope x)(r:RelV v u)
  (h:∀s',Inv X J (B.set i<|some v) H s'->Q Unit.unit s') (hf:X.fn x=true\/X.env.scope.names.lookup x=some .local:=by ac_rfl):wpAny M' A (storeName X.env x u) Q E s:=
 ud I hN hi hx r (λs' z _=>h s' z) hf
def Inv.call'(I:Inv X J B H s)(G:s'.os=s.os)(u:Un (Jy X.stack) ch H H' s.heap s'.heap)(hok:Iz X.prog X.w H' s'.heap)(O:AllBare s'.gens)
  (z:∀b∈ch,(b∈X.ex\/X.s₀.heap.objs.size<=b)/\b≠X.env.locals/\(∀x c,X.env.cells.lookup x=some c->c≠b)/\∀p∈X.pn++J,p.1≠b):Inv X J B H' s':=by
 let{h',g',d',t',o'}:=s';have e:o'=s.os:=G;subst e;exact I.call (g':=g') (t':=t') (d':=d') u hok O z
end
abbrev XK:=Value->Option Addr->Hp->Prop
abbrev St:=List (Option V)
abbrev VK:=V->Hp->Prop
abbrev TE:=St->Hp->VK->Prop
abbrev TT:=St->Hp->(Bool->Hp->Prop)->Prop
abbrev TA:=St->Hp->(List V->Hp->Prop)->Prop
structure nW where
 nx:St->Hp->Prop
 rt:VK
 bk:St->Hp->Prop:=λ_ _=>False
 ct:St->Hp->Prop:=λ_ _=>False
abbrev TS:=nW->St->Hp->Prop
def EP(X:Cx)(J:Lm)(B:St)(Q:VK)(u:Lg)(s':K'):Prop:=∃v H',Inv X J B H' s'/\RelV v u/\Q v H'
def TP(X:Cx)(J:Lm)(B:St)(Q:Bool->Hp->Prop)(b:Bool)(s':K'):Prop:=∃H',Inv X J B H' s'/\Q b H'
def AP(X:Cx)(J:Lm)(B:St)(Q:List V->Hp->Prop)(us:Lj)(s':K'):Prop:=∃vs H',Inv X J B H' s'/\Du vs us/\Q vs H'
def SP(X:Cx)(J:Lm)(D:nW)(f:Flow)(s':K'):Prop:=
 match f with
 | .next=>∃σ' H',Inv X J σ' H' s'/\D.nx σ' H'
 | .brk=>∃σ' H',Inv X J σ' H' s'/\D.bk σ' H'
 | .cont=>∃σ' H',Inv X J σ' H' s'/\D.ct σ' H'
 | .ret u=>∃v σ' H',Inv X J σ' H' s'/\RelV v u/\D.rt v H'
abbrev Jd(X:Cx){a}:=@wpAny a (model X.prog X.w) X.A
def PE(X:Cx)(e:Expr)(t:TE):Prop:=
 ∀(J:Lm)(s:K')(B:St)(H:Hp)(Q:VK),Inv X J B H s->t B H Q->Jd X (eval e X.env) (EP X J B Q) X.xe s
def PT(X:Cx)(e:Expr)(t:TT):Prop:=
 ∀(J:Lm)(s:K')(B:St)(H:Hp)(Q:Bool->Hp->Prop),Inv X J B H s->t B H Q->Jd X (isTrue e X.env<|eval e X.env) (TP X J B Q) X.xe s
def PW(X:Cx)(e:Expr)(t:TT):Prop:=
 ∀(whole:Sem Value)(J:Lm)(s:K')(B:St)(H:Hp)(Q:Bool->Hp->Prop),Inv X J B H s->t B H Q->Jd X (isTrue e X.env whole) (TP X J B Q) X.xe s
def PW.pt{t:TT}(h:PW X e t):PT X e t:=h _
def PA(X:Cx)(es:Mh)(t:TA):Prop:=
 ∀(pos:Pos)(J:Lm)(s:K')(B:St)(H:Hp)(Q:List V->Hp->Prop),Inv X J B H s->t B H Q->Jd X (spliced<|backTo pos<|starEach es X.env) (AP X J B Q) X.xe s
def PS(X:Cx)(st:Stmt)(t:TS):Prop:=
 ∀(J:Lm)(s:K')(B:St)(H:Hp)(D:nW),Inv X J B H s->t D B H->Jd X (exec st X.env) (SP X J D) X.xe s
def JL(X:Cx)(st:List Stmt)(t:TS):Prop:=
 ∀(J:Lm)(s:K')(B:St)(H:Hp)(D:nW),Inv X J B H s->t D B H->Jd X (execs st X.env) (SP X J D) X.xe s
def IH{α:Type}{t:Sem α}{Q Q':α->Shared->Prop}(h:wpAny M' A t Q E s)(z:∀a s,Q a s->Q' a s):wpAny M' A t Q' E s:=KB h z λ_ _ x=>x
section
inductive FP(i:Nat)(B:St)(H:Hp)(Q:VK):Prop
 |mk(v:_)(_:B[i]?=some (some v))(_:Q v H)
def tC(v:V):TE:=λ_ H Q=>Q v H
def Gj{i:Nat}(hN:X.N[i]?=some x)(O:Lc X.env.scope x)(hd:(x==(lh:Str))=false:=by decide)(G:(x==("__classdict__":Str))=false:=by decide):PE X (.Name x pos) (FP i):=by
 intro J s B H Q I h;let{v,e,h}:=h;let{m,U,hl}:=I.loc;let{u,r,l}:=hl i x v hN e O;have fin:EP X J B Q u s:=⟨v,H,I,r,h⟩;rcases l with⟨hk,W⟩|⟨hk,c,hc,z⟩
 .exact wpAny_Name (wpAny_loadName_local I.ok.kind hk U W fin) hd
 .rcases hk with hk|hk
  .exact wpAny_Name (wpAny_loadName_cell I.ok.kind hk hc z fin) hd
  .exact wpAny_Name (wpAny_loadName_free I.ok.kind hk hc z fin G) hd
def ae{i j pos}:PE X (.Constant (.int i) j pos) (tC<|.int i):=λ_ _ _ H _ I h=>wpAny_Constant_int {.int i,H,I.tok _,{_,M},h}
def BQ{b j pos}:PE X (.Constant (.bool b) j pos) (tC<|.bl b):=λ_ _ _ H _ I h=>Constant_bool {.bl b,H,I,M,h}
def cy{j pos}:PE X (.Constant .none j pos) (tC .non):=λ_ _ _ H _ I h=>Constant_none {.non,H,I,M,h}
def jD{x j pos}:PE X (.Constant (.str x) j pos) (tC<|.str x):=λ_ _ _ H _ I h=>Calls.Constant_str {.str x,H,I.tok _,{_,M},h}
def Gl(X:Cx)(x:Str):Prop:=X.env.kindOf x=some .globalImplicit
def iS{B:St}{H:Hp}{Q:Ls}(I:Inv X J B H s)(z:Gl X x)(G:X.mg x=some u)(h:Q u s)
  (hd:(x==(lh:Str))=false:=by decide):Jd X (eval (.Name x pos) X.env) Q E s:=
 Calls.Name_function_global I.ok.kind z (Calls.loadGlobal_global (by rw[I.ok.glob];exact I.mod.glob.keeps I.bk) G h) hd
def oE{B:St}{H:Hp}{Q:Ls}(I:Inv X J B H s)(z:Gl X x)(G:X.mg x=none)(O:bootBuiltins x=some u)(h:Q u s)
  (U:x≠o5:=by decide) (hd:(x==(lh:Str))=false:=by decide):Jd X (eval (.Name x pos) X.env) Q E s:=by
 let{W,h1,h2}:=I.mod.blt;exact Calls.Name_function_global I.ok.kind z (Calls.loadGlobal_builtin (by rw[I.ok.glob];exact I.mod.glob.keeps I.bk) G (by rw[I.ok.blt];exact h1.keeps I.bk) ((h2 x U).trans O) h) hd
def bV{v:V}(z:Gl X x)(G:X.mg x=some u)(r:RelV v u)(hd:(x==(lh:Str))=false:=by decide):PE X (.Name x pos) (tC v):=
 λ_ _ _ H _ I h=>iS I z G ⟨v,H,I,r,h⟩ hd
def yZ{v:V}(z:Gl X x)(G:X.mg x=none)(O:bootBuiltins x=some u)(r:RelV v u)(U:x≠o5:=by decide)(hd:(x==(lh:Str))=false:=by decide):PE X (.Name x pos) (tC v):=
 λ_ _ _ H _ I h=>oE I z G O ⟨v,H,I,r,h⟩ U hd
variable{a b:Expr}{tb:TE}
def PC(X:Cx)(op:CmpOp)(a b:Expr)(t:TE):Prop:=
 ∀(J:Lm)(s:K')(B:St)(H:Hp)(Q:VK),Inv X J B H s->t B H Q->
  Jd X (eval a X.env) (λv s₁=>Jd X (eval b X.env) (λu s₂=>Jd X (compareOp op v u) (EP X J B Q) X.xe s₂) X.xe s₁) X.xe s
inductive tBR(Q:Bool->Hp->Prop)(x:V)(H1:Hp):Prop
 |mk(c:_)(_:x= .bl c)(_:Q c H1)
def tB(t:TE):TT:=λB H Q=>t B H λx H1=>tBR Q x H1
def Gn(h:PC X op a b t)(h1:behindInMarks op b=false:=by first|exact nobehind _ (_) (_)|rfl):PE X (.Compare a [op] [b] pos) t:=λJ s B H Q I hw=>wpAny_Compare1 (h J s B H Q I hw) h1
def ye(h:PC X op a b t)(h1:behindInMarks op b=false:=by first|exact nobehind _ (_) (_)|rfl):PT X (.Compare a [op] [b] pos) (tB t):=by
 intro J s B H Q I hw;refine wpAny_isTrue_Compare1 (IH (h J s B H _ I hw) λv s1 h1=>IH h1 λu O h2=>IH h2 λc s3 z=>?_) h1;let{x,H1,G,r1,q1}:=z;let{d,rfl,q}:=q1;cases r1;exact KA ⟨H1,G,q⟩
def cT(h:PE X e t)(he:∀z,isTrue e X.env z=(do let v<-z;standAt e.pos;holding [v] (truthy v)):=by subst_eqs):PT X e (tB t):=by
 intro J s B H Q I hw;refine isTrue_plain (IH (h J s B H _ I hw) λv s1 G=>?_)<|he _;let{x,H1,O,r1,q1}:=G;let{d,rfl,q}:=q1;cases r1;exact KA ⟨H1,O,q⟩
variable{tA tB':TT}{rest:Mh}
def tAnd(t u:TT):TT:=λB H Q=>t B H λc H1=>if c=true then u B H1 Q else Q false H1
def tOr(t u:TT):TT:=λB H Q=>t B H λc H1=>if c=true then Q true H1 else u B H1 Q
def tNot(t:TT):TT:=λB H Q=>t B H λc H1=>Q (!c) H1
def dW(ha:PT X a tA):PW X (.BoolOp .And [a] pos) tA:=by
 intro wh J s B H Q I h;refine isTrue_and<|IH (ha J s B H Q I h) λc s1 e=>?_;cases c with
 |true=>exact isTrue_and_nil e
 |false=>exact e
def l6(ha:PT X a tA):PW X (.BoolOp .Or [a] pos) tA:=by
 intro wh J s B H Q I h;refine isTrue_or<|IH (ha J s B H Q I h) λc s1 e=>?_;cases c with
 |false=>exact isTrue_or_nil e
 |true=>exact e
def fH(ha:PT X a tA)(hb:PW X (.BoolOp .And (b::rest) pos) tB'):PW X (.BoolOp .And (a::b::rest) pos) (tAnd tA tB'):=by
 intro wh J s B H Q I h;refine isTrue_and<|IH (ha J s B H _ I h) λc s1 zz=>?_;let{H1,z,q1}:=zz;cases c with
 |true=>exact hb wh J s1 B H1 Q z q1
 |false=>exact⟨H1,z,q1⟩
def qP(ha:PT X a tA)(hb:PW X (.BoolOp .Or (b::rest) pos) tB'):PW X (.BoolOp .Or (a::b::rest) pos) (tOr tA tB'):=by
 intro wh J s B H Q I h;refine isTrue_or<|IH (ha J s B H _ I h) λc s1 zz=>?_;let{H1,z,q1}:=zz;cases c with
 |true=>exact⟨H1,z,q1⟩
 |false=>exact hb wh J s1 B H1 Q z q1
def ot(ha:PT X a tA):PT X (.UnaryOp .Not a pos) (tNot tA):=by
 intro J s B H Q I h;exact isTrue_not<|ha J s B H (λc H1=>Q (!c) H1) I h
def Hu(ta tb:TE):TE:=λB H Q=>ta B H λx H1=>∃c,x= .bl c/\if c=true then tb B H1 Q else Q (.bl false) H1
def tOrV(ta tb:TE):TE:=λB H Q=>ta B H λx H1=>∃c,x= .bl c/\if c=true then Q (.bl true) H1 else tb B H1 Q
def Hn(ta:TE):TE:=λB H Q=>ta B H λx H1=>∃c,x= .bl c/\Q (.bl<|!c) H1
def jE{op}(h:PE X a t):PE X (.BoolOp op [a] pos) t:=λJ s B H Q I hw=>BoolOp_one (h J s B H Q I hw)
def l9(ha:PE X a ta)(hb:PE X (.BoolOp .And (b::rest) pos) tb):PE X (.BoolOp .And (a::b::rest) pos) (Hu ta tb):=by
 intro J s B H Q I h;refine BoolOp_and<|IH (ha J s B H _ I h) λv s1 z=>?_;let{x,H1,G,r1,q1}:=z;let{c,rfl,q1}:=q1;cases r1;refine KA ?_;cases c with
 |true=>exact hb J s1 B H1 Q G q1
 |false=>exact{.bl false,H1,G,M,q1}
def Ff(ha:PE X a ta)(hb:PE X (.BoolOp .Or (b::rest) pos) tb):PE X (.BoolOp .Or (a::b::rest) pos) (tOrV ta tb):=by
 intro J s B H Q I h;refine BoolOp_or<|IH (ha J s B H _ I h) λv s1 z=>?_;let{x,H1,G,r1,q1}:=z;let{c,rfl,q1}:=q1;cases r1;refine KA ?_;cases c with
 |false=>exact hb J s1 B H1 Q G q1
 |true=>exact{.bl true,H1,G,M,q1}
def Gk(ha:PE X a ta):PE X (.UnaryOp .Not a pos) (Hn ta):=by
 intro J s B H Q I h;refine UnaryOp_<|IH (ha J s B H _ I h) λv s1 z=>?_;let{x,H1,G,r1,q1}:=z;let{c,rfl,q1}:=q1;cases r1;exact not_of<|KA {.bl<|!c,H1,G,M,q1}
def tIf(t:TT)(ta tb:TE):TE:=λB H Q=>t B H λc H1=>if c=true then ta B H1 Q else tb B H1 Q
def BL(hc:PT X c tA)(ha:PE X a ta)(hb:PE X b tb):PE X (.IfExp c a b pos) (tIf tA ta tb):=by
 intro J s B H Q I h;refine wpAny_IfExp<|IH (hc J s B H _ I h) λd s1 zz=>?_;let{H1,z,q1}:=zz;cases d with
 |true=>exact ha J s1 B H1 Q z q1
 |false=>exact hb J s1 B H1 Q z q1
end
def Dv(K:Jc)(H:Hp)(a:G')(xs:Lf):Prop:=
 Rd H a (.lst xs)\/
  ∃(o:Obj)(its:Md)(n:Nat),K.lookup a=some o/\o.cls= .type ke/\o.dict=none/\o.data= .seq its n/\its.size<=sizeLine/\Du xs its.toList
def JE(K:Jc)(H:Hp)(a:G')(xs:Lf):Prop:=
 Rd H a (.tup xs)\/
  ∃(o:Obj)(its:Md)(n:Nat),K.lookup a=some o/\o.cls= .type u6/\o.data= .seq its n/\its.size<=sizeLine/\Du xs its.toList
noncomputable def absV:Value->Option V
 | .none=>some .non
 | .bool b=>some (.bl b)
 | .int i _=>some (.int i)
 | .str x _=>some (.str x)
 | .bytes b _=>some (.byt b)
 | .float b _=>some (.flt b)
 | .ref a=>some (.ref a)
 | .type n=>some (.ty n)
 |_=>none
def RelV.abs{x:V}(r:RelV x u):absV u=some x:=by
 cases x with
 |non=>cases r;rfl
 |bl _=>cases r;rfl
 |int _=>let{t,rfl}:=r;rfl
 |str _=>let{t,rfl}:=r;rfl
 |byt _=>let{t,rfl}:=r;rfl
 |flt _=>let{t,rfl}:=r;rfl
 |ref _=>cases r;rfl
 |ty _=>cases r;rfl
def RelV.inj{x:V}(r:RelV x u)(q:RelV y u):x=y:=Kf (r.abs.symm.trans q.abs)
def Du.inj{ys:Lf}(h:Du xs us)(h':Du ys us):xs=ys:=by
 induction h generalizing ys with
 |nil=>cases h';rfl
 |cons r t z=>cases h' with
  |cons r' t'=>rw[r.inj r',z t']
section
variable{ys:Lf}
def Dv.of(h:H a=some (.lst xs)):Dv K H a xs:= .inl (.inl h)
def JE.of(h:H a=some (.tup xs)):JE K H a xs:= .inl (.inl h)
def Inv.list(I:Inv X J B H s)(h:Dv X.K H a xs):∃its:List Value,Du xs its/\PlainL s.heap a its.toArray/\xs.length<=sizeLine:=by
 rcases h with h|⟨o,its,n,hk,hc,hd,hs,hz,r⟩
 .let{z,its,n,r,e}:=h.ok I.hok;exact{its,r,{_,n,e,M,M,M},z}
 .refine{its.toList,r,{o,n,I.kIn a o hk,hc,hd,by simpa using hs},?_};have e:=r.length;simp only[Qb]at e;lia
def Inv.tuple(I:Inv X J B H s)(h:JE X.K H a xs):∃its:List Value,Du xs its/\IsTup s.heap a its.toArray/\xs.length<=sizeLine:=by
 rcases h with h|⟨o,its,n,hk,hc,hs,hz,r⟩
 .let{z,its,r,p}:=h.ok I.hok;exact⟨its,r,p,z⟩
 .refine{its.toList,r,{o,I.kIn a o hk,hc,n,by simpa using hs},?_};have e:=r.length;simp only[Qb]at e;lia
def Inv.list_inj(I:Inv X J B H s)(h:Dv X.K H a xs)(h':Dv X.K H a ys):xs=ys:=by
 let{its,r,{o,n,e,_,_,d},_}:=I.list h;let{its',r',{o',n',z,_,_,d'},_}:=I.list h';rw[e]at z;cases z;rw[d]at d';injection d' with d1 _;have:its=its':=by simpa using Ks Array.toList d1
 subst this;exact r.inj r'
end
abbrev Cx.wish(X:Cx)(E:Ls):Cx:={X with xe:=E}
abbrev Cx.nox(X:Cx):Cx:=X.wish λ_ _=>False
def Cx.Ok.wish(ok:X.Ok)(E:Ls):(X.wish E).Ok:=
 ⟨ok.mod,ok.kind,ok.glob,ok.blt,ok.above,ok.inj,ok.has,ok.cab,ok.hd,ok.frames,ok.stk,ok.exf,ok.bs,ok.bsz,ok.noex,ok.exfs,ok.funs,ok.frf⟩
def Cx.Ok.unwish(ok:(X.wish E).Ok):X.Ok:=
 ⟨ok.mod,ok.kind,ok.glob,ok.blt,ok.above,ok.inj,ok.has,ok.cab,ok.hd,ok.frames,ok.stk,ok.exf,ok.bs,ok.bsz,ok.noex,ok.exfs,ok.funs,ok.frf⟩
def Inv.wish(I:Inv X J B H s)(E:Ls):Inv (X.wish E) J B H s:={I.ok.wish E,I.os,I.bare,I.base,I.loc,I.cell,I.free,I.freeC,I.pin,I.hok,I.len}
def Inv.unwish(I:Inv (X.wish E) J B H s):Inv X J B H s:=⟨I.ok.unwish,I.os,I.bare,I.base,I.loc,I.cell,I.free,I.freeC,I.pin,I.hok,I.len⟩
def SP.unwish{D:nW}{f:Flow}(h:SP (X.wish E) J D f s'):SP X J D f s':=by
 cases f with
 |next=>let{z,H',I,q}:=h;exact⟨z,H',I.unwish,q⟩
 |brk=>let{z,H',I,q}:=h;exact⟨z,H',I.unwish,q⟩
 |cont=>let{z,H',I,q}:=h;exact⟨z,H',I.unwish,q⟩
 |ret u=>let{v,z,H',I,r,q}:=h;exact⟨v,z,H',I.unwish,r,q⟩
def JL.nox{st:List Stmt}{t:TS}(h:JL X.nox st t):JL X st t:=λJ s B H D I hw=>
 KB (h J s B H D (I.wish _) hw) (λ_ _ q=>q.unwish) λ_ _ z=>False.elim z
section
variable{st:Stmt}{rest:List Stmt}{t u:TS}
def wx:TS:=λD B H=>D.nx B H
def xU(t u:TS):TS:=λD B H=>t {D with nx:=u D} B H
def aF:JL X [] wx:=λ_ _ B H _ I h=>wpAny_execs_nil ⟨B,H,I,h⟩
def jB(h1:PS X st t)(h2:JL X rest u):JL X (st::rest) (xU t u):=by
 intro J s B H D I h;refine wpAny_execs_cons<|IH (h1 J s B H {D with nx:=u D} I h) λf s1 q=>?_;cases f with
 |next=>
  let{z,H',G,q}:=q;exact h2 J s1 z H' D G q
 |ret v=>exact q
 |brk=>exact q
 |cont=>exact q
def aB(h1:PS X st t):JL X [st] t:=by
 intro J s B H D I h;refine wpAny_execs_cons<|IH (h1 J s B H D I h) λf s1 q=>?_;cases f with
 |next=>exact wpAny_execs_nil q
 |ret v=>exact q
 |brk=>exact q
 |cont=>exact q
def F6:TS:=λD B H=>D.bk B H
def BI:PS X (.Break pos) F6:=λ_ _ B H _ I h=>wpAny_Break ⟨B,H,I,h⟩
def Inv.quiet(I:Inv X J B H s):interactive X.env=false:=by simp[interactive,I.ok.kind]
def Hq(te:TE):TS:=λD B H=>te B H λ_ H1=>D.nx B H1
def aN(he:PE X e te)(hs:swapsWith e none pos.line X.env=pure false:=by rfl):PS X (.Expr e pos) (Hq te):=by
 intro J s B H D I h;exact wpAny_Expr_any (IH (he J s B H _ I h) λv s1 zz=>by let{x,H1,z,r1,q1}:=zz;exact⟨B,H1,z,q1⟩) I.quiet hs
def tRet(te:TE):TS:=λD B H=>te B H D.rt
def aD(he:PE X e te):PS X (.Return (some e) pos) (tRet te):=by
 intro J s B H D I h;exact wpAny_Return_some<|IH (he J s B H _ I h) λv s1 zz=>by let{x,H1,z,r1,q1}:=zz;exact⟨x,B,H1,z,r1,q1⟩
def Hl:TS:=λD _ H=>D.rt .non H
def mR:PS X (.Return none pos) Hl:=λ_ _ B H _ I h=>wpAny_Return_none {.non,B,H,I,M,h}
def tIfS(c:TT)(t u:TS):TS:=λD B H=>c B H λb H1=>if b=true then t D B H1 else u D B H1
def aT{a b:List Stmt}(hc:PT X c tc)(ha:JL X a t)(hb:JL X b u):PS X (.If c a b pos) (tIfS tc t u):=by
 intro J s B H D I h;refine wpAny_If<|IH (hc J s B H _ I h) λd s1 zz=>?_;let{H1,z,q1}:=zz;cases d with
 |true=>exact ha J s1 B H1 D z q1
 |false=>exact hb J s1 B H1 D z q1
end
abbrev TG:=V->St->Hp->(St->Hp->Prop)->Prop
abbrev TGs:=List V->St->Hp->(St->Hp->Prop)->Prop
abbrev _root_.Ml:=St->Hp->Prop
def PG(X:Cx)(target:Expr)(t:TG):Prop:=
 ∀(J:Lm)(s:K')(B:St)(H:Hp)(v:V)(u:Lg)(Q:Ml),Inv X J B H s->RelV v u->t v B H Q->
  Jd X (assign target X.env u) (λ_ s'=>∃σ' H',Inv X J σ' H' s'/\Q σ' H') X.xe s
def PGs(X:Cx)(ts:Mh)(t:TGs):Prop:=
 ∀(J:Lm)(s:K')(B:St)(H:Hp)(vs:Lf)(us:Lj)(Q:Ml),Inv X J B H s->Du vs us->t vs B H Q->
  Jd X (assignInOrder ((assignEach ts X.env).map (·.2)) us) (λ_ s'=>∃σ' H',Inv X J σ' H' s'/\Q σ' H') X.xe s
abbrev G9:=V->V->V->Hp->(Hp->Prop)->Prop
def PSet(X:Cx)(t:G9):Prop:=
 ∀(J:Lm)(s:K')(B:St)(H:Hp)(o i v:V)(ov iv u:Lg)(Q:Hp->Prop),Inv X J B H s->RelV o ov->RelV i iv->RelV v u->t o i v H Q->
  Jd X (setItem ov iv u) (λ_ s'=>∃H',Inv X J B H' s'/\Q H') X.xe s
abbrev TIp:=V->V->Hp->VK->Prop
def PIp(X:Cx)(op:Operator)(t:TIp):Prop:=
 ∀(J:Lm)(s:K')(B:St)(H:Hp)(x y:V)(v u:Lg)(Q:VK),Inv X J B H s->RelV x v->RelV y u->t x y H Q->
  Jd X (inplaceOp op v u) (EP X J B Q) X.xe s
abbrev jU(i:Nat):TG:=λv B H Q=>Q (B.set i<|some v) H
def yY(hN:X.N.Nodup)(hi:X.N[i]?=some x)(hx:Loc X.env.scope x)(hf:X.fn x=true\/X.env.scope.names.lookup x=some .local:=by ac_rfl):PG X (.Name x pos) (jU i):=by
 intro J s B H v u Q I r h;exact wpAny_assign_Name<|qf I hN hi hx r (λs' z=>{_,H,z,h}) hf
def gNil:TGs:=λvs B H Q=>vs=[]/\Q B H
inductive HW(t:TG)(u:TGs)(vs:Lf)(B:St)(H:Hp)(Q:Ml):Prop
 |mk(v r:_)(_:vs=v::r)(_:t v B H λσ' H'=>u r σ' H' Q)
def mT:PGs X [] gNil:=by
 intro J s B H vs us Q I r h;let{e,h}:=h;subst e;cases r;exact assignInOrder_nil ⟨B,H,I,h⟩
def cJ{t:TG}{u:TGs}(h1:PG X e t)(h2:PGs X es u)
  (hs:(assignEach (e::es) X.env).map (·.2)=assign e X.env::(assignEach es X.env).map (·.2):=by rfl):PGs X (e::es) (HW t u):=by
 intro J s B H vs us Q I r h;let{v,Y,O,h}:=h;subst O;cases r with
 |cons r U=>
  rw[hs];refine assignInOrder_cons<|IH (h1 J s B H _ _ _ I r h) λ_ s1 z=>?_;let{G,H1,W,q1}:=z;exact h2 J s1 G H1 _ _ Q W U q1
inductive gTup(K:Jc)(n:Nat)(t:TGs)(v:V)(B:St)(H:Hp)(Q:Ml):Prop
 |mk(a xs:_)(_:v= .ref a)(_:JE K H a xs)(_:xs.length=n)(_:t xs B H Q)
def qS{k:Nat}{t:TGs}(hc:X.calm=true)(h:PGs X es t)
  (G:(assignEach es X.env).length=n:=by rfl) (z:(assignEach es X.env).findIdx? (·.1)=none:=by rfl):PG X (.Tuple es k pos) (gTup X.K n t):=by
 intro J s B H v u Q I r hw;let{a,xs,O,hq,hl,hw}:=hw;subst O;cases r;let{its,rv,U,hz}:=I.tuple hq;refine assign_Tuple_tuple (I.ok.hd hc) U (by simp[G,<-hl,rv.length]) z λh' hx=>?_;have W:Inv X J B H {s with heap:=h'}:=I.kept (t':=s.toks) λb o e=>hx b o (Qy<|Kl e) e;exact h J _ B H xs _ Q W (by simpa using rv) hw
def gSub(to ti:TE)(t:G9):TG:=λv B H Q=>to B H λo H1=>ti B H1 λi H2=>t o i v H2 λH3=>Q B H3
def yg{o i:Expr}{to U:TE}{t:G9}(W:PE X o to)(hi:PE X i U)(hs:PSet X t)
  (ha:∀v,assign (.Subscript o i pos) X.env v=(do
   let G<-holding [v] (eval o X.env)
   let O<-holding [v,G] (eval i X.env)
   standAt pos
   holding [v,G,O] (setItem G O v)
   release [v,G,O] []):=by subst_eqs):PG X (.Subscript o i pos) (gSub to U t):=by
 intro J s B H v u Q I r h;rw[ha];refine Kk<|KN (IH (W J s B H _ I h) λG s1 z=>?_);let{x,H1,Y,r1,q1}:=z;refine Kk<|KN (IH (hi J s1 B H1 _ Y q1) λO Z z=>?_);let{y,H2,I2,r2,q2}:=z;refine Kk<|wpAny_standAt (Kk<|KN<|IH (hs J Z B H2 x y v G O u _ I2 r1 r2 r q2) λ_ s3 z=>?_);let{H3,I3,q3}:=z;exact wpAny_release ⟨B,H3,I3,q3⟩
def zT(te:TE)(g:TG):TS:=λD B H=>te B H λx H1=>g x B H1 D.nx
def qQ{g:TG}(he:PE X e te)(G:PG X tg g)(hs:swapsWithSole [tg] e pos.line X.env=pure false:=by rfl)(hw:swappedStores [tg] e X.env=pure none:=by rfl)
  (h1:(assignEach [tg] X.env).map (·.2)=[assign tg X.env]:=by rfl):PS X (.Assign [tg] e pos) (zT te g):=by
 intro J s B H D I h;refine wpAny_Assign_stores (IH (he J s B H _ I h) λv s1 z=>?_) hs hw;let{x,H1,O,r1,q1}:=z;rw[h1];exact IH (G J s1 B H1 x v _ O r1 q1) λ_ U q=>q
def gI(hN:X.N.Nodup)(hi:X.N[i]?=some x)(hx:Loc X.env.scope x)(he:PE X e te)(hs:swapsWith e (some<|.Name x pos') pos.line X.env=pure false:=by rfl)(hf:X.fn x=true\/X.env.scope.names.lookup x=some .local:=by ac_rfl):
  PS X (.Assign [.Name x pos'] e pos) (zT te<|jU i):=by
 intro J s B H D I h;refine wpAny_Assign_Name (IH (he J s B H _ I h) λv s1 z=>?_) hs;let{y,H1,G,r1,q1}:=z;exact qf G hN hi hx r1 (λU O=>{_,H1,O,q1}) hf
inductive tAug(i:Nat)(te:TE)(ti:TIp)(D:nW)(B:St)(H:Hp):Prop
 |mk(x:_)(_:B[i]?=some (some x))(_:te B H λy H1=>ti x y H1 λz H2=>D.nx (B.set i<|some z) H2)
def yf{op:Operator}{Y:TIp}(hN:X.N.Nodup)(hi:X.N[i]?=some x)(hx:Loc X.env.scope x)(he:PE X e te)(Z:PIp X op Y)(hf:X.fn x=true\/X.env.scope.names.lookup x=some .local:=by ac_rfl):
  PS X (.AugAssign (.Name x pos') op e pos) (tAug i te Y):=by
 intro J s B H D I h;let{v,e1,h}:=h;let{m,hn,hl}:=I.loc;have W:Lc X.env.scope x:=by rcases hx with k|k;exact .inl k;exact .inr<|.inl k
 let{u,r,l}:=hl i x v hi e1 W;refine wpAny_AugAssign_Name ?_;have go:Jd X (eval e X.env) (λw s₂=>Jd X (inplaceOp op u w) (λr U=>Jd X (storeName X.env x r) (λ_=>SP X J D .next) X.xe U) X.xe s₂) X.xe s:=by
  refine IH (he J s B H _ I h) λw s1 G=>?_;let{y,H1,I1,r1,q1}:=G;refine IH (Z J s1 B H1 v y u w _ I1 r r1 q1) λz s2 G=>?_;let{zv,H2,I2,r2,q2}:=G;exact qf I2 hN hi hx r2 (λs3 I3=>{_,H2,I3,q2}) hf
 rcases l with⟨hk,hm⟩|⟨hk,c,hc,O⟩
 .exact wpAny_loadName_local I.ok.kind hk hn hm go
 .rcases hk with hk|hk
  .exact wpAny_loadName_cell I.ok.kind hk hc O go
  .rcases hx with k|k
   .have:X.env.scope.names.lookup x=some .free:=hk;rw[k]at this;cases this
   .have:X.env.scope.names.lookup x=some .free:=hk;rw[k]at this;cases this
inductive ipI(f:Int->Int->Int)(x y:V)(H:Hp)(Q:VK):Prop
 |mk(i j:_)(_:x= .int i)(_:y= .int j)(_:Q (.int<|f i j) H)
def Ct:PIp X .Add (ipI λi j=>i+j):=by
 intro J s B H x y v u Q I r1 z h;let{i,j,G,e2,q}:=h;subst G;subst e2;let{t,rfl}:=r1;let{t',rfl}:=z;exact iadd_int {.int _,H,I.tok _,{_,M},q}
def GL:PIp X .Sub (ipI λi j=>i-j):=by
 intro J s B H x y v u Q I r1 z h;let{i,j,G,e2,q}:=h;subst G;subst e2;let{t,rfl}:=r1;let{t',rfl}:=z;exact isub_int {.int _,H,I.tok _,{_,M},q}
def Bo(c:TT)(tb:TS):TS:=λD B H=>∃W:Nat->St->Hp->Prop,(∃m,W m B H)/\∀m B H,W m B H->
 c B H λb H1=>if b=true then ∃N:St->Hp->Prop,(∀σ' H',N σ' H'->∃m',m'<m/\W m' σ' H')/\tb {D with nx:=N,ct:=N,bk:=D.nx} B H1 else D.nx B H1
def jC(hp:PassesOwn (model X.prog X.w) X.A X.env X.xe)(hc:PT X c tc)(hb:JL X body tb):PS X (.While c body [] pos) (Bo tc tb):=by
 intro J s B H D I h;let{W,{m0,w0},O}:=h;refine wpAny_While<|codeAny_whileLoop (λn s'=>∃U H',Inv X J U H' s'/\W n U H') ?_ m0 ⟨B,H,I,w0⟩;rintro n s1 ⟨G,H1,I1,w1⟩;refine KG hp<|IH (hc J s1 G H1 _ I1<|O n G H1 w1) λb s2 zz=>?_;let{H2,I2,q2}:=zz;cases b with
 |true=>
  let{N,hN,q2}:=q2;rw[Kd M];refine KG hp<|IH (hb J s2 G H2 _ I2 q2) λf s3 Y=>?_;cases f with
  |next=>
   let{z,H3,Z,n3}:=Y;let{m',hm,w3}:=hN z H3 n3;exact⟨m',hm,z,H3,Z,w3⟩
  |cont=>
   let{z,H3,Z,n3}:=Y;let{m',hm,w3}:=hN z H3 n3;exact⟨m',hm,z,H3,Z,w3⟩
  |brk=>exact Y
  |ret v=>exact Y
 |false=>
  rw[Kc Qg];exact wpAny_execs_nil ⟨G,H2,I2,q2⟩
set_option genInjectivity false in
structure It where
 go:Nat->Hp->Prop
 yld:Nat->Hp->V->Hp->Prop
 stop:Nat->Hp->Prop
def xz(X:Cx)(J:Lm)(H:Hp)(b:G'):Prop:=
 H b=none/\b≠X.env.locals/\b∉X.fs/\(b∈X.ex\/X.s₀.heap.objs.size<=b)/\(∀x c,X.env.cells.lookup x=some c->c≠b)/\∀p∈X.pn++J,p.1≠b
def Inv.fpOk(I:Inv X J B H s)(hb:s.heap.objs.size<=b)(G:H' b=none):xz X J H' b:=by
 refine{G,ZN<|Qo I.lt hb,I.nofs hb,.inr<|Qu I.sz hb,λx c e z=>?_,λp hp z=>?_}
 .let{v,q}:=I.cell x c e;exact Kh (Qo q.lt<|by rwa[z])<|Zr _
 .exact Kh (Qo (Kl (I.pin p hp).1)<|by rwa[z]) (Zr _)
structure AU(P:Ln)(w:Lp)(K:Jc)(tg:Expr)(Ja:It)(fp:Lu)(it:G')(tn:Nat->Heap->Prop):Prop where
 mem:it∈fp
 obj:∀i h,tn i h->∀b∈fp,∃o,h.get? b=some o/\∀v,o.data≠ .cell v
 keep:∀i h h',tn i h->(∀b∈fp,∀o,h.get? b=some o->h'.get? b=some o)->tn i h'
 item:∀(X:Cx),X.prog=P->X.w=w->X.K=K->X.calm=true->∀(i:Nat)(J:Lm)(s:K')(B:St)(H:Hp)(E:Ls),Inv X J B H s->(∀b∈fp,xz X J H b)->tn i s.heap->Ja.go i H->
  wpAny (model P w) X.A (pyNext<|.ref it) (λr s1=>∃u,r=some u/\
   wpAny (model P w) X.A (letOwnedTupleGo tg (.ref it) u) (λ_ s2=>∃x H',Inv X J B H' s2/\RelV x u/\Ja.yld i H x H'/\tn (i+1) s2.heap/\∀b∈fp,H' b=none) E s1) E s
 done:∀(X:Cx),X.prog=P->X.w=w->X.K=K->X.calm=true->∀(i:Nat)(J:Lm)(s:K')(B:St)(H:Hp)(E:Ls),Inv X J B H s->(∀b∈fp,xz X J H b)->tn i s.heap->Ja.stop i H->
  wpAny (model P w) X.A (pyNext<|.ref it) (λr s1=>r=none/\Inv X J B H s1) E s
 self:∀(A:Lv)(i:Nat)(s:K')(Q:Ls)(E:Ls),tn i s.heap->Q (.ref it) s->wpAny (model P w) A (pyIter<|.ref it) Q E s
abbrev TI:=St->Hp->(It->Hp->Prop)->Prop
def PIE(X:Cx)(J:Lm)(B:St)(tg:Expr)(R:It->Hp->Prop)(itv:Lg)(s2:K'):Prop:=
 ∃(it:G')(fp:Lu)(tn:Nat->Heap->Prop)(Ja:It)(H':Hp),itv= .ref it/\Inv X J B H' s2/\AU X.prog X.w X.K tg Ja fp it tn/\tn 0 s2.heap/\(∀b∈fp,xz X J H' b)/\R Ja H'
def PI(X:Cx)(tg iter:Expr)(wi:TI):Prop:=
 ∀(J:Lm)(s:K')(B:St)(H:Hp)(R:It->Hp->Prop),Inv X J B H s->wi B H R->
  Jd X (eval iter X.env) (λv s1=>Jd X (pyIter v) (PIE X J B tg R) X.xe s1) X.xe s
def zm{o:Obj}{n:String}{vs:Md}{Q:Mq}(G:s.heap.get? it=some o)(hc:o.cls= .type n)(hd:o.data= .fields vs)
  (I:["enumerate","zip","dict_itemiterator","dict_reverseitemiterator","odict_iterator","itertools.zip_longest","itertools.pairwise"].contains n=false) (z:Q Unit.unit s):wpAny M' A (letOwnedTupleGo tg (.ref it) u) Q E s:=by
 unfold letOwnedTupleGo;cases tg<;>first
  |exact Kt z
  |(cases u<;>first
    |exact Kt z
    |(refine Kk<|wpAny_load G ?_
      rw[hc,hd];show wpAny M' A (if(["enumerate","zip","dict_itemiterator","dict_reverseitemiterator","odict_iterator","itertools.zip_longest","itertools.pairwise"].contains n&&vs[0]?==some (rawInt _))=true then _ else _) Q E s;rw[Kc (by intro h;rw[I,Xr]at h;cases h)];exact Kt z))
def Jx(K:Jc)(a:G'):It:=
 {λi H=>∃xs x,Dv K H a xs/\xs[i]?=some x,λi H x H'=>H'=H/\∀xs,Dv K H a xs->xs[i]?=some x,λi H=>∃xs,Dv K H a xs/\xs.length<=i}
def LB(lo:Int)(n:Nat):It:={λi _=>i<n,λi H x H'=>H'=H/\x= .int (lo+i),λi _=>n<=i}
def zR(a it:G'):AU P w K tg (Jx K a) [it] it (λi h=>h.IsListIter it a i) where
 mem:=by simp
 obj:=λi h st b hb=>by
  have e:b=it:=by simpa using hb
  subst e;let{o,e,c,d}:=st;exact{o,e,λv z=>by rw[d]at z;cases z}
 keep:=λi h h' st k=>st.at λo e=>k it (by simp) o e
 item:=by
  intro X G hw hK hc i J s B H E I hf st O;subst G hw hK;let{xs,x,hq,hx}:=O;let{its,rv,p,hz}:=I.list hq;let{u,hu,ru}:=rv.get hx;let{U,W,f2,Y,Z,f5}:=hf it (by simp);refine wpAny_pyNext_list_item st p.isList (x:=u) (by simpa using hu) λh' st' sb=>?_;have I1:Inv X J B H {s with heap:=h'}:=I.turned (t':=s.toks) (λb o hb e=>(sb.2 b hb).trans e) U W Y Z f5;let{o,e,c,d}:=id st';exact{u,M,zm (s:={s with heap:=h'}) e c d (_) {x,H,I1,ru,{M,λys hy=>by rwa[I.list_inj hy hq]},st',λb hb=>(hf b hb).1}}
 done:=by
  intro X G hw hK hc i J s B H E I hf st O;subst G hw hK;let{xs,hq,hx}:=O;let{its,rv,p,hz}:=I.list hq;let{U,W,f2,Y,Z,f5}:=hf it (by simp);have hl:=rv.length;exact wpAny_pyNext_list_end (I.ok.hd hc) st p.isList (by simp;lia) λh' eb=>{M,I.turned (t':=s.toks) (λb o hb e=>eb b o hb e) U W Y Z f5}
 self:=λ_ _ _ _ _ st h=>wpAny_pyIter_listiter st h
def xR(it:G')(lo:Int)(n:Nat):AU P w K tg (LB lo n) [it] it (λi h=>IsRangeIter h it (lo+(i:Nat)*1) ((n:Int)-(i:Nat)) 1) where
 mem:=by simp
 obj:=λi h st b hb=>by
  have e:b=it:=by simpa using hb
  subst e;exact{_,st,λv z=>by
   have z':Data.fields _=Data.cell v:=z;cases z'}
 keep:=λi h h' st k=>k it (by simp) _ st
 item:=by
  intro X G hw hK hc i J s B H E I hf st O;subst G hw hK;let{U,Y,f2,Z,f4,f5}:=hf it (by simp);have W:=Walks.range (prog:=X.prog) (w:=X.w) (I.ok.hd hc) it lo 1 n;refine W.item i s _ _ O st λv h' tk hv st' kk=>?_;let{t,rfl}:=hv;have I1:Inv X J B H {s with heap:=h',toks:=tk}:=I.turned (λb o hb e=>kk b o (by simpa using hb) e) U Y Z f4 f5;refine{_,M,zm (s:={s with heap:=h',toks:=tk}) (n:="range_iterator") st' M M (_) {.int<|lo+i,H,I1,{t,?_},⟨M,M⟩,st',λb hb=>(hf b hb).1}};rw[Int.mul_one]
 done:=by
  intro X G hw hK hc i J s B H E I hf st O;subst G hw hK;let{U,Y,f2,Z,f4,f5}:=hf it (by simp);exact wpAny_pyNext_range_end (I.ok.hd hc) st (by have:n<=i:=O;lia) λh' eb=>{M,I.turned (t':=s.toks) (λb o hb e=>eb b o hb e) U Y Z f4 f5}
 self:=λ_ _ _ _ _ st h=>wpAny_pyIter_rangeiter st h
inductive GO(K:Jc)(R:It->Hp->Prop)(x:V)(H1:Hp):Prop
 |mk(a:_)(_:x= .ref a)(_:(∃xs,Dv K H1 a xs))(_:R (Jx K a) H1)
def HU(K:Jc)(tl:TE):TI:=λB H R=>tl B H λx H1=>GO K R x H1
def dA{l:Expr}{tl:TE}(hl:PE X l tl):PI X tg l (HU X.K tl):=by
 intro J s B H R I h;refine IH (hl J s B H _ I h) λv s1 G=>?_;let{x,H1,z,r1,q1}:=G;let{a,e,{xs,hq},q}:=q1;subst e;cases r1;let{its,rv,p,hz}:=z.list hq;refine wpAny_pyIter_list p.isList ?_;refine{s1.heap.objs.size,[s1.heap.objs.size],_,_,H1,M,z.kept (t':=s1.toks) λb o e=>Kg _ e,zR a _,{_,Ko _ M,M,M},λb hb=>?_,q};have e:b=s1.heap.objs.size:=by simpa using hb
 subst e;exact z.fpOk (Q5 _)<|z.hok.fresh (Q5 _)
def BD{R:It->Hp->Prop}{hi:Int}{t u v:Tok}{tk:Nat}(I:Inv X J B H s)(h1: -(2^62)<=lo)(h2:lo<2^62)(G: -(2^62)<=hi)(O:hi<2^62)
  (q:R (LB lo (hi-lo).toNat) H):Jd X (pyIter<|.ref s.heap.objs.size) (PIE X J B tg R) E {s with heap:=s.heap.push {cls:= .type nC,data:= .fields #[.int lo t,.int hi u,.int 1 v]},toks:=tk}:=by
 refine wpAny_pyIter_range (IsRange.new ..) (small_one h1 h2 G O) ?_;have z:Inv X J B H {s with heap:=s.heap.push {cls:= .type nC,data:= .fields #[.int lo t,.int hi u,.int 1 v]},toks:=tk}:=I.kept λb o e=>Kg _ e;refine{(s.heap.push {cls:= .type nC,data:= .fields #[.int lo t,.int hi u,.int 1 v]}).objs.size,[(s.heap.push {cls:= .type nC,data:= .fields #[.int lo t,.int hi u,.int 1 v]}).objs.size],_,_,H,M,
  z.kept (t':=tk) λb o e=>Kg _ e,xR _ lo (hi-lo).toNat,?_,λb hb=>?_,q}
 .have U:lo+((0:Nat):Int)*1=lo:=by simp
  have e2:(((hi-lo).toNat:Nat):Int)-((0:Nat):Int)=Builtin.Range.rangeSize lo hi 1:=by rw[rangeSize_one];split<;>lia
  show IsRangeIter _ _ (lo+((0:Nat):Int)*1) ((((hi-lo).toNat:Nat):Int)-((0:Nat):Int)) 1;rw[U,e2];exact Ko _ M
 .have e:b=(s.heap.push {cls:= .type nC,data:= .fields #[.int lo t,.int hi u,.int 1 v]}).objs.size:=by simpa using hb
  subst e;exact z.fpOk (Q5 _) (z.hok.fresh<|Q5 _)
inductive GN(R:It->Hp->Prop)(vs:Lf)(H1:Hp):Prop
 |mk(j:Int)(_:vs=[.int j])(_: -(2^62)<=j)(_:j<2^62)(_:R (LB 0 j.toNat) H1)
def HS(ta:TA):TI:=λB H R=>ta B H λvs H1=>GN R vs H1
def hJ{a:Expr}{ta:TA}(G:Gl X nC)(O:X.mg nC=none)(ha:PA X [a] ta)(hs:starEach [a] X.env=[(false,eval a X.env)]:=by rfl):PI X tg (.Call (.Name nC p) [a] [] pos) (HS ta):=by
 intro J s B H R I h;refine Call_<|oE I G O boot_range (PyProof.Rows.callWith_type1 (IH (ha pos J s B H _ I h) λus s1 z=>?_) hs M);let{vs,H1,U,r1,q1}:=z;let{j,e,q1,q2,q}:=q1;subst e;cases r1 with
 |cons r W=>
  cases W;let{t,rfl}:=r;exact call_range_1<|BD U () () q1 q2 (by simpa using q)
def tFor(wi:TI)(g:TG)(tb:TS):TS:=λD B H=>wi B H λJa H1=>∃W:Nat->Nat->St->Hp->Prop,(∃m,W 0 m B H1)/\∀i m B H,W i m B H->
 (Ja.stop i H/\D.nx B H)\/(Ja.go i H/\∃N:St->Hp->Prop,(∀σ' H',N σ' H'->∃m',m'<m/\W (i+1) m' σ' H')/\∀x H',Ja.yld i H x H'->g x B H' λσ2 H2=>tb {D with nx:=N,ct:=N,bk:=D.nx} σ2 H2)
def qR(fp:Lu)(h:Heap):List (Addr×Obj):=fp.filterMap λb=>(h.get? b).map λo=>(b,o)
def iQ{o:Obj}(hb:b∈fp)(e:h.get? b=some o):(b,o)∈qR fp h:=List.mem_filterMap.mpr {b,hb,by rw[e];rfl}
def Ai{p:Addr×Obj}(hp:p∈qR fp h):p.1∈fp/\h.get? p.1=some p.2:=by
 let{b,hb,e}:=List.mem_filterMap.mp hp;cases q:h.get? b with
 |none=>rw[q]at e;cases e
 |some o=>
  rw[q]at e;have z:(b,o)=p:=Kf e;subst z;exact⟨hb,q⟩
def Inv.pinned(I:Inv X J B H s)(hf:∀b∈fp,xz X J H b)(O:∀b∈fp,∃o,s.heap.get? b=some o/\∀v,o.data≠ .cell v):Inv X (J++qR fp s.heap) B H s:=
 I.pins_of λp hp=>(Q4.mp hp).elim (λz=>I.pin p<|Qv _ z) λz=>by
  let{hb,e}:=Ai z;let{U,W,Y,_}:=hf p.1 hb;let{o,G,d}:=O p.1 hb;rw[e]at G;cases G;exact⟨e,U,W,Y,d⟩
def Inv.unpinned{pl:Lm}(I:Inv X (J++pl) B H s):Inv X J B H s:=I.pins_of λp hp=>I.pin p (Qv _<|ZY _ hp)
def l7{iter:Expr}{wi:TI}{g:TG}(hp:PassesOwn (model X.prog X.w) X.A X.env X.xe)(hc:X.calm=true)(hi:PI X tg iter wi)(hg:PG X tg g)(hb:JL X body tb)
  (hs:∀x,foldedSetIterable iter X.env x=pure x:=by subst_eqs):PS X (.For tg iter body [] pos) (tFor wi g tb):=by
 intro J s B H D I h;refine wpAny_For (IH (hi J s B H _ I h) λv s1 h1=>IH h1 λam s2 h2=>?_) hs;let{it,fp,tn,Ja,H2,e,I2,T,st2,f2,W,{m0,w0},a2}:=h2;subst e;have G:∀{H':Hp},(∀b∈fp,H' b=none)->∀b∈fp,xz X J H' b:=λhn b hb=>{hn b hb,(f2 b hb).2};refine codeAny_forLoop_any (λn s'=>∃i O H',Inv X J O H' s'/\tn i s'.heap/\(∀b∈fp,H' b=none)/\W i n O H') ?_ m0 {0,B,H2,I2,st2,λb hb=>(f2 b hb).1,w0};rintro n s3 ⟨i,U,H3,I3,a3,a4,w3⟩;rcases a2 i n U H3 w3 with⟨a5,qn⟩|⟨go,N,hN,step⟩
 .refine KG hp<|IH (T.done X M M M hc i J s3 U H3 X.xe I3 (G a4) a3 a5) λr s4 zz=>?_;let{hr,I4}:=zz;subst hr;exact wpAny_execs_nil ⟨U,H3,I4,qn⟩
 .refine KG hp<|IH (T.item X M M M hc i J s3 U H3 X.xe I3 (G a4) a3 go) λr s4 zz=>?_;let{u,hr,h4}:=zz;subst hr;refine KG hp<|IH h4 λ_ s5 a0=>?_;let{x,H5,I5,r5,y5,a1,a6}:=a0;have a9:=I5.pinned (G a6) (T.obj _ _ a1);refine KG hp<|IH (hg _ s5 U H5 x u _ a9 r5<|step x H5 y5) λ_ s6 a0=>?_;let{ab,H6,I6,q6}:=a0;refine KG hp<|IH (hb _ s6 ab H6 _ I6 q6) λf s7 q7=>?_;have again:∀{z:St}{Y:Hp},Inv X (J++qR fp s5.heap) z Y s7->N z Y->∃m,m<n/\∃i O H',Inv X J O H' s7/\tn i s7.heap/\(∀b∈fp,H' b=none)/\W i m O H':=λ{z Y} Z n7=>by
   let{m',hm,w7}:=hN z Y n7;refine{m',hm,i+1,z,Y,Z.unpinned,T.keep _ _ _ a1 λb hb o e=>(Z.pin (b,o)<|Qv _<|Qv _<|iQ hb e).1,λb hb=>?_,w7};let{o,e,d}:=T.obj _ _ a1 b hb;exact(Z.pin (b,o)<|Qv _<|Qv _<|iQ hb e).2.1
  cases f with
  |next=>let{z,Y,Z,n7}:=q7;exact again Z n7
  |cont=>let{z,Y,Z,n7}:=q7;exact again Z n7
  |brk=>let{z,Y,Z,q7}:=q7;exact⟨z,Y,Z.unpinned,q7⟩
  |ret v=>let{x7,z,Y,Z,r7,q7}:=q7;exact⟨x7,z,Y,Z.unpinned,r7,q7⟩
abbrev _root_.Mr:=Nat->St->Hp->Prop
def CG{g:TG}{D:nW}(Pv:Mr)(O:Pv 0 B H)(hl:∀i B H,i<=xs.length->Pv i B H->Dv K H a xs)
  (hs:∀i x B H,xs[i]?=some x->Pv i B H->g x B H λz H2=>tb {D with nx:=Pv (i+1),ct:=Pv (i+1),bk:=D.nx} z H2) (hd:∀B H,Pv xs.length B H->D.nx B H):
  ∃W:Nat->Nat->St->Hp->Prop,(∃m,W 0 m B H)/\∀i m B H,W i m B H->
   ((Jx K a).stop i H/\D.nx B H)\/((Jx K a).go i H/\∃N:St->Hp->Prop,(∀G H',N G H'->∃m',m'<m/\W (i+1) m' G H')/\∀x H',(Jx K a).yld i H x H'->g x B H' λz H2=>tb {D with nx:=N,ct:=N,bk:=D.nx} z H2):=by
 refine{λi m B H=>m=xs.length-i/\i<=xs.length/\Pv i B H,{xs.length,by simp,Qh _,O},?_};rintro i m B H ⟨rfl,hi,p⟩;have q:=hl i B H hi p;by_cases I:i<xs.length
 .refine .inr {{xs,xs[i],q,by simp[I]},Pv<|i+1,λG H' U=>{xs.length-(i+1),(),M,I,U},λx H' y=>?_};let{e,y}:=y;subst e;exact hs i x B _ (y xs q) p
 .have e:i=xs.length:=();subst e;exact .inl {{xs,q,Q5 _},hd B H p}
def uB{g:TG}{D:nW}(Pv:Mr)(O:Pv 0 B H)
  (hs:∀i B H,i<n->Pv i B H->g (.int<|lo+i) B H λz H2=>tb {D with nx:=Pv (i+1),ct:=Pv (i+1),bk:=D.nx} z H2) (hd:∀B H,Pv n B H->D.nx B H):
  ∃W:Nat->Nat->St->Hp->Prop,(∃m,W 0 m B H)/\∀i m B H,W i m B H->
   ((LB lo n).stop i H/\D.nx B H)\/((LB lo n).go i H/\∃N:St->Hp->Prop,(∀G H',N G H'->∃m',m'<m/\W (i+1) m' G H')/\∀x H',(LB lo n).yld i H x H'->g x B H' λz H2=>tb {D with nx:=N,ct:=N,bk:=D.nx} z H2):=by
 refine{λi m B H=>m=n-i/\i<=n/\Pv i B H,{n,by simp,Qh _,O},?_};rintro i m B H ⟨rfl,hi,p⟩;by_cases I:i<n
 .refine .inr {I,Pv<|i+1,λG H' U=>{n-(i+1),(),M,I,U},λx H' y=>?_};let{e,y}:=y;subst e y;exact hs i B _ I p
 .have e:i=n:=();subst e;exact .inl {Q5 _,hd B H p}
abbrev R2:=V->V->Hp->VK->Prop
abbrev _root_.Ms:=Value->Value->Sem Value
def JU(X:Cx)(f:Ms)(r:R2):Prop:=
 ∀(J:Lm)(s:K')(B:St)(H:Hp)(x y:V)(v u:Lg)(Q:VK),Inv X J B H s->RelV x v->RelV y u->r x y H Q->
  Jd X (f v u) (EP X J B Q) X.xe s
def UnR(X:Cx)(f:Value->Sem Value)(r:V->Hp->VK->Prop):Prop:=
 ∀(J:Lm)(s:K')(B:St)(H:Hp)(x:V)(v:Lg)(Q:VK),Inv X J B H s->RelV x v->r x H Q->
  Jd X (f v) (EP X J B Q) X.xe s
def iz(X:Cx)(f:Lg)(r:List V->Hp->VK->Prop):Prop:=
 ∀(J:Lm)(s:K')(B:St)(H:Hp)(xs:Lf)(us:Lj)(Q:VK),Inv X J B H s->Du xs us->r xs H Q->
  Jd X (call f us) (EP X J B Q) X.xe s
def tOp(r:R2)(ta tb:TE):TE:=λB H Q=>ta B H λx H1=>tb B H1 λy H2=>r x y H2 Q
def tUn(r:V->Hp->VK->Prop)(ta:TE):TE:=λB H Q=>ta B H λx H1=>r x H1 Q
inductive rI(C:Int->Int->Prop)(g:Int->Int->V)(x y:V)(H:Hp)(Q:VK):Prop
 |mk(i j:_)(_:x= .int i)(_:y= .int j)(_:C i j)(_:Q (g i j) H)
inductive LQ(g:Int->Int->V)(x y:V)(H:Hp)(Q:VK):Prop
 |mk(i j:_)(_:x= .int i)(_:y= .int j)(_:Q (g i j) H)
inductive rU(g:Int->V)(x:V)(H:Hp)(Q:VK):Prop
 |mk(i:_)(_:x= .int i)(_:Q (g i) H)
section
variable{a b:Expr}{tb tc:TE}
def G3(ha:PE X a ta)(hb:PE X b tb){R:V->V->Hp->Prop}(I:Inv X J B H s)
  (h:ta B H λx H1=>tb B H1 λy H2=>R x y H2) {f:Ms}
  (hf:∀v u G x y H2,Inv X J B H2 G->RelV x v->RelV y u->R x y H2->Jd X (f v u) Q X.xe G):
  Jd X (eval a X.env) (λv s₁=>Jd X (eval b X.env) (λu s₂=>Jd X (f v u) Q X.xe s₂) X.xe s₁) X.xe s:=by
 refine IH (ha J s B H _ I h) λv s1 z=>?_;let{x,H1,O,r1,q1}:=z;refine IH (hb J s1 B H1 _ O q1) λu G z=>?_;let{y,H2,U,W,q2}:=z;exact hf v u G x y H2 U r1 W q2
def al{op:Operator}(z:JU X (binaryOp op) r)(ha:PE X a ta)(hb:PE X b tb):PE X (.BinOp a op b pos) (tOp r ta tb):=by
 intro J s B H Q I h;exact wpAny_BinOp<|G3 ha hb I h λv u G x y H2 O U W q=>z J G B H2 x y v u Q O U W q
def BJ{op:UnaryOp}{r:V->Hp->VK->Prop}(z:UnR X (unaryOp op) r)(ha:PE X a ta):PE X (.UnaryOp op a pos) (tUn r ta):=by
 intro J s B H Q I h;exact UnaryOp_<|IH (ha J s B H _ I h) λv s1 zz=>by let{x,H1,G,r1,q1}:=zz;exact z J s1 B H1 x v Q G r1 q1
def opI{f:Ms}{C:Int->Int->Prop} 
  (rule:∀(i j:Int)(t u:Tok)(s:K')(Q:Ls)(E:Ls),C i j->Q (.int (g i j) s.toks) {s with toks:=s.toks+1}->Jd X (f (.int i t)<|.int j u) Q E s):
  JU X f (rI C λi j=> .int<|g i j):=by
 intro J s B H x y v u Q I z G h;let{i,j,rfl,rfl,hc,q}:=h;let{t,rfl}:=z;let{t',rfl}:=G;exact rule i j t t' s _ _ hc {.int<|g i j,H,I.tok _,{_,M},q}
def opI0{f:Ms} 
  (rule:∀(i j:Int)(t u:Tok)(s:K')(Q:Ls)(E:Ls),Q (.int (g i j) s.toks) {s with toks:=s.toks+1}->Jd X (f (.int i t)<|.int j u) Q E s):
  JU X f (LQ λi j=> .int<|g i j):=by
 intro J s B H x y v u Q I z G h;let{i,j,rfl,rfl,q}:=h;let{t,rfl}:=z;let{t',rfl}:=G;exact rule i j t t' s _ _ {.int<|g i j,H,I.tok _,{_,M},q}
def Ed{f:Ms}{g:Int->Int->Bool}
  (rule:∀(i j:Int)(t u:Tok)(s:K')(Q:Ls)(E:Ls),Q (.bool<|g i j) s->Jd X (f (.int i t)<|.int j u) Q E s):
  JU X f (LQ λi j=> .bl<|g i j):=by
 intro J s B H x y v u Q I z G h;let{i,j,rfl,rfl,q}:=h;let{t,rfl}:=z;let{t',rfl}:=G;exact rule i j t t' s _ _ {.bl<|g i j,H,I,M,q}
def CDiv(i j:Int):Prop:=0<j/\j<1073741824
def CPow(i j:Int):Prop:=0<=j/\j<=1000000/\i.natAbs<2^64
def LS(i j:Int):Prop:=(-(2^64)<i/\i<2^64)\/(-(2^64)<j/\j<2^64)
def LS.ok{i j:Int}(h:LS i j):IntMulOk i j:=by
 rcases h with⟨h1,h2⟩|⟨h1,h2⟩
 .exact .of_left<|intBits_le_64 h1 h2
 .exact .of_right<|intBits_le_64 h1 h2
def aX:JU X (binaryOp .Add) (LQ λi j=> .int<|i+j):=opI0 λ_ _ _ _ _ _ _ q=>add_int q
def fI:JU X (binaryOp .Sub) (LQ λi j=> .int<|i-j):=opI0 λ_ _ _ _ _ _ _ q=>sub_int q
def cU:JU X (binaryOp .Mult) (rI LS λi j=> .int<|i*j):=opI λ_ _ _ _ _ _ _ hc q=>mul_int q hc.ok
def aK:JU X (binaryOp .FloorDiv) (rI CDiv λi j=> .int<|i/j):=opI λi j _ _ _ _ _ hc q=>by
 have h1:(0:Int)<j:=hc.1;have h2:j<1073741824:=hc.2;exact floordiv_int () (by rw[K5 i ()];exact q)<|.inl (PyProof.noPylong_small ())
def aH:JU X (binaryOp .Mod) (rI (λ_ j=>0<j) λi j=> .int<|i%j):=opI λi j _ _ _ _ _ hc q=>by
 have h1:(0:Int)<j:=hc;exact mod_int' ()<|by rw[Int.fmod_eq_emod_of_nonneg i ()];exact q
def gJ:JU X (binaryOp .Pow) (rI CPow λi j=> .int<|i^j.toNat):=opI λ_ _ _ _ _ _ _ hc q=>pow_int_small hc.1 hc.2.1 hc.2.2 q
def unI{f:Value->Sem Value}{g:Int->Int}
  (rule:∀(i:Int)(t:Tok)(s:K')(Q:Ls)(E:Ls),Q (.int (g i) s.toks) {s with toks:=s.toks+1}->Jd X (f<|.int i t) Q E s):
  UnR X f (rU λi=> .int<|g i):=by
 intro J s B H x v Q I z h;let{i,rfl,q}:=h;let{t,rfl}:=z;exact rule i t s _ _ {.int<|g i,H,I.tok _,{_,M},q}
def xQ:UnR X (unaryOp .USub) (rU λi=> .int<|-i):=unI λ_ _ _ _ _ q=>neg_int q
end
noncomputable def scal:V->V->Bool
 | .non,.non=>true| .non,.int _=>true| .int _,.non=>true| .non,.bl _=>true| .bl _,.non=>true| .non,.str _=>true| .str _,.non=>true
 | .int _,.int _=>true| .bl _,.bl _=>true| .str _,.str _=>true| .byt _,.byt _=>true
 | .int _,.str _=>true| .str _,.int _=>true| .bl _,.str _=>true| .str _,.bl _=>true
 |_,_=>false
def rEq:R2:=λx y H Q=>scal x y=true/\Q (.bl<|decide (x=y)) H
def rNe:R2:=λx y H Q=>scal x y=true/\Q (.bl<|!decide (x=y)) H
def zu{i j:Int}:decide (V.int i=V.int j)=(i==j):=by
 rw[Xi];simp
def CP{i j:Bool}:decide (V.bl i=V.bl j)=(i==j):=by
 rw[Xi];simp
def zt{i j:Str}:decide (V.str i=V.str j)=(i==j):=by
 rw[Xi];simp
def zx{i j:Array UInt8}:decide (V.byt i=V.byt j)=(i.toList==j.toList):=by
 rw[Xi];cases i;cases j;simp
section
variable{a b:Expr}{tb tc:TE}
def aY{Q:VK}{k k':Bool}(I:Inv X J B H s)(q:Q (.bl k) H)(e:k=k'):EP X J B Q (.bool k') s:=by
 subst e;exact{.bl k,H,I,M,q}
def bH:JU X (compareOp .Eq) rEq:=by
 intro J s B H x y v u Q I G z h;let{hs,q}:=h;cases x with
 |non=>
  cases G;cases y with
  |non=>cases z;exact PySem.EqNone.eq_none_none<|aY I q (by simp)
  |bl j=>cases z;exact PySem.EqNone.eq_none_bool<|aY I q (by simp)
  |int j=>let{t',rfl}:=z;exact PySem.EqNone.eq_none_int<|aY I q (by simp)
  |str j=>let{t',rfl}:=z;exact PySem.EqNone.eq_none_str<|aY I q (by simp)
  |_=>exact Kh (show false=true from hs) Qg
 |bl i=>
  cases G;cases y with
  |non=>cases z;exact PySem.EqNone.eq_bool_none<|aY I q (by simp)
  |bl j=>cases z;exact eq_bool<|aY I q CP
  |str j=>let{t',rfl}:=z;exact PySem.EqMixed.eq_bool_str<|aY I q (by simp)
  |_=>exact Kh (show false=true from hs) Qg
 |int i=>
  let{t,rfl}:=G;cases y with
  |non=>cases z;exact PySem.EqNone.eq_int_none<|aY I q (by simp)
  |int j=>let{t',rfl}:=z;exact eq_int<|aY I q zu
  |str j=>let{t',rfl}:=z;exact PySem.EqMixed.eq_int_str<|aY I q (by simp)
  |_=>exact Kh (show false=true from hs) Qg
 |str i=>
  let{t,rfl}:=G;cases y with
  |non=>cases z;exact PySem.EqNone.eq_str_none<|aY I q (by simp)
  |bl j=>cases z;exact PySem.EqMixed.eq_str_bool<|aY I q (by simp)
  |int j=>let{t',rfl}:=z;exact PySem.EqMixed.eq_str_int<|aY I q (by simp)
  |str j=>let{t',rfl}:=z;exact eq_str<|aY I q zt
  |_=>exact Kh (show false=true from hs) Qg
 |byt i=>
  let{t,rfl}:=G;cases y with
  |byt j=>let{t',rfl}:=z;exact PySem.W.eq_bytes<|aY I q zx
  |_=>exact Kh (show false=true from hs) Qg
 |_=>cases y<;>exact Kh (show false=true from hs) Qg
def Fg:JU X (compareOp .NotEq) rNe:=by
 intro J s B H x y v u Q I G z h;let{hs,q}:=h;cases x with
 |non=>
  cases G;cases y with
  |non=>cases z;exact PySem.EqNone.ne_none_none<|aY I q (by simp)
  |bl j=>cases z;exact PySem.EqNone.ne_none_bool<|aY I q (by simp)
  |int j=>let{t',rfl}:=z;exact PySem.EqNone.ne_none_int<|aY I q (by simp)
  |str j=>let{t',rfl}:=z;exact PySem.EqNone.ne_none_str<|aY I q (by simp)
  |_=>exact Kh (show false=true from hs) Qg
 |bl i=>
  cases G;cases y with
  |non=>cases z;exact PySem.EqNone.ne_bool_none<|aY I q (by simp)
  |bl j=>cases z;exact ne_bool<|aY I q (Ks not CP)
  |str j=>let{t',rfl}:=z;exact PySem.EqMixed.ne_bool_str<|aY I q (by simp)
  |_=>exact Kh (show false=true from hs) Qg
 |int i=>
  let{t,rfl}:=G;cases y with
  |non=>cases z;exact PySem.EqNone.ne_int_none<|aY I q (by simp)
  |int j=>let{t',rfl}:=z;exact ne_int<|aY I q (Ks not zu)
  |str j=>let{t',rfl}:=z;exact PySem.EqMixed.ne_int_str<|aY I q (by simp)
  |_=>exact Kh (show false=true from hs) Qg
 |str i=>
  let{t,rfl}:=G;cases y with
  |non=>cases z;exact PySem.EqNone.ne_str_none<|aY I q (by simp)
  |bl j=>cases z;exact PySem.EqMixed.ne_str_bool<|aY I q (by simp)
  |int j=>let{t',rfl}:=z;exact PySem.EqMixed.ne_str_int<|aY I q (by simp)
  |str j=>let{t',rfl}:=z;exact ne_str<|aY I q (Ks not zt)
  |_=>exact Kh (show false=true from hs) Qg
 |byt i=>
  let{t,rfl}:=G;cases y with
  |byt j=>let{t',rfl}:=z;exact PySem.W.ne_bytes<|aY I q (Ks not zx)
  |_=>exact Kh (show false=true from hs) Qg
 |_=>cases y<;>exact Kh (show false=true from hs) Qg
def d9:JU X (compareOp .Lt) (LQ λi j=> .bl<|decide (i<j)):=Ed λ_ _ _ _ _ _ _ q=>lt_int q
def uq:JU X (compareOp .LtE) (LQ λi j=> .bl<|decide (i<=j)):=Ed λ_ _ _ _ _ _ _ q=>le_int q
def qT:JU X (compareOp .Gt) (LQ λi j=> .bl<|decide (j<i)):=Ed λ_ _ _ _ _ _ _ q=>gt_int q
def ur:JU X (compareOp .GtE) (LQ λi j=> .bl<|decide (j<=i)):=Ed λ_ _ _ _ _ _ _ q=>ge_int q
def jH:JU X (compareOp .Is) (λx y H Q=>y= .non/\Q (.bl<|decide (x= .non)) H):=by
 intro J s B H x y v u Q I z G h;let{rfl,q}:=h;cases G;refine is_none_gen<|aY I q ?_;cases x<;>first
  |(cases z;rfl)
  |(let{t,rfl}:=z;rfl)
def Ec:JU X (compareOp .IsNot) (λx y H Q=>y= .non/\Q (.bl<|!decide (x= .non)) H):=by
 intro J s B H x y v u Q I z G h;let{rfl,q}:=h;cases G;refine isnot_none_gen<|aY I q ?_;cases x<;>first
  |(cases z;rfl)
  |(let{t,rfl}:=z;rfl)
def aw(b:Expr)(h:op≠ .In:=by decide)(h2:op≠ .NotIn:=by decide):behindInMarks op b=false:=by
 have z:(op==CmpOp.In)=false:=by cases op<;>first|rfl|exact Kh M h
 have e2:(op==CmpOp.NotIn)=false:=by cases op<;>first|rfl|exact Kh M h2
 cases b with
 |Set x k y=>
  show(k==0&&(op== .In||op== .NotIn)&&_)=false;rw[z,e2,Bool.or_false,Bool.and_false,Xr]
 |_=>rfl
def cq(z:JU X (compareOp op) r)(ha:PE X a ta)(hb:PE X b tb)(G:behindInMarks op b=false):PE X (.Compare a [op] [b] pos) (tOp r ta tb):=by
 intro J s B H Q I h;exact wpAny_Compare1 (G3 ha hb I h λv u O x y H2 U W Y q=>z J O B H2 x y v u Q U W Y q) G
inductive FQ(Q:Bool->Hp->Prop)(x:V)(H':Hp):Prop
 |mk(k:_)(_:x= .bl k)(_:Q k H')
def E1(t:TE):TT:=λB H Q=>t B H λx H'=>FQ Q x H'
def aq(G:JU X (compareOp op) r)(ha:PE X a ta)(hb:PE X b tb)(O:behindInMarks op b=false):PT X (.Compare a [op] [b] pos) (E1<|tOp r ta tb):=by
 intro J s B H Q I h;refine wpAny_isTrue_Compare1 (IH (ha J s B H _ I h) λv s1 zz=>?_) O;let{x,H1,U,r1,q1}:=zz;refine IH (hb J s1 B H1 _ U q1) λu W zz=>?_;let{y,H2,Y,Z,q2}:=zz;refine IH (G J W B H2 x y v u _ Y r1 Z q2) λc s3 zz=>?_;let{z,H3,I3,r3,k,e,q3}:=zz
 subst e;cases r3;exact KA ⟨H3,I3,q3⟩
def FW(r r':R2)(ta tb tc:TE):TE:=λB H Q=>ta B H λx H1=>tb B H1 λy H2=>r x y H2 λz H3=>∃k,z= .bl k/\
 (if k=true then tc B H3 λw' H4=>r' y w' H4 Q else Q (.bl false) H3)
def BF{G:CmpOp}{r':R2}(ho:JU X (compareOp op) r)(O:JU X (compareOp G) r')(ha:PE X a ta)(hb:PE X b tb)(hc:PE X c tc)
  (hm:lastMarks [op,G] [b,c]=false:=by with_unfolding_all rfl):PT X (.Compare a [op,G] [b,c] pos) (E1<|FW r r' ta tb tc):=by
 intro J s B H Q I h;refine isTrue_chain (IH (ha J s B H _ I h) λv s1 zz=>?_) hm;let{x,H1,I1,r1,q1}:=zz;refine test_link (IH (hb J s1 B H1 _ I1 q1) λu s2 zz=>?_);let{y,H2,I2,W,q2}:=zz;refine IH (ho J s2 B H2 x y v u _ I2 r1 W q2) λd s3 zz=>?_;let{z,H3,Y,r3,k,e,Z}:=zz
 subst e;cases r3;refine KA ?_;cases k with
 |false=>
  let{k',e',q'}:=Z;cases e';exact ite_ff ⟨H3,Y,q'⟩
 |true=>
  refine ite_tt<|test_last (IH (hc J s3 B H3 _ Y Z) λw' s4 zz=>?_);let{z',H4,I4,r4,q4}:=zz;refine IH (O J s4 B H4 y z' u w' _ I4 W r4 q4) λd' s5 U=>?_;let{z2,H5,I5,r5,k2,e2,q5}:=U;subst e2;cases r5;exact KA ⟨H5,I5,q5⟩
def rE:(sizeLine:Nat)<2^63:=by rw[sizeLine_eq];decide
def tZ{x:V}(r:Du [x] us):∃u,us=[u]/\RelV x u:=by
 cases r with
 |cons r1 z=>cases z;exact{_,M,r1}
def tY{x:V}(r:Du [x,y] us):∃u w',us=[u,w']/\RelV x u/\RelV y w':=by
 cases r with
 |cons r1 z=>
  cases z with
  |cons G I=>cases I;exact{_,_,M,r1,G}
def uM(hc:X.calm=true):iz X (.builtin "max") (λxs H Q=>∃i j,xs=[.int i,.int j]/\Q (.int<|if j>i then j else i) H):=by
 intro J s B H xs us Q I r h;let{i,j,rfl,q}:=h;let{u,w',rfl,{t,rfl},{t',rfl}}:=tY r;refine max_two_ints (I.ok.hd hc) λh' tk k=>{_,H,I.kept k,?_,q};by_cases z:j>i
 .rw[Kd z,Kd z];exact{_,M}
 .rw[Kc z,Kc z];exact{_,M}
def kK(hc:X.calm=true):iz X (.builtin "min") (λxs H Q=>∃i j,xs=[.int i,.int j]/\Q (.int<|if j<i then j else i) H):=by
 intro J s B H xs us Q I r h;let{i,j,rfl,q}:=h;let{u,w',rfl,{t,rfl},{t',rfl}}:=tY r;refine min_two_ints (I.ok.hd hc) λh' tk k=>{_,H,I.kept k,?_,q};by_cases z:j<i
 .rw[Kd z,Kd z];exact{_,M}
 .rw[Kc z,Kc z];exact{_,M}
def vU:iz X (.type "str") (λxs H Q=>∃i,xs=[.int i]/\i.natAbs.log2<1920/\Q (.str<|toString i) H):=by
 intro J s B H xs us Q I r h;let{i,rfl,hz,q}:=h;let{u,rfl,t,rfl}:=tZ r;exact PySem.P.str_of_int hz {.str _,H,I.tok _,{_,M},q}
end
structure L3(h:Heap)(x dx C:G')(mA:Lr):Prop where
 obj:h.get? x=some (PySem.W.instObj C dx)
 ns:h.Ns1 dx mA
 ne:dx≠x
set_option tactic.hygienic true in
def As{mA:Lr}(n:h.Ns1 dx mA):∃I,h.get? dx=some I/\∀name,PySem.W.lookIn name I=some (mA name):=by
 let{o,es,ep,O,hd,hk,_,U}:=n;refine{o,O,λname=>?_};have e:=U name;unfold nsFind findBy at e;rw[<-Array.find?_toList]at e;unfold PySem.W.lookIn;rw[hd];dsimp only;split
 .rename_i y q
  rw[q]at e;exact Ks some e
 .rename_i q
  rw[q]at e;have a:es.toList.any (·.refKey)=false:=by
   rw[List.any_eq_false];intro y hy;let{z,t,G}:=hk y (Array.mem_toList_iff.mp hy);simp[DictEntry.refKey,G]
  have a':¬es.toList.any (·.refKey)=true:=by rw[a];exact Qg
  rw[Kc a'];exact Ks some e
def L3.look{x:G'}{mA:Lr}(I:L3 h x dx C mA):∃z,PySem.W.InstAt h x (PySem.W.instObj C dx) C (some z)/\∀name,PySem.W.lookIn name z=some (mA name):=
 let⟨z,ho,hl⟩:=As I.ns
 {z,⟨I.obj,M,M,ho⟩,hl}
section
variable{x:G'}{mA:Lr}{v:Lg}
def Ey{z:Bool}(X:K.In s.heap)(I:L3 s.heap x dx C mA)(O:PySem.W.plainGet K C name=true)(U:PySem.W.hasDictIn K C=true)
  (ha:PySem.W.findIn K (.ref C) name=some none) (Y:mA name=some v) (G:PySem.W.handedIn v=true) (h:Q v {s with toks:=s.toks+1}):
  wpAny (model prog w) A (getAttr (.ref x) name z) Q E s:=by
 let{Z,Ja,hl}:=I.look;exact PySem.W.get_value X Ja (Xx O).1 (PySem.W.findObj_own U ha M<|by rw[hl,Y]) G h
def CB{pl:Sem Bool}{Q:Value×List Value->Shared->Prop}(X:K.In s.heap)(I:L3 s.heap x dx C mA)(z:PySem.W.plainGet K C name=true)
  (hf:PySem.W.findIn K (.ref C) name=some (some<|.ref f)) (G:PySem.W.isFn K (.ref f)=true) (O:mA name=none) (h:Q (.ref f,[.ref x]) s):
  wpAny (model prog w) A (getMethod (.ref x) name pl) Q E s:=by
 let{U,Ja,hl}:=I.look;exact PySem.W.method_fn X Ja (Xx z).1 (Xx z).2 hf (Kp.mp G) (by show(PySem.W.lookIn name U).map (·.isSome)=some false;rw[hl,O];rfl) h
def DQ{ns:Lq}{Q:Mq}(X:K.In s.heap)(I:L3 s.heap x dx C mA)
  (hs:PySem.W.findIn K (.ref C) "__setattr__"=some (some<|.builtin "object.__setattr__")) (hp:PySem.W.plainOver K C=true) (ht:PySem.W.takerIn K C name=some none) (hh:PySem.W.hasDictIn K C=true)
  (hw:PySem.Within mA ns) (hsz:ns.length<=sizeLine)
  (h:∀h',L3 h' x dx C (λy=>if y=name then some v else mA y)->Heap.SameBut dx s.heap h'->Q Unit.unit {s with heap:=h',toks:=s.toks+2}):
  wpAny (model prog w) A (setAttr (.ref x) name v) Q E s:=by
 let{od,Ja,hl}:=I.look;refine PySem.W.set_plain X Ja hs<|PySem.W.osa_open (s:={s with toks:=s.toks+1}) (r:=none) X Ja hp ht λb=>?_;let{cd,hc,O}:=PySem.W.any_some hh;have hx:s.heap.get? x=some {.ref C,some dx,.plain, #[]}:=I.obj;refine Kk<|Kt (Kk<|Kk<|wpAny_loadPart hx<|Kk<|PySem.W.Looks.here (s:={s with toks:=s.toks+1}) (PySem.W.looks_clsIn X hc) ?_);rw[O];refine Kt (a:=some dx)<|Kk (Kt<|Kk ?_);refine wpAny_nsSet1 (s:={s with toks:=s.toks+1}) I.ns λh' z G=>?_;let{oD,a0,a1,U,Y,Z}:=z.count (PySem.Within.cons name v hw);refine Kk<|wpAny_lookBehind U (by rw[Y];exact pastItsLine_dict<|Qu Z<|by rw[Qr];lia) ?_;exact Kt<|h _ {(G.2 _<|Ne.symm I.ne).trans I.obj,z,I.ne} G
def Ce{vs:Lj}(X:K.In s.heap)(z:PySem.W.makesIn K C=true)
  (hi:PySem.W.findIn K (.ref C) pr=some (some<|.ref f)) (hf:PySem.W.typeIn K (.ref f)=some (.type "function"))
  (h:codeAny (model prog w) (A.under<|.builtin "type.__call__" {.ref C::vs,kw}) (.call (.ref f) {.ref (s.heap.objs.size+1)::vs,kw}) (PySem.W.InitBack (s.heap.objs.size+1) R)
   {s with heap:=(s.heap.push PySem.W.emptyDict).push (PySem.W.instObj C s.heap.objs.size)}):
  codeAny (model prog w) A (.call (.ref C) ⟨vs,kw⟩) R s:=by
 let{G,g,d,t,os}:=s;exact PySem.W.make_core (PySem.W.makes_of X z) (PySem.W.looks_findIn X hi) (λself=>PySem.W.bind_fn X self hf) (.inl M) h
end
def bF(f:Str)(v:V):List (Str×V)->List (Str×V)
 | []=> [(f,v)]
 |(g,x)::r=>if g=f then(g,v)::r else(g,x)::bF f v r
theorem aV(f g:Str)(v:V):∀fs:List (Str×V),(bF f v fs).lookup g=if g=f then some v else fs.lookup g
 | []=>by
  show List.lookup g [(f,v)]=_;by_cases h:g=f
  .have hb:(g==f)=true:=Kp.mpr h;simp only[List.lookup,hb,Kd h]
  .have hb:(g==f)=false:=Kn.mpr h;simp only[List.lookup,hb,Kc h]
 |(k,x)::r=>by
  have z:=aV f g v r;rw[show bF f v ((k,x)::r)=(if k=f then(k,v)::r else(k,x)::bF f v r) from rfl];by_cases hk:k=f
  .rw[Kd hk];by_cases h:g=k
   .have hb:(g==k)=true:=Kp.mpr h;simp only[List.lookup,hb,Kd (h.trans hk)]
   .have hb:(g==k)=false:=Kn.mpr h;simp only[List.lookup,hb,Kc (λe:g=f=>h<|e.trans hk.symm)]
  .rw[Kc hk];by_cases h:g=k
   .have hb:(g==k)=true:=Kp.mpr h;simp only[List.lookup,hb,Kc (λe:g=f=>hk<|h.symm.trans e)]
   .have hb:(g==k)=false:=Kn.mpr h;simp only[List.lookup,hb];exact z
theorem oG(f:Str)(v:V):∀fs:List (Str×V),f∈(bF f v fs).map (·.1)/\∀g,g∈fs.map (·.1)->g∈(bF f v fs).map (·.1)
 | []=>{by simp[bF],λg h=>by simp at h}
 |(k,x)::r=>by
  let{z,G}:=oG f v r;rw[show bF f v ((k,x)::r)=(if k=f then(k,v)::r else(k,x)::bF f v r) from rfl];by_cases hk:k=f
  .rw[Kd hk];subst hk;exact{by simp,λg h=>by simpa using h}
  .rw[Kc hk];refine{?_,λg h=>?_}
   .rw[Qs];exact Qc _ z
   .rw[Qs]at h⊢;rcases Q7.mp h with e|e
    .exact Q7.mpr<|.inl e
    .exact Qc _<|G g e
theorem oX(f:Str)(v:V):∀fs:List (Str×V),(bF f v fs).length<=fs.length+1
 | []=>by simp[bF]
 |(k,x)::r=>by
  have z:=oX f v r;rw[show bF f v ((k,x)::r)=(if k=f then(k,v)::r else(k,x)::bF f v r) from rfl];by_cases hk:k=f
  .rw[Kd hk,Qr,Qr];lia
  .rw[Kc hk,Qr,Qr];lia
def JM.some_of(r:JM (some v) o):∃u,o=some u/\RelV v u:=by
 cases o with
 |none=>exact(show False from r).elim
 |some u=>exact⟨u,M,r⟩
def JM.none_of(r:JM none o):o=none:=by
 cases o with
 |none=>rfl
 |some u=>exact(show False from r).elim
def AD(r:RelV v u):PySem.W.handedIn u=true:=by
 cases v with
 |non=>cases (show u=Value.none from r);rfl
 |bl b=>cases (show u=Value.bool b from r);rfl
 |int i=>let{t,e}:=(show ∃t,u=Value.int i t from r);cases e;rfl
 |str x=>let{t,e}:=(show ∃t,u=Value.str x t from r);cases e;rfl
 |byt b=>let{t,e}:=(show ∃t,u=Value.bytes b t from r);cases e;rfl
 |flt b=>let{t,e}:=(show ∃t,u=Value.float b t from r);cases e;rfl
 |ref a=>cases (show u=Value.ref a from r);rfl
 |ty n=>cases (show u=Value.type n from r);rfl
section
variable{fs fs':L'}
def JA(hok:Iz P w H h)(e:H a=some (.ins C dx fs)):∃mA,L3 h a dx C mA/\(∀f,JM (fs.lookup f) (mA f))/\PySem.Within mA (fs.map (·.1))/\fs.length<=1000/\H dx=some (.own a):=by
 let{d,z,G,ob,mA,n,r,q}:=(show II P w H h a (.ins C dx fs) from hok a _ e);exact{mA,⟨ob,n,G⟩,r,q,z,d}
end
structure Jk(K:Jc)(C:G'):Prop where
 pg:PySem.W.plainGet K C Str.empty=true
 hd:PySem.W.hasDictIn K C=true
 po:PySem.W.plainOver K C=true
 sa:PySem.W.findIn K (.ref C) "__setattr__"=some (some<|.builtin "object.__setattr__")
def Jk.get(c:Jk K C)(f:Str):PySem.W.plainGet K C f=true:=c.pg
def IB(K:Jc)(C:G')(f:Str):Prop:=PySem.W.findIn K (.ref C) f=some none
def IB.taker{f:Str}(n:IB K C f):PySem.W.takerIn K C f=some none:=by
 unfold PySem.W.takerIn;rw[show PySem.W.findIn K (.ref C) f=some none from n];rfl
structure bM(K:Jc)(C:G')(m:Str)(f:G'):Prop where
 at_:PySem.W.findIn K (.ref C) m=some (some<|.ref f)
 fn:PySem.W.isFn K (.ref f)=true
 kp:PySem.W.keepIn K (.ref f)=true
section
variable{fs:L'}{f:Str}
def rN{b:Bool}(I:Inv X J B H s)(e:H a=some (.ins C dx fs))(c:Jk X.K C)(n:IB X.K C f)(l:fs.lookup f=some v)
  (h:∀u s',Inv X J B H s'->RelV v u->Q u s'):wpAny (model X.prog X.w) A (getAttr (.ref a) f b) Q E s:=by
 let{mA,O,r,_,_,_}:=JA I.hok e;let{u,hu,z}:=JM.some_of (v:=v) (o:=mA f) (by rw[<-l];exact r f);exact Ey I.kIn O (c.get f) c.hd n hu (AD z)<|h u _ (I.tok _) z
def iT{g:G'}{pl:Sem Bool}{Q:Value×List Value->Shared->Prop}(I:Inv X J B H s)(e:H a=some (.ins C dx fs))(c:Jk X.K C)(k:bM X.K C m g)(l:fs.lookup m=none)
  (h:Q (.ref g,[.ref a]) s):wpAny (model X.prog X.w) A (getMethod (.ref a) m pl) Q E s:=by
 let{mA,O,r,_,_,_}:=JA I.hok e;have z:mA m=none:=JM.none_of (by rw[<-l];exact r m);exact CB I.kIn O (c.get m) k.at_ k.fn z h
def qv{Q:Mq}(I:Inv X J B H s)(e:H a=some (.ins C dx fs))(c:Jk X.K C)(n:IB X.K C f)(hl:fs.length<1000)(W:RelV y u)
  (h:∀s',Inv X J B (upd H a<|.ins C dx<|bF f y fs) s'->Q Unit.unit s'):wpAny (model X.prog X.w) A (setAttr (.ref a) f u) Q E s:=by
 let{mA,O,r,wi,_,U}:=JA I.hok e;have hz:(fs.map (·.1)).length<=sizeLine:=by rw[Q0,sizeLine_eq];lia
 refine DQ I.kIn O c.sa c.po n.taker c.hd wi hz λh' G Y=>h _ ?_;have hd:∃o,h'.get? dx=some o:=by let{o,_,_,Z,_}:=G.ns;exact⟨o,Z⟩
 refine I.write (x:=a) (e:=dx) (by rw[e];exact Ku) (.inr U) (λb q hb z=>(Y.2 b hb).trans z) hd ?_;refine{by rwa[ac O.ne],?_,O.ne,G.obj,_,G.ns,λg=>?_,λg hg=>?_}
 .have:=oX f y fs;lia
 .show JM ((bF f y fs).lookup g) (if g=f then some u else mA g);rw[aV];by_cases q:g=f
  .rwa[Kd q,Kd q]
  .rw[Kc q,Kc q];exact r g
 .by_cases q:g=f
  .rw[q];exact(oG f y fs).1
  .refine(oG f y fs).2 g<|wi g λz=>hg ?_;show(if g=f then some u else mA g)=none;rwa[Kc q]
def Inv.made(I:Inv X J B H s):Inv X J B (upd (upd H s.heap.objs.size<|.own<|s.heap.objs.size+1) (s.heap.objs.size+1)<|.ins C s.heap.objs.size [])
  {s with heap:=(s.heap.push PySem.W.emptyDict).push (PySem.W.instObj C s.heap.objs.size)}:=by
 have z:(s.heap.push PySem.W.emptyDict).get? s.heap.objs.size=some PySem.W.emptyDict:=Ko s.heap M;have e2:((s.heap.push PySem.W.emptyDict).push<|PySem.W.instObj C s.heap.objs.size).get? (s.heap.objs.size+1)=some (PySem.W.instObj C s.heap.objs.size):=by
  have:=Ko (s.heap.push PySem.W.emptyDict) (o:=PySem.W.instObj C s.heap.objs.size) M;rwa [Heap.size_push]at this
 have O:(s.heap.push PySem.W.emptyDict).Ns s.heap.objs.size (λ_=>none):={PySem.W.emptyDict, #[],_,z,M,(λe he=>Kh he<|by simp),λ_=>M};have U:=I.laid (a:=s.heap.objs.size) (o:= .own<|s.heap.objs.size+1) (h':=s.heap.push PySem.W.emptyDict) (t':=s.toks) (λb u q=>Kg _ q) (Q5 _) {_,z};refine U.laid (a:=s.heap.objs.size+1) (o:= .ins C s.heap.objs.size []) (t':=s.toks) (λb u q=>Kg _ q) (Z2<|Heap.size_push _ _) ?_;have G:s.heap.objs.size≠s.heap.objs.size+1:=Qy (ZE _);refine{by rw[ac G,ag],Qh _,G,e2,λ_=>none,(Heap.Ns1.of_empty O).at λo q=>Kg _ q,λ_=>Ku,λy hy=>Kh M hy}
def EL{env:Env}{f:Str}(hb:attributeBase e f env (eval e env)=eval e env)
  (h:wpAny (model prog w) A (eval e env) (λo s₁=>wpAny (model prog w) A (getAttr o f true) Q E s₁) E s):wpAny (model prog w) A (eval (.Attribute e f pos) env) Q E s:=
 Attribute_any_ h (by rw[arm_eval_Attribute,hb])
end
inductive Ho(K:Jc)(f:Str)(Q:VK)(x:V)(H1:Hp):Prop
 |mk(a C dx fs v:_)(_:x= .ref a)(_:H1 a=some (.ins C dx fs))(_:Jk K C)(_:IB K C f)(_:fs.lookup f=some v)(_:Q v H1)
def tFld(K:Jc)(ta:TE)(f:Str):TE:=λB H Q=>ta B H λx H1=>Ho K f Q x H1
inductive Hw(K:Jc)(f:Str)(D:nW)(B:St)(y x:V)(H2:Hp):Prop
 |mk(a C dx fs:_)(_:x= .ref a)(_:H2 a=some (.ins C dx fs))(_:Jk K C)(_:IB K C f)(_:fs.length<1000)(_:D.nx B (upd H2 a<|.ins C dx<|bF f y fs))
def sFld(K:Jc)(ta tv:TE)(f:Str):TS:=λD B H=>tv B H λy H1=>ta B H1 λx H2=>Hw K f D B y x H2
def Hd(X:Cx)(op:Operator)(rd:V->V->Hp->VK->Prop):Prop:=
 ∀(J:Lm)(s:K')(B:St)(H:Hp)(x y:V)(u v:Lg)(Q:VK),Inv X J B H s->RelV x u->RelV y v->rd x y H Q->Jd X (inplaceOp op u v) (EP X J B Q) X.xe s
inductive Bx(K:Jc)(tv:TE)(rd:V->V->Hp->VK->Prop)(f:Str)(D:nW)(B:St)(x:V)(H1:Hp):Prop
 |mk(a C dx fs v:_)(_:x= .ref a)(_:H1 a=some (.ins C dx fs))(_:Jk K C)(_:IB K C f)(_:fs.lookup f=some v)(_:tv B H1 λy H2=>rd v y H2 λz H3=>∃dx' fs',H3 a=some (.ins C dx' fs')/\fs'.length<1000/\D.nx B (upd H3 a<|.ins C dx'<|bF f z fs'))
def DR(K:Jc)(ta tv:TE)(rd:V->V->Hp->VK->Prop)(f:Str):TS:=λD B H=>ta B H λx H1=>Bx K tv rd f D B x H1
section
variable{o value:Expr}{f:Str}{tpos:Pos}{tv:TE}
def ay(he:PE X e ta)(hb:attributeBase e f X.env (eval e X.env)=eval e X.env):PE X (.Attribute e f pos) (tFld X.K ta f):=by
 intro J s B H Q I h;refine EL hb<|IH (he J s B H _ I h) λu s1 z=>?_;let{x,H1,G,O,a,C,dx,fs,v,ex,U,c,n,l,q}:=z;subst ex;obtain rfl:u=Value.ref a:=O;exact rN G U c n l λZ s2 W Y=>⟨v,H1,W,Y,q⟩
def bT(ha:PE X o ta)(G:PE X value tv)(hs:swapsWith value (some<|.Attribute o f pos') pos.line X.env=pure false):PS X (.Assign [.Attribute o f pos'] value pos) (sFld X.K ta tv f):=by
 intro J s B H D I h;refine plainObj_wpAny_Assign_Attribute (IH (G J s B H _ I h) λu s1 zz=>?_) hs;let{y,H1,O,U,q}:=zz;refine IH (ha J s1 B H1 _ O q) λW s2 z=>?_;let{x,H2,Y,Z,a,C,dx,fs,ex,ea,c,n,l,q2}:=z;subst ex;obtain rfl:W=Value.ref a:=Z;exact qv Y ea c n l U λs3 I3=>{B,_,I3,q2}
def kC{op:Operator}(ha:PE X o ta)(W:PE X value tv)(O:Hd X op rd):PS X (.AugAssign (.Attribute o f tpos) op value pos) (DR X.K ta tv rd f):=by
 intro J s B H D I h;refine wpAny_AugAssign_AttributeAny<|IH (ha J s B H _ I h) λY s1 G=>?_;let{x,H1,Z,rx,a,C,dx,fs,v,ex,ea,c,n,l,q}:=G;subst ex;obtain rfl:Y=Value.ref a:=rx;refine rN Z ea c n l λu s2 I2 ru=>IH (W J s2 B H1 _ I2 q) λw3 s3 zz=>?_;let{y,H2,I3,ry,q3}:=zz;refine IH (O J s3 B H2 v y u w3 _ I3 ru ry q3) λw4 s4 G=>?_;let{z,H3,I4,rz,a0,fs',U,l',q4}:=G;exact qv I4 U c n l' rz λs5 I5=>{B,_,I5,q4}
inductive rAdd(x y:V)(H:Hp)(Q:VK):Prop
 |mk(i j:_)(_:x= .int i)(_:y= .int j)(_:Q (.int<|i+j) H)
inductive rSub(x y:V)(H:Hp)(Q:VK):Prop
 |mk(i j:_)(_:x= .int i)(_:y= .int j)(_:Q (.int<|i-j) H)
def yx:Hd X .Add rAdd:=by
 rintro J s B H x y u v Q I z G ⟨i,j,rfl,rfl,q⟩;let{t,rfl}:=(show ∃t,u=Value.int i t from z);let{t',rfl}:=(show ∃t',v=Value.int j t' from G);exact PyProof.Rows.iadd_int {.int<|i+j,H,I.tok _,{_,M},q}
def GM:Hd X .Sub rSub:=by
 rintro J s B H x y u v Q I z G ⟨i,j,rfl,rfl,q⟩;let{t,rfl}:=(show ∃t,u=Value.int i t from z);let{t',rfl}:=(show ∃t',v=Value.int j t' from G);exact PyProof.Rows.isub_int {.int<|i-j,H,I.tok _,{_,M},q}
end
section
variable{c:Lg}{b:Bool}
inductive Iw(K:Jc)(H:Hp):V->Value->Prop where
 |non:Iw K H .non (.type "NoneType")
 |bl(x:Bool):Iw K H (.bl x) (.type "bool")
 |int(i:Int):Iw K H (.int i) (.type "int")
 |str(x:Str):Iw K H (.str x) (.type "str")
 |flt(x:UInt64):Iw K H (.flt x) (.type "float")
 |lst{a:G'}{xs:Lf}(e:H a=some (.lst xs)):Iw K H (.ref a) (.type ke)
 |frz{a:G'}{o:Obj}{xs:Lf}(e:H a=some (.frz o<|.lst xs)):Iw K H (.ref a) (.type ke)
 |tup{a:G'}{xs:Lf}(e:H a=some (.tup xs)):Iw K H (.ref a) (.type u6)
 |dK{a:G'}{kvs:Mg}(e:H a=some (.dK kvs)):Iw K H (.ref a) (.type "dict")
 |dT{a:G'}{kvs:Mj}(e:H a=some (.dT kvs)):Iw K H (.ref a) (.type "dict")
 |ins{a C dx:G'}{fs:L'}(e:H a=some (.ins C dx fs))(cl:Jk K C)(ha:PySem.W.findIn K (.ref C) "__class__"=some (some<|.builtin nj))
   (hn:PySem.W.specialIn K (.builtin nj) "__get__"=some (some<|.builtin "getset_descriptor.__get__")) (htk:PySem.W.takesIn K (.builtin nj)=some true)
   (hm:PySem.W.mroIn K C (.type "object")=some true):Iw K H (.ref a) (.ref C)
def uz{x:V}{t:Lg}(I:Inv X J B H s)(G:RelV x u)(ty:Iw X.K H x t)(e:PySem.W.kitOne X.K t c=some b)(h:∀tk,Q (.bool b) {s with toks:=tk}):
  wpAny (model X.prog X.w) A (call (.builtin "isinstance") [u,c]) Q E s:=by
 cases ty with
 |non=>cases (show u=Value.none from G);exact Z3 PySem.W.kitx_none I.kIn Ku e (λz=>nomatch z) h
 |bl y=>cases (show u=Value.bool y from G);exact Z3 PySem.W.kitx_bool I.kIn Ku e (λz=>nomatch z) h
 |int i=>let{t,q}:=(show ∃t,u=Value.int i t from G);cases q;exact Z3 PySem.W.kitx_int I.kIn Ku e (λz=>nomatch z) h
 |str y=>let{t,q}:=(show ∃t,u=Value.str y t from G);cases q;exact Z3 PySem.W.kitx_str I.kIn Ku e (λz=>nomatch z) h
 |flt y=>let{t,q}:=(show ∃t,u=Value.float y t from G);cases q;exact Z3 PySem.W.kitx_float I.kIn Ku e (λz=>nomatch z) h
 | @lst a xs U=>
  cases (show u=Value.ref a from G);let{_,_,n,_,h1}:=(show II X.prog X.w H s.heap a (.lst xs) from I.hok a _ U);exact Z3 PySem.W.kitx_list I.kIn {_,h1,M} e (λz=>nomatch z) h
 | @frz a ob xs U=>
  cases (show u=Value.ref a from G);let{_,_,_,n,_,h1}:=(show II X.prog X.w H s.heap a (.frz ob<|.lst xs) from I.hok a _ U);exact Z3 PySem.W.kitx_list I.kIn {_,h1,M} e (λz=>nomatch z) h
 | @tup a xs U=>
  cases (show u=Value.ref a from G);let{_,_,_,p}:=(show II X.prog X.w H s.heap a (.tup xs) from I.hok a _ U);let{o,h1,h2,_}:=p;exact Z3 PySem.W.kitx_tuple I.kIn ⟨o,h1,h2⟩ e (λz=>nomatch z) h
 | @dK a kvs U=>
  cases (show u=Value.ref a from G);let{_,_,vs,_,p}:=(show II X.prog X.w H s.heap a (.dK kvs) from I.hok a _ U);let{o,es,ep,h1,h2,_}:=p;exact Z3 PySem.W.kitx_dict I.kIn ⟨o,h1,h2.1⟩ e (λz=>nomatch z) h
 | @dT a kvs U=>
  cases (show u=Value.ref a from G);let{_,_,xs,_,o,es,ep,h1,h2,_}:=(show II X.prog X.w H s.heap a (.dT kvs) from I.hok a _ U);exact Z3 PySem.W.kitx_dict I.kIn ⟨o,h1,h2.1⟩ e (λz=>nomatch z) h
 | @ins a C dx fs U cl ha Z Y hm=>
  cases (show u=Value.ref a from G);let{mA,O,_}:=JA I.hok U;let{od,Ja,_}:=O.look;exact Z3 (PySem.W.kitx_own (cl.get _) cl.hd ha Z Y hm) I.kIn Ja e (λz=>nomatch z) h
end
structure IK(k:Nat)(A:Lv):Prop where
 hd:A.handled=none
 dp:A.depth+3*k+5<recursionLimit
 un:A.units+16*k+200<cLine
def IK.mono{k:Nat}(r:IK k A)(h:j<=k):IK j A:={r.hd,by have:=r.dp;lia,by have:=r.un;lia}
def IK.deeper{k:Nat}(r:IK (k+1) A)(env:Env):IK k (A.deeper env):=
 {r.hd,by have:=r.dp;show A.depth+1+3*k+5<_;lia,by have:=r.un;show A.units+3+16*k+200<_;lia}
def yt:(A.under<|.builtin "type.__call__" {.ref C::us,kw}).depth=A.depth+1:=by
 first|rfl|simp[Around.under,Code.weight,Code.isCreation,Code.isGuard,Code.isCaller,Code.frames,Code.isFrame,guardIds]
def yr:(A.under<|.builtin "type.__call__" {.ref C::us,kw}).units=A.units+1:=by
 first|rfl|simp[Around.under,Code.cUnits,Code.frames,Code.isFrame]
def IK.make{k:Nat}(r:IK (k+1) A)(C:G')(us:Lj)(kw:Mo):IK k (A.under<|.builtin "type.__call__" {.ref C::us,kw}):=
 {r.hd,by have:=r.dp;rw[yt];lia,by have:=r.un;rw[yr];lia}
def IK.depth{k:Nat}(r:IK k A):A.depth<recursionLimit:=by have:=r.dp;lia
def IK.units{k:Nat}(r:IK k A):A.units+64<cLine:=by have:=r.un;lia
def Bp:TA:=λ_ H Q=>Q [] H
def E4(ta:TE)(tr:TA):TA:=λB H Q=>ta B H λx H1=>tr B H1 λxs H2=>Q (x::xs) H2
section
variable{t:TA}
def af:PA X [] Bp:=λ_ _ _ _ H Q I h=>Calls.spliced_nil {[],H,I,.nil,h}
def aa(ha:PE X e te)(G:PA X es t)(hs:starEach (e::es) X.env=(false,eval e X.env)::starEach es X.env:=by rfl):PA X (e::es) (E4 te t):=by
 intro pos J s B H Q I h;rw[hs];show wpAny _ _ (spliced ((false,eval e X.env)::backTo pos (starEach es X.env))) _ _ s;refine Calls.spliced_cons<|IH (ha J s B H _ I h) λu s1 z=>?_;let{x,H1,O,r1,q1}:=z;exact IH (G pos J s1 B H1 _ O q1) λus Y zz=>by let{xs,H2,U,W,q2}:=zz;exact{x::xs,H2,U,.cons r1 W,q2}
def tTup(t:TA):TE:=λB H Q=>t B H λxs H1=>xs.length<=sizeLine/\∀p,H1 p=none->Q (.ref p) (upd H1 p<|.tup xs)
def tLst(t:TA):TE:=λB H Q=>t B H λxs H1=>xs.length<=sizeLine/\∀p,H1 p=none->Q (.ref p) (upd H1 p<|.lst xs)
def bj{x1}(h:PA X es t):PE X (.Tuple es x1 pos) (tTup t):=by
 intro J s B H Q I hq;refine wpAny_Tuple_spliced<|IH (h pos J s B H _ I hq) λus s1 zz=>?_;let{xs,H1,G,r,z,q}:=zz;refine{by rwa[<-r.length],?_};have hf:H1 s1.heap.objs.size=none:=G.hok.fresh (Q5 _);refine{.ref s1.heap.objs.size,upd H1 s1.heap.objs.size<|.tup xs,G.laid (t':=s1.toks) (λb u e=>Kg _ e) (Q5 _) ?_,M,q _ hf};exact{z,us,r,{_,Ko _ M,M,_,M}}
def bn(h:PA X es t):PE X (.List es pos) (tLst t):=by
 intro J s B H Q I hq;refine wpAny_List_spliced<|IH (h pos J s B H _ I hq) λus s1 zz=>?_;let{xs,H1,G,r,z,q}:=zz;refine{by rwa[<-r.length],?_};have hf:H1 s1.heap.objs.size=none:=G.hok.fresh (Q5 _);refine{.ref s1.heap.objs.size,upd H1 s1.heap.objs.size<|.lst xs,G.laid (t':=s1.toks) (λb u e=>Kg _ e) (Q5 _) ?_,M,q _ hf};exact{z,us,0,r,Ko _ M}
end
abbrev Sp:=List V->Hp->VK->XK->Prop
abbrev CXT:=List Env->Hp->Shared->XK->Value->Shared->Prop
structure Jz(P:Ln)(w:Lp)(K:Jc)(mg:Lr)(base:Heap)(A:Lv)(outer:Mb)(s:K')(H:Hp):Prop where
 frames:A.frames=some outer
 mod:Mod K mg base
 bs:∀b o,base.get? b=some o->s.heap.get? b=some o/\H b=none
 bsz:base.objs.size<=s.heap.objs.size
 funs:s.heap.FunFrames base outer
 frf:∀b∈Jy outer,H b=none
 hok:Iz P w H s.heap
 bare:AllBare s.gens
def CE(outer:Mb)(P:Ln)(w:Lp)(H:Hp)(s:K')(Q:VK)(u:Lg)(s':K'):Prop:=
 ∃v H',s'.os=s.os/\AllBare s'.gens/\Un (Jy outer) [] H H' s.heap s'.heap/\Iz P w H' s'.heap/\RelV v u/\Q v H'
def CR(CX:CXT)(outer:Mb)(P:Ln)(w:Lp)(H:Hp)(s:K')(Q:VK)(E:XK)(r:Result)(s':K'):Prop:=
 match r with
 | .ok (.ret u)=>CE outer P w H s Q u s'
 | .ok _=>False
 | .error e=>CX outer H s E e s'
structure C5(P:Ln)(w:Lp)(K:Jc)(mg:Lr)(base:Heap)(CX:CXT)(k:Nat)(f:G')(fd:Lw)(ps:Lq)(sp:Sp):Prop where
 len:∀vs H Q E,sp vs H Q E->vs.length=ps.length
 run:∀(A:Lv)(outer:Mb)(s:K')(H:Hp)(args:Args)(us:Lj)(vs:Lf)(Q:VK)(E:XK),IK k A->Jz P w K mg base A outer s H->BindsTo s fd args (ps.zip us)->Du vs us->sp vs H Q E->
  codeAny (model P w) A (.call (.ref f) args) (CR CX outer P w H s Q E) s
def C5.mono{mg:Lr}{k:Nat}(F:C5 P w K mg base CX j f fd ps sp)(h:j<=k):
  C5 P w K mg base CX k f fd ps sp:={F.len,λA outer s H args us vs Q E z=>F.run A outer s H args us vs Q E<|z.mono h}
def Jz.make{mg:Lr}(e:Jz P w K mg base A outer s H)(C:G')(us:Lj)(kw:Mo):
  Jz P w K mg base (A.under<|.builtin "type.__call__" {.ref C::us,kw}) outer s H:={by first|exact e.frames|(simpa[Around.under,Code.envs,Code.isFrame,pushEnvs]using e.frames),e.mod,e.bs,e.bsz,e.funs,e.frf,e.hok,e.bare}
def Inv.env0(I:Inv X J B H s):Jz X.prog X.w X.K X.mg X.base X.A X.stack s H:=
 {I.ok.frames,I.ok.mod,I.bs,Qu I.ok.bsz I.sz,I.stack,I.stkFree,I.hok,I.bare}
def Inv.after{Q:VK}(I:Inv X J B H s)(h:CE X.stack X.prog X.w H s Q u s'):EP X J B Q u s':=by
 let{v,H',os,bare,un,hok,r,q}:=h;let{O,g,d,t,G}:=s';obtain rfl:G=s.os:=os;exact{v,H',I.call (h':=O) (g':=g) (d':=d) (t':=t) (ch:=[]) un hok bare<|λb z=>Kh z (by simp),r,q}
def E5(sp:Sp)(dvs:Lf)(E:XK)(t:TA):TE:=λB H Q=>t B H λvs H1=>sp (vs++dvs) H1 Q E
inductive FS(C:G')(m:Str)(sp:Sp)(dvs:Lf)(E:XK)(t:TA)(B:St)(Q:VK)(x:V)(H1:Hp):Prop
 |mk(a dx fs:_)(_:x= .ref a)(_:H1 a=some (.ins C dx fs))(_:fs.lookup m=none)(_:t B H1 λvs H2=>sp (x::(vs++dvs)) H2 Q E)
def E2(C:G')(m:Str)(sp:Sp)(dvs:Lf)(E:XK)(ta:TE)(t:TA):TE:=λB H Q=>ta B H λx H1=>FS C m sp dvs E t B Q x H1
def E3(C:G')(sp:Sp)(dvs:Lf)(E:XK)(t:TA):TE:=λB H Q=>t B H λvs H1=>∀x dx,H1 x=none->H1 dx=none->dx≠x->
 sp (.ref x::(vs++dvs)) (upd (upd H1 dx<|.own x) x<|.ins C dx []) (λv H2=>v= .non/\Q (.ref x) H2) E
def Binds(K:Jc)(fd:Lw)(ps:Lq)(ds:Lj):Prop:=
 ∀(s:K')(us:Lj),K.In s.heap->(us++ds).length=ps.length->BindsTo s fd {us,[]} (ps.zip<|us++ds)
def Binds.all(h:∀us:List Value,us.length=ps.length->bindArgs fd {us,[]}=pure (ps.zip us)):Binds K fd ps []:=λs us _ hl=>by
 rw[ZL]at hl⊢;exact .of_eq<|h us hl
def f7(CX:CXT)(X:Cx)(E:XK):Prop:=∀(J:Lm)(B:St)(H:Hp)(s:K')(e:Lg)(s':K'),Inv X J B H s->CX X.stack H s E e s'->X.xe e s'
section
variable{k:Nat}{dvs:Lf}{ds:Lj}{E:XK}{apos:Pos}{o:Expr}{t:TA}
def lZ{Q:VK}(F:C5 X.prog X.w X.K X.mg X.base CX k f fd ps sp)(G:IK k X.A)(hb:Binds X.K fd ps ds)(hd:Du dvs ds)(hx:f7 CX X E)
  (I:Inv X J B H s) (r:Du vs us) (h:sp (vs++dvs) H Q E):Jd X (call (.ref f) us) (EP X J B Q) X.xe s:=by
 have z:Du (vs++dvs) (us++ds):=r.append hd;have hl:(us++ds).length=ps.length:=by rw[<-z.length];exact F.len _ _ _ _ h
 refine wpAny_call<|codeAny_mono (F.run X.A X.stack s H {us,[]} (us++ds) (vs++dvs) Q E G I.env0 (hb s us I.kIn hl) z h) λr s' hq=>?_;cases r with
 |error e=>exact hx J B H s e s' I hq
 |ok fl=>
  cases fl with
  |ret u=>exact I.after hq
  |next=>exact False.elim hq
  |brk=>exact False.elim hq
  |cont=>exact False.elim hq
def aE(F:C5 X.prog X.w X.K X.mg X.base CX k f fd ps sp)(U:IK k X.A)(Y:Gl X x)(Z:X.mg x=some (.ref f))(hk:PySem.W.keepIn X.K (.ref f)=true)(hb:Binds X.K fd ps ds)(hd:Du dvs ds)(hx:f7 CX X E)
  (ha:PA X (e::es) t) (z:(x==(lh:Str))=false:=by decide) (he:starEach (e::es) X.env=(false,eval e X.env)::starEach es X.env:=by rfl) (G:(backTo pos<|starEach es X.env).any (·.1)=false:=by rfl):
  PE X (.Call (.Name x p) (e::es) [] pos) (E5 sp dvs E t):=by
 intro J s B H Q I h;refine Kz<|iS I Y Z ?_ z;refine Zy (h₀:=X.base) I.ok.mod.kin hk (IH (ha pos J s B H _ I h) λus s1 zz=>?_) he G;let{vs,H1,O,r,q}:=zz;refine{O.kIn,?_};exact lZ F U hb hd hx O r q
def aR{pl:Sem Bool}(he:PE X o ta)(c:Jk X.K C)(U:bM X.K C m f)(F:C5 X.prog X.w X.K X.mg X.base CX k f fd ps sp)(Z:IK k X.A)(hb:Binds X.K fd ps ds)(hd:Du dvs ds)(hx:f7 CX X E)(ha:PA X (e::es) t)
  (z:starEach (e::es) X.env=(false,eval e X.env)::starEach es X.env:=by rfl) (G:(backTo pos<|starEach es X.env).any (·.1)=false:=by rfl)
  (ht:eval (.Call (.Attribute o m apos) (e::es) [] pos) X.env=(do
   let ov<-eval o X.env
   standAt apos.atName
   let(f,first)<-holding [ov] (getMethod ov m pl)
   callWith pos f first (backTo pos<|starEach (e::es) X.env) (backToKw pos<|keywordEach [] X.env)):=by rfl):
  PE X (.Call (.Attribute o m apos) (e::es) [] pos) (E2 C m sp dvs E ta t):=by
 intro J s B H Q I h;refine ZB (pl:=pl) (IH (he J s B H _ I h) λu s1 O=>?_) ht;let{x,H1,W,rx,a,dx,fs,ex,ea,l,q}:=O;subst ex;obtain rfl:u=Value.ref a:=rx;refine iT W ea c U l ?_;refine Zy (first:=[.ref a]) (h₀:=X.base) I.ok.mod.kin U.kp (IH (ha pos J s1 B H1 _ W q) λus s2 zz=>?_) z G;let{vs,H2,Y,r,q2}:=zz;refine{Y.kIn,?_};exact lZ (us:= .ref a::us) (vs:= .ref a::vs) F Z hb hd hx Y (.cons M r) q2
def hX{pl:Sem Bool}(he:PE X o ta)(c:Jk X.K C)(O:bM X.K C m f)(F:C5 X.prog X.w X.K X.mg X.base CX k f fd ps sp)(U:IK k X.A)(hb:Binds X.K fd ps ds)(hd:Du dvs ds)(hx:f7 CX X E)
  (W:eval (.Call (.Attribute o m apos) [] [] pos) X.env=(do
   let ov<-eval o X.env
   standAt apos.atName
   let(f,first)<-holding [ov] (getMethod ov m pl)
   callWith pos f first (backTo pos<|starEach [] X.env) (backToKw pos<|keywordEach [] X.env)):=by rfl):
  PE X (.Call (.Attribute o m apos) [] [] pos) (E2 C m sp dvs E ta Bp):=by
 intro J s B H Q I h;refine ZB (pl:=pl) (IH (he J s B H _ I h) λu s1 z=>?_) W;let{x,H1,G,Y,a,dx,fs,ex,Z,l,q}:=z;subst ex;obtain rfl:u=Value.ref a:=Y;refine iT G Z c O l ?_;exact Xy (first:=[.ref a]) G.kIn O.kp (lZ (us:=[.ref a]) (vs:=[.ref a]) F U hb hd hx G (.cons M .nil) q)
structure Mk(K:Jc)(C f:G'):Prop where
 makes:PySem.W.makesIn K C=true
 init:PySem.W.findIn K (.ref C) pr=some (some<|.ref f)
 fn:PySem.W.isFn K (.ref f)=true
 kp:PySem.W.keepIn K (.ref C)=true
def wH{Q:VK}(M':Mk X.K C f)(F:C5 X.prog X.w X.K X.mg X.base CX k f fd ps sp)(U:IK (k+1) X.A)(hb:Binds X.K fd ps ds)(hd:Du dvs ds)
  (hx:f7 CX X E) (I:Inv X J B H s) (r:Du vs us)
  (h:∀x dx,H x=none->H dx=none->dx≠x->sp (.ref x::(vs++dvs)) (upd (upd H dx<|.own x) x<|.ins C dx []) (λv H2=>v= .non/\Q (.ref x) H2) E):
  Jd X (call (.ref C) us) (EP X J B Q) X.xe s:=by
 have hq:=h (s.heap.objs.size+1) s.heap.objs.size (I.hok.fresh<|Zx _) (I.hok.fresh<|Q5 _) (Qy<|ZE _);have G:=Inv.made (C:=C) I;have O:Du (V.ref (s.heap.objs.size+1)::(vs++dvs)) (Value.ref (s.heap.objs.size+1)::(us++ds)):= .cons M (r.append hd);have hl:(Value.ref (s.heap.objs.size+1)::us++ds).length=ps.length:=by
  have e:=O.length;rw[F.len _ _ _ _ hq]at e;exact e.symm
 refine wpAny_call (Ce (f:=f) I.kIn M'.makes M'.init (Kp.mp M'.fn) (codeAny_mono (F.run _ X.stack _ _ {Value.ref (s.heap.objs.size+1)::us,[]} (Value.ref (s.heap.objs.size+1)::(us++ds)) _ _ E (U.make C us [])
  (G.env0.make C us []) (hb _ (Value.ref (s.heap.objs.size+1)::us) G.kIn hl) O hq) λr s' z=>?_))
 cases r with
 |error e=>exact hx J B _ _ e s' G z
 |ok fl=>
  cases fl with
  |ret u=>
   let{v,H',W,rv,Y,Z}:=G.after z;subst Y;exact{rv,{V.ref<|s.heap.objs.size+1,H',W,M,Z}}
  |next=>exact False.elim z
  |brk=>exact False.elim z
  |cont=>exact False.elim z
def kD(M':Mk X.K C f)(F:C5 X.prog X.w X.K X.mg X.base CX k f fd ps sp)(U:IK (k+1) X.A)(W:Gl X x)(Y:X.mg x=some (.ref C))(hb:Binds X.K fd ps ds)(hd:Du dvs ds)(hx:f7 CX X E)
  (ha:PA X (e::es) t) (z:(x==(lh:Str))=false:=by decide) (he:starEach (e::es) X.env=(false,eval e X.env)::starEach es X.env:=by rfl) (G:(backTo pos<|starEach es X.env).any (·.1)=false:=by rfl):
  PE X (.Call (.Name x p) (e::es) [] pos) (E3 C sp dvs E t):=by
 intro J s B H Q I h;refine Kz<|iS I W Y ?_ z;refine Zy (h₀:=X.base) I.ok.mod.kin M'.kp (IH (ha pos J s B H _ I h) λus s1 zz=>?_) he G;let{vs,H1,O,r,q}:=zz;refine{O.kIn,?_};exact wH M' F U hb hd hx O r q
def mU(M':Mk X.K C f)(F:C5 X.prog X.w X.K X.mg X.base CX k f fd ps sp)(G:IK (k+1) X.A)(O:Gl X x)(U:X.mg x=some (.ref C))(hb:Binds X.K fd ps ds)(hd:Du dvs ds)(hx:f7 CX X E)
  (z:(x==(lh:Str))=false:=by decide):PE X (.Call (.Name x p) [] [] pos) (E3 C sp dvs E Bp):=by
 intro J s B H Q I h;refine Kz<|iS I O U ?_ z;exact Xy I.kIn M'.kp<|wH (us:=[]) M' F G hb hd hx I .nil h
end
def PK(X:Cx)(kws:List Keyword)(t:TA):Prop:=
 ∀(pos:Pos)(J:Lm)(s:K')(B:St)(H:Hp)(Q:List V->Hp->Prop),Inv X J B H s->t B H Q->Jd X (evalAll ((backToKw pos<|keywordEach kws X.env).map (·.2))) (AP X J B Q) X.xe s
section
variable{k:Nat}{ks:Lq}{E:XK}{apos kpos:Pos}{o:Expr}{kws:List Keyword}{t tk:TA}{nm:Option Str}
def Gh:PK X [] Bp:=λ_ _ _ _ H Q I h=>wpAny_evalAll_nil {[],H,I,.nil,h}
def D9(ha:PE X e te)(z:PK X kws t):PK X (⟨nm,e,kpos⟩::kws) (E4 te t):=by
 intro pos J s B H Q I h;show wpAny _ _ (evalAll ((do let v<-eval e X.env;standAt pos;pure v)::(backToKw pos<|keywordEach kws X.env).map (·.2))) _ _ s;refine wpAny_evalAll_cons<|Kk (IH (ha J s B H _ I h) λu s1 zz=>?_);let{x,H1,G,r1,q1}:=zz;refine Kk<|wpAny_standAt<|Kt ?_;exact IH (z pos J s1 B H1 _ G q1) λus W zz=>by let{xs,H2,O,U,q2}:=zz;exact{x::xs,H2,O,.cons r1 U,q2}
structure we(K:Jc)(fd:Lw)(ps ks:Lq)(g:List Value->List Value->List Value)(gV:List V->List V->List V):Prop where
 to:∀(s:K')(us ws:Lj),K.In s.heap->(g us ws).length=ps.length->BindsTo s fd {us,ks.zip ws} (ps.zip<|g us ws)
 rel:∀{vs:Lf}{us:Lj}{zs:Lf}{ws:Lj},Du vs us->Du zs ws->Du (gV vs zs) (g us ws)
def FY(sp:Sp)(gV:List V->List V->List V)(E:XK)(t tk:TA):TE:=λB H Q=>t B H λvs H1=>tk B H1 λzs H2=>sp (gV vs zs) H2 Q E
variable{g:List Value->List Value->List Value}{gV:List V->List V->List V}
def DT{Q:VK}{z:Lj}{zs:Lf}(F:C5 X.prog X.w X.K X.mg X.base CX k f fd ps sp)(O:IK k X.A)(hb:we X.K fd ps ks g gV)(hx:f7 CX X E)
  (I:Inv X J B H s) (r:Du vs us) (rz:Du zs z) (h:sp (gV vs zs) H Q E):Jd X (call (.ref f) us<|ks.zip z) (EP X J B Q) X.xe s:=by
 have G:=hb.rel r rz;have hl:(g us z).length=ps.length:=by rw[<-G.length];exact F.len _ _ _ _ h
 refine wpAny_call<|codeAny_mono (F.run X.A X.stack s H {us,ks.zip z} (g us z) (gV vs zs) Q E O I.env0 (hb.to s us z I.kIn hl) G h) λr s' hq=>?_;cases r with
 |error e=>exact hx J B H s e s' I hq
 |ok fl=>
  cases fl with
  |ret u=>exact I.after hq
  |next=>exact False.elim hq
  |brk=>exact False.elim hq
  |cont=>exact False.elim hq
def BN(F:C5 X.prog X.w X.K X.mg X.base CX k f fd ps sp)(hr:IK k X.A)(hg:Gl X x)(hm:X.mg x=some (.ref f))(hk:PySem.W.keepIn X.K (.ref f)=true)(hb:we X.K fd ps ks g gV)(hx:f7 CX X E)
  (ha:PA X (e::es) t) (G:PK X kws tk) (z:(backToKw pos<|keywordEach kws X.env).all (·.1.isSome)=true:=by rfl) (O:(backToKw pos<|keywordEach kws X.env).filterMap (·.1)=ks:=by rfl)
  (U:(x==(lh:Str))=false:=by decide) (he:starEach (e::es) X.env=(false,eval e X.env)::starEach es X.env:=by rfl)
  (Y:((backTo pos<|starEach (e::es) X.env).any (·.1)||(backToKw pos<|keywordEach kws X.env).any (·.1.isNone))=false:=by rfl):
  PE X (.Call (.Name x p) (e::es) kws pos) (FY sp gV E t tk):=by
 intro J s B H Q I h;refine Kz<|iS I hg hm ?_ U;refine PySem.W.callWith_KW (h₀:=X.base) I.ok.mod.kin hk z (IH (ha pos J s B H _ I h) λus s1 Z=>?_) Y he;let{vs,H1,I1,r,q}:=Z;refine IH (G pos J s1 B H1 _ I1 q) λws s2 zz=>?_;let{zs,H2,I2,rz,q2}:=zz;refine{I2.kIn,?_};rw[O];exact DT F hr hb hx I2 r rz q2
end
structure ao(N P:Lq)(sc:Scope):Prop where
 kind:sc.kind= .function
 co:sc.isCoroutine=false
 gen:sc.isGenerator=false
 nd:N.Nodup
 pre:N.take P.length=P
 par:∀x∈P,sc.names.lookup x=some .local\/sc.names.lookup x=some .cell
 nofree:∀y∈sc.names,y.2≠ .free
theorem uP{kindOf:Str->Option NameKind}{x:Str}:∀{z:Mo}{m:Lr},(∀v,(x,v)∉z)->bindL kindOf z m x=m x
 | [],_,_=>rfl
 |(n,v)::r,m,h=>by
  unfold bindL;rw[uP λw hw=>h w (Qc _ hw)];split
  .have:x≠n:=by rintro rfl;exact h v Q6
   simp[this]
  .rfl
theorem uR{kindOf:Str->Option NameKind}{x:Str}:∀{z:Mo}{m:Lr},(∀v,(x,v)∉z)->bindC kindOf z m x=m x
 | [],_,_=>rfl
 |(n,v)::r,m,h=>by
  unfold bindC;rw[uR λw hw=>h w (Qc _ hw)];split
  .rfl
  .have:x≠n:=by rintro rfl;exact h v Q6
   simp[this]
theorem uQ{kindOf:Str->Option NameKind}{x:Str}{v:Lg}:∀{P:Lq}{vs:Lj}{i:Nat}{m:Lr},P.Nodup->P[i]?=some x->vs[i]?=some v->kindOf x=some .local->
  bindL kindOf (P.zip vs) m x=some v
 | [],_,_,_,_,h,_,_=>by simp at h
 |_::_,[],_,_,_,_,h,_=>by simp at h
 |p::P,w::vs,0,m,nd,h1,h2,hk=>by
  simp at h1 h2;subst h1;subst h2;show bindL kindOf ((p,w)::P.zip vs) m p=_;unfold bindL;rw[uP λv z=>(QP.mp nd).1 (Xj z).1,Kd hk];simp
 |p::P,w::vs,i+1,m,nd,h1,h2,hk=>by
  show bindL kindOf ((p,w)::P.zip vs) m x=_;unfold bindL;exact uQ (i:=i) (QP.mp nd).2 (by simpa using h1) (by simpa using h2) hk
theorem uS{kindOf:Str->Option NameKind}{x:Str}{v:Lg}:∀{P:Lq}{vs:Lj}{i:Nat}{m:Lr},P.Nodup->P[i]?=some x->vs[i]?=some v->kindOf x≠some .local->
  bindC kindOf (P.zip vs) m x=some v
 | [],_,_,_,_,h,_,_=>by simp at h
 |_::_,[],_,_,_,_,h,_=>by simp at h
 |p::P,w::vs,0,m,nd,h1,h2,hk=>by
  simp at h1 h2;subst h1;subst h2;show bindC kindOf ((p,w)::P.zip vs) m p=_;unfold bindC;rw[uR λv z=>(QP.mp nd).1 (Xj z).1,Kc hk];simp
 |p::P,w::vs,i+1,m,nd,h1,h2,hk=>by
  show bindC kindOf ((p,w)::P.zip vs) m x=_;unfold bindC;exact uS (i:=i) (QP.mp nd).2 (by simpa using h1) (by simpa using h2) hk
def start(N:Lq)(vs:Lf):St:=vs.map some++List.replicate (N.length-vs.length) none
def vT(CX:CXT)(P:Ln)(w:Lp)(K:Jc)(mg:Lr)(base:Heap)(N:Lq)(qual:Str)(scope:Scope)(f:G')(cd:Lg)(A:Lv)(outer:Mb)(s:K')(H:Hp)(E:XK):Cx where
 prog:=P
 w:=w
 K:=K
 mg:=mg
 base:=base
 A:=A.deeper (envOfC qual scope s.heap.objs.size f cd)
 N:=N
 s₀:=s
 H₀:=H
 env:=envOfC qual scope s.heap.objs.size f cd
 outer:=outer
 stack:=envOfC qual scope s.heap.objs.size f cd::outer
 ex:=[]
 calm:=true
 fn:=λ_=>true
 pn:=[]
 xe:=λe s'=>wpAny (model P w) (A.deeper<|envOfC qual scope s.heap.objs.size f cd) (leaving (envOfC qual scope s.heap.objs.size f cd) e) (λ_ s''=>CX outer H s E e s'') (λe' s''=>CX outer H s E e' s'') s'
def xu{sc:Scope}(h:sc.names.lookup x=some .cell):∃c,(cellsFrom n sc.names []).lookup x=some c:=by
 have q:=PySem.W.cellsFrom_some sc.names n [] (.inl h);exact Xb.mp q
def AA{mg:Lr}{O:Lg}{s1:K'}{E:XK} 
  (S:ao N ps scope) (hd:A.handled=none) (e0:Jz P w K mg base A outer s H) (hl:vs.length=ps.length) (r:Du vs us)
  (x:InCallC s s.heap.objs.size (bindL (envOfC qual scope s.heap.objs.size f O).kindOf (ps.zip us) λ_=>none) (cellsFrom (s.heap.objs.size+1) scope.names []) (bindC (envOfC qual scope s.heap.objs.size f O).kindOf (ps.zip us) λ_=>none) s1):
  Inv (vT CX P w K mg base N qual scope f O A outer s H E) [] (start N vs) H s1:=by
 have U:ps.length<=N.length:=by have:=Ks List.length S.pre;rw[Qd]at this;lia
 let{h1,tk,rfl,hk}:=x.done;have G:∀b:Addr,b∉(vT CX P w K mg base N qual scope f O A outer s H E).ex:=λb z=>Kh (show b∈([]:Lu) from z) (by simp);refine{{e0.mod,S.kind,M,M,Q5 _,λy z c h1 h2=>?_,λy hy=>?_,λy c _ h=>?_,λ_=>hd,Around.frames_deeper e0.frames,.inr ⟨M,M⟩,λb z=>Kh z<|G b,e0.bs,e0.bsz,λb _ _=>G b,λb z=>Kh z<|G b,e0.funs,e0.frf},
  rfl,e0.bare,Un.kept hk,{_,x.toInCall.ns,λi y v h1 h2 W=>?_},λy c h=>{_,x.cell y c h},e0.hok.fresh<|Q5 _,λy c h=>?_,λp hp=>Kh (show p∈([]:Lm) from hp) (by simp),e0.hok.kept hk,?_}
 .exact name_of_addr x.apart (PySem.mem_of_lookup h1)<|PySem.mem_of_lookup h2
 .have hy:scope.names.lookup y=some .cell\/scope.names.lookup y=some .free:=hy;rcases hy with hy|hy
  .exact xu hy
  .exact Kh M<|S.nofree _ (PySem.mem_of_lookup hy)
 .exact QV<|x.above y c (PySem.mem_of_lookup h)
 .have hi:i<vs.length:=by
   unfold start at h2;by_cases hi:i<vs.length
   .exact hi
   .rw[QT (by simpa using hi)]at h2;rw[List.getElem?_replicate]at h2;split at h2<;>cases h2
  have ha:vs[i]?=some v:=by
   unfold start at h2;rw[QY (by simpa using hi),Ql]at h2;cases e:vs[i]? with
   |none=>rw[e]at h2;cases h2
   |some a=>rw[e]at h2;cases h2;rfl
  let{u,hu,rv}:=r.get ha;have hp:ps[i]?=some y:=by
   rwa[<-S.pre,Xc ()]
  have I:ps.Nodup:=by rw[<-S.pre];exact S.nd.sublist<|ZO _ _
  refine{u,rv,?_};rcases S.par y (Q1 hp)with k|k
  .exact .inl {k,uQ I hp hu k}
  .let{c,e}:=xu (n:=s.heap.objs.size+1) k;refine .inr {.inl k,c,e,?_};have q:=x.cell y c e;rw[uS I hp hu (by show scope.names.lookup y≠_;rw[k];decide)]at q;exact q
 .exact e0.hok.fresh<|QV (x.above y c<|PySem.mem_of_lookup h)
 .unfold start;show _=N.length;rw[Q8,Q0,Zn];lia
abbrev _root_.Mp:=Array (Option Value)
def CH{mg:Lr}{k:Nat}{params:Arguments}{dV kV Y pm z ct oc:Lg}{an od:Lz}
  {a0:Mp} (lk:K.lookup f=some {oc,od,.func<|PySem.W.fnOf name qual params body scope dV kV Y pm an z ct,a0}) (a1:PySem.W.codeIn K z qual=true) (S:ao N ps scope)
  (len:∀vs H Q E,sp vs H Q E->vs.length=ps.length)
  (O:∀(A:Lv)(outer:Mb)(s:K')(H:Hp)(vs:Lf)(Q:VK)(E:XK),IK k (A.deeper<|envOfC qual scope s.heap.objs.size f z)->sp vs H Q E->
   ∃t,JL (vT CX P w K mg base N qual scope f z A outer s H E) body t/\t {nx:=λ_ H'=>Q .non H',rt:=Q} (start N vs) H):
  C5 P w K mg base CX (k+1) f (PySem.W.fnOf name qual params body scope dV kV Y pm an z ct) ps sp:=by
 refine{len,λA outer s H args us vs Q E hr e0 hb r Z=>?_};have hl:=len _ _ _ _ Z;have KX:K.In s.heap:=e0.mod.kin.keeps λb o e=>(e0.bs b o e).1;have a2:s.heap.NoLimit:=e0.mod.nolimit.keeps λb o e=>(e0.bs b o e).1;have U:∀y∈ps.zip us,scope.names.lookup y.1=some .local\/(scope.names.lookup y.1=some .cell/\((cellsFrom (s.heap.objs.size+1) scope.names []).lookup y.1).isSome=true):=λ⟨n,v⟩ hy=>by
  rcases S.par n (Xj hy).1 with q|q
  .exact .inl q
  .exact .inr {q,PySem.W.cellsFrom_some _ _ _<|.inl q}
 refine codeAny_call_function hr.depth (KX _ _ lk) M S.co S.gen M (PySem.W.codeRec_of KX a1)<|hb _ _ _ _ ?_;refine wpAny_newFunctionEnv_cells S.kind U λenv he s1 x=>?_;subst he;refine{a2.keeps x.toInCall.keep,codeAny_func ?_};let{t,ht,hq}:=O A outer s H vs Q E (hr.deeper _) Z;have I:Inv (vT CX P w K mg base N qual scope f z A outer s H E) [] (start N vs) H s1:=AA S hr.hd e0 hl r x;refine KB (ht [] s1 (start N vs) H _ I hq) (λfl s' hs=>?_) λe s' hs=>hs;have fin:∀{G:St}{H':Hp}{v:V}{u:Lg},Inv (vT CX P w K mg base N qual scope f z A outer s H E) [] G H' s'->RelV v u->Q v H'->CE outer P w H s Q u s':=
  λ{G H' v u} Ja rv q=>⟨v,H',Ja.os,Ja.bare,Ja.base,Ja.hok,rv,q⟩
 cases fl with
 |ret u=>
  let{v,G,H',Ja,rv,q}:=hs;exact fin Ja rv q
 |next=>
  let{G,H',Ja,q}:=hs;exact fin (v:=V.non) (u:=Value.none) Ja M q
 |brk=>
  let{_,_,_,q}:=hs;exact False.elim q
 |cont=>
  let{_,_,_,q}:=hs;exact False.elim q
section
variable{t:TA}{id T:String}{r:List V->Hp->VK->Prop}
def tCB(r:List V->Hp->VK->Prop)(t:TA):TE:=λB H Q=>t B H λvs H1=>r vs H1 Q
def az(hc:iz X (.builtin id) r)(O:Gl X x)(U:X.mg x=none)(W:bootBuiltins x=some (.builtin id))(ha:PA X (e::es) t)(Y:x≠o5:=by decide)(z:(x==(lh:Str))=false:=by decide)
  (he:starEach (e::es) X.env=(false,eval e X.env)::starEach es X.env:=by rfl) (G:(backTo pos<|starEach es X.env).any (·.1)=false:=by rfl):PE X (.Call (.Name x p) (e::es) [] pos) (tCB r t):=by
 intro J s B H Q I h;refine Kz<|oE I O U W ?_ Y z;exact PyProof.Rows.callWith_builtin1 (IH (ha pos J s B H _ I h) λus s1 zz=>by let{vs,H1,Z,r1,q1}:=zz;exact hc J s1 B H1 vs us Q Z r1 q1) he G
def Af(hc:iz X (.type T) r)(O:Gl X x)(U:X.mg x=none)(W:bootBuiltins x=some (.type T))(ha:PA X (e::es) t)(Y:x≠o5:=by decide)(z:(x==(lh:Str))=false:=by decide)
  (he:starEach (e::es) X.env=(false,eval e X.env)::starEach es X.env:=by rfl) (G:(backTo pos<|starEach es X.env).any (·.1)=false:=by rfl):PE X (.Call (.Name x p) (e::es) [] pos) (tCB r t):=by
 intro J s B H Q I h;refine Kz<|oE I O U W ?_ Y z;exact PyProof.Rows.callWith_type1 (IH (ha pos J s B H _ I h) λus s1 zz=>by let{vs,H1,Z,r1,q1}:=zz;exact hc J s1 B H1 vs us Q Z r1 q1) he G
end
end L2
namespace HT
open PySem PyProof.Rows
variable{E:Ls}
noncomputable def lexLt:List Int->List Int->Bool
 | [],[]=>false
 | [],_::_=>true
 |_::_,[]=>false
 |x::xs,y::ys=>if x=y then lexLt xs ys else decide (x<y)
abbrev _root_.Lh:=List Int
def lexLt_cons(x y:Int)(xs ys:Lh):lexLt (x::xs) (y::ys)=if x=y then lexLt xs ys else decide (x<y):=rfl
def lexLt_nil_nil:lexLt [] []=false:=rfl
def lexLt_nil_cons(y:Int)(ys:Lh):lexLt [] (y::ys)=true:=rfl
def lexLt_cons_nil(x:Int)(xs:Lh):lexLt (x::xs) []=false:=rfl
section
variable{prog:Ln}{w:Lp}{A:Lv}{s:K'}
noncomputable def sIx(n d:Nat):Option Int->Nat
 |none=>d
 |some v=>if v<0 then(v+(n:Int)).toNat else min v.toNat n
end
end HT
namespace L2
open PySem PySem.Spec PyProof.Rows
abbrev _root_.Me:=Option V
variable{a b:G'}{A:Lv}{X:Cx}{e:Expr}{h':Heap}{H H':Hp}{i:Int}{J:Lm}{kvs:Mg}{vs:List (Key×Value)}{xs:Lf}{its its':Lj}{j n t':Nat}{o:Me}{pos:Pos}{P:Ln}{s:K'}{B:St}{T:String}{α:Type}{x y:V}{u v:Lg}{E Q:Ls}{w:Lp}
abbrev TO:=St->Hp->(Option Int->Hp->Prop)->Prop
def PO(X:Cx)(e:Option Expr)(t:TO):Prop:=
 ∀(J:Lm)(s:K')(B:St)(H:Hp)(Q:Option Int->Hp->Prop),Inv X J B H s->t B H Q->
  Jd X (evalPart e X.env) (λu s'=>∃o H',Inv X J B H' s'/\IsPart u o/\Q o H') X.xe s
def DM:TO:=λ_ H Q=>Q none H
inductive FR(Q:Option Int->Hp->Prop)(x:V)(H1:Hp):Prop
 |mk(i:_)(_:x= .int i)(_:Q (some i) H1)
def Hm(t:TE):TO:=λB H Q=>t B H λx H1=>FR Q x H1
def rL{ns:Lh}:∀{us:Lj},Du (ns.map V.int) us->IntsAre us ns:=by
 induction ns with
 |nil=>intro us r;rw[XG]at r;cases r;exact .nil
 |cons n ns z=>
  intro us r;rw[Qs]at r;cases r with
  |cons r1 G=>
   let{t,e}:=r1;subst e;exact .cons n t<|z G
section
variable{te:TE}{lo hi:Option Expr}{tl th:TO}{p2:Pos}
def mS:PO X none DM:=by
 intro J s B H Q I h;rw[evalPart_none];exact Kt {none,H,I,.none,h}
def iO(h:PE X e te):PO X (some e) (Hm te):=by
 intro J s B H Q I hw;rw[evalPart_some];refine IH (h J s B H _ I hw) λu s1 z=>?_;let{x,H1,G,r1,q1}:=z;let{i,rfl,q}:=q1;let{t,rfl}:=r1;exact{some i,H1,G,.int i t,q}
abbrev _root_.Mi:=Option Int
def SlR(X:Cx)(r:V->Option Int->Option Int->Hp->VK->Prop):Prop:=
 ∀(J:Lm)(s:K')(B:St)(H:Hp)(x:V)(v vl vu:Lg)(lo hi:Mi)(sl:G')(Q:VK),Inv X J B H s->RelV x v->s.heap.IsSliceOf sl vl vu .none->IsPart vl lo->IsPart vu hi->r x lo hi H Q->
  ∃T id,typeLookup (.type T) "__getitem__"=pure (some<|.builtin id)/\s.TypeIs v T/\Jd X (getItem v<|.ref sl) (EP X J B Q) X.xe s
def tSl(r:V->Option Int->Option Int->Hp->VK->Prop)(te:TE)(tl th:TO):TE:=λB H Q=>te B H λx H1=>tl B H1 λl H2=>th B H2 λu H3=>r x l u H3 Q
def hV{r:V->Option Int->Option Int->Hp->VK->Prop}(U:SlR X r)(he:PE X e te)(hl:PO X lo tl)(hu:PO X hi th):PE X (.Subscript e (.Slice lo hi none p2) pos) (tSl r te tl th):=by
 intro J s B H Q I h;refine Subscript_<|IH (he J s B H _ I h) λv s1 z=>?_;let{x,H1,W,r1,q1}:=z;refine wpAny_Slice<|IH (hl J s1 B H1 _ W q1) λG Y zz=>?_;let{l,H2,Z,pl,q2}:=zz;refine IH (hu J Y B H2 _ Z q2) λO s3 z=>?_;let{u,H3,I3,pu,q3}:=z;rw[evalPart_none];refine Kt ?_;have I4:Inv X J B H3 {s3 with heap:=s3.heap.push {cls:= .type "slice",data:= .fields #[G,O,.none]}}:=I3.kept (t':=s3.toks) λb ob q=>Kg _ q;let{T,id,hT,ht,hg}:=U J {s3 with heap:=s3.heap.push {cls:= .type "slice",data:= .fields #[G,O,.none]}} B H3 x v G O l u s3.heap.objs.size Q I4 r1 (Heap.IsSliceOf.new ..) pl pu q3;show Jd X (subscriptTail e (.Slice lo hi none p2) v<|.ref s3.heap.objs.size) (EP X J B Q) X.xe {s3 with heap:=s3.heap.push {cls:= .type "slice",data:= .fields #[G,O,.none]}};exact tail_any (ops:=[.ref s3.heap.objs.size,v]) ht hT hg (by with_unfolding_all rfl)
def nG(xs:Lf)(lo hi:Mi):List V:=(xs.drop<|HT.sIx xs.length 0 lo).take (HT.sIx xs.length xs.length hi-HT.sIx xs.length 0 lo)
def xq(xs:Lf)(lo hi:Mi):(nG xs lo hi).length<=xs.length:=by
 unfold nG;rw[Qd,QL];lia
end
noncomputable def LA(n:Nat)(i:Int):Option Nat:=if 0<=i then(if i<n then some i.toNat else none)else if-(n:Int)<=i then some (i+n).toNat else none
def L4{α:Type}(xs:List α)(i:Int):Option α:=(LA xs.length i).bind λj=>xs[j]?
def zk(h:LA n i=some j):seqIndex? i n=some j/\j<n/\-(n:Int)<=i/\i<n:=by
 unfold LA at h;by_cases z:0<=i
 .rw[Kd z]at h;by_cases h1:i<n
  .rw[Kd h1]at h;have e:i.toNat=j:=Kf h;exact{by rw[seqIndex_of z h1,e],(),(),h1}
  .rw[Kc h1]at h;cases h
 .rw[Kc z]at h;by_cases h1: -(n:Int)<=i
  .rw[Kd h1]at h;have e:(i+n).toNat=j:=Kf h;exact{by rw[seqIndex_neg () h1,e],(),h1,()}
  .rw[Kc h1]at h;cases h
def zG{xs:List α}{v:α}(h:L4 xs i=some v):∃j,seqIndex? i xs.length=some j/\xs[j]?=some v/\j<xs.length/\-(xs.length:Int)<=i/\i<xs.length:=by
 unfold L4 at h;cases e:LA xs.length i with
 |none=>rw[e]at h;cases h
 |some j=>
  rw[e]at h;let{h1,h2,z,G}:=zk e;exact⟨j,h1,h,h2,z,G⟩
def p7{xs:List α}{v:α}(h:xs[j]?=some v):L4 xs (j:Int)=some v:=by
 have z:j<xs.length:=(Q2.mp h).1;have e:LA xs.length (j:Int)=some j:=by
  unfold LA;rw[Kd (),Kd ()];simp
 unfold L4;rwa[e]
def EN(b:Expr):Prop:=∀o i,subscripted b false o i=operate [o,i] (getItem o i)
def IxR(X:Cx)(r:R2):Prop:=
 ∀(value slice:Expr)(J:Lm)(s:K')(B:St)(H:Hp)(x y:V)(v u:Lg)(Q:VK),Inv X J B H s->RelV x v->RelV y u->r x y H Q->
  subscripted slice false v u=operate [v,u] (getItem v u)->Jd X (subscriptTail value slice v u) (EP X J B Q) X.xe s
def Le(X:Cx)(id:String)(r:V->List V->Hp->VK->Prop):Prop:=
 ∀(J:Lm)(s:K')(B:St)(H:Hp)(x:V)(xs:Lf)(v:Lg)(us:Lj)(Q:VK),Inv X J B H s->RelV x v->Du xs us->r x xs H Q->
  Jd X (call (.builtin id) (v::us)) (EP X J B Q) X.xe s
section
variable{a b:Expr}{ta tb:TE}
def aJ{r:R2}(z:IxR X r)(ha:PE X a ta)(hb:PE X b tb)(hs:EN b):PE X (.Subscript a b pos) (tOp r ta tb):=by
 intro J s B H Q I h;exact Subscript_ (G3 ha hb I h λv u G x y H2 O U W q=>z a b J G B H2 x y v u Q O U W q<|hs _ _)
inductive rIxL(K:Jc)(x y:V)(H:Hp)(Q:VK):Prop
 |mk(p xs i v:_)(_:x= .ref p)(_:y= .int i)(_:Dv K H p xs)(_:L4 xs i=some v)(_:Q v H)
inductive rIxT(K:Jc)(x y:V)(H:Hp)(Q:VK):Prop
 |mk(p xs i v:_)(_:x= .ref p)(_:y= .int i)(_:JE K H p xs)(_:L4 xs i=some v)(_:Q v H)
def aL:IxR X (rIxL X.K):=by
 intro value G J s B H x y v u Q I Z ry h hs;let{p,xs,i,z,rfl,rfl,hq,he,q}:=h;cases Z;let{t,rfl}:=ry;let{its,r,pl,hz}:=I.list hq;let{j,h1,h2,h3,h4,h5}:=zG he;let{w,W,O}:=r.get h2;have hl:=r.length;have hn:=rE;have fin:EP X J B Q w s:=⟨z,H,I,O,q⟩;by_cases Y:0<=i
 .have U:i.toNat=j:=by
   rw[seqIndex_of Y h5]at h1;exact Kf h1
  exact item_listR pl.isList Y () (by rw[U];simpa using W) fin hs
 .have U:(i+(its.toArray.size:Int)).toNat=j:=by
   rw[seqIndex_neg () h4]at h1;rw[Qi,<-hl];exact Kf h1
  exact subscriptTail_builtinR (x:=w) pl.isList.typeIs slot_list_getitem.lookup
   (wpAny_getItem_list_neg (Q:=λr s'=>r=w/\EP X J B Q r s') pl.isList () (by rw[Qi]<;>lia) () (by rw[U];simpa using W) ⟨M,fin⟩) hs
def bz:IxR X (rIxT X.K):=by
 intro value G J s B H x y v u Q I U W h hs;let{p,xs,i,z,rfl,rfl,hq,he,q}:=h;cases U;let{t,rfl}:=W;let{its,r,pl,hz}:=I.tuple hq;let{j,h1,h2,Z,h4,h5}:=zG he;let{w,Y,O}:=r.get h2;have hl:=r.length;have hn:=rE;have fin:EP X J B Q w s:=⟨z,H,I,O,q⟩;exact subscriptTail_builtinR (x:=w) pl.typeIs slot_tuple_getitem.lookup
  (getItem_tuple (j:=j) (Q:=λr s'=>r=w/\EP X J B Q r s') pl () () (by rwa[Qi,<-hl]) (by simpa using Y) ⟨M,fin⟩) hs
def yq(its:Lj)(n j:Nat)(u:Lg):Obj.mapSeq (·.setIfInBounds j u) {cls:= .type ke,data:= .seq its.toArray n}={cls:= .type ke,data:= .seq (its.set j u).toArray n}:=by
 simp[Obj.mapSeq]
def Inv.lst{J:Lm}{B:St}{H:Hp}{s:K'}{p:G'}{xs:Lf}(I:Inv X J B H s)(h:H p=some (.lst xs)):
  ∃(its:Lj)(n:Nat),Du xs its/\s.heap.get? p=some {cls:= .type ke,data:= .seq its.toArray n}/\xs.length<=sizeLine:=by
 let{z,its,n,r,e}:=I.hok p _ h;exact⟨its,n,r,e,z⟩
def Inv.lstUpd{p:G'}{ys:Lf}{n':Nat}{f:Obj->Obj}(I:Inv X J B H s)(h:H p=some (.lst xs))
  (z:s.heap.get? p=some {cls:= .type ke,data:= .seq its.toArray n}) (hf:f {cls:= .type ke,data:= .seq its.toArray n}={cls:= .type ke,data:= .seq its'.toArray n'}) (r:Du ys its') (hz:ys.length<=sizeLine) (t:Nat):
  Inv X J B (upd H p<|.lst ys) {s with heap:=s.heap.update p f,toks:=t}:=by
 have e:(s.heap.update p f).get? p=some {cls:= .type ke,data:= .seq its'.toArray n'}:=by
  rw[Heap.get?_update_self f z (by rw[hf]<;>rfl),hf]
 refine I.write (x:=p) (e:=p) (by rw[h];trivial) (.inl M) (λb u hb q=>(KL _ _<|Ne.symm hb).trans q) {_,e} ?_;exact⟨hz,its',n',r,e⟩
inductive HA(o i v:V)(H:Hp)(Q:Hp->Prop):Prop
 |mk(p xs k j:_)(_:o= .ref p)(_:i= .int k)(_:H p=some (.lst xs))(_:LA xs.length k=some j)(_:Q (upd H p<|.lst<|xs.set j v))
def qw:PSet X HA:=by
 intro J s B H o i v ov iv u Q I Z ri rv h;let{p,xs,k,j,rfl,rfl,hp,hj,q}:=h;cases Z;let{t,rfl}:=ri;let{its,n,r,z,hz}:=I.lst hp;let{h1,h2,G,O}:=zk hj;have hl:=r.length;have hn:=rE;have U:Inv X J B (upd H p<|.lst<|xs.set j v) {s with heap:=s.heap.update p (Obj.mapSeq (·.setIfInBounds j u))}:=
  I.lstUpd hp z (yq its n j u) (r.set rv j) (by rwa[QH]) s.toks
 by_cases Y:0<=k
 .have hk:k.toNat=j:=by
   rw[seqIndex_of Y O]at h1;exact Kf h1
  exact PySem.W.ki_setAt z Y () (by rwa[Qi,<-hl])<|by rw[hk];exact{_,U,q}
 .have hk:(k+(its.toArray.size:Int)).toNat=j:=by
   rw[seqIndex_neg () G]at h1;rw[Qi,<-hl];exact Kf h1
  exact PySem.W.ki_setBack z () (by rwa[Qi,<-hl]) ()<|by rw[hk];exact{_,U,q}
def vg(lo hi:Mi)(n:Nat):(sliceBounds lo hi none n).1=((HT.sIx n 0 lo:Nat):Int)/\(sliceBounds lo hi none n).2.1=((HT.sIx n n hi:Nat):Int)/\(sliceBounds lo hi none n).2.2=1:=by
 refine{?_,?_,M}
 .cases lo with
  |none=>simp[sliceBounds,HT.sIx]
  |some i=>
   simp only[sliceBounds,HT.sIx,Option.getD_none,show(1:Int)>0 by decide,if_true];by_cases h:i<0
   .simp only[h,if_true]<;>lia
   .simp only[h,if_false]<;>lia
 .cases hi with
  |none=>simp[sliceBounds,HT.sIx]
  |some i=>
   simp only[sliceBounds,HT.sIx,Option.getD_none,show(1:Int)>0 by decide,if_true];by_cases h:i<0
   .simp only[h,if_true]<;>lia
   .simp only[h,if_false]<;>lia
def sO(its:Lj)(lo hi:Mi):slicePick its.toArray lo hi none=((its.drop<|HT.sIx its.length 0 lo).take<|HT.sIx its.length its.length hi-HT.sIx its.length 0 lo).toArray:=by
 let{h1,h2,z}:=vg lo hi its.toArray.size;unfold slicePick;rw[h1,h2,z];simp only[sliceRange_one,pick_run,Qi]<;>rfl
inductive rSlL(K:Jc)(x:V)(lo hi:Mi)(H:Hp)(Q:VK):Prop
 |mk(a xs:_)(_:x= .ref a)(_:Dv K H a xs)(_:∀p,H p=none->Q (.ref p) (upd H p<|.lst<|nG xs lo hi))
def kA:SlR X (rSlL X.K):=by
 intro J s B H x v W Y lo hi Z Q I O hs pl U h;let{a,xs,rfl,hx,q}:=h;cases O;let{its,r,G,hz}:=I.list hx;have z:=r.length;refine{ke,_,slot_list_getitem.lookup,G.isList.typeIs,?_};refine wpAny_getItem_list_slice G.isList hs pl U .none (by simp) ?_ (by rw[Qi]<;>lia);rw[sO,<-z];refine{.ref s.heap.objs.size,_,I.laid (t':=s.toks) (o:= .lst<|nG xs lo hi) (λb ob q=>Kg _ q) (Q5 _) ?_,M,q _<|I.hok.fresh (Q5 _)};exact{Qu (xq xs lo hi) hz,_,0,(r.drop<|HT.sIx xs.length 0 lo).take<|HT.sIx xs.length xs.length hi-HT.sIx xs.length 0 lo,Ko _ M}
noncomputable def nB:V->Bool
 | .non=>true
 | .bl _=>true
 | .int _=>true
 | .str _=>true
 |_=>false
noncomputable def LK:V->V->Bool
 | .non,.non=>true
 | .bl a,.bl b=>a==b
 | .bl a,.int b=>(if a then 1 else 0)==b
 | .int a,.bl b=>a==(if b then 1 else 0)
 | .int a,.int b=>a==b
 | .str a,.str b=>a==b
 |_,_=>false
def GW(G:RelV y u)(z:RelV x v)(O:nB y=true)(I:nB x=true):SeqAt.EqAt A s u v (LK y x):=by
 cases y with
 |non=>
  cases G;cases x with
  |non=>cases z;exact SeqAt.EqAt.same _
  |bl b=>cases z;exact SeqAt.EqAt.none_bool b
  |int b=>let{t,rfl}:=z;exact SeqAt.EqAt.none_int b t
  |str b=>let{t,rfl}:=z;exact SeqAt.EqAt.none_str b t
  |_=>exact Kh (show false=true from I) Qg
 |bl a=>
  cases G;cases x with
  |non=>cases z;exact SeqAt.EqAt.bool_none a
  |bl b=>cases z;exact SeqAt.EqAt.bool_bool a b
  |int b=>let{t,rfl}:=z;exact SeqAt.EqAt.bool_int a b t
  |str b=>let{t,rfl}:=z;exact SeqAt.EqAt.bool_str a b t
  |_=>exact Kh (show false=true from I) Qg
 |int a=>
  let{t',rfl}:=G;cases x with
  |non=>cases z;exact SeqAt.EqAt.int_none a t'
  |bl b=>cases z;exact SeqAt.EqAt.int_bool a t' b
  |int b=>let{t,rfl}:=z;exact SeqAt.EqAt.int_int a t' b t
  |str b=>let{t,rfl}:=z;exact SeqAt.EqAt.int_str a t' b t
  |_=>exact Kh (show false=true from I) Qg
 |str a=>
  let{t',rfl}:=G;cases x with
  |non=>cases z;exact SeqAt.EqAt.str_none a t'
  |bl b=>cases z;exact SeqAt.EqAt.str_bool a t' b
  |int b=>let{t,rfl}:=z;exact SeqAt.EqAt.str_int a t' b t
  |str b=>let{t,rfl}:=z;exact SeqAt.EqAt.str_str a t' b t
  |_=>exact Kh (show false=true from I) Qg
 |_=>exact Kh (show false=true from O) Qg
def LM(x:V)(u:Lg):Bool:=match u with
 | .none=>LK .non x
 | .bool b=>LK (.bl b) x
 | .int i _=>LK (.int i) x
 | .str z _=>LK (.str z) x
 |_=>false
def CL(r:RelV y u)(f:nB y=true):LM x u=LK y x:=by
 cases y with
 |non=>cases r;rfl
 |bl b=>cases r;rfl
 |int i=>let{t,rfl}:=r;rfl
 |str z=>let{t,rfl}:=r;rfl
 |_=>exact Kh (show false=true from f) Qg
def zH{us:Lj}(h:Du xs us)(f:xs.all nB=true):us.any (LM x)=xs.any λy=>LK y x:=by
 induction h with
 |nil=>rfl
 |cons r t z=>
  rw[List.all_cons,QM]at f;rw[ZX,ZX,CL r f.1,z f.2]
def w5(z:RelV x v)(G:nB x=true):∀{xs:Lf}{us:Lj},Du xs us->xs.all nB=true->∀u∈us,SeqAt.EqAt A s u v (LM x u):=λ{xs us} h=>by
 induction h with
 |nil=>exact λ_ u hu=>by cases hu
 |cons r t I=>
  intro f O hu;rw[List.all_cons,QM]at f;rcases Q7.mp hu with rfl|hu
  .rw[CL r f.1];exact GW r z f.1 G
  .exact I f.2 O hu
def inV(x:V)(xs:Lf):Bool:=xs.any λy=>LK y x
inductive rIn(K:Jc)(neg:Bool)(x y:V)(H:Hp)(Q:VK):Prop
 |mk(p xs:_)(_:y= .ref p)(_:(Dv K H p xs\/JE K H p xs))(_:nB x=true)(_:xs.all nB=true)(_:Q (.bl<|if neg then !inV x xs else inV x xs) H)
def Ag:JU X (compareOp .In) (rIn X.K false):=by
 intro J s B H x y v u Q I z O h;let{p,xs,rfl,hq,G,fs,q}:=h;cases O;rcases hq with hq|hq
 .let{its,r,pl,hz}:=I.list hq;refine SeqAt.in_listAt (LM x) pl.isList (λw hw=>w5 z G r fs w<|by simpa using hw) {.bl _,H,I,M,?_};rw[show its.toArray.any (LM x)=its.any (LM x) by simp,zH r fs];exact q
 .let{its,r,pl,hz}:=I.tuple hq;refine SeqAt.in_tupleAt (LM x) pl (λw hw=>w5 z G r fs w<|by simpa using hw) {.bl _,H,I,M,?_};rw[show its.toArray.any (LM x)=its.any (LM x) by simp,zH r fs];exact q
def au:iz X (.builtin "len") (λxs H Q=>∃p ys,xs=[.ref p]/\(Dv X.K H p ys\/JE X.K H p ys)/\Q (.int ys.length) H):=by
 intro J s B H xs us Q I r h;let{p,ys,rfl,hq,q}:=h;let{u,rfl,G}:=tZ r;cases G;have O:=rE;rcases hq with hq|hq
 .let{its,r',pl,hz}:=I.list hq;have z:=r'.length;exact Calls.call_len_list pl.isList (by simp only[Qi]<;>lia) {.int ys.length,H,I.tok _,{s.toks+1,by rw[Qi,z]},q}
 .let{its,r',pl,hz}:=I.tuple hq;have z:=r'.length;exact len_tuple pl (by simp only[Qi]<;>lia) {.int ys.length,H,I.tok _,{s.toks+1,by rw[Qi,z]},q}
def tyV(K:Jc)(T:String)(x:V)(H:Hp):Prop:=match x with
 | .str _=>T="str"
 | .int _=>T="int"
 | .ref p=>(T=ke/\∃xs,Dv K H p xs)\/(T=u6/\∃o,K.lookup p=some o/\o.cls= .type u6/\o.dict=none)\/
   (T="dict"/\((∃kvs,H p=some (.dK kvs))\/∃kvs,H p=some (.dT kvs)))\/(T="set"/\∃S n,H p=some (.set S n))
 |_=>False
def Bj(I:Inv X J B H s)(r:RelV x v)(ty:tyV X.K T x H):
  s.TypeIs v T/\∀a,v= .ref a->∃ob,s.heap.get? a=some ob/\ob.dict=none:=by
 cases x with
 |str z=>
  let{t,rfl}:=r;cases (show T="str" from ty);exact{typeIs_str s z t,λ_ e=>nomatch e}
 |int i=>
  let{t,rfl}:=r;cases (show T="int" from ty);exact{typeIs_int s i t,λ_ e=>nomatch e}
 |ref p=>
  cases r;rcases ty with⟨rfl,xs,hq⟩|⟨rfl,o,hk,hc,hd⟩|⟨rfl,hk⟩|⟨rfl,S,n,hk⟩
  .let{its,_,pl,_}:=I.list hq;refine{pl.isList.typeIs,λa e=>?_};cases e;let{o,n,e,c,hd,_}:=pl;exact⟨o,e,hd⟩
  .refine{{o,I.kIn p o hk,hc},λa e=>?_};cases e;exact{o,I.kIn _ o hk,hd}
  .have z:∃o,s.heap.get? p=some o/\o.ExactDict:=by
    rcases hk with⟨kvs,hk⟩|⟨kvs,hk⟩
    .let{_,_,_,_,o,_,_,e,ex,_}:=I.hok p _ hk;exact⟨o,e,ex⟩
    .let{_,_,_,_,o,_,_,e,ex,_}:=I.hok p _ hk;exact⟨o,e,ex⟩
   let{o,e,ex}:=z;refine{⟨o,e,ex.1⟩,λa e2=>?_};cases e2;exact⟨o,e,ex.2.1⟩
  .let{o,_,_,_,e,ex,_}:=I.hok p _ hk;refine{⟨o,e,ex.1⟩,λa e2=>?_};cases e2;exact⟨o,e,ex.2.1⟩
 |_=>exact False.elim ty
def tBM0(K:Jc)(T:String)(r:V->List V->Hp->VK->Prop)(to:TE):TE:=λB H Q=>to B H λx H1=>tyV K T x H1/\r x [] H1 Q
def tBM(K:Jc)(T:String)(r:V->List V->Hp->VK->Prop)(to:TE)(t:TA):TE:=λB H Q=>to B H λx H1=>tyV K T x H1/\t B H1 λxs H2=>r x xs H2 Q
variable{o:Expr}{es:Mh}{to:TE}{t:TA}{name:Str}{apos cpos:Pos}{id:String}{r:V->List V->Hp->VK->Prop}
def BP(pa:PlainAttrs T)(slot:Slot T name id)(O:typeOf (.builtin id)=pure (.type "method_descriptor"))(Y:Le X id r)(Z:PE X o to)
  (z:attributeBase o name X.env (eval o X.env)=eval o X.env:=by rfl) (G:(apos.endLine==cpos.line)=true:=by rfl):PE X (.Call (.Attribute o name apos) [] [] cpos) (tBM0 X.K T r to):=by
 intro J s B H Q I h;refine wpAny_Call_method0_late z G<|IH (Z J s B H _ I h) λv s1 U=>?_;let{x,H1,W,r1,ty,q1}:=U;let{h1,h2}:=Bj W r1 ty;exact{T,id,pa,slot,O,h1,h2,Calls.callWith_builtin M<|PySem.evalArgs_none (Y J s1 B H1 x [] v [] Q W r1 .nil q1)}
def cZ(pa:PlainAttrs T)(slot:Slot T name id)(W:typeOf (.builtin id)=pure (.type "method_descriptor"))(hm:Le X id r)(ho:PE X o to)(ha:PA X (e::es) t)
  (G:attributeBase o name X.env (eval o X.env)=eval o X.env:=by rfl)
  (U:((backTo cpos<|starEach (e::es) X.env).all (λx=>!x.1)&&(backToKw cpos<|keywordEach [] X.env).all (λx=>x.1.isSome)
   &&decide ((e::es).length+([]:List Keyword).length+(if([]:List Keyword).isEmpty then 0 else 1)<30))=true:=by rfl)
  (O:(apos.endLine==cpos.line)=true:=by rfl) (hs:starEach (e::es) X.env=(false,eval e X.env)::starEach es X.env:=by rfl) (z:(backTo cpos<|starEach es X.env).any (·.1)=false:=by rfl):
  PE X (.Call (.Attribute o name apos) (e::es) [] cpos) (tBM X.K T r to t):=by
 intro J s B H Q I h;refine wpAny_Call_method_late G U O M<|IH (ho J s B H _ I h) λv s1 Y=>?_;let{x,H1,Z,r1,ty,q1}:=Y;let{h1,h2}:=Bj Z r1 ty;refine{T,id,pa,slot,W,h1,h2,?_};have hA:=ha cpos J s1 B H1 _ Z q1;rw[hs]at hA⊢;refine Calls.callWith_builtin (by show(false||(backTo cpos<|starEach es X.env).any (·.1))=false;rw[z]<;>rfl)<|Calls.evalArgs_plain ?_;exact IH hA λus s2 zz=>by let{vs,H2,I2,r2,q2}:=zz;exact hm J s2 B H2 x vs v us Q I2 r1 r2 q2
end
def MtM(X:Cx)(id:String)(r:V->List V->Hp->VK->Prop):Prop:=
 ∀(J:Lm)(s:K')(B:St)(H:Hp)(x:V)(xs:Lf)(v:Lg)(us:Lj)(Q:VK),Inv X J B H s->RelV x v->Du xs us->r x xs H Q->
  Jd X (call (.builtin id) (v::us)) (EP X J B Q) X.xe s
def Du.one:∀{x:V}{us:Lj},Du [x] us->∃u,us=[u]/\RelV x u
 :=λh=>by
  cases h with
  |cons r h=>cases h;exact{_,M,r}
def Du.two:∀{x y:V}{us:Lj},Du [x,y] us->∃u v,us=[u,v]/\RelV x u/\RelV y v
 :=λh=>by
  cases h with
  |cons r h=>cases h with
   |cons q h=>cases h;exact{_,_,M,r,q}
theorem Du.eraseIdx:∀{xs:Lf}{us:Lj}(i:Nat),Du xs us->Du (xs.eraseIdx i) (us.eraseIdx i)
 |_,_,_,.nil=> .nil
 |_,_,0,.cons _ t=>t
 |_,_,i+1,.cons r t=> .cons r (Du.eraseIdx i t)
theorem oC{α:Type}:∀(l:List α)(i:Nat),(l.eraseIdx i).length<=l.length
 | [],_=>Q5 _
 |_::_,0=>Zx _
 |_::r,i+1=>Nat.succ_le_succ (oC r i)
section
variable{l:G'}{ys zs:Lf}
def Inv.lset{f:Array Value->Array Value}(I:Inv X J B H s)(z:H l=some (.lst xs))
  (e:s.heap.get? l=some {cls:= .type ke,data:= .seq its.toArray n}) (hf:f its.toArray=its'.toArray) (G:Du ys its') (hz:ys.length<=sizeLine):
  Inv X J B (upd H l<|.lst ys) {s with heap:=s.heap.update l (Obj.mapSeq f),toks:=t'}:=by
 have q:=PySem.IsL.update e f;rw[hf]at q;refine I.write (x:=l) (e:=l) (by rw[z];exact trivial) (.inl M) (λb' u hb hu=>(KL s.heap (Obj.mapSeq f)<|Ne.symm hb).trans hu) {_,q} ?_;exact{hz,its',_,G,q}
def Inv.lnew(I:Inv X J B H s)(z:Du ys its)(hz:ys.length<=sizeLine):
  Inv X J B (upd H s.heap.objs.size<|.lst ys) {s with heap:=s.heap.push {cls:= .type ke,data:= .seq its.toArray},toks:=t'}:=
 I.laid (λ_ _ q=>Kg _ q) (Q5 _) {hz,its,0,z,Ko _ M}
def Inv.fresh(I:Inv X J B H s):H s.heap.objs.size=none:=I.hok.fresh (Q5 _)
def Inv.lstM(I:Inv X J B H s)(G:H l=some (.lst xs)):xs.length<=sizeLine/\∃(its:Lj)(n:Nat),Du xs its/\xs.length=its.length/\s.heap.get? l=some {cls:= .type ke,data:= .seq its.toArray n}:=by
 let{z,its,n,r,e}:=I.hok l _ G;exact⟨z,its,n,r,r.length,e⟩
def BV(h:n<=sizeLine):Builtin.List.listTooLong n=false:=by
 unfold Builtin.List.listTooLong;exact Kr ()
end
inductive D6(x:V)(vs:Lf)(H:Hp)(Q:VK):Prop
 |mk(l xs y:_)(_:x= .ref l)(_:vs=[y])(_:H l=some (.lst xs))(_:xs.length<sizeLine)(_:Q .non (upd H l<|.lst<|xs++ [y]))
def c6:MtM X "list.append" D6:=by
 intro J s B H x vs v us Q I O rv h;let{l,xs,y,rfl,rfl,G,hz,q}:=h;cases O;let{u,rfl,U}:=rv.one;let{z,its,n,r,hl,e}:=I.lstM G;refine call_meets F.slot_list_append {_,e,M} F.entry_list_append (F.args_list_append_2 _ _) (PySem.list_append l its.toArray n u<|by rw[Qi];lia) {e,?_};refine{.non,_,I.lset (its':=its++ [u]) G e (by simp) (r.append<|.cons U .nil) ?_,M,q};rw[Q8,Zo];lia
inductive D5(x:V)(vs:Lf)(H:Hp)(Q:VK):Prop
 |mk(l b xs zs:_)(_:x= .ref l)(_:vs=[.ref b])(_:H l=some (.lst xs))(_:H b=some (.lst zs))(_:xs.length+zs.length<=sizeLine)(_:Q .non (upd H l<|.lst<|xs++zs))
def kF:MtM X "list.extend" D5:=by
 intro J s B H x vs v us Q I W rv h;let{l,b,xs,zs,rfl,rfl,U,Y,hz,q}:=h;cases W;let{u,rfl,Z}:=rv.one;cases Z;let{z,its,n,r,hl,e}:=I.lstM U;let{z2,G,n2,r2,a0,e2}:=I.lstM Y;have hsz:its.toArray.size+G.toArray.size<=sizeLine:=by rw[Qi,Qi];lia
 have O:¬(!its.toArray.isEmpty&&Builtin.List.listTooLong (its.toArray.size+G.toArray.size))=true:=by
  rw[BV hsz,Bool.and_false];exact Qg
 refine call_meets F.slot_list_extend {_,e,M} F.entry_list_extend (F.args_list_extend_2 _ _)
  (AutoSeq1.list_extend_list_list_0 l its.toArray n b G.toArray n2 O (by rw[Qi];lia) ()) {e,e2,?_}
 refine{.non,_,I.lset (its':=its++G) U e (by simp) (r.append r2) ?_,M,q};rw[Q8];lia
inductive Gd(x:V)(vs:Lf)(H:Hp)(Q:VK):Prop
 |mk(l xs i k y:_)(_:x= .ref l)(_:vs=[.int i])(_:H l=some (.lst xs))(_: -(2^63)<=i)(_:i<2^63)(_:seqIndex? i xs.length=some k)(_:xs[k]?=some y)(_:Q y (upd H l<|.lst<|xs.eraseIdx k))
def wR:MtM X "list.pop" Gd:=by
 intro J s B H x vs v us Q I U rv h;let{l,xs,i,k,y,rfl,rfl,O,h1,h2,hk,hy,q}:=h;cases U;let{u,rfl,W}:=rv.one;let{t,rfl}:=W;let{z,its,n,r,hl,e}:=I.lstM O;let{w,hw,G}:=r.get hy;refine call_meets F.slot_list_pop {_,e,M} F.entry_list_pop (F.args_list_pop_2 _ _)
  (MeetsSeq.list_pop_at l its.toArray n i t k w (fitsIndex_both h1 h2) (by rwa[Qi,<-hl]) (by rwa[<-Qz])<|by rw[Qi];lia) {e,?_}
 refine{y,_,I.lset (its':=its.eraseIdx k) O e ?_ (r.eraseIdx k) ?_,G,q}
 .show its.toArray.eraseIdxIfInBounds k=(its.eraseIdx k).toArray;rw[XS]
 .have:=oC xs k;lia
inductive rCat(x y:V)(H:Hp)(Q:VK):Prop
 |mk(l b xs zs:_)(_:x= .ref l)(_:y= .ref b)(_:H l=some (.lst xs))(_:H b=some (.lst zs))(_:xs.length+zs.length<=sizeLine)(_:∀p,H p=none->Q (.ref p) (upd H p<|.lst<|xs++zs))
def Gr:JU X (binaryOp .Add) rCat:=by
 intro J s B H x y v u Q I O U h;let{l,b,xs,zs,rfl,rfl,W,Y,hz,q}:=h;cases O;cases U;let{z,its,n,r,hl,e}:=I.lstM W;let{z2,G,n2,Z,a0,e2}:=I.lstM Y;refine PySem.P.add_list e e2 ?_ (by rw[Qi,Qi];lia);have ea:its.toArray++G.toArray=(its++G).toArray:=by simp
 rw[ea];exact{.ref _,_,I.lnew (t':=s.toks) (r.append Z) (by rw[Q8];lia),M,q _ I.fresh}
section
variable{κ:Type}[DecidableEq κ]
noncomputable def aI(kvs:List (κ×V))(k:κ):Option V:=(kvs.find? λkv=>decide (kv.1=k)).map (·.2)
noncomputable def bg(kvs:List (κ×V))(k:κ)(v:V):List (κ×V):=
 if(kvs.any λkv=>decide (kv.1=k))=true then kvs.map (λkv=>if kv.1=k then(kv.1,v)else kv)else kvs++ [(k,v)]
noncomputable def bB(kvs:List (κ×V))(k:κ):List (κ×V):=kvs.filter λkv=>decide (kv.1≠k)
def jn{k:κ}:aI ([]:List (κ×V)) k=none:=rfl
def a7{p:κ×V}{r:List (κ×V)}{k:κ}(e:p.1=k):aI (p::r) k=some p.2:=by simp[aI,ZM,e]
def aW{p:κ×V}{r:List (κ×V)}{k:κ}(e:¬p.1=k):aI (p::r) k=aI r k:=by simp[aI,ZM,e]
theorem b7(k:κ):∀kvs:List (κ×V),(kvs.any λkv=>decide (kv.1=k))=(aI kvs k).isSome
 | []=>rfl
 |p::r=>by
  rw[ZX];by_cases e:p.1=k
  .simp only[a7 e,Km e,Bool.true_or,Option.isSome_some]
  .rw[aW e,Kr e,Bool.false_or];exact b7 k r
theorem wt(k j:κ)(y:V):∀kvs:List (κ×V),aI (kvs.map λkv=>if kv.1=k then(kv.1,y)else kv) j=(aI kvs j).map λx=>if j=k then y else x
 | []=>rfl
 |p::r=>by
  have G:=wt k j y r;rw[Qs];by_cases h:p.1=k
  .rw[Kd h];by_cases e:p.1=j
   .rw[a7 (p:=(p.1,y)) e,a7 e,Xk,Kd (e.symm.trans h)]
   .rw[aW (p:=(p.1,y)) e,aW e,G]
  .rw[Kc h];by_cases e:p.1=j
   .rw[a7 (p:=p) e,a7 e,Xk,Kc (λz=>h<|e.trans z)]
   .rw[aW (p:=p) e,aW e,G]
theorem t7(k j:κ)(y:V):∀kvs:List (κ×V),aI kvs k=none->aI (kvs++ [(k,y)]) j=if j=k then some y else aI kvs j
 | [],_=>by
  by_cases e:k=j
  .rw[Kd e.symm];exact a7 (p:=(k,y)) e
  .rw[Kc (λz=>e z.symm)];exact aW (p:=(k,y)) e
 |p::r,hn=>by
  rw[List.cons_append];have hk:¬p.1=k:=λz=>by rw[a7 z]at hn;cases hn
  rw[aW hk]at hn;have G:=t7 k j y r hn;by_cases e:p.1=j
  .rw[a7 e,a7 e,Kc (λz=>hk<|e.trans z)]
  .rw[aW e,aW e,G]
def fj(kvs:List (κ×V))(k j:κ)(y:V):aI (bg kvs k y) j=if j=k then some y else aI kvs j:=by
 unfold bg;by_cases a:(kvs.any λkv=>decide (kv.1=k))=true
 .rw[Kd a,wt];rw[b7]at a;by_cases e:j=k
  .let{x,hx}:=Xb.mp a;rw[Kd e,e,hx,Xk,Kd M]
  .rw[Kc e];cases aI kvs j with
   |none=>rfl
   |some x=>rw[Xk,Kc e]
 .rw[Kc a];refine t7 k j y kvs ?_;rw[b7]at a;cases q:aI kvs k with
  |none=>rfl
  |some x=>rw[q]at a;exact(a M).elim
def cf(kvs:List (κ×V))(k:κ)(v:V):(bg kvs k v).length<=kvs.length+1:=by
 unfold bg;split
 .rw[Q0];lia
 .rw[Q8,Qr,List.length_nil];lia
def BE{kvs:List (κ×V)}{k:κ}(v:V)(h:aI kvs k=none):bg kvs k v=kvs++ [(k,v)]:=by
 unfold bg;rw[b7,h];exact Kc (_)
def JM.isSome_eq{u:Option Value}(r:JM o u):o.isSome=u.isSome:=by
 cases o with
 |none=>cases u with
  |none=>rfl
  |some _=>exact(show False from r).elim
 |some _=>cases u with
  |none=>exact(show False from r).elim
  |some _=>rfl
def KV.val{kvs:List (κ×V)}{vs:List (κ×Value)}(r:KV kvs vs)(k:κ):JM (aI kvs k) (valueAt vs k):=by
 unfold KV at r
 induction r with
 |nil=>exact Ku
 | @cons p q ps qs h t I=>
  let{h1,h2}:=h;by_cases e:p.1=k
  .have G:q.1=k:=h1.symm.trans e;have b:valueAt (q::qs) k=some q.2:=by simp[valueAt,ZM,G]
   rwa[a7 e,b]
  .have G:¬q.1=k:=λz=>e (h1.trans z);have b:valueAt (q::qs) k=valueAt qs k:=by simp[valueAt,ZM,G]
   rw[aW e,b];exact I
def KV.any{kvs:List (κ×V)}{vs:List (κ×Value)}(r:KV kvs vs)(k:κ):(kvs.any λkv=>decide (kv.1=k))=vs.any λkv=>decide (kv.1=k):=by
 unfold KV at r
 induction r with
 |nil=>rfl
 |cons h t z=>rw[ZX,ZX,z,h.1]
def KV.repl{kvs:List (κ×V)}{vs:List (κ×Value)}(r:KV kvs vs)(k:κ)(G:RelV y u):
  KV (kvs.map λkv=>if kv.1=k then(kv.1,y)else kv) (vs.map λkv=>if kv.1=k then(kv.1,u)else kv):=by
 unfold KV at r⊢
 induction r with
 |nil=>exact .nil
 | @cons p q ps qs h t I=>
  rw[Qs,Qs];refine .cons ?_ I;let{h1,h2}:=h;by_cases e:p.1=k
  .rw[Kd e,Kd (h1.symm.trans e)];exact⟨h1,G⟩
  .rw[Kc e,Kc (λz=>e<|h1.trans z)];exact⟨h1,h2⟩
def KV.put{kvs:List (κ×V)}{vs:List (κ×Value)}(r:KV kvs vs)(k:κ)(z:RelV y u):KV (bg kvs k y) (stored vs k u):=by
 unfold bg stored;rw[r.any k];by_cases e:(vs.any λkv=>decide (kv.1=k))=true
 .rw[Kd e,Kd e];exact r.repl k z
 .rw[Kc e,Kc e];exact Paired.snoc r ⟨M,z⟩
def KV.drop{kvs:List (κ×V)}{vs:List (κ×Value)}(r:KV kvs vs)(k:κ):KV (bB kvs k) (without vs k):=by
 unfold KV at r⊢;unfold bB without
 induction r with
 |nil=>exact .nil
 | @cons p q ps qs h t G=>
  let{h1,h2}:=h;rw[ZW,ZW];by_cases e:p.1=k
  .have a:¬decide (p.1≠k)=true:=by simp[e]
   have b:¬decide (q.1≠k)=true:=by simp[h1.symm.trans e]
   rwa[Kc a,Kc b]
  .have I:¬q.1=k:=λz=>e (h1.trans z);have a:decide (p.1≠k)=true:=by simp[e]
   have b:decide (q.1≠k)=true:=by simp[I]
   rw[Kd a,Kd b];exact .cons ⟨h1,h2⟩ G
def KV.length{kvs:List (κ×V)}{vs:List (κ×Value)}(r:KV kvs vs):kvs.length=vs.length:=Paired.length r
def CM(kvs:List (κ×V))(k:κ):(bB kvs k).length<=kvs.length:=Qn _ _
end
def rH{k:Key}(r:RelV (kV k) u):(bc P w).is k u=true:=by
 cases k with
 |inl i=>let{t,e}:=(show ∃t,u=Value.int i t from r);subst e;exact wY P w i t
 |inr x=>let{t,e}:=(show ∃t,u=Value.str x t from r);subst e;exact wX P w x t
theorem uy{P:Ln}{w:Lp}:∀{ks:List Key}{us:Lj},Du (ks.map kV) us->ItemsAre (bc P w) ks us
 | [],_,r=>by rw[XG]at r;cases r;exact .nil
 |k::ks,_,r=>by
  rw[Qs]at r;cases r with
  |cons h t=>exact .cons (rH h)<|uy t
abbrev KT(H:Hp):List (List Key×V)->List (List Key×Addr×Value)->Prop:=Paired λp q=>p.1=q.1/\H q.2.1=some (.tup<|p.1.map kV)/\RelV p.2 q.2.2
abbrev _root_.Mt:=List (List Key×Addr×Value)
def KT.val{kvs:Mj}{xs:Mt}(r:KT H kvs xs)(k:List Key):JM (aI kvs k) ((atKey xs k).map (·.2)):=by
 induction r with
 |nil=>exact Ku
 | @cons p q ps qs h t I=>
  let{h1,_,h2}:=h;by_cases e:p.1=k
  .have G:q.1=k:=h1.symm.trans e;have b:atKey (q::qs) k=some q.2:=by simp[atKey,ZM,G]
   rwa[a7 e,b]
  .have G:¬q.1=k:=λz=>e (h1.trans z);have b:atKey (q::qs) k=atKey qs k:=by simp[atKey,ZM,G]
   rw[aW e,b];exact I
def KT.repl{kvs:Mj}{xs:Mt}(r:KT H kvs xs)(k:List Key)(G:RelV y u):
  KT H (kvs.map λkv=>if kv.1=k then(kv.1,y)else kv) (xs.map<|putAt k u):=by
 induction r with
 |nil=>exact .nil
 | @cons p q ps qs h t I=>
  rw[Qs,Qs];refine .cons ?_ I;let{h1,h2,O}:=h;unfold putAt;by_cases e:p.1=k
  .rw[Kd e,Kd (h1.symm.trans e)];exact⟨h1,h2,G⟩
  .rw[Kc e,Kc (λz=>e<|h1.trans z)];exact⟨h1,h2,O⟩
def KT.put{kvs:Mj}{xs:Mt}(r:KT H kvs xs)(k:List Key)(hb:H b=some (.tup<|k.map kV))(z:RelV y u):
  KT H (bg kvs k y) (storedH xs k b u):=by
 have e:(kvs.any λkv=>decide (kv.1=k))=(atKey xs k).isSome:=by
  rw[b7,(r.val k).isSome_eq,XH]
 unfold bg storedH;rw[e];by_cases q:(atKey xs k).isSome=true
 .rw[Kd q,Kd q];exact r.repl k z
 .rw[Kc q,Kc q];exact Paired.snoc r ⟨M,hb,z⟩
def KT.keeps{kvs:Mj}{xs:Mt}(r:KT H kvs xs)(G:∀b ys,H b=some (.tup ys)->H' b=some (.tup ys)):KT H' kvs xs:=
 Paired.mapP r λ_ _ z=>{z.1,G _ _ z.2.1,z.2.2}
section
variable{h:Heap}
def Fa{u:HO}(ok:Iz P w H h)(e:Rd H a u):II P w H h a u:=e.ok ok
def rQ(ok:Iz P w H h)(e:Rd H a (.dK kvs)):kvs.length<=sizeLine/\(a==sysModules)=false/\∃vs,KV kvs vs/\h.DictOf (bc P w) a vs:=
 show II P w H h a (.dK kvs) from Fa ok e
def xk(ok:Iz P w H h)(e:H a=some (.dK kvs)):kvs.length<=sizeLine/\(a==sysModules)=false/\∃vs,KV kvs vs/\h.DictOf (bc P w) a vs:=rQ ok (.inl e)
def rG{ks:List Key}(ok:Iz P w H h)(e:H a=some (.tup<|ks.map kV)):(tupleKind<|bc P w).is h ks a:=by
 let{_,its,r,o,h1,h2,n,z}:=(show II P w H h a (.tup<|ks.map kV) from ok a _ e);exact{o,its.toArray,n,h1,h2,z,by simpa using uy r}
def xh{kvs:Mj}(ok:Iz P w H h)(e:Rd H a (.dT kvs)):kvs.length<=sizeLine/\(a==sysModules)=false/\
  ∃xs,KT H kvs xs/\h.DictOfH (tupleKind<|bc P w) a xs:=by
 let{z,y,xs,r,o,es,ep,h1,h2,G,I,O}:=(show II P w H h a (.dT kvs) from Fa ok e);refine{z,y,xs,r,o,es,ep,h1,h2,G,I,λx hx=>?_,O};have all:∀{l:Mj}{m:Mt},KT H l m->∀x∈m,(tupleKind<|bc P w).is h x.1 x.2.1:=by
  intro l m q
  induction q with
  |nil=>intro x hx;exact nomatch hx
  | @cons p q ps qs hq t U=>
   intro x hx;rcases Q7.mp hx with e|hx
   .subst e;exact rG ok<|by rw[<-hq.1];exact hq.2.1
   .exact U x hx
 exact all r x hx
def HX{kvs:Mj}(ok:Iz P w H h)(e:H a=some (.dT kvs)):kvs.length<=sizeLine/\(a==sysModules)=false/\
  ∃xs,KT H kvs xs/\h.DictOfH (tupleKind<|bc P w) a xs:=xh ok (.inl e)
end
def JT(H:Hp)(a:G')(y:V)(r:Me):Prop:=
 (∃kvs k,Rd H a (.dK kvs)/\y=kV k/\r=aI kvs k)\/∃kvs k b,Rd H a (.dT kvs)/\y= .ref b/\H b=some (.tup<|k.map kV)/\r=aI kvs k
def KS(H:Hp)(a:G')(y v:V)(H':Hp):Prop:=
 (∃kvs k,H a=some (.dK kvs)/\y=kV k/\kvs.length<sizeLine/\H'=upd H a (.dK<|bg kvs k v))\/
 ∃kvs k b,H a=some (.dT kvs)/\y= .ref b/\H b=some (.tup<|k.map kV)/\kvs.length<sizeLine/\H'=upd H a (.dT<|bg kvs k v)
def JT.k{k:Key}(e:H a=some (.dK kvs)):JT H a (kV k) (aI kvs k):= .inl {kvs,k,.inl e,M,M}
def KS.k{k:Key}{v:V}(e:H a=some (.dK kvs))(hl:kvs.length<sizeLine):KS H a (kV k) v (upd H a<|.dK<|bg kvs k v):= .inl ⟨kvs,k,e,M,hl,M⟩
section
variable{v:V}{r:Lg}
def Inv.big(I:Inv X J B H s):sysModules<s.heap.objs.size:=by
 have h:mainGlobals<s.heap.objs.size:=(I.mod.glob.keeps I.bk).lt;exact Nat.lt_trans (_) h
def AK(hu:A.units+1<cLine)(I:Inv X J B H s)(g:JT H a y (some v))(Z:RelV y u)(h:∀w' s',Inv X J B H s'->RelV v w'->Q w' s'):
  wpAny (model X.prog X.w) A (getItem (.ref a) u) Q E s:=by
 rcases g with⟨kvs,k,e,U,l⟩|⟨kvs,k,b,e,U,eb,l⟩
 .subst U;let{z,hd,vs,G,W}:=rQ I.hok e;let{w',hw,O}:=JM.some_of (v:=v) (o:=valueAt vs k) (by rw[l];exact G.val k);exact wpAny_getItem_of (rH Z) W.mapOf hw<|h w' _ (I.tok _) O
 .subst U;cases (show u=Value.ref b from Z);let{z,hd,xs,G,W}:=xh I.hok e;let{w',hw,O}:=JM.some_of (v:=v) (o:=(atKey xs k).map (·.2)) (by rw[l];exact G.val k);let{p,hp,Y}:=QI.mp hw;refine wpAny_getItem_heap (tupleKind_room_in1 hu) (rG I.hok eb) W hp ?_;rw[Y];exact h w' _ (I.tok _) O
def d_in(hu:A.units+1<cLine)(I:Inv X J B H s)(g:JT H a y o)(W:RelV y u)(h:∀s',Inv X J B H s'->Q (.bool o.isSome) s'):
  wpAny (model X.prog X.w) A (compareOp .In u<|.ref a) Q E s:=by
 rcases g with⟨kvs,k,e,O,l⟩|⟨kvs,k,b,e,O,Y,l⟩
 .subst O;let{z,hd,vs,G,U}:=rQ I.hok e;refine wpAny_in_of (rH W) hd U.mapOf ?_;rw[<-(G.val k).isSome_eq,<-l];exact h _<|I.tok _
 .subst O;cases (show u=Value.ref b from W);let{z,hd,xs,G,U}:=xh I.hok e;refine wpAny_in_heap (tupleKind_room_in1 hu) (rG I.hok Y) hd U ?_;have q:=(G.val k).isSome_eq;rw[XH]at q;rw[<-q,<-l];exact h _<|I.tok _
def EB(hu:A.units+1<cLine)(I:Inv X J B H s)(g:JT H a y o)(W:RelV y u)(h:∀s',Inv X J B H s'->Q (.bool<|!o.isSome) s'):
  wpAny (model X.prog X.w) A (compareOp .NotIn u<|.ref a) Q E s:=by
 rcases g with⟨kvs,k,e,O,l⟩|⟨kvs,k,b,e,O,Y,l⟩
 .subst O;let{z,hd,vs,G,U}:=rQ I.hok e;refine wpAny_notIn_of (rH W) hd U.mapOf ?_;rw[<-(G.val k).isSome_eq,<-l];exact h _<|I.tok _
 .subst O;cases (show u=Value.ref b from W);let{z,hd,xs,G,U}:=xh I.hok e;refine wpAny_notIn_heap (tupleKind_room_in1 hu) (rG I.hok Y) hd U ?_;have q:=(G.val k).isSome_eq;rw[XH]at q;rw[<-q,<-l];exact h _<|I.tok _
def pZ{ob:HO}(I:Inv X J B H s)(G:Mut (H a))(hs:Heap.SameBut a s.heap h')(he:∃q,h'.get? a=some q)(new:II X.prog X.w (upd H a ob) h' a ob):
  Inv X J B (upd H a ob) {s with heap:=h',toks:=t'}:=
 I.write (x:=a) (e:=a) G (.inl M) (λb q hb z=>(hs.2 b hb).trans z) he new
def yC(z:kvs.length<=sizeLine)(hd:(a==sysModules)=false)(G:KV kvs vs)(I:h'.DictOf (bc P w) a vs):
  II P w H' h' a (.dK kvs):=⟨z,hd,vs,G,I⟩
def AJ{Q:Mq}(hu:A.units+1<cLine)(I:Inv X J B H s)(g:KS H a y v H')(Z:RelV y u)(rv:RelV v r)(h:∀s',Inv X J B H' s'->Q Unit.unit s'):
  wpAny (model X.prog X.w) A (setItem (.ref a) u r) Q E s:=by
 rcases g with⟨kvs,k,e,U,l,W⟩|⟨kvs,k,b,e,U,eb,l,W⟩
 .subst U W;let{z,hd,vs,G,Y}:=xk I.hok e;have hz:vs.length<=sizeLine:=by rwa[<-G.length]
  have hl:(bg kvs k v).length<=sizeLine:=by have:=cf kvs k v;lia
  refine wpAny_setItem_pairs (hsz:=hz) (rH Z) Y λh' O hs=>h _ ?_;have he:∃q,h'.get? a=some q:=by let{q,_,_,hq,_}:=O;exact⟨q,hq⟩
  exact pZ I (by rw[e];exact Ku) hs he<|yC hl hd (G.put k rv) O
 .subst U W;cases (show u=Value.ref b from Z);let{z,hd,xs,G,Y}:=HX I.hok e;have hz:xs.length<=sizeLine:=by rwa[<-Paired.length G]
  have hl:(bg kvs k v).length<=sizeLine:=by have:=cf kvs k v;lia
  refine wpAny_setItem_heap (hsz:=hz) (tupleKind_room_in1 hu) (rG I.hok eb) Y λh' O hs=>h _ ?_;let{q,es,ep,hq,h2,h3,h4,_,h5}:=O;refine pZ I (by rw[e];exact Ku) hs ⟨q,hq⟩ {hl,hd,_,(G.put k eb rv).keeps λc ys ec=>?_,q,es,ep,hq,h2,h3,h4,h5};rwa[ac (bO ec e<|λz=>nomatch z)]
end
section
variable{k:Key}
def HY{v:V}{more:Lj}(I:Inv X J B H s)(e:H a=some (.dK kvs))(U:RelV (kV k) u)(l:aI kvs k=some v)(Y:more=[]\/∃x,more=[x])
  (h:∀w' s',Inv X J B (upd H a<|.dK<|bB kvs k) s'->RelV v w'->Q w' s'):wpAny (model X.prog X.w) A (call (.builtin "dict.pop") (.ref a::u::more)) Q E s:=by
 let{z,hd,vs,G,Z}:=xk I.hok e;let{w',hw,W}:=JM.some_of (v:=v) (o:=valueAt vs k) (by rw[<-l];exact G.val k);have hp:(keyPart u).isSome=true:=by
  cases k with
  |inl i=>let{t,q}:=(show ∃t,u=Value.int i t from U);subst q;rfl
  |inr x=>let{t,q}:=(show ∃t,u=Value.str x t from U);subst q;rfl
 have ha:argsOk "dict.pop" {.ref a::u::more,[]}:=by
  rcases Y with q|⟨x,q⟩
  .subst q;exact PySem.F.args_dict_pop_2 _ _
  .subst q;exact PySem.F.args_dict_pop_3 _ _ _
 refine call_meetsIn Xm Z.typeIs PySem.F.entry_dict_pop ha (meets_dict_pop_there (bc X.prog X.w) a (rH U) more Y hp)
  {vs,w',Z,by rwa[<-G.length],hw,λh' O hs=>h w' _ ?_ W}
 have he:∃q,h'.get? a=some q:=by let{q,_,_,hq,_}:=O;exact⟨q,hq⟩
 exact pZ I (by rw[e];exact Ku) hs he<|yC (Qu (CM kvs k) z) hd (G.drop k) O
def HZ(I:Inv X J B H s)(e:Rd H a (.dK kvs))(h:∀t s',Inv X J B H s'->Q (.int kvs.length t) s'):wpAny (model X.prog X.w) A (call (.builtin "len") [.ref a]) Q E s:=by
 let{z,hd,vs,G,O}:=rQ I.hok e;refine call_len_dict hd O (by rw[<-G.length];rw[sizeLine_eq]at z;lia) ?_;rw[<-G.length];exact h _ _<|I.tok _
end
def NoSl(i:Expr):Prop:=∀ov iv,subscripted i false ov iv=operate [ov,iv] (getItem ov iv)
def DP{prog:Ln}{env:Env}{value z:Expr}{id:String} 
  (hl:typeLookup (.type T) "__getitem__"=pure (some<|.builtin id)) (hs:NoSl z)
  (h:wpAny (model prog w) A (eval value env) (λo s₁=>wpAny (model prog w) A (eval z env) (λi s₂=>s₂.TypeIs o T/\wpAny (model prog w) A (getItem o i) Q E s₂) E s₁) E s):
  wpAny (model prog w) A (eval (.Subscript value z pos) env) Q E s:=by
 refine Subscript_<|KB h (λo s₁ h₁=>KB h₁ (λi s₂ G=>?_) λ_ _ x=>x) λ_ _ x=>x;let{U,G}:=G;unfold subscriptTail;refine Kk ?_;rw[getitemInPython_of_ne U.not_modules];refine Kk<|wpAny_specialOf U hl ?_;have fin:wpAny (model prog w) A (subscripted z false o i) (λr I=>wpAny (model prog w) A (letTemporaryGo value o r>>=λ_=>pure r) Q E I) E s₂:=by
  rw[hs o i];exact wpAny_operating (KB G (λr I O=>Kk<|wpAny_letTemporaryGo<|Kt O) λ_ _ x=>x)
 first
  |exact Kt<|Kk fin
  |exact Kk<|Kt (Kk fin)
  |exact Kk fin
def xl(I:Inv X J B H s)(g:JT H a y o):s.TypeIs (.ref a) "dict":=by
 rcases g with⟨kvs,k,e,_,_⟩|⟨kvs,k,b,e,_,_,_⟩
 .let{_,_,vs,_,z}:=rQ I.hok e;exact z.typeIs
 .let{_,_,xs,_,z}:=xh I.hok e;exact z.typeIs
inductive FU(Q:VK)(x y:V)(H2:Hp):Prop
 |mk(a v:_)(_:x= .ref a)(_:JT H2 a y (some v))(_:Q v H2)
def Hs(td ty:TE):TE:=λB H Q=>td B H λx H1=>ty B H1 λy H2=>FU Q x y H2
inductive Hr(Q:VK)(y x:V)(H2:Hp):Prop
 |mk(a o:_)(_:x= .ref a)(_:JT H2 a y o)(_:Q (.bl o.isSome) H2)
def tDIn(ty td:TE):TE:=λB H Q=>ty B H λy H1=>td B H1 λx H2=>Hr Q y x H2
def DO(ty td:TE):TE:=λB H Q=>ty B H λy H1=>td B H1 λx H2=>∃a o,x= .ref a/\JT H2 a y o/\Q (.bl<|!o.isSome) H2
inductive Gb(D:nW)(B:St)(v x y:V)(H3:Hp):Prop
 |mk(a H4:_)(_:x= .ref a)(_:KS H3 a y v H4)(_:D.nx B H4)
def Hx(td ty tv:TE):TS:=λD B H=>tv B H λv H1=>td B H1 λx H2=>ty B H2 λy H3=>Gb D B v x y H3
section
variable{o i value:Expr}{pos' tpos:Pos}{td ty tv:TE}
def Eb(hu:X.A.units+1<cLine)(U:PE X o td)(hi:PE X i ty)(hs:NoSl i):PE X (.Subscript o i pos) (Hs td ty):=by
 intro J s B H Q I h;refine DP PySem.F.slot_dict_getitem.lookup hs<|IH (U J s B H _ I h) λu s1 zz=>?_;let{x,H1,W,Y,q1}:=zz;refine IH (hi J s1 B H1 _ W q1) λiv s2 z=>?_;let{y,H2,O,Z,a,v,ex,g,q2}:=z;subst ex;obtain rfl:u=Value.ref a:=Y;exact{xl O g,AK hu O g Z λw' s3 I3 G=>⟨v,H2,I3,G,q2⟩}
def BR(hu:X.A.units+1<cLine)(hi:PE X i ty)(G:PE X o td):PC X .In i o (tDIn ty td):=by
 intro J s B H Q I h;refine IH (hi J s B H _ I h) λiv s1 zz=>?_;let{y,H1,O,U,q1}:=zz;refine IH (G J s1 B H1 _ O q1) λu s2 z=>?_;let{x,H2,W,Y,a,Z,ex,g,q2}:=z;subst ex;obtain rfl:u=Value.ref a:=Y;exact d_in hu W g U λs3 I3=>{.bl Z.isSome,H2,I3,M,q2}
def uk(hu:X.A.units+1<cLine)(hi:PE X i ty)(G:PE X o td):PC X .NotIn i o (DO ty td):=by
 intro J s B H Q I h;refine IH (hi J s B H _ I h) λiv s1 zz=>?_;let{y,H1,O,U,q1}:=zz;refine IH (G J s1 B H1 _ O q1) λu s2 z=>?_;let{x,H2,W,Y,a,Z,ex,g,q2}:=z;subst ex;obtain rfl:u=Value.ref a:=Y;exact EB hu W g U λs3 I3=>{.bl<|!Z.isSome,H2,I3,M,q2}
def vx(hu:X.A.units+1<cLine)(G:PE X o td)(hi:PE X i ty)(O:PE X value tv)(hs:swapsWith value (some<|.Subscript o i pos') pos.line X.env=pure false):
  PS X (.Assign [.Subscript o i pos'] value pos) (Hx td ty tv):=by
 intro J s B H D I h;refine wpAny_Assign_Subscript (IH (O J s B H _ I h) λr s1 zz=>?_) hs;let{v,H1,U,rv,q1}:=zz;refine IH (G J s1 B H1 _ U q1) λu W zz=>?_;let{x,H2,Y,Z,q2}:=zz;refine IH (hi J W B H2 _ Y q2) λiv s3 z=>?_;let{y,H3,I3,ry,a,H4,ex,g,q3}:=z;subst ex;obtain rfl:u=Value.ref a:=Z;exact AJ hu I3 g ry rv λs4 I4=>⟨B,H4,I4,q3⟩
end
def CO(h:Heap)(hb:sysModules<h.objs.size):II P w H (h.push {cls:= .type "dict",data:= .dict #[]}) h.objs.size (.dK []):=
 {Qh _,Kn.mpr<|Ne.symm<|Qy hb,[],.nil,Heap.DictOf.new h}
def FT:TE:=λ_ H Q=>∀p,H p=none->Q (.ref p) (upd H p<|.dK [])
def jF:PE X (.Dict [] [] pos) FT:=λJ s B H Q I h=>
 wpAny_Dict_empty {.ref s.heap.objs.size,_,I.laid (a:=s.heap.objs.size) (o:= .dK []) (t':=s.toks) (λ_ _ q=>Kg _ q) (Q5 _)<|CO s.heap I.big,M,h _<|I.hok.fresh (Q5 _)}
end L2
namespace Att
open PySem PySem.W PySem.Calls PyProof.Rows
variable{h:Heap}{n:Nat}{l:OpenLaw}{P:Params}{YP:World->Heap->Prop}
def pS:∀(ns:Lh)(vs:Lj),WellAll P h vs (ns.map WData.int)->IntsAre vs ns:=by
 intro ns
 induction ns with
 |nil=>
  intro vs w;rw[XG]at w;cases w;exact .nil
 |cons n ns z=>
  intro vs w;rw[Qs]at w;cases w with
  |cons a b=>
   cases a;exact .cons _ _<|z _ b
def zZ(hn:l.most=some n){args:List WData}{z:Lj}
  (G:l.row.toRowW.claim.pre args=true) (Y:WellAll P h z args):
  ∃a vs ns,z=[Value.ref a]/\args=[WData.list (ns.map WData.int)]/\h.get? a=some {cls:= .type ke,data:= .seq vs.toArray}/\IntsAre vs ns/\ns.length<=n:=by
 have Z:WShape.hasAll [] args [.list .int]=true:=(pre_splitW G).1;have hc:l.pre.holds [] {args:=args}=true:=(pre_splitW G).2;let{d,r,rfl,h1,h2}:=hasAllW_cons Z;obtain rfl:=hasAllW_nil h2;let{xs,rfl,h3}:=hasW_list h1;let{ns,rfl}:=items_int h3;have I:ns.length<=n:=by
  unfold OpenLaw.pre at hc;have U:(WTm.not<|.lt (.lit<|.int (n:Int))<|.len<|.arg 0).holds [] {args:=[.list (ns.map .int)]}=true:=by
   have U:=(holds_andW hc).1;rw[hn]at U;exact U
  have W:=condW_of U (w_not<|w_lt w_lit<|w_len_list<|w_arg M);rw[Q0]at W;refine XT λq=>?_;have q':(n:Int)<((ns.length:Nat):Int):=()
  first
   |(rw[Km q']at W;exact Kh W (_))
   |(simp at W;lia)
 cases Y with
 |cons w1 w2=>
  cases w2;cases w1 with
  |list ho O=>exact{_,_,ns,M,M,ho,pS ns _ O,I}
def Aa(l:OpenLaw)(args:List WData):l.row.toRowW.claim.post args (.bool true) args=true:=
 postW_of (r:=l.row.toRowW) (X:=(true==true))
  (show WShape.has [] (.bool true) .bool=true by first|rfl|decide|simp[WShape.has,WShape.arms,WShape.armsAll])
  (show(WTm.eq .res<|.lit<|.bool true).value [] {args:=args,res:=some (.bool true),after:=args}=some (.bool<|true==true) from w_eq_bool (w_res M) w_lit) M
def attach_call{q:Ln}{loose:Lq}{XP:(Str->Option Value)->Heap->Prop}{d:DefRec}
  (hn:l.most=some n) (a0:d.params.defaults=[])
  (call:∀(w:Lp)(s₀ s₁:K')(mg mb:Lr)(O:G')(o:Obj)(pm cd z:Lg)(a:G')(vs:Lj)(ns:Lh),
   Ground q loose [] XP w s₀ mg mb s₁.heap->YP w s₁.heap->
   s₁.heap.get? O=some o->o.data= .func (docDef d.name d.params d.body d.scope pm cd z)->s₁.heap.CodeRec cd d.name->mg d.name=some (.ref O)->
   s₁.heap.get? a=some {cls:= .type ke,data:= .seq vs.toArray}->IntsAre vs ns->ns.length<=n->s₁.gens= #[]->
   codeAny (model l.prog w) callerA (.call (.ref O) {[.ref a],[]}) (λr s'=>r= .ok (.ret<|.bool true)/\OldK s₁.heap s'.heap/\s'.os=s₁.os/\AllBare s'.gens) s₁):
  WalkO q loose XP YP l.row.toRowW d [] (λf vs=>PySem.call f vs):=by
 intro w s₀ s₁ mg mb G Y O o pm cd z dV kV ho hd a1 hD a2 hg args a4 as U a5 a6 a3 a9;obtain rfl:dV= .none:=Dflts.none hD a0;obtain rfl:kV= .none:=Dflts.noKw hD;let{a,vs,ns,rfl,rfl,W,I,Z}:=zZ hn U a3;refine enter_call<|codeAny_mono (call w s₀ s₁ mg mb O o pm cd z a vs ns G Y ho (fd_plain hd) a1 a2 W I Z hg) λr s' hq=>?_;let{rfl,h2,h3,h4}:=hq;exact{.inl {.bool true,.bool true,[],M,λ_=>M,.bool true,Aa l _,λ_=>{Kx,λ_ hm=>(nomatch hm)}},h2,h3,h4}
end Att
namespace L2
open PySem PySem.Spec PyProof.Rows
variable{f:G'}{X:Cx}{fd:Lw}{base:Heap}{H:Hp}{ns:Lh}{N:Lq}{n:Nat}{P:Ln}{A Jb c:Prop}{K:Jc}{sp:Sp}{B:St}{st:Stmt}{qual x:Str}{nx:Ml}{g:TG}{tb:TS}{Φ:TS->Prop}{F:TS->TS->TS}{rt:VK}{w:Lp}
def zO{vs:Lj}(h:IntsAre vs ns):Du (ns.map V.int) vs:=by
 induction h with
 |nil=>exact .nil
 |cons n t h z=>exact .cons ⟨t,M⟩ z
abbrev IL:CXT:=λ_ _ _ _ _ _=>False
abbrev E0:XK:=λ_ _ _=>False
def ar:f7 IL X E0:=λ_ _ _ _ _ _ _ h=>h.elim
structure IV(K:Jc)(x qual:Str)(st:Stmt)(f:G')(fd:Lw):Prop where
 ex:∃(oc:Lg)(od:Lz)(kV doc pm:Lg)(an:Lz)(cdv ct:Lg)(osl:Mp),
  fd=PySem.W.fnOf x qual (dY st) (bZ st) (ai st) .none kV doc pm an cdv ct/\K.lookup f=some {oc,od,.func fd,osl}/\PySem.W.codeIn K cdv qual=true
 kp:PySem.W.keepIn K (.ref f)=true
section
variable{mg:Lr}
def IV.ok{ps:Lq}{k:Nat}(F:IV K x qual st f fd)(S:ao N ps (ai st))(len:∀vs H Q E,sp vs H Q E->vs.length=ps.length)
  (G:∀(z:Lg)(A:Lv)(outer:Mb)(s:K')(H:Hp)(vs:Lf)(Q:VK)(E:XK),IK k (A.deeper<|envOfC qual (ai st) s.heap.objs.size f z)->sp vs H Q E->
   ∃t,JL (vT IL P w K mg base N qual (ai st) f z A outer s H E).nox (bZ st) t/\t {nx:=λ_ H'=>Q .non H',rt:=Q} (start N vs) H):C5 P w K mg base IL (k+1) f fd ps sp:=by
 let{oc,od,kV,U,pm,an,z,ct,W,rfl,Y,I}:=F.ex;refine CH Y I S len λA outer s H vs Q E Z O=>?_;let{t,h,q}:=G z A outer s H vs Q E Z O;exact⟨t,h.nox,q⟩
def GV{U:Lg}{Y O:Lz}{I:Mp}{kV G pm z ct:Lg}(l:K.lookup f=some {U,Y,.func<|PySem.W.fnOf x qual (dY st) (bZ st) (ai st) .none kV G pm O z ct,I})
  (c:PySem.W.codeIn K z qual=true) (k:PySem.W.keepIn K (.ref f)=true):IV K x qual st f (PySem.W.fnOf x qual (dY st) (bZ st) (ai st) .none kV G pm O z ct):={⟨U,Y,kV,G,pm,O,z,ct,I,M,l,c⟩,k}
end
def oZ{A:Lv}{k:Nat}(z:IK k A):A.units+1<cLine:=X4 (ZG (by decide:1<=64) _) z.units
def bR(h:n<=1000):n<sizeLine:=X4 h (_)
def pv(i:Nat){x:Str}{pos:Pos}(hN:X.N[i]?=some x:=by rfl)(G:Lc X.env.scope x:=by and_intros)(hd:(x==(lh:Str))=false:=by decide)
  (z:(x==("__classdict__":Str))=false:=by decide):PE X (.Name x pos) (FP i):=Gj hN G hd z
def db(h:Jb):if false=true then A else Jb:=by
 rwa[Kc Qg]
def cK(h:A):if true=true then A else Jb:=by
 rwa[Kd M]
def bC[Decidable c](h1:c->A)(h2:¬c->Jb):if c then A else Jb:=by
 by_cases h:c
 .rw[Kd h];exact h1 h
 .rw[Kc h];exact h2 h
def Fq[Decidable c](hc:c)(h:Jb):if(!decide c)=true then A else Jb:=by
 rw[Km hc];exact db h
def IA(H H':Hp):Prop:=∀b o,H b=some o->H' b=some o
def IA.refl(H:Hp):IA H H:=λ_ _ h=>h
def IA.trans{H1 H2:Hp}(a:IA H H1)(b:IA H1 H2):IA H H2:=λc o h=>b c o (a c o h)
def AM:iz X (.builtin "len") (λxs H Q=>∃a kvs,xs=[V.ref a]/\H a=some (.dK kvs)/\Q (.int kvs.length) H):=by
 intro J s B H xs us Q I r h;let{a,kvs,rfl,ha,q}:=h;let{u,rfl,z}:=tZ r;cases z;exact HZ I (.inl ha) λt s' G=>{.int kvs.length,H,G,⟨t,M⟩,q}
section
variable{κ:Type}[DecidableEq κ]
def Bi{kvs:List (κ×V)}{k:κ}(h:aI kvs k=none):¬k∈kvs.map (·.1):=by
 intro m;let{p,hp,e}:=Qj.mp m;have q:(kvs.any λkv=>decide (kv.1=k))=true:=List.any_eq_true.mpr {p,hp,Km e};rw[b7,h]at q;exact Kh q<|by simp
def pV{kvs:List (κ×V)}{k:κ}{v:V}(h:aI kvs k=some v):k∈kvs.map (·.1):=by
 have q:(kvs.any λkv=>decide (kv.1=k))=true:=by
  rw[b7,h]
  all_goals rfl
 let{p,hp,e}:=List.any_eq_true.mp q;exact Qj.mpr {p,hp,Kj e}
theorem y6:∀{l:List κ}{k:κ},l.Nodup->¬k∈l->(l++ [k]).Nodup
 | [],k,_,_=>by simp
 |a::r,k,h,hk=>by
  let{h1,h2}:=QP.mp h;show(a::(r++ [k])).Nodup;refine QP.mpr {λm=>?_,y6 h2 λm=>hk<|Q7.mpr (Or.inr m)};rcases Q4.mp m with q|q
  .exact h1 q
  .exact hk<|Q7.mpr (Or.inl (Qa.mp q).symm)
def Eg{kvs:List (κ×V)}{k:κ}(v:V)(z:(kvs.map (·.1)).Nodup)(h:aI kvs k=none):((bg kvs k v).map (·.1)).Nodup:=by
 rw[BE v h,Q9];exact y6 z<|Bi h
def oI{p:κ×V}{r:List (κ×V)}{k:κ}(e:p.1=k):bB (p::r) k=bB r k:=by
 unfold bB;rw[ZW,Kc (by simp[e])]
def kJ{p:κ×V}{r:List (κ×V)}{k:κ}(e:¬p.1=k):bB (p::r) k=p::bB r k:=by
 unfold bB;rw[ZW,Kd (by simp[e])]
theorem xj:∀{kvs:List (κ×V)}{k:κ},¬k∈kvs.map (·.1)->bB kvs k=kvs
 | [],_,_=>rfl
 |p::r,k,h=>by
  have h':¬k∈r.map (·.1):=λm=>by
   let{q,hq,e}:=Qj.mp m;exact h<|Qj.mpr {q,Q7.mpr<|Or.inr hq,e}
  rw[kJ λe=>h (Qj.mpr {p,Q7.mpr<|Or.inl M,e}),xj h']
def uG{kvs:List (κ×V)}{k:κ}{p:κ×V}(h:p∈bB kvs k):p∈kvs:=(QA.mp h).1
theorem mW:∀{kvs:List (κ×V)}{k:κ},(kvs.map (·.1)).Nodup->((bB kvs k).map (·.1)).Nodup
 | [],_,_=>Zl
 |p::r,k,h=>by
  have h:(p.1::r.map (·.1)).Nodup:=h;let{h1,h2}:=QP.mp h;by_cases e:p.1=k
  .rw[oI e];exact mW h2
  .rw[kJ e];show(p.1::(bB r k).map (·.1)).Nodup;refine QP.mpr {λm=>h1 ?_,mW h2};let{q,hq,z}:=Qj.mp m;exact Qj.mpr {q,uG hq,z}
theorem uH:∀{kvs:List (κ×V)}{k:κ},(kvs.map (·.1)).Nodup->k∈kvs.map (·.1)->(bB kvs k).length+1=kvs.length
 | [],_,_,m=>by simp at m
 |p::r,k,h,m=>by
  have h:(p.1::r.map (·.1)).Nodup:=h;have m:k=p.1\/k∈r.map (·.1):=Q7.mp m;let{h1,h2}:=QP.mp h;by_cases e:p.1=k
  .subst e;rw[oI M,xj h1]
   all_goals rfl
  .have m':k∈r.map (·.1):=m.resolve_left λz=>e z.symm;have q:=uH h2 m';rw[kJ e,Qr,Qr];lia
end
def aZ:bootBuiltins "len"=some (.builtin "len"):=by decide+kernel
def cN:bootBuiltins "isinstance"=some (.builtin "isinstance"):=by decide+kernel
def oQ:bootBuiltins "min"=some (.builtin "min"):=by decide+kernel
def uO:bootBuiltins va=some (.builtin va):=by decide+kernel
def G2:bootBuiltins "int"=some (.type "int"):=by decide+kernel
def ED:bootBuiltins "bool"=some (.type "bool"):=by decide+kernel
def G1:bootBuiltins "str"=some (.type "str"):=by decide+kernel
def CT:bootBuiltins "max"=some (.builtin "max"):=by decide+kernel
def GC:PySem.W.kitOne K (.type "int") (.type "int")=some true:=by kernel_rfl
def GD:PySem.W.kitOne K (.type "int") (.type "bool")=some false:=by kernel_rfl
def GE:PySem.W.kitOne K (.type "bool") (.type "int")=some true:=by kernel_rfl
def GF:PySem.W.kitOne K (.type "bool") (.type "bool")=some true:=by kernel_rfl
def GB:PySem.W.kitOne K (.type "NoneType") (.type "int")=some false:=by kernel_rfl
def GA:PySem.W.kitOne K (.type "str") (.type "int")=some false:=by kernel_rfl
def ji[Decidable c](hc:c)(h:A):if decide c=true then A else Jb:=by
 rw[Km hc];exact cK h
def bf[Decidable c](hc:¬c)(h:Jb):if decide c=true then A else Jb:=by
 rw[Kr hc];exact db h
def uC{a:G'}{xs:Lf}(Pv:Mr)(I:Pv 0 B H)(hl:∀i B H,i<=xs.length->Pv i B H->Dv K H a xs)
  (hs:∀i x B H,xs[i]?=some x->Pv i B H->g x B H λz H2=>tb {Pv<|i+1,rt,nx,Pv<|i+1} z H2) (hd:∀B H,Pv xs.length B H->nx B H):
  ∃W:Nat->Nat->St->Hp->Prop,(∃m,W 0 m B H)/\∀i m B H,W i m B H->
   ((Jx K a).stop i H/\nx B H)\/((Jx K a).go i H/\∃N:St->Hp->Prop,(∀G H',N G H'->∃m',m'<m/\W (i+1) m' G H')/\∀x H',(Jx K a).yld i H x H'->g x B H' λz H2=>tb ⟨N,rt,nx,N⟩ z H2):=
 CG (D:={nx,rt,λ_ _=>False,λ_ _=>False}) Pv I hl hs hd
def yA{lo:Int}(Pv:Mr)(I:Pv 0 B H)
  (hs:∀i B H,i<n->Pv i B H->g (.int<|lo+i) B H λz H2=>tb {Pv<|i+1,rt,nx,Pv<|i+1} z H2) (hd:∀B H,Pv n B H->nx B H):
  ∃W:Nat->Nat->St->Hp->Prop,(∃m,W 0 m B H)/\∀i m B H,W i m B H->
   ((LB lo n).stop i H/\nx B H)\/((LB lo n).go i H/\∃N:St->Hp->Prop,(∀G H',N G H'->∃m',m'<m/\W (i+1) m' G H')/\∀x H',(LB lo n).yld i H x H'->g x B H' λz H2=>tb ⟨N,rt,nx,N⟩ z H2):=
 uB (D:={nx,rt,λ_ _=>False,λ_ _=>False}) Pv I hs hd
def rV{k:Int}(G:0<=k)(h:k<(ns.length:Int)):L4 (ns.map V.int) k=some (.int<|ns.getD k.toNat 0):=by
 let{j,rfl}:=Ze G;refine p7 ?_;have z:j<ns.length:=();rw[Ql,Q3 z,QQ,Qm,Q3 z];rfl
def CS{k:Int}(h:¬k<(ns.length:Int)):ns.getD k.toNat 0=0:=by
 rw[Qm,List.getElem?_eq_none ()];rfl
def o0:iz X (.builtin "isinstance") (λxs H Q=>∃x n t b,xs=[x,.ty n]/\Iw X.K H x t/\PySem.W.kitOne X.K t (.type n)=some b/\Q (.bl b) H):=by
 intro J s B H xs us Q I r h;let{x,n,t,b,rfl,ty,e,q}:=h;let{u,w',rfl,G,z}:=tY r;cases (show w'=Value.type n from z);exact uz I G ty e λtk=>{.bl b,H,I.tok _,M,q}
def IY{P:Lq}{sc:Scope}(a:sc.kind= .function:=by rfl)(b:sc.isCoroutine=false:=by rfl)(c:sc.isGenerator=false:=by rfl)(d:N.Nodup:=by decide+kernel)(e:N.take P.length=P:=by rfl)(f:∀x∈P,sc.names.lookup x=some .local\/sc.names.lookup x=some .cell:=by decide+kernel)(g:∀y∈sc.names,y.2≠ .free:=by decide+kernel):ao N P sc:=⟨a,b,c,d,e,f,g⟩
def IK.mo{j k:Nat}{A:Lv}(r:IK k A)(h:j<=k:=by decide):IK j A:=r.mono h
def IV.okl{mg:Lr}{ps:Lq}{k:Nat}(F:IV K x qual st f fd)(S:ao N ps (ai st))
  (G:∀{z:Lg}{A:Lv}{outer:Mb}(s:K')(H:Hp)(vs:Lf)(Q:VK)(E:XK),IK k (A.deeper<|envOfC qual (ai st) s.heap.objs.size f z)->sp vs H Q E->
   N.Nodup->let X:=(vT IL P w K mg base N qual (ai st) f z A outer s H E).nox
   ∃t,JL X (bZ st) t/\t {nx:=λ_ H'=>Q .non H',rt:=Q} (start N vs) H)
  (len:∀vs H Q E,sp vs H Q E->vs.length=ps.length:=by intro _ _ _ _ h;repeat (first|(let{rfl,_}:=h;exact M)|let{_,h}:=h)):C5 P w K mg base IL (k+1) f fd ps sp:=F.ok S len λz A outer s H vs Q E I h=>G s H vs Q E I h S.nd
section
variable{pos:Pos}
abbrev AS{X:Cx}:= @pv X 0
abbrev IC{X:Cx}:= @pv X 1
abbrev IG{X:Cx}:= @pv X 2
abbrev IU{X:Cx}:= @pv X 3
abbrev JF{X:Cx}:= @pv X 4
abbrev Jw{X:Cx}:= @pv X 5
abbrev LP{X:Cx}:= @pv X 6
abbrev pv7{X:Cx}:= @pv X 7
abbrev pv8{X:Cx}:= @pv X 8
abbrev pv9{X:Cx}:= @pv X 9
abbrev pv10{X:Cx}:= @pv X 10
abbrev pv11{X:Cx}:= @pv X 11
abbrev pv12{X:Cx}:= @pv X 12
abbrev pv13{X:Cx}:= @pv X 13
def L9(i:Nat)(hN:X.N.Nodup:=by assumption)(hi:X.N[i]?=some x:=by rfl)(hx:Loc X.env.scope x:=by exact Or.inl M)(hf:X.fn x=true\/X.env.scope.names.lookup x=some .local:=by ac_rfl):PG X (.Name x pos) (jU i):=yY hN hi hx hf
def IR(i:Nat){e:Expr}{te:TE}{pos':Pos}(he:PE X e te)(hN:X.N.Nodup:=by assumption)(hi:X.N[i]?=some x:=by rfl)(hx:Loc X.env.scope x:=by exact Or.inl M)(hs:swapsWith e (some<|.Name x pos') pos.line X.env=pure false:=by rfl)(hf:X.fn x=true\/X.env.scope.names.lookup x=some .local:=by ac_rfl):PS X (.Assign [.Name x pos'] e pos) (zT te<|jU i):=gI hN hi hx he hs hf
end
section
variable{rest A Jb:List Stmt}{t:TS}
def aA(h:PS X st t)(k:Φ t):∃v,JL X [st] v/\Φ v:={_,aB h,k}
def ah(h:PS X st t)(k:∃u,JL X rest u/\(let Jb:=u;Φ (xU t Jb))):∃v,JL X (st::rest) v/\Φ v:=by
 let{u,hu,k}:=k;exact{_,jB h hu,k}
def rq{F:TS->TS}(z:∀{x},JL X A x->PS X st (F x))(k:∃a,JL X A a/\(let b:=a;Φ (F b))):∃v,JL X [st] v/\Φ v:=by
 let{a,ha,k}:=k;exact{_,aB<|z ha,k}
def cv{F:TS->TS}(z:∀{x},JL X A x->PS X st (F x))(k:∃a,JL X A a/\(let b:=a;∃u,JL X rest u/\(let Jb:=u;Φ (xU (F b) Jb)))):∃v,JL X (st::rest) v/\Φ v:=by
 let{a,ha,u,hu,k}:=k;exact{_,jB (z ha) hu,k}
def Fh(z:∀{x y},JL X A x->JL X Jb y->PS X st (F x y))(k:∃a,JL X A a/\(let b:=a;∃c,JL X Jb c/\(let d:=c;Φ (F b d)))):∃v,JL X [st] v/\Φ v:=by
 let{a,ha,c,hc,k}:=k;exact{_,aB<|z ha hc,k}
def HG(z:∀{x y},JL X A x->JL X Jb y->PS X st (F x y))(k:∃a,JL X A a/\(let b:=a;∃c,JL X Jb c/\(let d:=c;∃u,JL X rest u/\(let Jb:=u;Φ (xU (F b d) Jb))))):∃v,JL X (st::rest) v/\Φ v:=by
 let{a,ha,c,hc,u,hu,k}:=k;exact{_,jB (z ha hc) hu,k}
end
end L2
namespace SW
variable{m n:Int}{a b:Nat}
noncomputable def rv:Nat->Nat->Nat
 |0,_=>0
 |k+1,n=>(n%2)*2^k+rv k (n/2)
theorem yW:∀(k n:Nat),rv k n<2^k
 |0,_=>by simp[rv]
 |k+1,n=>by
  have h:=yW k (n/2);have m:n%2<2:=Nat.mod_lt _ (_);have e:rv (k+1) n=(n%2)*2^k+rv k (n/2):=M;have p:2^(k+1)=2*2^k:=by rw[ZP,X3]
  rw[e,p];rcases Nat.mod_two_eq_zero_or_one n with z|z<;>rw[z]<;>lia
theorem vp:∀(k n:Nat),rv (k+1) n=rv k n*2+(n/2^k)%2
 |0,n=>by simp[rv]
 |k+1,n=>by
  have h:=vp k (n/2);have z:rv (k+2) n=(n%2)*2^(k+1)+rv (k+1) (n/2):=M;have e2:rv (k+1) n=(n%2)*2^k+rv k (n/2):=M;have d:n/2/2^k=n/2^(k+1):=by
   rw[Xg,ZP,X3]
  rw[z,e2,h,d,ZP];rw[Nat.add_mul,Nat.mul_assoc];lia
theorem BA:∀(k n:Nat),rv k (n%2^k)=rv k n
 |0,_=>rfl
 |k+1,n=>by
  have p:2^(k+1)=2*2^k:=by rw[ZP,X3]
  have z:n%2^(k+1)%2=n%2:=by
   rw[p];exact Nat.mod_mul_right_mod n 2<|2^k
  have e2:n%2^(k+1)/2=n/2%2^k:=by
   rw[p];exact Nat.mod_mul_right_div_self n 2 (2^k)
  show(n%2^(k+1)%2)*2^k+rv k (n%2^(k+1)/2)=(n%2)*2^k+rv k (n/2);rw[z,e2,BA k (n/2)]
theorem yV:∀k,rv k 0=0
 |0=>rfl
 |k+1=>by show(0%2)*2^k+rv k (0/2)=0;rw[Nat.zero_div,yV k];simp
theorem qO:∀(a b n:Nat),rv (a+b) n=rv a n*2^b+rv b (n/2^a)
 |0,b,n=>by simp[rv]
 |a+1,b,n=>by
  have h:=qO a b (n/2);have e:a+1+b=(a+b)+1:=();have d:n/2/2^a=n/2^(a+1):=by
   rw[Xg,ZP,X3]
  rw[e];show(n%2)*2^(a+b)+rv (a+b) (n/2)=((n%2)*2^a+rv a (n/2))*2^b+_;rw[h,d,Nat.add_mul,Nat.mul_assoc,<-Nat.pow_add];lia
theorem Bz:∀(k n:Nat),rv k (rv k n)=n%2^k
 |0,n=>by simp[rv,Nat.mod_one]
 |k+1,n=>by
  have e:rv (k+1) n=rv k n*2+(n/2^k)%2:=vp k n;have z:(rv k n*2+(n/2^k)%2)%2=(n/2^k)%2:=();have e2:(rv k n*2+(n/2^k)%2)/2=rv k n:=();rw[e];show(rv k n*2+(n/2^k)%2)%2*2^k+rv k ((rv k n*2+(n/2^k)%2)/2)=n%2^(k+1);rw[z,e2,Bz k n,ZP,Nat.mod_mul,X3 (2^k)];lia
def Gc{n:Nat}:rv (a+b) n/2^b=rv a n:=by
 have l:=yW b (n/2^a);rw[qO a b n,X3,Nat.mul_add_div (Nat.two_pow_pos b),Nat.div_eq_of_lt l,ZQ]
def DS{s:Nat}(h:s<2^a):rv (a+b) s=rv a s*2^b:=by
 rw[qO a b s,Nat.div_eq_of_lt h,yV,ZQ]
@[irreducible] def tz(n:Int):Int:=((rv 16 n.toNat:Nat):Int)
@[irreducible] def rz(a:Nat)(n:Int):Int:=((rv a n.toNat:Nat):Int)
def nZ(n:Int):0<=tz n:=by unfold tz;exact XD _
def EY(n:Int):tz n<65536:=by
 have h:=yW 16 n.toNat;have e:(2:Nat)^16=65536:=by decide
 unfold tz;lia
def yR(z:0<=n)(h1:n<65536):tz (tz n)=n:=by
 have h:=Bz 16 n.toNat;have e:(2:Nat)^16=65536:=by decide
 unfold tz;rw[QQ,h,e];lia
def FL(z:0<=n)(h1:n<65536)(k0:0<=m)(G:m<65536)(e:tz n=tz m):n=m:=by
 rw[<-yR z h1,<-yR k0 G,e]
def zP(i:Nat)(m:Nat):((rv i m:Nat):Int)*2+((m/2^i:Nat):Int)%2=((rv (i+1) m:Nat):Int):=by
 rw[vp];lia
def zQ(i:Nat)(m:Nat):((m/2^i:Nat):Int)/2=((m/2^(i+1):Nat):Int):=by
 have d:m/2^i/2=m/2^(i+1):=by rw[Xg,ZP]
 rw[<-d];lia
def z7(a:Nat)(n:Int):0<=rz a n:=by unfold rz;exact XD _
def Hz(a:Nat)(n:Int):rz a n<2^a:=by
 have h:=yW a n.toNat;unfold rz;have c:((rv a n.toNat:Nat):Int)<((2^a:Nat):Int):=by exact_mod_cast h
 simpa using c
def Hy(a:Nat)(G:0<=n)(h1:n<2^a):rz a (rz a n)=n:=by
 let{m,rfl}:=Ze G;have h:=Bz a m;have z:m<2^a:=by exact_mod_cast h1
 unfold rz;rw[QQ,QQ,h,Nat.mod_eq_of_lt z]
def DL(z:a+b=16){s:Int}(I:0<=s)(h1:s<2^a):tz s=rz a s*2^b:=by
 let{m,rfl}:=Ze I;have G:m<2^a:=by exact_mod_cast h1
 have h:=DS (b:=b) G;rw[z]at h;unfold tz rz;rw[QQ,h];simp
def FK(z:a+b=16)(G:0<=m):tz m/2^b=rz a (m%2^a):=by
 let{n,rfl}:=Ze G;have h:=Gc (a:=a) (b:=b) (n:=n);rw[z]at h;have e:((n:Int)%2^a).toNat=n%2^a:=by
  have c:((n:Int)%2^a)=((n%2^a:Nat):Int):=by simp
  rw[c,QQ]
 unfold tz rz;rw[QQ,e,BA,<-h];simp
structure Row(S:Int)(a b:Nat):Prop where
 ab:a+b=16
 lo:2<=a
 hi:a<=9
 eq:S=2^a
section
variable{S:Int}(R:Row S a b)
include R
theorem Row.mul:S*2^b=65536:=by
 rw[R.eq,<-Int.pow_add,R.ab];decide
theorem Row.wpos:(0:Int)<2^b:=Int.pow_pos (_)
theorem Row.pos:0<S:=by rw[R.eq];exact Int.pow_pos (_)
theorem Row.width:65536/S=2^b:=by
 rw[<-R.mul,Int.mul_ediv_cancel_left _ (QW R.pos)]
theorem Row.wpos':0<65536/S:=by rw[R.width];exact R.wpos
theorem Row.slot{s:Int}(G:0<=s)(h1:s<S):tz s=2^b*rz a s/\0<=rz a s/\rz a s<S/\rz a (rz a s)=s:=by
 have z:s<2^a:=by rwa[<-R.eq]
 refine{by rw[DL R.ab G z,XI],z7 _ _,by rw[R.eq];exact Hz _ _,Hy _ G z}
theorem Row.top(z:0<=m):2^b*rz a (m%S)<=tz m/\tz m<2^b*rz a (m%S)+2^b:=by
 have d:=FK R.ab z;rw[<-R.eq]at d;have e:=Xn (tz m) (2^b);have p:=Qf (tz m) (QW R.wpos);have q:=Qe (tz m) R.wpos;rw[d]at e;lia
theorem Row.mod0(m:Int):0<=m%S:=Qf _ (QW R.pos)
theorem Row.mod1(m:Int):m%S<S:=Qe _ R.pos
theorem Row.between{W x y p:Int}(z:0<W)(G:W*x<=p)(h1:p<W*x+W)(k0:W*y<=p)(I:p<W*y+W):x=y:=by
 rcases Int.lt_trichotomy x y with h|h|h
 .have:W*(x+1)<=W*y:=XX () (XJ z);rw[Int.mul_add]at this;lia
 .exact h
 .have:W*(y+1)<=W*x:=XX () (XJ z);rw[Int.mul_add]at this;lia
theorem Row.st_has(z:0<=m):tz (m%S)<=tz m/\tz m<tz (m%S)+65536/S:=by
 let{e,_}:=R.slot (R.mod0 m) (R.mod1 m);have t:=R.top z;rw[R.width,e];exact t
end
def l5{k:Nat}(h:k<=6):Row (4*2^k) (k+2) (14-k):=by
 refine{(),(),(),?_};rw[Int.pow_add];lia
end SW
namespace L2
open PySem PySem.Spec PyProof.Rows
abbrev qa:List Value:=[.type "ValueError",.type "Exception",.type "BaseException",.type "object"]
def Hf(bm:Lj):Prop:=∃ups:List Addr,bm=ups.map Value.ref++qa
structure AT(K:Jc)(C:G')(bm:Lj):Prop where
 ob:∃nm q N bs sn sub ab col dd k0 k1 k2 k3 k5,K.lookup C=some (excClassObj nm q C N bs bm true sn sub ab col dd k0 k1 k2 k3 k5 "ValueError.__new__")
 mro:Hf bm
 kp:PySem.W.keepIn K (.ref C)=true
 ga:PySem.W.findIn K (.ref C) "__getattribute__"=some (some<|.builtin "BaseException.__getattribute__")
 gn:PySem.W.findIn K (.ref C) "__getattr__"=some none
 sa:PySem.W.findIn K (.ref C) "__setattr__"=some (some<|.builtin "object.__setattr__")
open PySem.W
variable{E:Ls}
section
variable{prog:Ln}{w:Lp}{A:Lv}{s:K'}{K:Jc}{e C:G'}{bm:Lj}
structure XIs(K:Jc)(C:G'):Prop where
 ha:findIn K (.ref C) "__class__"=some (some<|.builtin nj)
 hn:specialIn K (.builtin nj) "__get__"=some (some<|.builtin "getset_descriptor.__get__")
 tk:takesIn K (.builtin nj)=some true
 hm:mroIn K C (.type "object")=some true
end
section
variable{X:Cx}{J:Lm}{B:St}{H:Hp}{s:K'}
def i8(K:Jc)(hK:X.K=K):iz X (.builtin "isinstance") (λxs H Q=>∃x D t b,xs=[x,.ref D]/\Iw K H x t/\kitOne K t (.ref D)=some b/\Q (.bl b) H):=by
 subst hK;intro J s B H xs us Q I r h;let{x,D,t,b,rfl,ty,e,q}:=h;let{u,w',rfl,G,z}:=tY r;cases (show w'=Value.ref D from z);exact uz I G ty e λtk=>{.bl b,H,I.tok _,M,q}
end
structure C7(K:Jc)(C:G')(m:Str)(v:Lg):Prop where
 sp:specialIn K (.ref C) "__getattribute__"=some (some<|.builtin "type.__getattribute__")
 rd:readsIn K C (.type "type")=true
 at_:findCls K (.ref C) (.type "type") m=some (.val v)
section
variable{X:Cx}{J:Lm}{B:St}{H:Hp}{s:K'}
variable{CX:CXT}{k:Nat}{f C:G'}{fd:Lw}{ps:Lq}{sp:Sp}{dvs:Lf}{ds:Lj}{E:XK}{x m:Str}{p pos apos:Pos}{e o:Expr}{es:Mh}{ta:TE}{t:TA}{bm:Lj}
def vC{pl:Sem Bool}(Y:Gl X x)(Z:X.mg x=some (.ref C))(hc:C7 X.K C m (.ref f))(hk:PySem.W.keepIn X.K (.ref f)=true)(F:C5 X.prog X.w X.K X.mg X.base CX k f fd ps sp)(hr:IK k X.A)(hb:Binds X.K fd ps ds)(hd:Du dvs ds)(hx:f7 CX X E)(ha:PA X (e::es) t)
  (z:(x==(lh:Str))=false:=by decide)
  (G:starEach (e::es) X.env=(false,eval e X.env)::starEach es X.env:=by rfl) (O:(backTo pos<|starEach es X.env).any (·.1)=false:=by rfl)
  (ht:eval (.Call (.Attribute (.Name x p) m apos) (e::es) [] pos) X.env=(do
   let ov<-eval (.Name x p) X.env
   standAt apos.atName
   let(f,first)<-holding [ov] (getMethod ov m pl)
   callWith pos f first (backTo pos<|starEach (e::es) X.env) (backToKw pos<|keywordEach [] X.env)):=by rfl):
  PE X (.Call (.Attribute (.Name x p) m apos) (e::es) [] pos) (E5 sp dvs E t):=by
 intro J s B H Q I h;refine ZB (pl:=pl) (iS I Y Z ?_ z) ht;refine method_cls I.kIn hc.sp<|cls_value I.kIn hc.rd hc.at_ M ?_;refine Zy (first:=[]) (h₀:=X.base) I.ok.mod.kin hk (IH (ha pos J _ B H _ (I.tok _) h) λus s2 zz=>?_) G O;let{vs,H2,U,r,q2}:=zz;refine{U.kIn,?_};exact lZ F hr hb hd hx U r q2
end
variable{T:G'}
def kx(K:Jc)(fd:Lw)(ps:Lq)(dvs:Lf):Prop:=∃ds,Binds K fd ps ds/\Du dvs ds
structure KR(K:Jc)(x qual:Str)(st:Stmt)(f:G')(fd:Lw):Prop where
 ex:∃(oc:Lg)(od:Lz)(dV kV doc pm:Lg)(an:Lz)(cdv ct:Lg)(osl:Mp),
  fd=fnOf x qual (dY st) (bZ st) (ai st) dV kV doc pm an cdv ct/\K.lookup f=some {oc,od,.func fd,osl}/\codeIn K cdv qual=true
 kp:keepIn K (.ref f)=true
section
variable{P:Ln}{w:Lp}{K:Jc}{mg:Lr}{base:Heap}{x qual:Str}{st:Stmt}{f:G'}{fd:Lw}{N ps:Lq}{k:Nat}{sp:Sp}
def KR.ok(F:KR K x qual st f fd)(S:ao N ps (ai st))(len:∀vs H Q E,sp vs H Q E->vs.length=ps.length)
  (G:∀(z:Lg)(A:Lv)(outer:Mb)(s:K')(H:Hp)(vs:Lf)(Q:VK)(E:XK),IK k (A.deeper<|envOfC qual (ai st) s.heap.objs.size f z)->sp vs H Q E->
   ∃t,JL (vT IL P w K mg base N qual (ai st) f z A outer s H E).nox (bZ st) t/\t {nx:=λ_ H'=>Q .non H',rt:=Q} (start N vs) H):C5 P w K mg base IL (k+1) f fd ps sp:=by
 let{oc,od,dV,kV,U,pm,an,z,ct,W,rfl,Y,I}:=F.ex;refine CH Y I S len λA outer s H vs Q E Z O=>?_;let{t,h,q}:=G z A outer s H vs Q E Z O;exact⟨t,h.nox,q⟩
structure EO(K:Jc)(x qual:Str)(st:Stmt)(T f:G')(fd:Lw):Prop where
 toD:KR K x qual st f fd
 ex:∃(kV doc pm:Lg)(an:Lz)(cdv ct:Lg),fd=fnOf x qual (dY st) (bZ st) (ai st) (.ref T) kV doc pm an cdv ct
def zn{U:Lg}{W O:Lz}{I:Mp}{kV G pm z ct:Lg}(l:K.lookup f=some {U,W,.func<|fnOf x qual (dY st) (bZ st) (ai st) (.ref T) kV G pm O z ct,I})
  (c:codeIn K z qual=true) (k:keepIn K (.ref f)=true):EO K x qual st T f (fnOf x qual (dY st) (bZ st) (ai st) (.ref T) kV G pm O z ct):={{{U,W,_,kV,G,pm,O,z,ct,I,M,l,c},k},⟨kV,G,pm,O,z,ct,M⟩}
def eK{U:Lz}{z:Md}{n:Nat}{W:Mp}{ds:Lj}(g:Nat)(Z:g+ds.length=ps.length)(F:EO K x qual st T f fd)(Y:K.lookup T=some {.type u6,U,.seq z n,W})
  (h:∀(kV G pm:Lg)(O:Lz)(I ct:Lg)(us:Lj),us.length=g->∃k,bindArgs (fnOf x qual (dY st) (bZ st) (ai st) (.ref T) kV G pm O I ct) {us,[]}=seqItems? (.ref T)>>=k/\k (some z)=pure (ps.zip<|us++ds)):
  Binds K fd ps ds:=by
 let{kV,G,pm,O,I,ct,rfl}:=F.ex;intro s us X hl;let{k,h1,h2}:=h kV G pm O I ct us (by rw[Q8]at hl;lia);exact BindsTo.of_defaults M (X _ _ Y) M h1 h2
end
end L2
namespace L2
open PySem PySem.Spec PyProof.Rows
open SeqAt
section
variable{X:Cx}
def iN{st:Stmt}:PS X st (λ_ _ _=>False):=λ_ _ _ _ _ _ h=>h.elim
def PlainL.isL{h:Heap}{a:G'}{xs:Md}(p:PlainL h a xs):h.IsList a xs:=by
 let{o,n,e,c,_,d}:=p;exact⟨o,e,c,n,d⟩
inductive rEqN(K:Jc)(f:Bool)(x y:V)(H:Hp)(Q:VK):Prop
 |mk(a b xs:_)(_:x= .ref a)(_:y= .ref b)(_:Dv K H a xs)(_:Dv K H b [])(_:Q (.bl<|xs.isEmpty !=f) H)
def Gp(K:Jc)(hK:X.K=K)(hu:X.A.units+20<cLine):JU X (compareOp .NotEq) (rEqN K true):=by
 subst hK;intro J s B H x y v u Q I O U h;let{a,b,xs,rfl,rfl,h1,h2,q}:=h;cases O;cases U;let{Z,r1,G,z1}:=I.list h1;let{i2,Y,p2,z2}:=I.list h2;have z:X.A.units<cLine:=();cases Y;cases r1 with
 |nil=>exact RcNeAt.lists (A:=X.A) (e:=λ_=>true) (PlainL.isL G) (PlainL.isL p2) M z (λj h1=>Kh h1<|XZ _) _ _ _ _ {.bl _,H,I,M,q}
 |cons r t=>exact RcNeAt.lists_lengths (PlainL.isL G) (PlainL.isL p2) (by simp) z _ _ _ _ {.bl _,H,I,M,q}
end
def Fl:V->Prop
 | .int _=>True| .str _=>True| .non=>True| .bl _=>True|_=>False
section
variable{X:Cx}{J:Lm}{B:St}{H:Hp}{s:K'}
def zo{A:Lv}{x:V}{u v:Lg}(h:Fl x)(r1:RelV x u)(z:RelV x v):EqAt A s u v true:=by
 cases x with
 |int n=>
  let{G,rfl}:=r1;let{I,rfl}:=z;have:=EqAt.int_int (A:=A) (s:=s) n G n I;rwa [KH]at this
 |str n=>
  let{G,rfl}:=r1;let{I,rfl}:=z;have:=EqAt.str_str (A:=A) (s:=s) n G n I;rwa [KH]at this
 |bl b=>
  cases (show u=Value.bool b from r1);cases (show v=Value.bool b from z);have:=EqAt.bool_bool (A:=A) (s:=s) b b;rwa [KH]at this
 |non=>
  cases (show u=Value.none from r1);cases (show v=Value.none from z);exact EqAt.same _
 |_=>exact h.elim
end
def Alk(K:Jc)(H:Hp):Nat->V->V->Prop
 |0,x,y=>Fl x/\x=y
 |n+1,x,y=>(Fl x/\x=y)\/∃a b xs ys,x= .ref a/\y= .ref b/\(Dv K H a xs/\Dv K H b ys\/JE K H a xs/\JE K H b ys)/\xs.length=ys.length/\∀(j:Nat)(u v:V),xs[j]?=some u->ys[j]?=some v->Alk K H n u v
def oR{xs:Lf}{us:Lj}(r:Du xs us)(j:Nat)(h:j<us.length):∃x,xs[j]?=some x/\RelV x us[j]:=by
 induction r generalizing j with
 |nil=>cases h
 |cons r _ z=>cases j with
  |zero=>exact{_,M,r}
  |succ j=>exact z j<|Nat.lt_of_succ_lt_succ h
section
variable{X:Cx}{J:Lm}{B:St}{H:Hp}{s:K'}
theorem yI(I:Inv X J B H s):∀(n:Nat){A:Lv}{x y:V}{u v:Lg},A.units+n<cLine->Alk X.K H n x y->RelV x u->RelV y v->EqAt A s u v true
 |0,_,_,_,_,_,_,⟨f,e⟩,r1,r2=>zo f r1 (e▸r2)
 |n+1,A,x,y,u,v,hu,h,r1,r2=>by
  rcases h with⟨f,e⟩|⟨a,b,xs,ys,rfl,rfl,o,l,g⟩
  .exact zo f r1<|e▸r2
  cases r1;cases r2;by_cases e:a=b
  .subst e;exact EqAt.same _
  have it:∀{us vs:Lj},Du xs us->Du ys vs->∀(j:Nat)(h1:j<us.length)(h2:j<vs.length),EqAt A.in1 s us[j] vs[j] true:=λz G j h1 h2=>by
   let{x,U,q1}:=oR z j h1;let{y,e2,q2}:=oR G j h2;exact yI I n (by show A.units+1+n<cLine;lia) (g j x y U e2) q1 q2
  refine EqAt.of_refs e ?_;rcases o with⟨h1,h2⟩|⟨h1,h2⟩
  .let{W,z,O,_}:=I.list h1;let{Y,G,p2,_}:=I.list h2;have:=RcAt.lists (A:=A) (e:=λ_=>true) (PlainL.isL O) (PlainL.isL p2) (by simpa[<-z.length,<-G.length]using l) () (λj a b=>by simpa using it z G j (by simpa using a) (by simpa using b));rw[QN.mpr λ_ _=>rfl]at this;exact this
  .let{W,z,O,_}:=I.tuple h1;let{Y,G,p2,_}:=I.tuple h2;have:=RcAt.tuples (A:=A) (e:=λ_=>true) O p2 () (λj a b=>by simpa using it z G j (by simpa using a) (by simpa using b));rw[QN.mpr λ_ _=>rfl]at this;simpa[<-z.length,<-G.length,l]using this
inductive rAlk(K:Jc)(f:Bool)(x y:V)(H:Hp)(Q:VK):Prop
 |mk(a b:G')(xs ys:Lf)(_:x= .ref a)(_:y= .ref b)(_:(Dv K H a xs/\Dv K H b ys\/JE K H a xs/\JE K H b ys))(_:xs.length=ys.length)(_:(∀(j:Nat)(u v:V),xs[j]?=some u->ys[j]?=some v->Alk K H 4 u v))(_:Q (.bl<|!f) H)
def BS(K:Jc)(hK:X.K=K)(hu:X.A.units+20<cLine):JU X (compareOp .Eq) (rAlk K false):=by
 subst hK;intro J s B H x y v u Q I Z ry h;let{a,b,xs,ys,rfl,rfl,o,l,g,q}:=h;cases Z;cases ry;have it:∀{us vs:Lj},Du xs us->Du ys vs->∀(j:Nat)(h1:j<us.length)(h2:j<vs.length),EqAt X.A.in1 s us[j] vs[j] true:=λz G j h1 h2=>by
  let{x,e1,q1}:=oR z j h1;let{y,e2,q2}:=oR G j h2;exact yI I 4 (by show X.A.units+1+4<cLine;lia) (g j x y e1 e2) q1 q2
 rcases o with⟨h1,h2⟩|⟨h1,h2⟩
 .let{U,z,O,_}:=I.list h1;let{Y,G,p2,_}:=I.list h2;have:=RcAt.lists (A:=X.A) (e:=λ_=>true) (PlainL.isL O) (PlainL.isL p2) (by simpa[<-z.length,<-G.length]using l) () (λj a b=>by simpa using it z G j (by simpa using a) (by simpa using b));rw[QN.mpr λ_ _=>rfl]at this;exact this _ _ _ _ {.bl _,H,I,M,q}
 .let{U,z,O,_}:=I.tuple h1;let{Y,G,p2,_}:=I.tuple h2;have:=RcAt.tuples (A:=X.A) (e:=λ_=>true) O p2 () (λj a b=>by simpa using it z G j (by simpa using a) (by simpa using b));rw[QN.mpr λ_ _=>M,show(true&&U.toArray.size==Y.toArray.size)=true by simp[<-z.length,<-G.length,l]]at this;exact this _ _ _ _ {.bl _,H,I,M,q}
def Gq(K:Jc)(hK:X.K=K)(hu:X.A.units+20<cLine):JU X (compareOp .NotEq) (rAlk K true):=by
 subst hK;intro J s B H x y v u Q I Z ry h;let{a,b,xs,ys,rfl,rfl,o,l,g,q}:=h;cases Z;cases ry;have it:∀{us vs:Lj},Du xs us->Du ys vs->∀(j:Nat)(h1:j<us.length)(h2:j<vs.length),EqAt X.A.in1 s us[j] vs[j] true:=λz G j h1 h2=>by
  let{x,e1,q1}:=oR z j h1;let{y,e2,q2}:=oR G j h2;exact yI I 4 (by show X.A.units+1+4<cLine;lia) (g j x y e1 e2) q1 q2
 rcases o with⟨h1,h2⟩|⟨h1,h2⟩
 .let{U,z,O,_}:=I.list h1;let{Y,G,p2,_}:=I.list h2;have:=RcNeAt.lists (A:=X.A) (e:=λ_=>true) (PlainL.isL O) (PlainL.isL p2) (by simpa[<-z.length,<-G.length]using l) () (λj a b=>by simpa using it z G j (by simpa using a) (by simpa using b));rw[QN.mpr λ_ _=>rfl]at this;exact this _ _ _ _ {.bl _,H,I,M,q}
 .let{U,z,O,_}:=I.tuple h1;let{Y,G,p2,_}:=I.tuple h2;have:=RcNeAt.tuples (A:=X.A) (e:=λ_=>true) O p2 () (λj a b=>by simpa using it z G j (by simpa using a) (by simpa using b));rw[QN.mpr λ_ _=>M,show(true&&U.toArray.size==Y.toArray.size)=true by simp[<-z.length,<-G.length,l]]at this;exact this _ _ _ _ {.bl _,H,I,M,q}
end
end L2
namespace L2
open PySem PySem.Spec PyProof.Rows PySem.W
abbrev _root_.Mm:=List (Str×Addr)
variable{Pt c f:G'}{params:Arguments}{X:Cx}{body:Expr}{fd:Lw}{u:HO}{base h:Heap}{H:Hp}{cs:Lm}{cl:Mm}{fr ps:Lq}{n:Nat}{pos:Pos}{P:Ln}{K:Jc}{scope:Scope}{sp:Sp}{B:St}{st:Stmt}{a b qual x:Str}{w:Lp}{YP:World->Heap->Prop}
def xo(a:G')(o:Obj):HO:= .ext λh=>h.get? a=some o
def i9(c:G')(qual:Str):HO:= .ext λh=>h.CodeRec (.ref c) qual
def shw(cs:Lm)(H:Hp):Hp:=λb=>match cs.lookup b with
 |some o=>some (xo b o)
 |none=>H b
def hid(cs:Lm)(H:Hp):Hp:=λb=>match cs.lookup b with
 |some _=>none
 |none=>H b
section
variable{H':Hp}{h':Heap}{a b:G'}{o:Obj}
def EX(e:h.get? a=some o):II P w H h a (xo a o):={e,⟨o,e⟩,λ_ _ p k=>k o p}
def Bd(e:h.CodeRec (.ref c) qual):II P w H h c (i9 c qual):=by
 refine{e,?_,λh1 h2 p k=>?_}
 .let{c1,G,vs,I,hc,z,_}:=e;cases hc;exact⟨G,z⟩
 .let{c1,G,vs,I,hc,z,hd,hq}:=p;cases hc;exact{c,G,vs,I,M,k G z,hd,hq}
def vh(e:cs.lookup b=some o):shw cs H b=some (xo b o):=by unfold shw;rw[e]
def bL(e:cs.lookup b=none):shw cs H b=H b:=by unfold shw;rw[e]
def vO(e:cs.lookup b=some o):hid cs H b=none:=by unfold hid;rw[e]
def dD(e:cs.lookup b=none):hid cs H b=H b:=by unfold hid;rw[e]
def io(e:H b=none):hid cs H b=none:=by
 unfold hid;split
 .rfl
 .exact e
def GT(e:hid cs H b=some u):cs.lookup b=none/\H b=some u:=by
 unfold hid at e;split at e
 .cases e
 .exact{by assumption,e}
def y4(hc:∀b o,cs.lookup b=some o->H b=some (xo b o))(e:H b=some u)(n:∀z,u≠ .ext z):cs.lookup b=none:=by
 cases q:cs.lookup b with
 |none=>rfl
 |some o=>
  rw[hc b o q]at e;cases e;exact Kh M<|n _
def Iz.hid(x:Iz P w H h)(hc:∀b o,cs.lookup b=some o->H b=some (xo b o)):Iz P w (hid cs H) h:=λa u e=>by
 let{_,e2}:=GT e;exact(x a u e2).stay (λ_ _ _ q=>q) (λb q=>by rw[dD (y4 hc q λ_ z=>nomatch z)];exact q) λb xs q=>by rw[dD (y4 hc q λ_ z=>nomatch z)];exact q
def Iz.shw(x:Iz P w H h)(hc:∀b o,cs.lookup b=some o->H b=none/\h.get? b=some o):Iz P w (shw cs H) h:=λa u e=>by
 have G:∀b v,H b=some v->cs.lookup b=none:=λb v q=>by
  cases z:cs.lookup b with
  |none=>rfl
  |some o=>rw[(hc b o z).1]at q;cases q
 cases z:cs.lookup a with
 |some o=>
  rw[vh z]at e;cases e;exact EX (hc a o z).2
 |none=>
  rw[bL z]at e;exact(x a u e).stay (λ_ _ _ q=>q) (λb q=>by rw[bL (G b _ q)];exact q) λb xs q=>by rw[bL (G b _ q)];exact q
end
section
variable{P:G'}
def zM(K:Jc)(c P:G'):Prop:=∀h:Heap,K.In h->CodeHd h c P
def EW(X:Cx)(fr:Lq)(cl:Mm):Prop:=cl.map (·.1)=fr/\(∀p∈cl,X.env.cells.lookup p.1=some p.2)/\(cl.map (·.2)).Nodup
def tLam(X:Cx)(params:Arguments)(body:Expr)(scope:Scope)(pos:Pos)(P:G')(fr:Lq):TE:=λ_ H Q=>∃ps,H P=some (.tbl ps)/\TriplesOk ps.toList/\codeAmong pos ps.toList=none/\
 ∀cl c' ctv pm f,EW X fr cl->H f=none->H c'=none->f≠c'->
  Q (.ref f) (upd (upd (upd H P<|.tbl<|ps++ #[rawInt pos.line,rawInt pos.col,.ref c']) c'<|i9 c'<|X.env.qual++hW) f<|xo f<|kla_obj hW (X.env.qual++hW) params body scope cl pm c' ctv)
def wk(X:Cx)(scope:Scope)(fr:Lq):Prop:=X.Ok->∃cl,closureFor scope X.env=pure cl/\EW X fr cl
def Fu(h:closureFor scope X.env=pure []:=by rfl):wk X scope []:=λ_=>{[],h,M,(λ_ z=>nomatch z),.nil}
def Ic{y g:Str}(hs:scope.names=[(x,.local),(y,.local),(a,.free),(b,.free),(g,.globalImplicit)]:=by rfl)(ha:X.env.kindOf a=some .cell:=by rfl)(hb:X.env.kindOf b=some .cell:=by rfl)(G:a≠b:=by decide+kernel):wk X scope [b,a]:=λok=>by
 let{c1,I}:=ok.has a (.inl ha);let{c2,e2}:=ok.has b (.inl hb);refine{[(b,c2),(a,c1)],?_,M,λp hp=>?_,?_}
 .unfold closureFor;rw[hs];unfold cellOf;simp[I,e2]
 .rcases Q7.mp hp with rfl|hp
  .exact e2
  .rcases Q7.mp hp with rfl|hp
   .exact I
   .cases hp
 .have n:c2≠c1:=λz=>G (ok.inj a b c1 I<|by rwa[<-z]);simp[n]
def Ie(h:EW X [b,a] cl):∃cb G,cl=[(b,cb),(a,G)]/\X.env.cells.lookup b=some cb/\X.env.cells.lookup a=some G/\G≠cb:=by
 let{e,l,n}:=h;rcases cl with _|⟨⟨x,cb⟩,_|⟨⟨y,G⟩,_|⟨z,r⟩⟩⟩
 .cases e
 .cases e
 .cases e;refine{cb,G,M,l (_,cb) Q6,l (_,G)<|Qc _ Q6,λz=>?_};simp[z]at n
 .simp at e
def Fv(h:EW X [] cl):cl=[]:=List.map_eq_nil_iff.mp h.1
def vM{c':G'}{ps z:Md}{ob:Obj}{nx:Hp->Prop}(I:H Pt=some (.tbl ps))(O:H f=none)(U:H c'=none)(G:f≠c')
  (k:∀H',H' f=some (xo f ob)->H' c'=some (i9 c' qual)->H' Pt=some (.tbl z)->(∀b o,b≠Pt->H b=some o->H' b=some o)->nx H'):nx (upd (upd (upd H Pt<|.tbl z) c'<|i9 c' qual) f<|xo f ob):=by
 have W:Pt≠c':=aj I U;have Y:Pt≠f:=aj I O;exact k _ ag (by rw[ac (Ne.symm G),ag]) (by rw[ac Y,ac W,ag]) λb o Z e=>by rwa[ac (aj e O),ac (aj e U),ac Z]
def BltK(K:Jc)(mg:Lr)(P:G'):Prop:=∀h:Heap,K.In h->h.BuiltinsAt mg P
def Gm(a1:defaultsOf params X.env=([],[]))(ap:wk X scope fr)(Y:X.env.code= .ref c)(hC:zM X.K c P)(hB:BltK X.K X.mg P):
  PE X (.Lambda params body scope pos) (tLam X params body scope pos P fr):=by
 intro J s B H Q I hq;let{ps,W,ht,ax,q}:=hq;let{cl,b1,a2}:=ap I.ok;have a3:s.heap.get? P=some (tabObj ps):=I.hok P _ W;let{og,es,ep,eg,rg}:=I.ok.mod.glob;have hg:s.heap.Ns mainGlobals X.mg:={og,es,ep,I.bk _ _ eg,rg};have b2:mainGlobals≠P:=λz=>by
  have n:=(I.bs _ _ eg).2;rw[z,W]at n;cases n
 refine kla_eval a1<|kla_makeFunction b1 I.ok.glob hg Y (hC _ I.kIn) a3 ht ax b2 (hB _ I.kIn) λc' O h' tk ext lo hi a4 a5=>?_;have a6:P<s.heap.objs.size:=Kl a3;have nc:c'≠P:=ZN (Qo a6 lo);have a9:H c'=none:=I.hok.fresh lo;have Z:s.heap.objs.size<=h'.objs.size:=Qu lo (QV hi);have ab:H h'.objs.size=none:=I.hok.fresh Z;have b3:h'.objs.size≠c':=ZN hi;have b4:h'.objs.size≠P:=ZN (Qo a6 Z);refine{.ref h'.objs.size,_,?_,M,q cl c' O ((X.mg o5).getD .none) _ a2 ab a9 b3};have G:∀b o,h'.get? b=some o->(h'.push<|kla_obj hW (X.env.qual++hW) params body scope cl ((X.mg o5).getD .none) c' O).get? b=some o:=λb o e=>Kg _ e;have am:(h'.push<|kla_obj hW (X.env.qual++hW) params body scope cl ((X.mg o5).getD .none) c' O).get? h'.objs.size=some (kla_obj hW (X.env.qual++hW) params body scope cl ((X.mg o5).getD .none) c' O):=Ko _ M;generalize (kla_obj hW (X.env.qual++hW) params body scope cl ((X.mg o5).getD .none) c' O)=ob at G am⊢;have k2:∀b o,b≠P->s.heap.get? b=some o->(h'.push ob).get? b=some o:=λb o nb e=>G b o (ext b o nb e);have b5:∀b o,s.heap.get? b=some o->b≠c':=λb o e=>Qy (Qo (Kl e) lo);have b6:∀b o,s.heap.get? b=some o->b≠h'.objs.size:=λb o e=>Qy (Qo (Kl e) Z);have a0:∀b,H b=none->b≠P:=λb n z=>by rw[z,W]at n;cases n
 have an:∀b,b≠P->b≠c'->b≠h'.objs.size->upd (upd (upd H P<|.tbl<|ps++ #[rawInt pos.line,rawInt pos.col,.ref c']) c'<|i9 c'<|X.env.qual++hW) h'.objs.size (xo h'.objs.size ob) b=H b:=λb n1 n2 n3=>by rw[ac n3,ac n2,ac n1]
 have U:∀b u,H b=some u->b≠P->upd (upd (upd H P<|.tbl<|ps++ #[rawInt pos.line,rawInt pos.col,.ref c']) c'<|i9 c'<|X.env.qual++hW) h'.objs.size (xo h'.objs.size ob) b=some u:=λb u e n=>by
  rwa[an b n (aj e a9) (aj e ab)]
 refine I.un (t':=tk) {λb o e n _ _=>k2 b o (a0 b n) e,λb o e n _ _=>{o.slots,k2 b o (a0 b n) e},λb o e n _=>by rwa[an b (a0 b n) (b5 b o e) (b6 b o e)],λb o e _=>?_,λb xs e=>U b _ e (λz=>by rw[z,W]at e;cases e),λb o u e=>U b _ e (λz=>by rw[z,W]at e;cases e),λb qs e=>?_} λb u e=>?_
 .by_cases hb:b=P
  .exact{_,by rw[hb];exact G _ _ a5}
  .exact{o,k2 b o hb e}
 .by_cases hb:b=P
  .rw[hb,W]at e;cases e;exact{_,by rw[hb,ac (Ne.symm b4),ac (Ne.symm nc),ag]}
  .exact{#[],by rw[U b _ e hb];simp}
 .by_cases h1:b=h'.objs.size
  .rw[h1,ag]at e;cases e;rw[h1];exact EX am
  rw[ac h1]at e;by_cases h2:b=c'
  .rw[h2,ag]at e;cases e;rw[h2];refine Bd ?_;let{c1,oc,vs,tq,z1,z2,z3,z4}:=a4;exact{c1,oc,vs,tq,z1,G _ _ z2,z3,z4}
  rw[ac h2]at e;by_cases h3:b=P
  .rw[h3,ag]at e;cases e;rw[h3];exact G _ _ a5
  rw[ac h3]at e;refine(I.hok b u e).stay (λd v hd g=>k2 d v ?_ g) (λd g=>U d _ g λz=>by rw[z,W]at g;cases g) λd xs g=>U d _ g λz=>by rw[z,W]at g;cases g
  rcases hd with hd|hd
  .rwa[hd]
  .exact λz=>by rw[z,W]at hd;cases hd
end
section
variable{k:Nat}{dvs:Lf}{ds:Lj}{p:Pos}{e:Expr}{es:Mh}{ta:TE}{t:TA}{J:Lm}{s:K'}{Q:VK}{us:Lj}{vs:Lf}
def DU(F:C5 X.prog X.w X.K X.mg X.base IL k f fd ps sp)(hr:IK k X.A)(hb:Binds X.K fd ps ds)(hd:Du dvs ds)(Y:∀x,X.fn x=true)
  (I:Inv X J B H s) (r:Du vs us) (hc:∀b o,cs.lookup b=some o->(∃x,X.env.cells.lookup x=some b)/\s.heap.get? b=some o)
  (h:sp (vs++dvs) (shw cs H) (λv H2=>(∀b o,cs.lookup b=some o->H2 b=some (xo b o))/\Q v (hid cs H2)) E0):Jd X (call (.ref f) us) (EP X J B Q) X.xe s:=by
 have Z:Du (vs++dvs) (us++ds):=r.append hd;have hl:(us++ds).length=ps.length:=by rw[<-Z.length];exact F.len _ _ _ _ h
 have O:∀b o,cs.lookup b=some o->H b=none/\s.heap.get? b=some o:=λb o z=>by
  let{{x,e},e2}:=hc b o z;exact{I.freeC x b e,e2}
 have U:∀b o,X.s₀.heap.get? b=some o->cs.lookup b=none:=λb o z=>by
  cases q:cs.lookup b with
  |none=>rfl
  |some ob=>
   let{{x,e},_}:=hc b ob q;exact Kh (Qo (Kl z)<|I.ok.cab x b (Y x) e)<|Zr _
 have W:∀b∈Jy X.stack,cs.lookup b=none:=λb hb=>by
  rcases Q7.mp (I.stkSub b hb)with z|z
  .cases q:cs.lookup b with
   |none=>rfl
   |some ob=>
    let{{x,e},_}:=hc b ob q;exact Kh z<|I.cne x b e
  .let{_,o,ho,_}:=I.ok.funs.mem z;exact U b o ho
 have G:∀b u,H b=some u->cs.lookup b=none:=λb u z=>by
  cases q:cs.lookup b with
  |none=>rfl
  |some ob=>rw[(O b ob q).1]at z;cases z
 have e0:=I.env0;have e1:Jz X.prog X.w X.K X.mg X.base X.A X.stack s (shw cs H):=
  {e0.frames,e0.mod,λb o z=>{(e0.bs b o z).1,by rw[bL (U b o (I.ok.bs b o z).1)];exact(e0.bs b o z).2},e0.bsz,e0.funs,λb hb=>by rw[bL (W b hb)];exact e0.frf b hb,Iz.shw e0.hok O,e0.bare}
 refine wpAny_call<|codeAny_mono (F.run X.A X.stack s (shw cs H) {us,[]} (us++ds) (vs++dvs) _ E0 hr e1 (hb s us I.kIn hl) Z h) λr s' hq=>?_;cases r with
 |error e=>exact False.elim hq
 |ok fl=>
  cases fl with
  |next=>exact False.elim hq
  |brk=>exact False.elim hq
  |cont=>exact False.elim hq
  |ret u=>
   let{v,H',os,bare,un,hok,rv,q1,q}:=hq;refine I.after {v,hid cs H',os,bare,{λb o e n hb hx=>?_,λb o e n hb hx=>?_,λb o e n hx=>?_,un.there,λb xs e=>?_,λb o u e=>?_,λb qs e=>?_},hok.hid q1,rv,q}
   .cases z:cs.lookup b with
    |none=>exact un.keep b o e (by rwa[bL z]) hb hx
    |some oc=>
     have:=(O b oc z).2;rw[e]at this;cases this;exact(hok b _<|q1 b o z).1
   .exact un.slot b o e (by rwa[bL (W b hb)]) hb hx
   .cases z:cs.lookup b with
    |none=>rw[dD z];exact un.free b o e (by rwa[bL z]) hx
    |some oc=>exact vO z
   .rw[dD (G b _ e)];exact un.tups b xs<|by rwa[bL (G b _ e)]
   .rw[dD (G b _ e)];exact un.frzs b o u<|by rwa[bL (G b _ e)]
   .rw[dD (G b _ e)];exact un.tbls b qs (by rwa[bL (G b _ e)])
inductive AY(X:Cx)(B:St):List (Nat×Str)->List (Addr×Obj)->Prop
 |nil:AY X B [] []
 |cons{j:Nat}{x:Str}{c:G'}{o:Obj}{u:Lg}{v:V}{xs:List (Nat×Str)}{cs:Lm}:X.env.cells.lookup x=some c->o.data= .cell (some u)->B[j]?=some (some v)->RelV v u->AY X B xs cs->AY X B ((j,x)::xs) ((c,o)::cs)
def FX(X:Cx)(sp:Sp)(dvs:Lf)(xs:List (Nat×Str))(t:TA):TE:=λB H Q=>t B H λvs H1=>(∀p∈xs,∃v,B[p.1]?=some (some v))/\
 ∀cs,AY X B xs cs->(∀b o,cs.lookup b=some o->H1 b=none)->sp (vs++dvs) (shw cs H1) (λv H2=>(∀b o,cs.lookup b=some o->H2 b=some (xo b o))/\Q v (hid cs H2)) E0
def Ib{i j:Nat}(h:AY X B [(i,a),(j,b)] cs):∃z G I O cb ob ub U,cs=[(z,G),(cb,ob)]/\X.env.cells.lookup a=some z/\G.data= .cell (some I)/\B[i]?=some (some O)/\RelV O I/\X.env.cells.lookup b=some cb/\ob.data= .cell (some ub)/\B[j]?=some (some U)/\RelV U ub:=by
 cases h with
 |cons h1 h2 W Y h=>
  cases h with
  |cons g1 Z g3 g4 g=>
   cases g;exact{_,_,_,_,_,_,_,_,M,h1,h2,W,Y,g1,Z,g3,g4}
def Bw(n:∀b o,cs.lookup b=some o->H b=none):IA H (shw cs H):=λb u e=>by
 cases z:cs.lookup b with
 |none=>rwa[bL z]
 |some o=>rw[n b o z]at e;cases e
def Ia{xs:List (Nat×Str)}(I:Inv X J B H s)(hx:∀p∈xs,X.N[p.1]?=some p.2/\X.env.scope.names.lookup p.2=some .cell)(G:∀p∈xs,∃v,B[p.1]?=some (some v)):
  ∃cs,AY X B xs cs/\∀b o,cs.lookup b=some o->(∃x,X.env.cells.lookup x=some b)/\s.heap.get? b=some o:=by
 induction xs with
 |nil=>exact{[],.nil,λb o z=>nomatch z}
 |cons p xs Y=>
  let{cs,h1,h2}:=Y (λq hq=>hx q<|Qc _ hq) λq hq=>G q (Qc _ hq);let{j,x}:=p;let{Z,O}:=hx (j,x) Q6;let{v,U}:=G (j,x) Q6;let{m,hn,hl}:=I.loc;let{u,ru,lk}:=hl j x v Z U (.inr<|.inl O);rcases lk with⟨z,_⟩|⟨_,c,W,o,ho,hd⟩
  .rw[show X.env.kindOf x=X.env.scope.names.lookup x from rfl,O]at z;cases z
  .refine{(c,o)::cs,.cons W hd U ru h1,λb o' z=>?_};by_cases e:b=c
   .subst e;rw[ZC]at z;cases z;exact{⟨x,W⟩,ho}
   .rw[QX,show(b==c)=false from Kn.mpr e]at z;exact h2 b o' z
def BM(F:C5 X.prog X.w X.K X.mg X.base IL k f fd ps sp)(Z:IK k X.A)(hg:Gl X x)(hm:X.mg x=some (.ref f))(hk:PySem.W.keepIn X.K (.ref f)=true)(hb:Binds X.K fd ps ds)(hd:Du dvs ds)(xs:List (Nat×Str))(ha:PA X (e::es) t)
  (G:∀x,X.fn x=true:=by exact λ_=>M) (hx:∀p∈xs,X.N[p.1]?=some p.2/\X.env.scope.names.lookup p.2=some .cell:=by repeat (first|exact List.forall_mem_nil _|refine List.forall_mem_cons.mpr {⟨M,M⟩,?_}))
  (O:(x==(lh:Str))=false:=by decide) (he:starEach (e::es) X.env=(false,eval e X.env)::starEach es X.env:=by rfl) (U:(backTo pos<|starEach es X.env).any (·.1)=false:=by rfl):
  PE X (.Call (.Name x p) (e::es) [] pos) (FX X sp dvs xs t):=by
 intro J s B H Q I h;refine Kz<|iS I hg hm ?_ O;refine Zy (h₀:=X.base) I.ok.mod.kin hk (IH (ha pos J s B H _ I h) λus s1 zz=>?_) he U;let{vs,H1,z,r,q1,q2}:=zz;refine{z.kIn,?_};let{cs,z1,Y}:=Ia z hx q1;exact DU F Z hb hd G z r Y<|q2 cs z1 λb o e=>by let{{x,e1},_}:=Y b o e;exact z.freeC x b e1
def FZ(P:Ln)(w:Lp)(K:Jc)(mg:Lr)(base:Heap)(kk:Nat)(ta:TE)(t:TA):TE:=λB H Q=>ta B H λy H1=>∃f fd ps sp,y= .ref f/\C5 P w K mg base IL kk f fd ps sp/\Binds K fd ps []/\
 t B H1 λvs H2=>(∃(o:Obj)(d:Lw),H2 f=some (xo f o)/\o.data=Data.func d)/\sp (vs++ []) H2 Q E0
def BO(P:Ln)(w:Lp)(K:Jc)(mg:Lr)(base:Heap)(kk:Nat)(Y:X.prog=P)(e2:X.w=w)(Z:X.K=K)(e4:X.mg=mg)(e5:X.base=base)(hr:IK kk X.A)(hf:PE X (.Name x p) ta)(ha:PA X (e::es) t)
  (he:starEach (e::es) X.env=(false,eval e X.env)::starEach es X.env:=by rfl) (z:(backTo pos<|starEach es X.env).any (·.1)=false:=by rfl):
  PE X (.Call (.Name x p) (e::es) [] pos) (FZ P w K mg base kk ta t):=by
 subst Y e2 Z e4 e5;intro J s B H Q I h;refine Kz<|IH (hf J s B H _ I h) λu s1 G=>?_;let{y,H1,I1,ry,f,fd,ps,sp,ey,F,hb,q1}:=G;subst ey;cases (show u=Value.ref f from ry);have hp:=IH (ha pos J s1 B H1 _ I1 q1) λus O ⟨vs,H2,U,r,⟨o,d,eo,ed⟩,q⟩=>({{o,d,(U.hok f _ eo).1,ed},lZ F hr hb .nil ar U r q}:(∃(o:Obj)(d:Lw),O.heap.get? f=some o/\o.data=Data.func d)/\Jd X (call (.ref f)<|[]++us) (EP X J B Q) X.xe O);rw[he]at hp⊢;refine callWith_of (P:=λh=>∃(o:Obj)(d:FuncData),h.get? f=some o/\o.data=Data.func d) (by show((false||(backTo pos<|starEach es X.env).any (·.1))||false)=false;rw[z];rfl) (λh q=>?_)<|Calls.evalArgs_plain hp;let{{oc,od,dt,sl},d,q1,q2}:=q;have q2:dt= .func d:=q2;subst q2;exact{.frame,.inl M,(Looks.ld (part:=none) q1).andThen .now}
end
structure C8(N ps:Lq)(sc:Scope):Prop where
 kind:sc.kind= .function
 co:sc.isCoroutine=false
 gen:sc.isGenerator=false
 nd:N.Nodup
 pre:N.take ps.length=ps
 par:∀x∈ps,sc.names.lookup x=some .local
 noc:∀y∈sc.names,y.2≠ .cell
def cxL(P:Ln)(w:Lp)(K:Jc)(mg:Lr)(base:Heap)(N:Lq)(qual:Str)(scope:Scope)(f:G')(cd:Lg)(cl:Mm)(A:Lv)(outer:Mb)(s:K')(H:Hp):Cx where
 prog:=P
 w:=w
 K:=K
 mg:=mg
 base:=base
 A:=A.deeper (envX qual scope s.heap.objs.size f cd cl)
 N:=N
 s₀:=s
 H₀:=H
 env:=envX qual scope s.heap.objs.size f cd cl
 outer:=outer
 stack:=envX qual scope s.heap.objs.size f cd cl::outer
 ex:=[]
 calm:=true
 fn:=λ_=>false
 pn:=[]
 xe:=λ_ _=>False
structure Jt(cl:Mm)(scope:Scope)(fr:Lq)(fv:Lf)(cs:Lm)(H:Hp):Prop where
 at_:∀b o,cs.lookup b=some o->H b=some (xo b o)
 all:∀x c,cl.lookup x=some c->∃o v,cs.lookup c=some o/\o.data= .cell v
 has:∀x,scope.names.lookup x=some .free->∃c,cl.lookup x=some c
 inj:∀x y c,cl.lookup x=some c->cl.lookup y=some c->x=y
 len:fv.length=fr.length
 val:∀(i:Nat) x v,fr[i]?=some x->fv[i]?=some v->scope.names.lookup x=some .free/\∃c o u,cl.lookup x=some c/\cs.lookup c=some o/\o.data= .cell (some u)/\RelV v u
def Jt.none(h:∀y∈scope.names,y.2≠ .free):Jt [] scope [] [] [] H:=
 {λ_ _ z=>(nomatch z),λ_ _ z=>(nomatch z),λx z=>Kh M<|h _<|PySem.mem_of_lookup z,λ_ _ _ z=>(nomatch z),M,λi x v z=>(by simp at z)}
def CU:∀{ps:Lq}{us:Lj}{i:Nat}{x:Str}{u:Lg},ps.Nodup->ps[i]?=some x->us[i]?=some u->(ps.zip us).reverse.lookup x=some u:=λ{ps us i x u} U h1 h2=>by
 have G:(x,u)∈(ps.zip us).reverse:=by
  rw[Zj];exact Q1 (i:=i)<|by rw[X9];exact⟨h1,h2⟩
 cases e:(ps.zip us).reverse.lookup x with
 |none=>
  rw[List.lookup_eq_none_iff]at e;exact Kh (e _ G)<|by simp
 |some v=>
  have z:=PySem.mem_of_lookup e;rw[Zj]at G z;let{j,I}:=List.getElem?_of_mem z;rw[X9]at I;let{W,O}:=I;have:=rp U h1 W;subst this;rw[h2]at O;exact O.symm
def Cp{mg:Lr}{k:Nat}{c':G'}{name:Str}{pm ct:Lg} 
  (S:C8 (ps++fr) ps scope) (len:∀vs H Q E,sp vs H Q E->vs.length=ps.length)
  (O:∀(A:Lv)(outer:Mb)(s:K')(H:Hp)(vs:Lf)(Q:VK)(E:XK),IK k (A.deeper<|envX qual scope s.heap.objs.size f (.ref c') cl)->sp vs H Q E->
   H f=some (xo f<|kla_obj name qual params body scope cl pm c' ct)/\H c'=some (i9 c' qual)/\∃cs Y,Jt cl scope fr Y cs H/\
    ∃t,PE (cxL P w K mg base (ps++fr) qual scope f (.ref c') cl A outer s<|hid cs H) body t/\t (vs.map some++Y.map some) (hid cs H) λv H'=>(∀b o,cs.lookup b=some o->H' b=none)->Q v (shw cs H')):
  C5 P w K mg base IL (k+1) f (kla_fn name qual params body scope cl pm (.ref c') ct) ps sp:=by
 refine{len,λA outer s H args us vs Q E hr e0 hb r Z=>?_};have hl:=len _ _ _ _ Z;let{hf,hc,cs,Y,C,t,ht,hq}:=O A outer s H vs Q E (hr.deeper _) Z;have of:s.heap.get? f=some _:=(e0.hok f _ hf).1;have oc:s.heap.CodeRec (.ref c') qual:=(e0.hok c' _ hc).1;have KX:K.In s.heap:=e0.mod.kin.keeps λb o e=>(e0.bs b o e).1;have a0:s.heap.NoLimit:=e0.mod.nolimit.keeps λb o e=>(e0.bs b o e).1;have a1:ps.Nodup:=by rw[<-S.pre];exact S.nd.sublist<|ZO _ _
 have ul:us.length=ps.length:=by rwa[<-r.length]
 have a2:∀b,H b=none->cs.lookup b=none:=λb n=>by
  cases q:cs.lookup b with
  |none=>rfl
  |some o=>rw[C.at_ b o q]at n;cases n
 refine kla_callFunE hr.depth of M S.co S.gen M oc ?_;refine hb _ _ _ _ ?_;refine wpAny_newFunctionEnv S.noc (λy hy=>S.par y.1 (Xj hy).1) (λh1 a3 a4=>?_) S.kind;have hk:∀b o,s.heap.get? b=some o->h1.get? b=some o:=λb o e=>a4.extBut b o (Qy<|Kl e) (Kg _ e);refine{a0.keeps hk,?_};show codeAny _ _ (.expr body<|envX qual scope s.heap.objs.size f (.ref c') cl) _ _;have U:∀b:Addr,b∉(cxL P w K mg base (ps++fr) qual scope f (.ref c') cl A outer s<|hid cs H).ex:=λb z=>Kh (show b∈([]:Lu) from z) (by simp);have cellOf:∀x c,cl.lookup x=some c->∃o v,cs.lookup c=some o/\o.data= .cell v/\h1.get? c=some o:=λx c e=>by
  let{o,v,W,e2}:=C.all x c e;exact{o,v,W,e2,hk _ _ (e0.hok c _<|C.at_ c o W).1}
 have I:Inv (cxL P w K mg base (ps++fr) qual scope f (.ref c') cl A outer s<|hid cs H) [] (vs.map some++Y.map some) (hid cs H) {s with heap:=h1,toks:=s.toks+(ps.zip us).length}:=by
  refine{{e0.mod,S.kind,M,M,Q5 _,C.inj,λy hy=>?_,λy c hy _=>(nomatch (show false=true from hy)),λ_=>hr.hd,Around.frames_deeper e0.frames,.inr ⟨M,M⟩,λb z=>Kh z<|U b,λb o e=>{(e0.bs b o e).1,io (e0.bs b o e).2},e0.bsz,λb _ _=>U b,λb z=>Kh z<|U b,e0.funs,λb hb=>io<|e0.frf b hb},
   rfl,e0.bare,Un.kept hk,{_,a3,λi y v h1 h2 h3=>?_},λy c e=>?_,io<|e0.hok.fresh<|Q5 _,λy c e=>?_,λp hp=>Kh (show p∈([]:Lm) from hp) (by simp),(e0.hok.hid C.at_).kept hk,?_}
  .have hy:scope.names.lookup y=some .cell\/scope.names.lookup y=some .free:=hy;rcases hy with hy|hy
   .exact Kh M<|S.noc _ (PySem.mem_of_lookup hy)
   .exact C.has y hy
  .have h1:(ps++fr)[i]?=some y:=h1;by_cases hi:i<ps.length
   .rw[QY hi]at h1;rw[QY (by rwa[Q0,hl]),Ql]at h2;let{v',W,e2}:=QI.mp h2;cases e2;let{u,hu,rv}:=r.get W;exact{u,rv,.inl {S.par y<|Q1 h1,CU a1 h1 hu}}
   .have hi:=XT hi;rw[QT hi]at h1;rw[QT (by rwa[Q0,hl]),Ql,Q0,hl]at h2;let{v',W,e2}:=QI.mp h2;cases e2;let{k1,c,o,u,z1,z2,z3,z4}:=C.val _ y v h1 W;refine{u,z4,.inr {.inr k1,c,z1,o,?_,z3}};exact hk _ _ (e0.hok c _<|C.at_ c o z2).1
  .let{o,v,z1,z2,z3}:=cellOf y c e;exact⟨v,o,z3,z2⟩
  .let{o,v,z1,z2,z3}:=cellOf y c e;exact vO z1
  .show(vs.map some++Y.map some).length=(ps++fr).length;rw[Q8,Q0,Q0,Q8,hl,C.len]
 refine kla_codeExpr<|KB (ht [] _ _ (hid cs H) _ I hq) (λu s' hs=>?_) λe s' hs=>hs.elim;let{v,H',Ja,rv,q}:=hs;have un:=Ja.base;have hok:=Ja.hok;have un:Un (Jy outer) [] (hid cs H) H' s.heap s'.heap:=un;have gone:∀c o,cs.lookup c=some o->H' c=none/\s'.heap.get? c=some o:=λc o e=>by
  have g:=(e0.hok c _<|C.at_ c o e).1;have nf:c∉Jy outer:=λz=>by have:=e0.frf c z;rw[C.at_ c o e]at this;cases this
  exact{un.free c o g (vO e) (by simp),un.keep c o g (vO e) nf<|by simp}
 have up:∀b u,H' b=some u->cs.lookup b=none:=λb u e=>by
  cases z:cs.lookup b with
  |none=>rfl
  |some o=>rw[(gone b o z).1]at e;cases e
 have G:∀b u,H b=some u->(∀φ,u≠ .ext φ)->cs.lookup b=none:=λb u e n=>y4 C.at_ e n;refine{v,shw cs H',Ja.os,Ja.bare,{λb o e n hb hx=>un.keep b o e (io n) hb hx,λb o e n hb hx=>un.slot b o e (io n) hb hx,λb o e n hx=>by rw[bL (a2 b n)];exact un.free b o e (io n) hx,un.there,
  λb xs e=>?_,λb o u e=>?_,λb qs e=>?_},hok.shw gone,rv,q λb o e=>(gone b o e).1}
 .have n:=G b _ e λ_ z=>nomatch z
  rw[bL n];exact un.tups b xs<|by rwa[dD n]
 .have n:=G b _ e λ_ z=>nomatch z
  rw[bL n];exact un.frzs b o u<|by rwa[dD n]
 .have n:=G b _ e λ_ z=>nomatch z
  rw[bL n];exact un.tbls b qs<|by rwa[dD n]
def C6(Pt:G')(ps:Md)(H:Hp):Prop:=H Pt=some (.tbl ps)/\∀b,b≠Pt->H b=none\/∃o xs,H b=some (.frz o<|.lst xs)
def Au{mg mb:Lr}{k:Nat}{fa a:G'}{ps:Md}{s₁:K'}{vs:Lj}{ns:Lh}
  (KX:K.In s₁.heap) (Z:s₁.heap.Ns mainGlobals mg) (hb:s₁.heap.Ns builtinsNs mb) (a4:∀x:Str,x≠o5->mb x=bootBuiltins x) (a0:s₁.heap.NoLimit) (hg:s₁.gens= #[])
  (a5:K.lookup Pt=none) (I:s₁.heap.get? Pt=some (tabObj ps)) (a6:isCodeTable s₁.heap Pt)
  (ha:s₁.heap.get? a=some {cls:= .type ke,data:= .seq vs.toArray}) (hi:IntsAre vs ns) (hl:ns.length<=sizeLine) (hr:IK k callerA)
  (F:∀base:Heap,K.In base->base.Ns mainGlobals mg->C5 P w K mg base IL k fa fd [x] sp) (Y:∀(s:K')(u:Lg),BindsTo s fd {[u],[]} [(x,u)])
  (a9:∀H:Hp,C6 Pt ps H->Dv K H a (ns.map V.int)->sp [.ref a] H (λv _=>v= .bl true) E0):
  codeAny (model P w) callerA (.call (.ref fa) {[.ref a],[]}) (λr s'=>r= .ok (.ret<|.bool true)/\OldK s₁.heap s'.heap/\s'.os=s₁.os/\AllBare s'.gens) s₁:=by
 have rv:=zO hi;have a1:=hi.length;have a2:a≠Pt:=λz=>by rw[z,I]at ha;cases ha
 have U:∀H:Hp,C6 Pt ps H->Dv K H a (ns.map V.int)->Iz P w H s₁.heap->(∀b,b≠Pt->H b≠none->b=a)->(H a≠none->K.lookup a=none)->
   codeAny (model P w) callerA (.call (.ref fa) {[.ref a],[]}) (λr s'=>r= .ok (.ret<|.bool true)/\OldK s₁.heap s'.heap/\s'.os=s₁.os/\AllBare s'.gens) s₁:=by
  intro H hO hS hok hA hK;have G:∀{b:G'}{o:Obj},s₁.heap.get? b=some o->H b=none->(vP s₁.heap H).get? b=some o:=λe n=>Cw e n;have ab:∀{b:G'}{o:Obj}{es:Array DictEntry}{ep:Nat},s₁.heap.get? b=some o->o.data= .dict es ep->H b=none:=λ{b o es ep} e d=>by
   by_cases hb:b=Pt
   .rw[hb,I]at e;cases e;exact(nomatch (show Data.fields ps=Data.dict es ep from d))
   cases q:H b with
   |none=>rfl
   |some u=>
    have e':b=a:=hA b hb (by rw[q];simp);subst e';rw[ha]at e;cases e;have d':Data.seq vs.toArray _=Data.dict es ep:=d;cases d'
  have O:∀{b:G'}{m:Lr},s₁.heap.Ns b m->(vP s₁.heap H).Ns b m:=λ{b m} ⟨o,es,ep,e,d,r⟩=>{o,es,ep,G e<|ab e d,d,r};have a3:K.In (vP s₁.heap H):=λb o e=>G (KX b o e) (by
   by_cases hb:b=Pt
   .rw[hb,a5]at e;cases e
   cases q:H b with
   |none=>rfl
   |some u=>
    have e':b=a:=hA b hb (by rw[q];simp);subst e';rw[hK (by rw[q];simp)]at e;cases e)
  have hM:Mod K mg (vP s₁.heap H):={a3,O Z,{mb,O hb,a4},let⟨mc,h1,h2⟩:=a0;{mc,O h1,h2}};have e0:Jz P w K mg (vP s₁.heap H) callerA [] s₁ H:={M,hM,λb o e=>Ef e,Z2<|AC _ _,trivial,λb hb=>Kh (show b∈([]:Lu) from hb) (by simp),hok,.of_eq hg};refine codeAny_mono ((F _ a3<|O Z).run callerA [] s₁ H {[.ref a],[]} [.ref a] [.ref a] _ _ hr e0 (Y s₁<|.ref a) (.cons M .nil)<|a9 H hO hS) λr s' h=>?_;cases r with
  |error e=>exact False.elim h
  |ok fl=>
   cases fl with
   |next=>exact False.elim h
   |brk=>exact False.elim h
   |cont=>exact False.elim h
   |ret u=>
    let{v,H',os,bare,un,W,r',q}:=h;have q':v= .bl true:=q;subst q';obtain rfl:u=Value.bool true:=r';refine{M,{λb o e=>?_,λb o e=>un.there b o e<|by simp},os,bare};by_cases hb:b=Pt
    .subst hb;rw[I]at e;cases e;let{more,e2}:=un.tbls b ps hO.1;exact .inr<|.inl {a6,M,ps,more,M,W b _ e2}
    refine .inl ?_;cases q:H b with
    |none=>exact un.keep b o e q (by intro z;exact Kh (show b∈([]:Lu) from z)<|by simp)<|by simp
    |some u=>
     rcases hO.2 b hb with z|⟨ob,xs,z⟩
     .rw[q]at z;cases z
     .have z2:=un.frzs b ob _ z;let{e1,_}:=hok b _ z;let{e2,_}:=W b _ z2;rw[e]at e1;cases e1;exact e2
 cases hk:K.lookup a with
 |some o=>
  have e:=KX a o hk;rw[ha]at e;cases e;have nn:∀{b u},(if b=Pt then some (HO.tbl ps)else none)=some u->b=Pt/\u= .tbl ps:=λ{b u} z=>by
   by_cases hb:b=Pt
   .rw[Kd hb]at z;cases z;exact⟨hb,M⟩
   .rw[Kc hb]at z;cases z
  refine U (λb=>if b=Pt then some (.tbl ps)else none) {Kd M,λb hb=> .inl<|Kc hb} (.inr {_,vs.toArray,_,hk,M,M,M,by rwa[Qi,a1],by simpa using rv}) (λb u z=>?_) (λb hb z=>Kh (Kc hb) z) λz=>Kh (Kc a2) z;let{rfl,rfl}:=nn z;exact I
 |none=>
  refine U (λb=>if b=Pt then some (.tbl ps)else if b=a then some (.frz {cls:= .type ke,data:= .seq vs.toArray} (.lst<|ns.map V.int))else none) {Kd M,λb hb=>?_} (.inl<|.inr {{cls:= .type ke,data:= .seq vs.toArray},(Kc a2).trans<|Kd M}) (λb u z=>?_) (λb hb z=>?_) λ_=>hk
  .by_cases hc:b=a
   .exact .inr {_,_,(Kc hb).trans<|Kd hc}
   .exact .inl<|(Kc hb).trans (Kc hc)
  .by_cases hb:b=Pt
   .have z':=(Kd hb).symm.trans z;cases z';subst hb;exact I
   by_cases hc:b=a
   .have z':=((Kc hb).trans<|Kd hc).symm.trans z;cases z';subst hc;exact{ha,by rwa[Q0],vs,_,rv,ha}
   .have z':=((Kc hb).trans<|Kc hc).symm.trans z;cases z'
  .by_cases hc:b=a
   .exact hc
   .exact Kh ((Kc hb).trans<|Kc hc) z
def walk_ofT{l:PySem.W.OpenLaw}{k:Nat}{q:Ln}{loose:Lq}{XP:(Str->Option Value)->Heap->Prop}{d:DefRec}{K:Params->Jc}{sp:World->Sp}{ps:Md}
  (hn:l.most=some n) (Z:n<=sizeLine) (a0:d.params.defaults=[]) (hr:IK k callerA)
  (hY:∀(w:World)(h:Heap),YP w h->(K w.params).In h/\h.get? Pt=some (tabObj ps)/\isCodeTable h Pt) (a1:∀w:World,(K w.params).lookup Pt=none)
  (F:∀(w:Lp)(mg:Lr)(U:G')(h:Heap),(K w.params).In h->h.Ns mainGlobals mg->mg d.name=some (.ref U)->
   ∃fd:FuncData,(∀(s:K')(u:Lg),BindsTo s fd {[u],[]} [(x,u)])/\
    ∀base:Heap,(K w.params).In base->base.Ns mainGlobals mg->C5 l.prog w (K w.params) mg base IL k U fd [x] (sp w))
  (a2:∀(w:Lp)(H:Hp)(a:G')(ns:Lh),ns.length<=n->C6 Pt ps H->Dv (K w.params) H a (ns.map V.int)->sp w [.ref a] H (λv _=>v= .bl true) E0):
  PySem.W.WalkO q loose XP YP l.row.toRowW d [] (λf vs=>PySem.call f vs):=by
 refine Att.attach_call hn a0 λw s₀ s₁ mg mb U o pm cd a6 a vs ns G Y ho hd a9 a3 O I z hg=>?_;let{KX,a4,a5}:=hY w _ Y;let{fd,hb,hF}:=F w mg U _ KX G.T.g a3;exact Au KX G.T.g G.T.b G.T.builtins G.T.nolimit hg (a1 w) a4 a5 O I (Qu z Z) hr hF hb λH hO hS=>a2 w H a ns z hO hS
structure LamK(K:Jc)(mg:Lr)(fd:Lw)(P:G'):Prop where
 ex:∃c,fd.code= .ref c/\zM K c P
 blt:BltK K mg P
def vB{P:G'}(z:defaultsOf params X.env=([],[]))(G:wk X scope fr)(L:LamK X.K X.mg fd P)(e:fd.code=X.env.code):
  PE X (.Lambda params body scope pos) (tLam X params body scope pos P fr):=by
 let{c,I,O}:=L.ex;exact Gm z G (e.symm.trans I) O L.blt
def IV.okm{mg:Lr}{N:Lq}{k:Nat}(F:IV K x qual st f fd)(S:ao N ps (ai st))
  (G:∀(z:Lg)(A:Lv)(outer:Mb)(s:K')(H:Hp)(vs:Lf)(Q:VK)(E:XK),IK k (A.deeper<|envOfC qual (ai st) s.heap.objs.size f z)->sp vs H Q E->
   N.Nodup->fd.code=z->let X:=(vT IL P w K mg base N qual (ai st) f z A outer s H E).nox
   ∃t,JL X (bZ st) t/\t {nx:=λ_ H'=>Q .non H',rt:=Q} (start N vs) H)
  (len:∀vs H Q E,sp vs H Q E->vs.length=ps.length:=by intro _ _ _ _ h;repeat (first|(let{rfl,_}:=h;exact M)|let{_,h}:=h)):C5 P w K mg base IL (k+1) f fd ps sp:=by
 let{oc,od,kV,U,pm,an,z,ct,W,rfl,Y,I}:=F.ex;refine CH Y I S len λA outer s H vs Q E Z O=>?_;let{t,h,q}:=G z A outer s H vs Q E Z O S.nd M;exact⟨t,h.nox,q⟩
def g2m{α:Type}(m:α):List α->List α->List α
 | [a,b],[c]=> [a,b,m,c]
 |_,_=> []
def HQ{s:Str}{T:G'}{z:Md}{Y:Lz}{Z:Mp}{m:Lg}{mv:V}(rm:RelV mv m)(O:ps.length=4)(F:EO K x qual st T f fd)(hT:K.lookup T=some {.type u6,Y,.seq z n,Z})
  (h:∀(kV G pm:Lg)(U:Lz)(I ct a b c:Lg),∃k,bindArgs (fnOf x qual (dY st) (bZ st) (ai st) (.ref T) kV G pm U I ct) {[a,b],[(s,c)]}=seqItems? (.ref T)>>=k/\k (some z)=pure (ps.zip [a,b,m,c])):we K fd ps [s] (g2m m) (g2m mv):=by
 let{kV,G,pm,U,I,ct,rfl}:=F.ex;refine{λsh us W X hl=>?_,λ{vs us zs W} r rz=>?_}
 .rw[O]at hl
  match us,W,hl with
  | [a,b],[c],_=>
   let{k,h1,h2}:=h kV G pm U I ct a b c;exact BindsTo.of_defaults M (X _ _ hT) M h1 h2
 .match vs,us,zs,W,r,rz with
  |_,_,_,_,.nil,_=>exact .nil
  |_,_,_,_,.cons _ .nil,_=>exact .nil
  |_,_,_,_,.cons _ (.cons _<|.cons _ _),_=>exact .nil
  |_,_,_,_,.cons _ (.cons _ .nil),.nil=>exact .nil
  |_,_,_,_,.cons _ (.cons _ .nil),.cons _ (.cons _ _)=>exact .nil
  |_,_,_,_,.cons a (.cons b .nil),.cons c .nil=>exact .cons a<|.cons b (.cons rm<|.cons c .nil)
def kT_of{K:Params->Jc}(Y:PySem.W.Frag.In ((Pt,tabObj #[])::K w.params) h)(n:(K w.params).lookup Pt=none)(hc:zM (K w.params) c Pt):(K w.params).In h/\h.get? Pt=some (tabObj #[])/\isCodeTable h Pt:=by
 have G:(K w.params).In h:=λa o e=>Y a o (by
  show List.lookup a ((Pt,tabObj #[])::K w.params)=some o;rw[QX];by_cases z:a=Pt
  .rw[z,n]at e;cases e
  .rwa[Kn.mpr z])
 refine{G,Y Pt _ (by show List.lookup Pt ((Pt,tabObj #[])::K w.params)=_;rw[ZC]),?_};let{o,vs,_,_,_,_,_,_,_,I,e2,O,U,_}:=hc h G;exact⟨c,o,vs,I,e2,O,U⟩
end L2
namespace L2
open PySem PySem.Spec PyProof.Rows
variable{D:Addr->Sp->Prop}{X:Cx}{o:HO}{H:Hp}{kk:Nat}
def jT{x y:V}{A Jb:Prop}(e:x=y)(h:A):if decide (x=y)=true then A else Jb:=by
 rw[Km e];exact cK h
def ak{p:G'}(h:H p=none):IA H (upd H p o):=λb u e=>by
 rwa[ac (aj e h)]
def LF(P:Int->Prop):List V->Prop
 | []=>True
 | .int m::r=>P m/\LF P r
 |_::_=>False
theorem LF.ints{P:Int->Prop}:∀{L:Lf},LF P L->∃ns:List Int,L=ns.map V.int/\∀m∈ns,P m
 | [],_=>{[],M,λ_ z=>nomatch z}
 | .int m::r,h=>by
  let{ns,e,q}:=LF.ints h.2;refine{m::ns,by rw[e];rfl,λx hx=>?_};rcases Q7.mp hx with rfl|hx
  .exact h.1
  .exact q x hx
def uj{P:Int->Prop}{L:Lf}{c n:Int}(h:LF P L)(G:(L.length:Int)=n)(hp:0<n):∃m,L4 L (c%n)=some (.int m)/\P m:=by
 let{ns,e,q}:=h.ints;subst e;have a:=Qf c (QW hp);have b:=Qe c hp;rw[Q0]at G;have z:(c%n).toNat<ns.length:=();refine{_,rV a (),q _ ?_};rw[Qm,Q3 z];exact Zk z
def bJ{H':Hp}{l:G'}(s:IA H H')(n:H l=none):IA H (upd H' l o):=λb u e=>by
 rw[ac (aj e n)];exact s b u e
def Cq{K:Jc}{C D:G'}{b:Bool}(h1:PySem.W.typeIn K (.ref D)=some (.type "type"))(h2:PySem.W.isClsIn K D=true)(I:PySem.W.subIn K (.ref C) (.ref D)=some b)(G:C=D->b=true):
  PySem.W.kitOne K (.ref C) (.ref D)=some b:=by
 unfold PySem.W.kitOne;by_cases z:((Value.ref C:Lg)== .ref D)=true
 .rw[Kd z,G (Value.ref.inj<|Kp.mp z)]
 .rw[Kc z];show(if((PySem.W.clsIn K D).isSome&&PySem.W.typeIn K (.ref D)==some (.type "type"))=true then PySem.W.subIn K (.ref C) (.ref D)else none)=some b;have:(PySem.W.clsIn K D).isSome=true:=h2;rw[Kd (by rw[this,h1];simp),I]
def Ik(_ j:Int):Prop:=0<j/\j.natAbs.log2<9000
def wN:JU X (binaryOp .FloorDiv) (rI Ik λi j=> .int<|i/j):=opI λi j _ _ _ _ _ hc q=>by
 have h1:(0:Int)<j:=hc.1;exact floordiv_int () (by rw[K5 i ()];exact q)<|.inl (PyProof.noPylong_of_log2 hc.2)
def IK.u20{k:Nat}{A:Lv}(r:IK k A):A.units+20<cLine:=by have:=r.un;lia
section
variable{k:Nat}{f C:G'}{fd:Lw}{ps:Lq}{sp:Sp}{dvs:Lf}{ds:Lj}{E:XK}{x m:Str}{p pos apos:Pos}{e o:Expr}{es:Mh}{ta:TE}{t:TA}
def AX(X:Cx)(kk:Nat)(m:Str)(C:G')(sp:Sp):Prop:=Jk X.K C/\∃f fd ps,bM X.K C m f/\C5 X.prog X.w X.K X.mg X.base IL kk f fd ps sp/\Binds X.K fd ps []
def D1(C:G')(sp:Sp):Addr->Sp->Prop:=λC' sp'=>C'=C/\sp'=sp
def DOr(D D':Addr->Sp->Prop):Addr->Sp->Prop:=λC sp=>D C sp\/D' C sp
def jW(c:Jk X.K C)(G:bM X.K C m f)(F:C5 X.prog X.w X.K X.mg X.base IL k f fd ps sp)(hb:Binds X.K fd ps [])(hk:k<=kk):∀z sp',D1 C sp z sp'->AX X kk m z sp':=λz sp' h=>by
 let{rfl,rfl}:=h;exact{c,f,fd,ps,G,F.mono hk,hb}
def vS{G:Addr->Sp->Prop}(h:∀C sp,D C sp->AX X kk m C sp)(h':∀C sp,G C sp->AX X kk m C sp):∀C sp,DOr D G C sp->AX X kk m C sp:=λC sp z=>z.elim (h C sp) (h' C sp)
inductive DN(D:Addr->Sp->Prop)(m:Str)(t:TA)(B:St)(Q:VK)(x:V)(H1:Hp):Prop
 |mk(a C dx fs sp:_)(_:x= .ref a)(_:H1 a=some (.ins C dx fs))(_:fs.lookup m=none)(_:D C sp)(_:t B H1 λvs H2=>sp (x::vs) H2 Q E0)
def Bq(D:Addr->Sp->Prop)(m:Str)(ta:TE)(t:TA):TE:=λB H Q=>ta B H λx H1=>DN D m t B Q x H1
def BK{pl:Sem Bool}(hD:∀C sp,D C sp->AX X kk m C sp)(Z:IK kk X.A)(he:PE X o ta)(ha:PA X (e::es) t)
  (z:starEach (e::es) X.env=(false,eval e X.env)::starEach es X.env:=by rfl) (G:(backTo pos<|starEach es X.env).any (·.1)=false:=by rfl)
  (ht:eval (.Call (.Attribute o m apos) (e::es) [] pos) X.env=(do
   let ov<-eval o X.env
   standAt apos.atName
   let(f,first)<-holding [ov] (getMethod ov m pl)
   callWith pos f first (backTo pos<|starEach (e::es) X.env) (backToKw pos<|keywordEach [] X.env)):=by rfl):
  PE X (.Call (.Attribute o m apos) (e::es) [] pos) (Bq D m ta t):=by
 intro J s B H Q I h;refine ZB (pl:=pl) (IH (he J s B H _ I h) λu s1 O=>?_) ht;let{x,H1,U,rx,a,C,dx,fs,sp,ex,ea,l,d,q}:=O;subst ex;obtain rfl:u=Value.ref a:=rx;let{c,f,fd,ps,W,F,hb}:=hD C sp d;refine iT U ea c W l ?_;refine Zy (first:=[.ref a]) (h₀:=X.base) I.ok.mod.kin W.kp (IH (ha pos J s1 B H1 _ U q) λus s2 zz=>?_) z G;let{vs,H2,Y,r,q2}:=zz;refine{Y.kIn,?_};exact lZ (us:= .ref a::us) (vs:= .ref a::vs) (dvs:=[]) F Z hb .nil ar Y (.cons M r)<|by rwa[ZL]
def Ae{pl:Sem Bool}(hD:∀C sp,D C sp->AX X kk m C sp)(U:IK kk X.A)(he:PE X o ta)
  (W:eval (.Call (.Attribute o m apos) [] [] pos) X.env=(do
   let ov<-eval o X.env
   standAt apos.atName
   let(f,first)<-holding [ov] (getMethod ov m pl)
   callWith pos f first (backTo pos<|starEach [] X.env) (backToKw pos<|keywordEach [] X.env)):=by rfl):
  PE X (.Call (.Attribute o m apos) [] [] pos) (Bq D m ta Bp):=by
 intro J s B H Q I h;refine ZB (pl:=pl) (IH (he J s B H _ I h) λu s1 z=>?_) W;let{x,H1,G,Y,a,C,dx,fs,sp,ex,Z,l,d,q}:=z;subst ex;obtain rfl:u=Value.ref a:=Y;let{c,f,fd,ps,O,F,hb}:=hD C sp d;refine iT G Z c O l ?_;refine Xy (first:=[.ref a]) G.kIn O.kp ?_;exact lZ (us:=[.ref a]) (vs:=[.ref a]) (dvs:=[]) F U hb .nil ar G (.cons M .nil) q
end
end L2
namespace Srt
open PySem PyProof.Rows
abbrev _root_.Lk:=Array Keyed
abbrev _root_.Lx:=Keyed->Keyed->Bool
variable{xs ys:Lk}{blt:Lx}{e hi i j lo n nrem:Nat}{st:SortSt}{γ:Type}{Q:Unit->SortSt->Prop}{E:Ls}
abbrev dk:Keyed:=(Value.none,Value.none)
noncomputable def g(xs:Lk)(i:Nat):Keyed:=xs[i]?.getD dk
theorem cV(h:i<xs.size):xs[i]?=some (g xs i):=by
 unfold g;rw[getElem?_pos xs i h];rfl
theorem ni(h:xs[i]?=ys[j]?):g xs i=g ys j:=by unfold g;rw[h]
theorem uA(h:i<xs.size):g xs i∈xs:=by
 have e:=cV h;exact Array.mem_of_getElem? e
structure Jr(blt:Lx):Prop where
 asym:∀x y,blt x y=true->blt y x=false
 tr:∀x y z,blt y x=false->blt z y=false->blt z x=false
section
variable(C:Jr blt)
abbrev le(blt:Lx)(x y:Keyed):Prop:=blt y x=false
include C
theorem Jr.trans{x y z:Keyed}(h1:le blt x y)(h2:le blt y z):le blt x z:=C.tr x y z h1 h2
theorem Jr.of_lt{x y:Keyed}(h:blt x y=true):le blt x y:=C.asym _ _ h
end
def On(blt:Lx)(xs:Lk)(lo hi:Nat):Prop:=∀i j,lo<=i->i<j->j<hi->le blt (g xs i) (g xs j)
def Off(blt:Lx)(xs:Lk)(lo hi:Nat):Prop:=∀i j,lo<=i->i<j->j<hi->le blt (g xs j) (g xs i)
theorem On.one:On blt xs lo (lo+1):=λi j h1 h2 z=>by lia
theorem Off.one:Off blt xs lo (lo+1):=λi j h1 h2 z=>by lia
theorem On.congr(h:On blt xs lo hi)(e:∀k,lo<=k->k<hi->g ys k=g xs k):On blt ys lo hi:=λi j h1 h2 z=>by
 rw[e i h1 (),e j () z];exact h i j h1 h2 z
theorem On.sub{z hi':Nat}(h:On blt xs lo hi)(h1:lo<=z)(h2:hi'<=hi):On blt xs z hi':=λi j a b c=>h i j () b ()
section
variable(C:Jr blt)
include C
theorem On.snoc(h:On blt xs lo (lo+n))(G:1<=n)(e:le blt (g xs<|lo+n-1) (g xs<|lo+n)):On blt xs lo (lo+(n+1)):=λi j h1 h2 I=>by
 by_cases z:j<lo+n
 .exact h i j h1 h2 z
 .have ej:j=lo+n:=();subst ej;by_cases y:i=lo+n-1
  .subst y;exact e
  .exact C.trans (h i (lo+n-1) h1 () ()) e
theorem Off.snoc(h:Off blt xs lo (lo+n))(G:1<=n)(e:le blt (g xs<|lo+n) (g xs<|lo+n-1)):Off blt xs lo (lo+(n+1)):=λi j h1 h2 I=>by
 by_cases z:j<lo+n
 .exact h i j h1 h2 z
 .have ej:j=lo+n:=();subst ej;by_cases y:i=lo+n-1
  .subst y;exact e
  .exact C.trans e<|h i (lo+n-1) h1 () ()
end
theorem CD(z:j<=xs.size)(k:Nat):g (mirror xs i j<|(j-i)/2) k=if i<=k/\k<j then g xs (i+j-1-k)else g xs k:=by
 have e:=getElem?_mirror_all (i:=i) z k;by_cases h1:i<=k/\k<j
 .rw[Kd h1]at e⊢;exact ni e
 .rw[Kc h1]at e⊢;exact ni e
theorem CF{src d:Nat}(hs:src<xs.size)(hd:d<=src)(k:Nat):g (bubble xs src d) k=if k=src-d then g xs src else if src-d<k/\k<=src then g xs (k-1)else g xs k:=by
 have e:=getElem?_bubble hs d hd k;by_cases h1:k=src-d
 .rw[Kd h1]at e⊢;exact ni e
 .rw[Kc h1]at e⊢;by_cases h2:src-d<k/\k<=src
  .rw[Kd h2]at e⊢;exact ni e
  .rw[Kc h2]at e⊢;exact ni e
section
variable{prog:Ln}{w:Lp}{A:Lv}{s:K'}{a₀:Lk}{κ:SortKind}
def wc(prog:Ln)(w:Lp)(A:Lv)(E:Ls)(s:K')(a₀:Lk)(κ:SortKind)(blt:Lx):Prop:=
 ∀(x y:Keyed)(st:SortSt)(Q:Option Bool->SortSt->Prop),x∈a₀->y∈a₀->kindOf st=κ->Q (some<|blt x y) st->wpS (model prog w) A E s (lt' x y) Q st
structure IQ(a₀:Lk)(κ:SortKind)(st:SortSt):Prop where
 kind:kindOf st=κ
 fine:failedOf st=none
 perm:(arrOf st).Perm a₀
theorem IQ.size(Jb:IQ a₀ κ st):(arrOf st).size=a₀.size:=Jb.perm.size_eq
theorem IQ.mem(Jb:IQ a₀ κ st)(h:i<a₀.size):g (arrOf st) i∈a₀:=(Jb.perm.mem_iff).mp (uA<|by rwa[Jb.size])
variable(L:wc prog w A E s a₀ κ blt)
include L
theorem mI{Q:Option Bool->SortSt->Prop}(Jb:IQ a₀ κ st)(hi:i<a₀.size)(z:j<a₀.size)(h:Q (some<|blt (g (arrOf st) i)<|g (arrOf st) j) st):
  wpS (model prog w) A E s (ltAt' i j) Q st:=by
 rw[ltAt'_eq];refine Ke<|KO ?_;show wpS _ _ _ _ (do let x<-elem' (arrOf st) i;let y<-elem' (arrOf st) j;lt' x y) Q st;rw[elem'_eq,elem'_eq,cV (by rwa[Jb.size]),cV (by rwa[Jb.size])];refine Ke<|Ki (Ke<|Ki ?_);exact L _ _ st Q (Jb.mem hi) (Jb.mem z) Jb.kind h
omit L in
theorem Bh{α:Type}{m m':StateT SortSt Sem α}{Q:α->SortSt->Prop}(e:m=m')(h:wpS (model prog w) A E s m' Q st):wpS (model prog w) A E s m Q st:=by rwa[e]
abbrev Jg(lo:Nat)(xs ys:Lk):Prop:=∀k,k<lo->g ys k=g xs k
theorem fh(Jb:IQ a₀ κ st)(z:j<=a₀.size)
  (h:∀st',IQ a₀ κ st'->pendingOf st'=pendingOf st->(∀k,g (arrOf st') k=if i<=k/\k<j then g (arrOf st) (i+j-1-k)else g (arrOf st) k)->Q Unit.unit st'):
  wpS (model prog w) A E s (reverseSlice' i j) Q st:=by
 rw[reverseSlice'_eq];refine KF<|h _ {Jb.kind,Jb.fine,(mirror_perm _ _ _ _).trans Jb.perm} M λk=>?_;exact CD (by rwa[Jb.size]) k
theorem Bg{a:Nat}{f:Nat->Option γ×Nat->StateT SortSt Sem (ForInStep<|Option γ×Nat)}{Q:Option γ×Nat->SortSt->Prop}(C:Jr blt)(Jb:IQ a₀ κ st)(ha:1<=a)(G:a<=nrem)(hz:lo+nrem<=a₀.size)(hs:On blt (arrOf st) lo (lo+a))
  (hf:∀(i n:Nat)(R:ForInStep (Option γ×Nat)->SortSt->Prop),n<nrem->1<=n->(blt (g (arrOf st)<|lo+n) (g (arrOf st)<|lo+n-1)=true->R (.done (none,n)) st)->(blt (g (arrOf st)<|lo+n) (g (arrOf st)<|lo+n-1)=false->R (.yield (none,n+1)) st)->wpS (model prog w) A E s (f i (none,n)) R st)
  (h:∀n,a<=n->n<=nrem->On blt (arrOf st) lo (lo+n)->(n<nrem->blt (g (arrOf st)<|lo+n) (g (arrOf st)<|lo+n-1)=true)->Q (none,n) st):
  wpS (model prog w) A E s (forIn [a:nrem] (none,a) f) Q st:=by
 refine Kv (I:=λi c st'=>st'=st/\c=(none,i)/\a<=i/\i<=nrem/\On blt (arrOf st) lo (lo+i)) ?_ ?_ {M,M,Q5 _,G,hs}
 .rintro i c st' h1 h2 ⟨rfl,rfl,U,W,O⟩;refine hf i i _ h2 () (λe=>?_)<|λe=>?_
  .exact h i U W O λ_=>e
  .exact{M,M,(),(),O.snoc C () e}
 .rintro c st' ⟨rfl,rfl,U,W,O⟩;have e:max a nrem=nrem:=QO G;rw[e]at O⊢;exact h nrem G (Q5 _) O λz=>Kh z (Zr _)
omit L in
theorem oz{b:Nat}(hb:lo<=b)(h:Off blt xs lo e)(o:On blt xs b e)(hy:∀k,g ys k=if b<=k/\k<e then g xs (b+e-1-k)else g xs k):Off blt ys lo e:=λi j h1 h2 z=>by
 rw[hy i,hy j];by_cases jb:b<=j
 .rw[Kd ⟨jb,z⟩];by_cases G:b<=i
  .rw[Kd {G,()}];exact o _ _ () () ()
  .rw[Kc ()];exact h _ _ h1 () ()
 .rw[Kc (),Kc ()];exact h i j h1 h2 z
omit L in
theorem Gs(h:Off blt xs lo e)(hy:∀k,g ys k=if lo<=k/\k<e then g xs (lo+e-1-k)else g xs k):On blt ys lo e:=λi j h1 h2 z=>by
 rw[hy i,hy j,Kd {h1,()},Kd {(),z}];exact h _ _ () () ()
omit L in
theorem Ee(h:On blt xs lo e)(hy:∀k,g ys k=if lo<=k/\k<e then g xs (lo+e-1-k)else g xs k):Off blt ys lo e:=λi j h1 h2 z=>by
 rw[hy i,hy j,Kd (show lo<=j/\j<e by lia),Kd (show lo<=i/\i<e by lia)];exact h _ _ () () ()
noncomputable def C4(lo:Nat):Nat->Option (Option Nat)×Nat->StateT SortSt Sem (ForInStep<|Option (Option Nat)×Nat):=λ_ __s=>do
 let __x<-ltAt' (lo+__s.snd) (lo+__s.snd-1)
 match __x with
 |some smaller=>if smaller=true then pure (ForInStep.done (none,__s.snd))else pure (ForInStep.yield (none,__s.snd+1))
 |_=>pure (ForInStep.done (some none,__s.snd))
def uc(lo n nrem:Nat):StateT SortSt Sem (Option Nat):=do
 reverseSlice' lo (lo+n)
 let __s<-forIn [n:nrem] (none,n) (C4 lo)
 match __s.fst with
 |some r=>pure r
 |none=>pure (some __s.snd)
noncomputable def zr(lo:Nat):Nat->Option (Option Nat)×Nat×Nat->StateT SortSt Sem (ForInStep<|Option (Option Nat)×Nat×Nat):=λ_ __s=>do
 let __x<-ltAt' (lo+__s.snd.fst) (lo+__s.snd.fst-1)
 match __x with
 |some smaller=>
  if smaller=true then
   if __s.snd.snd>0 then do
    reverseSlice' (lo+__s.snd.fst-(__s.snd.snd+1)) (lo+__s.snd.fst)
    pure (ForInStep.yield (none,__s.snd.fst+1,0))
   else pure (ForInStep.yield (none,__s.snd.fst+1,0))
  else do
   let __x<-ltAt' (lo+__s.snd.fst-1) (lo+__s.snd.fst)
   match __x with
   |some larger=>
    if larger=true then pure (ForInStep.done (none,__s.snd.fst,__s.snd.snd))
    else pure (ForInStep.yield (none,__s.snd.fst+1,__s.snd.snd+1))
   |_=>pure (ForInStep.done (some none,__s.snd.fst,__s.snd.snd))
 |_=>pure (ForInStep.done (some none,__s.snd.fst,__s.snd.snd))
def uI(lo n nrem:Nat):StateT SortSt Sem (Option Nat):=do
 liftM (rule "list.sort.descending-run")
 let __s<-forIn [n+1:nrem] (none,n+1,0) (zr lo)
 match __s.fst with
 |some r=>pure r
 |none=>
  if __s.snd.snd>0 then do
   reverseSlice' (lo+__s.snd.fst-(__s.snd.snd+1)) (lo+__s.snd.fst)
   uc lo __s.snd.fst nrem
  else uc lo __s.snd.fst nrem
theorem yP{R:ForInStep (Option (Option Nat)×Nat)->SortSt->Prop}(Jb:IQ a₀ κ st)(hz:lo+nrem<=a₀.size)(G:n<nrem)(h1:1<=n)
  (z:blt (g (arrOf st)<|lo+n) (g (arrOf st)<|lo+n-1)=true->R (.done (none,n)) st) (hf:blt (g (arrOf st)<|lo+n) (g (arrOf st)<|lo+n-1)=false->R (.yield (none,n+1)) st):wpS (model prog w) A E s (C4 lo i (none,n)) R st:=by
 unfold C4;refine Ke<|mI L Jb (by dsimp only;lia) (by dsimp only;lia) ?_;dsimp only;cases e:blt (g (arrOf st)<|lo+n) (g (arrOf st)<|lo+n-1)with
 |true=>exact Ki<|z e
 |false=>exact Ki<|hf e
theorem mH{Q:Option Nat->SortSt->Prop}(C:Jr blt)(Jb:IQ a₀ κ st)(h1:1<=n)(z:n<=nrem)(hz:lo+nrem<=a₀.size)(I:Off blt (arrOf st) lo (lo+n))
  (h:∀m st',IQ a₀ κ st'->pendingOf st'=pendingOf st->1<=m->m<=nrem->On blt (arrOf st') lo (lo+m)->Jg lo (arrOf st) (arrOf st')->Q (some m) st'):wpS (model prog w) A E s (uc lo n nrem) Q st:=by
 unfold uc;refine Ke<|fh L Jb () λst' G hp hy=>?_;refine Ke<|Bg L C G h1 z hz (Gs I hy) (λi n R z h1 O hf=>yP L G (i:=i) hz z h1 O hf) (λm ha U hs _=>?_);exact Ki<|h m st' G hp () U hs λk hk=>by rw[hy k,Kc ()]
theorem wq{Q:Option Nat->SortSt->Prop}(C:Jr blt)(Jb:IQ a₀ κ st)(h1:1<=n)(hn:n+1<=nrem)(hz:lo+nrem<=a₀.size)(ho:Off blt (arrOf st) lo (lo+(n+1)))
  (h:∀m st',IQ a₀ κ st'->pendingOf st'=pendingOf st->1<=m->m<=nrem->On blt (arrOf st') lo (lo+m)->Jg lo (arrOf st) (arrOf st')->Q (some m) st'):wpS (model prog w) A E s (uI lo n nrem) Q st:=by
 unfold uI;refine Ke<|wpS_lift (KP {M,?_});refine Ke (Kv (I:=λi c st'=>∃q,c=(none,i,q)/\IQ a₀ κ st'/\pendingOf st'=pendingOf st/\Jg lo (arrOf st) (arrOf st')/\n+1<=i/\i<=nrem/\q+1<=i/\Off blt (arrOf st') lo (lo+i)/\On blt (arrOf st') (lo+i-(q+1)) (lo+i)) ?_ ?_
  {0,M,Jb,M,λ_ _=>M,Q5 _,hn,(),ho,λi j a b c=>()})
 .rintro i c st' a2 a3 ⟨q,rfl,Z,hp,hk,h2,h3,h4,O,on⟩;unfold zr;refine Ke<|mI L Z (by dsimp only;lia) (by dsimp only;lia) ?_;dsimp only;cases e:blt (g (arrOf st')<|lo+i) (g (arrOf st')<|lo+i-1)with
  |true=>
   by_cases q0:q>0
   .rw[Kd M,Kd q0];refine Ke<|fh L Z () λst2 B2 Y hy=>?_;refine Ki {0,M,B2,Y.trans hp,λk G=>by rw[hy k,Kc ()];exact hk k G,(),(),(),?_,λi j a b c=>()};refine(oz () O on hy).snoc C () ?_;rw[hy,hy,Kc (),Kd ()];have z:lo+i-(q+1)+(lo+i)-1-(lo+i-1)=lo+i-(q+1):=();rw[z];exact C.trans (C.of_lt e)<|O _ _ () () ()
   .rw[Kd M,Kc q0];exact Ki {0,M,Z,hp,hk,(),(),(),O.snoc C ()<|C.of_lt e,λi j a b c=>()}
  |false=>
   simp only[Zm,if_false];refine Ke<|mI L Z () () ?_;dsimp only;cases e2:blt (g (arrOf st')<|lo+i-1) (g (arrOf st')<|lo+i)with
   |true=>
    simp only[if_true];refine Ki ?_;dsimp only;by_cases q0:q>0
    .rw[Kd q0];refine Ke<|fh L Z () λst2 B2 Y hy=>?_;refine mH L C B2 () h3 hz (oz () O on hy) λm U B3 W a b c d=>h m U B3 (W.trans<|Y.trans hp) a b c λk G=>?_;rw[d k G,hy k,Kc ()];exact hk k G
    .rw[Kc q0];exact mH L C Z () h3 hz O λm U B3 W a b c d=>h m U B3 (W.trans hp) a b c λk G=>(d k G).trans (hk k G)
   |false=>
    simp only[Zm,if_false];refine Ki {q+1,M,Z,hp,hk,(),(),(),O.snoc C () e2,?_};have z:lo+(i+1)-(q+1+1)=lo+i-(q+1):=();rw[z];intro x y hx hy a4;by_cases a0:y<lo+i
    .exact on x y hx hy a0
    .have ey:y=lo+i:=();subst ey;by_cases a1:x=lo+i-1
     .subst a1;exact e
     .exact C.trans (on x (lo+i-1) hx () ()) e
 .rintro c st' ⟨q,rfl,Z,hp,hk,h2,h3,h4,O,on⟩;have em:max (n+1) nrem=nrem:=QO hn;rw[em]at h3 h4 O on⊢;dsimp only;by_cases q0:q>0
  .rw[Kd q0];refine Ke<|fh L Z () λst2 B2 Y hy=>?_;refine mH L C B2 () h3 hz (oz () O on hy) λm U B3 W a b c d=>h m U B3 (W.trans<|Y.trans hp) a b c λk G=>?_;rw[d k G,hy k,Kc ()];exact hk k G
  .rw[Kc q0];exact mH L C Z () h3 hz O λm U B3 W a b c d=>h m U B3 (W.trans hp) a b c λk G=>(d k G).trans (hk k G)
theorem Bf{Q:Option Nat->SortSt->Prop}(C:Jr blt)(Jb:IQ a₀ κ st)(h1:1<=nrem)(hz:lo+nrem<=a₀.size)
  (h:∀n st',IQ a₀ κ st'->pendingOf st'=pendingOf st->1<=n->n<=nrem->On blt (arrOf st') lo (lo+n)->Jg lo (arrOf st) (arrOf st')->Q (some n) st'):wpS (model prog w) A E s (countRun' lo nrem) Q st:=by
 rw[countRun'_eq];dsimp only;refine Ke<|Bg L C Jb (Q5 1) h1 hz On.one (λi n R U h1 ht hf=>yP L Jb (i:=i) hz U h1 ht hf) (λn ha U hs W=>?_);dsimp only;by_cases en:n=nrem
 .subst en;simp only[KH,if_true];exact Ki<|h n st Jb M ha U hs λ_ _=>M
 .have eb:(n==nrem)=false:=Kn.mpr en;simp only[eb,Zm,if_false];have G:=W ();by_cases n1:n>1
  .rw[Kd n1];refine Ke<|mI L Jb () () ?_;dsimp only;cases e:blt (g (arrOf st) lo) (g (arrOf st)<|lo+n-1)with
   |true=>
    simp only[if_true];exact Ki<|h n st Jb M ha U hs λ_ _=>M
   |false=>
    simp only[Zm,if_false];refine Ke<|fh L Jb () λst2 B2 Y hy=>?_;have Z:Off blt (arrOf st2) lo (lo+(n+1)):=by
     refine(Ee hs hy).snoc C ha ?_;rw[hy,hy,Kc (),Kd ()];have z:lo+(lo+n)-1-(lo+n-1)=lo:=();rw[z];exact C.trans (C.of_lt G) e
    refine Bh (m':=uI lo n nrem) (by
      unfold uI uc C4 zr;congr 1;funext _u;congr 1;funext s2;let{O,n2,q2}:=s2;cases O with
      |some O=>rfl
      |none=>
       dsimp only;split
       .congr 1;funext _v;congr 1;funext _w;congr 1;funext s3;let{I,n3}:=s3;cases I<;>rfl
       .congr 1;funext _w;congr 1;funext s3;let{I,n3}:=s3;cases I<;>rfl)<|wq L C B2 ha () hz Z λm a0 B3 a1 a b c d=>h m a0 B3 (a1.trans Y) a b c λk hk=>by rw[d k hk,hy k,Kc ()]
  .rw[Kc n1];have e1:n=1:=();subst e1;refine Bh (m':=uI lo 1 nrem) (by
      unfold uI uc C4 zr;congr 1;funext _u;congr 1;funext s2;let{O,n2,q2}:=s2;cases O with
      |some O=>rfl
      |none=>
       dsimp only;split
       .congr 1;funext _v;congr 1;funext _w;congr 1;funext s3;let{I,n3}:=s3;cases I<;>rfl
       .congr 1;funext _w;congr 1;funext s3;let{I,n3}:=s3;cases I<;>rfl) (wq L C Jb ha () hz (Off.one.snoc C (Q5 1)<|C.of_lt G) h)
omit L in
theorem yO{k l:Nat}(Jb:IQ a₀ κ st)(hk:k<a₀.size)(hl:l<=k)
  (h:∀st',IQ a₀ κ st'->pendingOf st'=pendingOf st->(∀j,g (arrOf st') j=if j=l then g (arrOf st) k else if l<j/\j<=k then g (arrOf st) (j-1)else g (arrOf st) j)->Q Unit.unit st'):
  wpS (model prog w) A E s (moveDown' k l) Q st:=by
 rw[moveDown'_eq];refine KF<|h _ {Jb.kind,Jb.fine,(bubble_perm _ _ _).trans Jb.perm} M λj=>?_;have e:=CF (xs:=arrOf st) (src:=k) (d:=k-l) (by rwa[Jb.size]) () j;have z:k-(k-l)=l:=();rw[z]at e;exact e
theorem zN{ok:Nat}{Q:Bool->SortSt->Prop}(C:Jr blt)(Jb:IQ a₀ κ st)(h1:1<=ok)(hok:ok<=n)(hz:lo+n<=a₀.size)(hs:On blt (arrOf st) lo (lo+ok))
  (h:∀st',IQ a₀ κ st'->pendingOf st'=pendingOf st->On blt (arrOf st') lo (lo+n)->Jg lo (arrOf st) (arrOf st')->Q true st'):wpS (model prog w) A E s (binarySort' lo n ok) Q st:=by
 rw[binarySort'_eq];dsimp only;have em:max ok 1=ok:=Nat.max_eq_left h1;rw[em];refine Ke (Kv (I:=λi c st'=>c=(none,Unit.unit)/\IQ a₀ κ st'/\pendingOf st'=pendingOf st/\Jg lo (arrOf st) (arrOf st')/\ok<=i/\i<=n/\On blt (arrOf st') lo (lo+i)) ?_ ?_
  {M,Jb,M,λ_ _=>M,Q5 _,hok,hs})
 .rintro k c st' a6 a9 ⟨rfl,W,hp,hk,h2,h3,G⟩;refine Ke (Kv (I:=λi c st2=>st2=st'/\∃l r,c=(none,l,r)/\l<=r/\r<=k/\r-l<=k-i/\(∀j,j<l->le blt (g (arrOf st')<|lo+j) (g (arrOf st')<|lo+k))/\(∀j,r<=j->j<k->le blt (g (arrOf st')<|lo+k) (g (arrOf st')<|lo+j))) ?_ ?_
   {M,0,k,M,Qh _,Q5 _,Q5 _,λj hj=>Kh hj<|XZ _,λj a b=>()})
  .rintro i c st2 ab am ⟨rfl,l,r,rfl,a0,a3,hm,z,above⟩;dsimp only;by_cases Y:l>=r
   .rw[Kd Y];refine Ki ?_;dsimp only;have a4:l=r:=();refine Ke<|yO W () () λa5 B3 O hy=>Ki {M,B3,O.trans hp,λq hq=>?_,(),(),?_}
    .rw[hy q,Kc (),Kc ()];exact hk q hq
    .intro a b ha U hb;rw[hy a,hy b];by_cases Z:b=lo+l
     .rw[Kd Z,Kc (),Kc ()];have:=z (a-lo) ();rwa [show lo+(a-lo)=a by lia]at this
     .rw[Kc Z];by_cases b2:lo+l<b/\b<=lo+k
      .rw[Kd b2];by_cases a1:a=lo+l
       .rw[Kd a1];have:=above (b-1-lo) () ();rwa [show lo+(b-1-lo)=b-1 by lia]at this
       .rw[Kc a1];by_cases a2:lo+l<a/\a<=lo+k
        .rw[Kd a2];exact G _ _ () () ()
        .rw[Kc a2];exact G _ _ () () ()
      .rw[Kc b2,Kc (),Kc ()];exact G _ _ ha U ()
   .rw[Kc Y];refine Ke<|mI L W () () ?_;dsimp only;cases e:blt (g (arrOf st2)<|lo+k) (g (arrOf st2)<|lo+(l+r)/2)with
    |true=>
     rw[Kd M];refine Ki {M,l,(l+r)/2,M,(),(),(),z,λj a b=>?_};by_cases ej:j=(l+r)/2
     .subst ej;exact C.of_lt e
     .exact C.trans (C.of_lt e)<|G _ _ () () ()
    |false=>
     rw[Kc (_)];refine Ki {M,(l+r)/2+1,r,M,(),(),(),λj a=>?_,above};by_cases ej:j=(l+r)/2
     .subst ej;exact e
     .exact C.trans (G _ _ () () ()) e
  .rintro c st2 ⟨rfl,l,r,rfl,a0,a3,hm,z,above⟩;have ek:max 0 k=k:=QO (Qh _);rw[ek]at hm;have a4:l=r:=();dsimp only;refine Ke<|yO W () () λa5 B3 O hy=>Ki {M,B3,O.trans hp,λq hq=>?_,(),(),?_}
   .rw[hy q,Kc (),Kc ()];exact hk q hq
   .intro a b ha U hb;rw[hy a,hy b];by_cases Z:b=lo+l
    .rw[Kd Z,Kc (),Kc ()];have:=z (a-lo) ();rwa [show lo+(a-lo)=a by lia]at this
    .rw[Kc Z];by_cases b2:lo+l<b/\b<=lo+k
     .rw[Kd b2];by_cases a1:a=lo+l
      .rw[Kd a1];have:=above (b-1-lo) () ();rwa [show lo+(b-1-lo)=b-1 by lia]at this
      .rw[Kc a1];by_cases a2:lo+l<a/\a<=lo+k
       .rw[Kd a2];exact G _ _ () () ()
       .rw[Kc a2];exact G _ _ () () ()
     .rw[Kc b2,Kc (),Kc ()];exact G _ _ ha U ()
 .rintro c st' ⟨rfl,W,hp,hk,h2,h3,G⟩;have e:max ok n=n:=QO hok;rw[e]at G;exact Ki (h st' W hp G hk)
noncomputable def Ez:Bool->Keyed->Array Keyed->Nat->Nat->Nat->StateT SortSt Sem (Option Nat):=sortPriv%PySem.Builtin.gallop
omit L in
theorem tX{f:Nat->Option γ×Nat×Nat->StateT SortSt Sem (ForInStep<|Option γ×Nat×Nat)}{Q:Option γ×Nat×Nat->SortSt->Prop}(G:Nat->Bool)(mono:∀i j,i<=j->j<n->G j=true->G i=true)
  (hf:∀(i lo hi:Nat)(R:ForInStep (Option γ×Nat×Nat)->SortSt->Prop),hi<=n->(lo>=hi->R (.done (none,lo,hi)) st)->(lo<hi->G (lo+(hi-lo)/2)=true->R (.yield (none,lo+(hi-lo)/2+1,hi)) st)->(lo<hi->G (lo+(hi-lo)/2)=false->R (.yield (none,lo,lo+(hi-lo)/2)) st)->wpS (model prog w) A E s (f i (none,lo,hi)) R st)
  (h1:lo<=hi) (h2:hi<=n) (Z:∀i,i<lo->G i=true) (hF:∀i,hi<=i->i<n->G i=false)
  (h:∀k,k<=n->(∀i,i<k->G i=true)->(∀i,k<=i->i<n->G i=false)->Q (none,k,k) st):wpS (model prog w) A E s (forIn [0:n] (none,lo,hi) f) Q st:=by
 refine Kv (I:=λi c st'=>st'=st/\∃lo hi,c=(none,lo,hi)/\lo<=hi/\hi<=n/\hi-lo<=n-i/\(∀i,i<lo->G i=true)/\(∀i,hi<=i->i<n->G i=false)) ?_ ?_
  {M,lo,hi,M,h1,h2,(),Z,hF}
 .rintro i c st' a0 a1 ⟨rfl,lo,hi,rfl,g1,O,Y,U,W⟩;refine hf i lo hi _ O (λz=>?_) (λz e=>?_)<|λz e=>?_
  .have e:lo=hi:=();subst e;exact h lo O U W
  .exact{M,_,_,M,(),O,(),λj hj=>mono j _ () () e,W}
  .refine{M,_,_,M,(),(),(),U,λj a b=>?_};cases q:G j with
   |false=>rfl
   |true=>rw[mono _ j a b q]at e;cases e
 .rintro c st' ⟨rfl,lo,hi,rfl,g1,O,Y,U,W⟩;have em:max 0 n=n:=QO (Qh _);rw[em]at Y;have e:lo=hi:=();subst e;exact h lo O U W
theorem e7{left:Bool}{key:Keyed}{arr:Lk}{base hint:Nat}{Q:Option Nat->SortSt->Prop}(hK:kindOf st=κ)(hk:key∈a₀)(ha:∀i,i<n->base+i<arr.size/\g arr (base+i)∈a₀)(hh:hint<n)
  (U:Nat->Bool) (a0:∀i,i<n->U i=if left=true then blt (g arr<|base+i) key else !blt key (g arr<|base+i)) (mono:∀i j,i<=j->j<n->U j=true->U i=true)
  (h:∀k,k<=n->(∀i,i<k->U i=true)->(∀i,k<=i->i<n->U i=false)->Q (some k) st):wpS (model prog w) A E s (Ez left key arr base n hint) Q st:=by
 have Z:∀(i:Nat)(R:Option Bool->SortSt->Prop),i<n->R (some<|U i) st->wpS (model prog w) A E s (elem' arr (base+i)>>=λx=>if left=true then lt' x key else lt' key x>>=λr=>pure<|r.map λx=>!x) R st:=by
  intro i R hi q;let{h1,h2}:=ha i hi;rw[elem'_eq,cV h1];refine Ke<|Ki ?_;have e:=a0 i hi;cases left with
  |true=>
   rw[Kd M]at e⊢;exact L _ _ st R h2 hk hK<|by rw[<-e];exact q
  |false=>
   rw[Kc (_)]at e⊢;refine Ke<|L _ _ st _ hk h2 hK (Ki ?_);show R (some<|!blt key (g arr<|base+i)) st;rw[<-e];exact q
 refine Ke ?_;dsimp only;refine Z hint _ hh ?_;dsimp only;cases e0:U hint with
 |true=>
  rw[Kd M];refine Ke (KM (Kv (I:=λi c st'=>st'=st/\∃O G,c=(none,O,G)/\O<G/\i+1<=G/\hint+O<n/\U (hint+O)=true)
   (Q:=λc st'=>st'=st/\∃O G,c=(none,O,G)/\O<G/\hint+O<n/\U (hint+O)=true/\(n-hint<=G\/(hint+G<n/\U (hint+G)=false))) ?_ ?_ {M,0,1,M,(),(),(),e0}) ?_)
  .rintro i c st' a6 a9 ⟨rfl,O,G,rfl,a1,a2,Y,W⟩;dsimp only;by_cases z:G>=n-hint
   .rw[Kd z];exact Ki {M,O,G,M,a1,Y,W,.inl z}
   .rw[Kc z];refine Ke<|Z (hint+G) _ () ?_;dsimp only;cases e:U (hint+G)with
    |false=>
     rw[Kd (_)];exact Ki {M,O,G,M,a1,Y,W,.inr {(),e}}
    |true=>
     rw[Kc (_)];exact Ki {M,G,2*G+1,M,(),(),(),e}
  .rintro c st' ⟨rfl,O,G,rfl,a1,a2,Y,W⟩;have em:max 0 n=n:=QO (Qh _);rw[em]at a2;exact{M,O,G,M,a1,Y,W,.inl ()}
  .rintro c st' ⟨rfl,O,G,rfl,a1,Y,W,a5⟩;dsimp only;refine Ke<|tX U mono (λi lo hi R hn c1 c2 c3=>?_) () () (λi hi=>mono i (hint+O) () Y W) (λi h1 h2=>?_) λk h1 h2 h3=>?_
   .dsimp only;by_cases z:lo>=hi
    .rw[Kd z];exact Ki<|c1 z
    .rw[Kc z];refine Ke<|Z _ _ () ?_;dsimp only;cases e:U (lo+(hi-lo)/2)with
     |true=>rw[Kd M];exact Ki<|c2 () e
     |false=>rw[Kc (_)];exact Ki<|c3 () e
   .rcases a5 with z|⟨z1,z2⟩
    .lia
    .cases q:U i with
     |false=>rfl
     |true=>rw[mono (hint+G) i () h2 q]at z2;cases z2
   .exact Ki<|h k h1 h2 h3
 |false=>
  rw[Kc (_)];refine Ke (KM (Kv (I:=λi c st'=>st'=st/\∃O G,c=(none,O,G)/\O<G/\i+1<=G/\O<=hint/\U (hint-O)=false)
   (Q:=λc st'=>st'=st/\∃O G,c=(none,O,G)/\O<G/\O<=hint/\U (hint-O)=false/\(hint+1<=G\/(G<=hint/\U (hint-G)=true))) ?_ ?_ {M,0,1,M,(),(),(),e0}) ?_)
  .rintro i c st' a6 a9 ⟨rfl,O,G,rfl,a1,a2,Y,W⟩;dsimp only;by_cases z:G>=hint+1
   .rw[Kd z];exact Ki {M,O,G,M,a1,Y,W,.inl z}
   .rw[Kc z];refine Ke<|Z (hint-G) _ () ?_;dsimp only;cases e:U (hint-G)with
    |true=>
     rw[Kd M];exact Ki {M,O,G,M,a1,Y,W,.inr {(),e}}
    |false=>
     rw[Kc (_)];exact Ki {M,G,2*G+1,M,(),(),(),e}
  .rintro c st' ⟨rfl,O,G,rfl,a1,a2,Y,W⟩;have em:max 0 n=n:=QO (Qh _);rw[em]at a2;exact{M,O,G,M,a1,Y,W,.inl ()}
  .rintro c st' ⟨rfl,O,G,rfl,a1,Y,W,a5⟩;dsimp only;refine Ke<|tX U mono (λi lo hi R hn c1 c2 c3=>?_) () () (λi hi=>?_) (λi h1 h2=>?_) λk h1 h2 h3=>?_
   .dsimp only;by_cases z:lo>=hi
    .rw[Kd z];exact Ki<|c1 z
    .rw[Kc z];refine Ke<|Z _ _ () ?_;dsimp only;cases e:U (lo+(hi-lo)/2)with
     |true=>rw[Kd M];exact Ki<|c2 () e
     |false=>rw[Kc (_)];exact Ki<|c3 () e
   .rcases a5 with z|⟨z1,z2⟩
    .lia
    .exact mono i (hint-G) () () z2
   .cases q:U i with
    |false=>rfl
    |true=>rw[mono (hint-O) i () h2 q]at W;cases W
   .exact Ki<|h k h1 h2 h3
end
abbrev _root_.Mf:=List Keyed
variable{A:Lv}{a₀:Lk}{x:Keyed}{blt:Lx}{R:Keyed->SortSt->Prop}{all o ra rb:Mf}{i n:Nat}{prog:Ln}{Jb:Prop}{s:K'}{κ:SortKind}{st:SortSt}{r:Std.Legacy.Range}{α β:Type}{Q:Unit->SortSt->Prop}{E:Ls}{w:Lp}
noncomputable def Ca:Array Keyed->Array Keyed->StateT SortSt Sem (Array Keyed):=sortPriv%PySem.Builtin.mergeLo
noncomputable def Cb:Array Keyed->Array Keyed->StateT SortSt Sem (Array Keyed):=sortPriv%PySem.Builtin.mergeHi
abbrev PW(blt:Lx)(l:Mf):Prop:=l.Pairwise (le blt)
structure Lo(blt:Lx)(all o ra rb:Mf):Prop where
 perm:(o++(ra++rb)).Perm all
 srt:PW blt o
 low:∀x∈o,∀y∈ra++rb,le blt x y
theorem Lo.a{G:Mf}(h:Lo blt all o (G++ra) rb)(hs:PW blt (G++ra))(hc:∀x∈G,∀y∈rb,le blt x y):Lo blt all (o++G) ra rb where
 perm:=by
  refine KD ?_ h.perm;rw[Qp,Qp]
 srt:=Qk.mpr {h.srt,(Qk.mp hs).1,λx hx y hy=>h.low x hx y<|by simp[hy]}
 low:=λx hx y hy=>by
  rcases Q4.mp hx with q|q
  .exact h.low x q y<|by rcases Q4.mp hy with z|z<;>simp[z]
  .rcases Q4.mp hy with z|z
   .exact(Qk.mp hs).2.2 x q y z
   .exact hc x q y z
theorem Lo.b{cb:Mf}(h:Lo blt all o ra (cb++rb))(hs:PW blt (cb++rb))(hc:∀x∈cb,∀y∈ra,le blt x y):Lo blt all (o++cb) ra rb where
 perm:=by
  refine KD ?_ h.perm;rw[Qp];refine KJ o ?_;rw[<-Qp,<-Qp];exact KC rb ZV
 srt:=Qk.mpr {h.srt,(Qk.mp hs).1,λx hx y hy=>h.low x hx y<|by simp[hy]}
 low:=λx hx y hy=>by
  rcases Q4.mp hx with q|q
  .exact h.low x q y<|by rcases Q4.mp hy with z|z<;>simp[z]
  .rcases Q4.mp hy with z|z
   .exact hc x q y z
   .exact(Qk.mp hs).2.2 x q y z
theorem Lo.endA(h:Lo blt all o ra [])(hs:PW blt ra):(o++ra).Perm all/\PW blt (o++ra):=
 {by simpa using h.perm,Qk.mpr {h.srt,hs,λx hx y hy=>h.low x hx y<|by simp[hy]}}
theorem Lo.endB{z:Keyed}(h:Lo blt all o [z] rb)(hs:PW blt rb)(hz:∀x∈rb,le blt x z):(o++(rb++ [z])).Perm all/\PW blt (o++(rb++ [z])):=by
 refine{KD (KJ o ZV) h.perm,Qk.mpr {h.srt,Qk.mpr {hs,Zf _ _,λx hx y hy=>?_},λx hx y hy=>h.low x hx y ?_}}
 .rw[Qa.mp hy];exact hz x hx
 .rcases Q4.mp hy with q|q<;>simp_all
theorem rP{a:Lk}(h:i<a.size):a.toList.drop i=g a i::a.toList.drop (i+1):=by
 have e:=cV h;rw[<-Qz]at e;let{h1,h2}:=Q2.mp e;rw[Z7 h1,h2]
theorem iR{a:Lk}(h:x∈a.toList.drop i):∃j,i<=j/\j<a.size/\x=g a j:=by
 let{k,hk,e}:=ZZ.mp h;rw[QL]at hk;have hs:i+k<a.size:=by rw[<-Qb];lia
 refine{i+k,(),hs,?_};have e2:=cV hs;rw[<-Qz]at e2;rw[ZR]at e;rw[Q3 (by rwa[Qb])]at e2;rw[<-e];exact Kf e2
theorem fG{a:Lk}(h:On blt a 0 a.size)(i:Nat):PW blt (a.toList.drop i):=by
 refine Z8.mpr λj k G hk I=>?_;rw[QL,Qb]at G hk;have z:=cV (xs:=a) (i:=i+j) ();have e2:=cV (xs:=a) (i:=i+k) ();rw[<-Qz,Q3 (by rw[Qb];lia)]at z e2;rw[ZR,ZR,Kf z,Kf e2];exact h _ _ (Qh _) () ()
theorem BU{a:Lk}(h:PW blt a.toList):On blt a 0 a.size:=λi j _ z I=>by
 have G:=cV (xs:=a) (i:=i) ();have e2:=cV (xs:=a) (i:=j) I;rw[<-Qz,Q3 (by rw[Qb];lia)]at G e2;rw[<-Kf G,<-Kf e2];exact Z8.mp h i j _ _ z
theorem nE(a:Lk)(i k:Nat):(a.extract i<|i+k).toList=(a.toList.drop i).take k:=by
 rw[Zc,QZ];congr 1;lia
theorem fc(a:Lk)(i:Nat):(a.extract i).toList=a.toList.drop i:=by
 rw[Zc,QZ,QC];rw[QL,Qb];exact Q5 _
theorem Cc{a:Lk}{k:Nat}(h:x∈(a.toList.drop i).take k):∃j,j<k/\x=g a (i+j):=by
 let{j,z,e}:=ZZ.mp h;rw[Qd,QL,Qb]at z;refine{j,(),?_};have e2:=cV (xs:=a) (i:=i+j) ();rw[<-Qz,Q3 (by rw[Qb];lia)]at e2;rw[ZS,ZR]at e;rw[<-e];exact Kf e2
theorem xi(l:Mf)(i k:Nat):l.drop i=(l.drop i).take k++l.drop (i+k):=by
 rw[<-K7,QJ]
theorem zh{P H:α->Prop}(body:(∀x,H x->P x)->Jb)(last:∀x,H x->P x):Jb:=body last
theorem m4{P H:α->β->Prop}(body:(∀x y,H x y->P x y)->Jb)(last:∀x y,H x y->P x y):Jb:=body last
structure Iu(st st':SortSt):Prop where
 kind:kindOf st'=kindOf st
 arr:arrOf st'=arrOf st
 pend:pendingOf st'=pendingOf st
 fail:failedOf st'=failedOf st
theorem Iu.refl(st:SortSt):Iu st st:=⟨M,M,M,M⟩
section
theorem bi{arr:Lk}(h:i<arr.size)(q:R (g arr i) st):wpS (model prog w) A E s (elem' arr i) R st:=by
 rw[elem'_eq,cV h];exact Ki q
noncomputable def x6:Nat->StateT SortSt Sem Unit:=sortPriv%PySem.Builtin.setMinGallop
theorem Be{m:Nat}(h:∀st',Iu st st'->Q Unit.unit st'):wpS (model prog w) A E s (x6 m) Q st:=KF (h _ ⟨M,M,M,M⟩)
theorem nmK{m:StateT SortSt Sem α}{k:α->StateT SortSt Sem β}{Q:β->SortSt->Prop}(h:let k':=k;wpS (model prog w) A E s (m>>=k') Q st):wpS (model prog w) A E s (m>>=k) Q st:=h
theorem nmF{γ:Type}{c:β}{f:Nat->β->StateT SortSt Sem (ForInStep β)}{k:β->StateT SortSt Sem γ}{Q:γ->SortSt->Prop}(h:let z:=f;let k':=k;wpS (model prog w) A E s (forIn r c z>>=k') Q st):wpS (model prog w) A E s (forIn r c f>>=k) Q st:=h
inductive MQ{δ:Type}(Q:Array Keyed->Prop)(I:Option (Array Keyed)×δ->Prop):Option (Array Keyed)×δ->Prop
 |ret{res x}(q:Q res):MQ Q I (some res,x)
 |go{c}(h:I c):MQ Q I c
inductive Lb(blt:Lx)(a b:Lk){τ:Type}(n:Nat):Option (Array Keyed)×Array Keyed×Nat×Nat×τ->Prop
 |mk{out ia ib x}(ha:ia+1<a.size)(hb:ib<b.size)(hn:n<=ia+ib)(lo:Lo blt (a.toList++b.toList) out.toList (a.toList.drop ia) (b.toList.drop ib)):Lb blt a b n (none,out,ia,ib,x)
theorem Iu.trans{st' st2:SortSt}(h:Iu st st')(k:Iu st' st2):Iu st st2:={k.kind.trans h.kind,k.arr.trans h.arr,k.pend.trans h.pend,k.fail.trans h.fail}
theorem B8{a:Lk}(C:Jr blt)(G:On blt a 0 a.size)(ka:Nat)(x:Keyed)(i j:Nat)(h1:i<=j)(h2:ka+j<a.size)(z:(!blt x (g a<|ka+j))=true):(!blt x (g a<|ka+i))=true:=by
 have z:blt x (g a<|ka+j)=false:=by simpa using z
 by_cases e:i=j
 .subst e;simpa using z
 .have:=C.trans (G (ka+i) (ka+j) (Qh _) () h2) z;simpa using this
theorem B7{b:Lk}(C:Jr blt)(ob:On blt b 0 b.size)(G:Nat)(x:Keyed)(i j:Nat)(h1:i<=j)(h2:G+j<b.size)(I:blt (g b<|G+j) x=true):blt (g b<|G+i) x=true:=by
 by_cases e:i=j
 .subst e;exact I
 .have q:=ob (G+i) (G+j) (Qh _) () h2;cases z:blt (g b<|G+i) x with
  |true=>rfl
  |false=>
   have f:blt (g b<|G+j) x=false:=C.trans z q;rw[I]at f;cases f
variable(L:wc prog w A E s a₀ κ blt)
include L
theorem xM{a b:Lk}{Q:Array Keyed->SortSt->Prop}(C:Jr blt)(hK:kindOf st=κ)(hm:∀x,x∈a.toList++b.toList->x∈a₀)(oa:On blt a 0 a.size)(ob:On blt b 0 b.size)(ha:0<a.size)(hb:0<b.size)
  (a5:blt (g b 0) (g a 0)=true) (an:∀j,j<b.size->blt (g b j) (g a<|a.size-1)=true)
  (h:∀res st',Iu st st'->res.toList.Perm (a.toList++b.toList)->PW blt res.toList->Q res st'):wpS (model prog w) A E s (Ca a b) Q st:=by
 have ma:∀i,i<a.size->g a i∈a₀:=λi hi=>hm _ (by have:=uA hi;simp[this]);have mb:∀i,i<b.size->g b i∈a₀:=λi hi=>hm _ (by have:=uA hi;simp[this]);have ap:∀(o:Mf)(G:Nat)(st':SortSt)(res:Lk),Iu st st'->Lo blt (a.toList++b.toList) o (a.toList.drop G) []->res.toList=o++a.toList.drop G->Q res st':=λo G st' res lk lo e=>by
  let{p1,p2}:=lo.endA (fG oa G);exact h res st' lk (by rwa[e])<|by rwa[e]
 have ax:∀(o:Mf)(O:Nat)(st':SortSt)(res:Lk),Iu st st'->Lo blt (a.toList++b.toList) o (a.toList.drop<|a.size-1) (b.toList.drop O)->res.toList=o++(b.toList.drop O++a.toList.drop (a.size-1))->Q res st':=λo O st' res lk lo e=>by
  have ez:a.toList.drop (a.size-1)=[g a (a.size-1)]:=by
   rw[rP (),Zi (by rw[Qb];lia)]
  rw[ez]at lo e;let{p1,p2}:=lo.endB (fG ob O) (λx hx=>by
   let{j,_,hj,rfl}:=iR hx;exact C.of_lt<|an j hj)
  exact h res st' lk (by rwa[e])<|by rwa[e]
 have a6:∀(out:Lk)(G O k:Nat),Lo blt (a.toList++b.toList) out.toList (a.toList.drop G) (b.toList.drop O)->(∀i,i<k->blt (g b O) (g a<|G+i)=false)->
   Lo blt (a.toList++b.toList) (out++a.extract G (G+k)).toList (a.toList.drop<|G+k) (b.toList.drop O):=λout G O k lo hk=>by
  rw[QG,nE];have pa:=fG oa G;rw[xi a.toList G k]at lo pa;refine lo.a pa λx hx y hy=>?_;let{i,hi,rfl}:=Cc hx;let{j,b9,ba,rfl}:=iR hy;rcases Nat.eq_or_lt_of_le b9 with ej|ej
  .rw[<-ej];exact hk i hi
  .exact C.trans (hk i hi)<|ob O j (Qh _) ej ba
 have a9:∀(out:Lk)(G O k:Nat),Lo blt (a.toList++b.toList) out.toList (a.toList.drop G) (b.toList.drop O)->(∀i,i<k->blt (g b<|O+i) (g a G)=true)->
   Lo blt (a.toList++b.toList) (out++b.extract O (O+k)).toList (a.toList.drop G) (b.toList.drop<|O+k):=λout G O k lo hk=>by
  rw[QG,nE];have pb:=fG ob O;rw[xi b.toList O k]at lo pb;refine lo.b pb λx hx y hy=>?_;let{i,hi,rfl}:=Cc hx;let{j,b9,ba,rfl}:=iR hy;have l1:=C.of_lt (hk i hi);rcases Nat.eq_or_lt_of_le b9 with ej|ej
  .rwa[<-ej]
  .exact C.trans l1<|oa G j (Qh _) ej ba
 have one:∀(x:Lk)(i:Nat),i<x.size->(x.extract i<|i+1)= #[g x i]:=λx i hi=>by
  apply Array.ext';rw[nE,rP hi];rfl
 have b2:∀(out:Lk)(G O:Nat),G<a.size->O<b.size->Lo blt (a.toList++b.toList) out.toList (a.toList.drop G) (b.toList.drop O)->blt (g b O) (g a G)=true->
   Lo blt (a.toList++b.toList) (out.push<|g b O).toList (a.toList.drop G) (b.toList.drop<|O+1):=λout G O h1 h2 lo hk=>by
  have:=a9 out G O 1 lo λi hi=>by rwa[Nat.lt_one_iff.mp hi]
  rwa [one b O h2,<-X0]at this
 have b3:∀(out:Lk)(G O:Nat),G<a.size->O<b.size->Lo blt (a.toList++b.toList) out.toList (a.toList.drop G) (b.toList.drop O)->blt (g b O) (g a G)=false->
   Lo blt (a.toList++b.toList) (out.push<|g a G).toList (a.toList.drop<|G+1) (b.toList.drop O):=λout G O h1 h2 lo hk=>by
  have:=a6 out G O 1 lo λi hi=>by rwa[Nat.lt_one_iff.mp hi]
  rwa [one a G h1,<-X0]at this
 have endA:∀(out:Lk)(G O:Nat)(st':SortSt),Iu st st'->b.size<=O->Lo blt (a.toList++b.toList) out.toList (a.toList.drop G) (b.toList.drop O)->Q (out++a.extract G++b.extract O) st':=λout G O st' lk hb lo=>by
  have en:b.toList.drop O=[]:=Zi (by rwa[Qb]);rw[en]at lo;refine ap _ G st' _ lk lo ?_;rw[QG,QG,fc,fc,en,ZL]
 have endB:∀(out:Lk)(G O:Nat)(st':SortSt),Iu st st'->G+1=a.size->Lo blt (a.toList++b.toList) out.toList (a.toList.drop G) (b.toList.drop O)->Q (out++b.extract O++a.extract G) st':=λout G O st' lk ha lo=>by
  have en:G=a.size-1:=by rw[<-ha,Nat.add_sub_cancel]
  refine ax out.toList O st' _ lk (by rwa[<-en]) ?_;rw[QG,QG,fc,fc,<-en,Qp]
 refine Ke ?_;dsimp only;refine wpS_lift<|KP {M,?_};refine nmK ?_;intro k0;refine Ke<|bi hb ?_;have start:Lo blt (a.toList++b.toList) [g b 0] (a.toList.drop 0) (b.toList.drop 1):=by
  have l0:Lo blt (a.toList++b.toList) [] (a.toList.drop 0) ([g b 0]++b.toList.drop 1):=by
   refine{?_,Kx,λx hx=>Kh hx Z4};have e:=rP hb;rw[Zv]at e;rw[Zv,List.nil_append,List.singleton_append,<-e]
  have:=l0.b (by have:=fG ob 0;rw[rP hb]at this;exact this) (λx hx y hy=>by
   rw[Qa.mp hx];let{j,_,hj,rfl}:=iR hy;by_cases j0:j=0
   .rw[j0];exact C.of_lt a5
   .exact C.trans (C.of_lt a5)<|oa 0 j (Q5 _) (X5 j0) hj)
  simpa using this
 dsimp only[k0];by_cases b1:1=b.size
 .have eb:(1==b.size)=true:=Kp.mpr b1;rw[Kd eb];refine Ki ?_;have en:b.toList.drop 1=[]:=Zi (by rw[Qb];exact Z2 b1.symm);rw[en]at start;refine ap _ 0 st _ (Iu.refl _) start ?_;simp[b1]
 .have eb:¬(1==b.size)=true:=by simpa using b1
  rw[Kc eb];by_cases a1:0+1=a.size
  .have ea:(0+1==a.size)=true:=Kp.mpr a1;rw[Kd ea];refine Ki ?_;have e0:a.size-1=0:=by rw[<-a1]
   refine ax [g b 0] 1 st _ (Iu.refl _) (by rw[e0];exact start) ?_;rw[e0,QG,QG,fc,fc,Qp]
  .have ea:¬(0+1==a.size)=true:=by simpa using a1
   rw[Kc ea];refine nmK ?_;intro k1;refine Ke<|KO ?_;dsimp only[k1];refine nmF ?_;intro f1 k2;refine Ke (KM (Kv (I:=λi c st'=>Iu st st'/\Lb blt a b i c) (Q:=λc st'=>MQ (Q · st') (λ_=>False) c) ?_ ?_ {Iu.refl _,QU ha a1,QU hb b1,Qh _,start}) ?_)
   .rintro i c st'- -⟨lk,@⟨out,G,O,mg,c3,hb1,hi,lo⟩⟩;have c4:kindOf st'=κ:=lk.kind.trans hK;dsimp only[f1];refine nmF ?_;intro f2 k3;refine Ke (KM (Kv (I:=λ_ c st2=>st2=st'/\Lb blt a b i c) (Q:=λc st2=>st2=st'/\MQ (Q · st') (Lb blt a b i) c) ?_ (λc st2 h=>{h.1,.go h.2}) ⟨M,c3,hb1,hi,lo⟩) ?_)
    .rintro j c st2- -⟨rfl,@⟨out,ja,jb,x,ab,Y,U,lo⟩⟩;dsimp only[f2];have b4:=XM ab;refine Ke<|bi Y (Ke<|bi b4<|Ke<|L _ _ _ _ (mb jb Y) (ma ja b4) c4 ?_);dsimp only;cases e:blt (g b jb) (g a ja)with
     |true=>
      rw[Kd M];have a2:=b2 out ja jb b4 Y lo e;refine Ke<|bi Y ?_;by_cases z:jb+1=b.size
      .rw[Kd (Kp.mpr z)];exact Ki {M,.ret<|endA _ ja (jb+1) _ lk (Z2 z.symm) a2}
      .rw[Kc (by simpa using z)];have hz:jb+1<b.size:=QU Y z;have U:=Nat.le_succ_of_le U;split
       .exact Ki {M,.go ⟨ab,hz,U,a2⟩}
       .exact Ki ⟨M,ab,hz,U,a2⟩
     |false=>
      rw[Kc (_)];have a2:=b3 out ja jb b4 Y lo e;refine Ke<|bi b4 ?_;by_cases z:ja+1+1=a.size
      .rw[Kd (Kp.mpr z)];exact Ki {M,.ret<|endB _ (ja+1) jb _ lk z a2}
      .rw[Kc (by simpa using z)];have hz:ja+1+1<a.size:=QU ab z;have U:i<=ja+1+jb:=by rw[Nat.add_right_comm];exact Nat.le_succ_of_le U
       split
       .exact Ki {M,.go ⟨hz,Y,U,a2⟩}
       .exact Ki ⟨M,hz,Y,U,a2⟩
    .rintro c st2 ⟨rfl,⟨q⟩| @⟨_,@⟨out,ja,jb,x,ab,Y,U,lo⟩⟩⟩
     .exact Ki<|.ret q
     .dsimp only[k3];refine nmK ?_;intro k5;refine Ke<|wpS_lift (KP {M,?_});dsimp only[k5];refine nmF ?_;intro f3 k6;refine Ke (KM (Kv (I:=λj c a3=>Iu st a3/\Lb blt a b (i+j) c) (Q:=λc a3=>Iu st a3/\MQ (Q · a3) (Lb blt a b<|i+1) c) ?_ ?_ ⟨lk,ab,Y,U,lo⟩) ?_)
      .rintro j c a3- -⟨a4,@⟨out,ka,W,⟨m',x⟩,b6,a0,U,lo⟩⟩;dsimp only[f3];apply zh (α:=Nat) (H:=λ_=>True)
       .intro key;by_cases m1:m'>1
        .rw[Kd m1];generalize m'-1=mm;exact key mm trivial
        .rw[Kc m1];exact key m' trivial
       intro mm _;refine nmK ?_;intro k7;refine Ke<|Be λc5 lk4=>?_;replace lk4:=a4.trans lk4;have bo:kindOf c5=κ:=lk4.kind.trans hK;dsimp only[k7];refine nmK ?_;intro k8;refine Ke<|bi a0 ?_;refine nmK ?_;intro k9;have c9:=XM b6;refine Ke<|e7 L bo (mb W a0) (λi hi=>{Z9 hi,ma _<|Z9 hi}) (XN c9) (λi=>!blt (g b W) (g a<|ka+i)) (λi hi=>M) (λi j h1 h2 h3=>B8 C oa ka _ i j h1 (Z9 h2) h3) λk ca bb bp=>?_;have bq:k<a.size-ka:=by
        rcases Nat.lt_or_ge k (a.size-ka)with z|z
        .exact z
        .have f:=bb (a.size-1-ka) ();rw[show ka+(a.size-1-ka)=a.size-1 by lia,an W a0]at f;cases f
       have bt:∀i,i<k->blt (g b W) (g a<|ka+i)=false:=λi hi=>by have:=bb i hi;simpa using this
       have bw:blt (g b W) (g a<|ka+k)=true:=by have:=bp k (Q5 _) bq;simpa using this
       clear ca bb bp;dsimp only[k9];apply m4 (H:=λ(Z:Nat)(o':Array Keyed)=>ka<=Z/\Z+1<a.size/\Lo blt (a.toList++b.toList) o'.toList (a.toList.drop Z) (b.toList.drop W)/\blt (g b W) (g a Z)=true)
       .intro key;by_cases k0:k>0
        .rw[Kd k0];have lo1:=a6 out ka W k lo bt;by_cases z:ka+k+1=a.size
         .rw[Kd (Kp.mpr z)];exact Ki {lk4,.ret<|endB _ (ka+k) W _ lk4 z lo1}
         have kk:=Z9 bq;have zz:¬ka+k=a.size:=Qy kk;rw[Kc (by simpa using z),Kc (by simpa using zz)];have k5:ka<=ka+k/\ka+k+1<a.size:={Nat.le_add_right _ _,QU kk z};have bv:=bw;generalize out++a.extract ka (ka+k)=o' at lo1⊢;generalize ka+k=Z at lo1 bv k5⊢;exact key Z o' ⟨k5.1,k5.2,lo1,bv⟩
        .rw[Kc k0];have bv:=bw;rw[Nat.eq_zero_of_not_pos k0,ZQ]at bv;exact key ka out {Q5 _,b6,lo,bv}
       intro Z o' hc;let{c1,c2,lo1,bw}:=hc;refine nmK ?_;intro cb;refine Ke<|bi a0 ?_;have b5:=XM c2;have be:=b2 _ Z W b5 a0 lo1 bw;dsimp only[cb];by_cases z2:W+1=b.size
       .rw[Kd (Kp.mpr z2)];exact Ki {lk4,.ret<|endA _ Z (W+1) _ lk4 (Z2 z2.symm) be}
       rw[Kc (by simpa using z2)];refine nmK ?_;intro cd;refine Ke<|bi b5 ?_;refine nmK ?_;intro cc;have bh:W+1<b.size:=QU a0 z2;refine Ke<|e7 L bo (ma _ b5) (λi hi=>{Z9 hi,mb _<|Z9 hi}) (XN bh) (λi=>blt (g b<|W+1+i)<|g a Z) (λi hi=>M) (λi j h1 h2 h3=>B7 C ob (W+1) _ i j h1 (Z9 h2) h3) λk2 h1 h2 h3=>?_;dsimp only[cc];apply m4 (H:=λ(kd:Nat)(o2:Array Keyed)=>W+1<=kd/\kd<b.size/\Lo blt (a.toList++b.toList) o2.toList (a.toList.drop Z) (b.toList.drop kd)/\blt (g b kd) (g a Z)=false)
       .intro key;by_cases q0:k2>0
        .rw[Kd q0];have am:=a9 _ Z (W+1) k2 be h2;by_cases z3:W+1+k2=b.size
         .rw[Kd (Kp.mpr z3)];exact Ki {lk4,.ret<|endA _ Z (W+1+k2) _ lk4 (Z2 z3.symm) am}
         rw[Kc (by simpa using z3)];have w3:=h3 k2 (Q5 _) ();have k5:W+1<=W+1+k2/\W+1+k2<b.size:=();generalize o'.push (g b W)++b.extract (W+1) (W+1+k2)=o2 at am⊢;generalize W+1+k2=kd at am w3 k5⊢;exact key kd o2 ⟨k5.1,k5.2,am,w3⟩
        .rw[Kc q0];have w3:blt (g b<|W+1) (g a Z)=false:=h3 0 (XT q0) (XN bh);exact key (W+1) _ {Q5 _,bh,be,w3}
       intro kd o2 hd;let{d1,d2,am,w3}:=hd;refine Ke<|bi b5 ?_;have bl:=b3 _ Z kd b5 d2 am w3;have U:i+(j+1)<=Z+1+kd:=();by_cases z4:Z+1+1=a.size
       .rw[Kd (Kp.mpr z4)];exact Ki {lk4,.ret<|endB _ (Z+1) kd _ lk4 z4 bl}
       rw[Kc (by simpa using z4)];have hz:Z+1+1<a.size:=QU c2 z4;split
       .exact Ki {lk4,.go {hz,d2,Qu (ZG (Nat.le_add_left 1 j) i) U,bl}}
       .exact Ki ⟨lk4,hz,d2,U,bl⟩
      .rintro c a3 ⟨a4,@⟨_,ka,W,_,_,_,U,_⟩⟩;have em:max 0 (a.size+b.size)=a.size+b.size:=QO (Qh _);rw[em]at U;lia
      .rintro c a3 ⟨a4,⟨q⟩| @⟨_,⟨b6,a0,U,lo⟩⟩⟩
       .exact Ki<|.ret q
       .dsimp only[k6];exact Ke<|KF (Ki {⟨a4.kind,a4.arr,a4.pend,a4.fail⟩,b6,a0,U,lo})
   .rintro c st' ⟨lk,@⟨_,G,O,_,_,_,hi,_⟩⟩;have em:max 0 (a.size+b.size)=a.size+b.size:=QO (Qh _);rw[em]at hi;lia
   .rintro c st' (⟨q⟩|⟨⟨⟩⟩);exact Ki q
end
structure Hi(blt:Lx)(all o ra rb:Mf):Prop where
 perm:((ra++rb)++o).Perm all
 srt:PW blt o
 high:∀x∈ra++rb,∀y∈o,le blt x y
theorem Hi.a{G:Mf}(h:Hi blt all o (ra++G) rb)(hs:PW blt (ra++G))(hc:∀x∈rb,∀y∈G,le blt x y):Hi blt all (G++o) ra rb where
 perm:=by
  refine KD ?_ h.perm;rw[<-Qp];refine KC o ?_;rw[Qp,Qp];exact KJ ra ZV
 srt:=Qk.mpr {(Qk.mp hs).2.1,h.srt,λx hx y hy=>h.high x (by simp[hx]) y hy}
 high:=λx hx y hy=>by
  rcases Q4.mp hy with q|q
  .rcases Q4.mp hx with z|z
   .exact(Qk.mp hs).2.2 x z y q
   .exact hc x z y q
  .exact h.high x (by rcases Q4.mp hx with z|z<;>simp[z]) y q
theorem Hi.b{cb:Mf}(h:Hi blt all o ra (rb++cb))(hs:PW blt (rb++cb))(hc:∀x∈ra,∀y∈cb,le blt x y):Hi blt all (cb++o) ra rb where
 perm:=by
  refine KD ?_ h.perm;rw[<-Qp];refine KC o ?_;rw[Qp]
 srt:=Qk.mpr {(Qk.mp hs).2.1,h.srt,λx hx y hy=>h.high x (by simp[hx]) y hy}
 high:=λx hx y hy=>by
  rcases Q4.mp hy with q|q
  .rcases Q4.mp hx with z|z
   .exact hc x z y q
   .exact(Qk.mp hs).2.2 x z y q
  .exact h.high x (by rcases Q4.mp hx with z|z<;>simp[z]) y q
theorem Bn{a:Lk}(h:i<a.size):a.toList.take (i+1)=a.toList.take i++ [g a i]:=by
 have e:=cV h;rw[<-Qz]at e;rw[Qt,e];rfl
theorem fL{a:Lk}(h:x∈a.toList.take n):∃j,j<n/\j<a.size/\x=g a j:=by
 let{k,hk,e}:=ZZ.mp h;rw[Qd,Qb]at hk;refine{k,(),(),?_};have e2:=cV (xs:=a) (i:=k) ();rw[<-Qz,Q3 (by rw[Qb];lia)]at e2;rw[ZS]at e;rw[<-e];exact Kf e2
theorem c7{a:Lk}(h:x∈(a.extract i n).toList):∃j,i<=j/\j<n/\j<a.size/\x=g a j:=by
 rw[Zc,QZ]at h;let{k,hk,e}:=ZZ.mp h;rw[Qd,QL,Qb]at hk;refine{i+k,(),(),(),?_};have e2:=cV (xs:=a) (i:=i+k) ();rw[<-Qz,Q3 (by rw[Qb];lia)]at e2;rw[ZS,ZR]at e;rw[<-e];exact Kf e2
theorem kB{a:Lk}(h:On blt a 0 a.size)(n:Nat):PW blt (a.toList.take n):=by
 have:=fG h 0;rw[Zv]at this;exact List.Pairwise.sublist (ZO _ _) this
theorem ww{a:Lk}(h:i<=n):a.toList.take n=a.toList.take i++(a.extract i n).toList:=by
 rw[Zc,QZ];obtain⟨k,rfl⟩:∃k,n=i+k:={n-i,()};rw[List.take_add,show i+k-i=k by lia]
theorem EC(a:Lk)(n:Nat):(a.extract 0 n).toList=a.toList.take n:=by
 rw[Zc,QZ,Zv,Nat.sub_zero]
section
inductive LY(blt:Lx)(a b:Lk){τ:Type}(n:Nat):Option (Array Keyed)×Nat×Nat×Array Keyed×τ->Prop
 |mk{na nb out x}(h1:1<=na)(h2:na<=a.size)(h3:2<=nb)(h4:nb<=b.size)(hn:na+nb+n<=a.size+b.size)(lo:Hi blt (a.toList++b.toList) out.reverse.toList (a.toList.take na) (b.toList.take nb)):LY blt a b n (none,na,nb,out,x)
variable(L:wc prog w A E s a₀ κ blt)
include L
theorem xN{a b:Lk}{Q:Array Keyed->SortSt->Prop}(C:Jr blt)(hK:kindOf st=κ)(hm:∀x,x∈a.toList++b.toList->x∈a₀)(oa:On blt a 0 a.size)(ob:On blt b 0 b.size)(ha:0<a.size)(hb:0<b.size)
  (a9:blt (g b 0) (g a 0)=true) (bq:∀j,j<b.size->blt (g b j) (g a<|a.size-1)=true)
  (h:∀res st',Iu st st'->res.toList.Perm (a.toList++b.toList)->PW blt res.toList->Q res st'):wpS (model prog w) A E s (Cb a b) Q st:=by
 have ma:∀i,i<a.size->g a i∈a₀:=λi hi=>hm _ (by have:=uA hi;simp[this]);have mb:∀i,i<b.size->g b i∈a₀:=λi hi=>hm _ (by have:=uA hi;simp[this]);have ab:∀i,i<a.size->blt (g b 0) (g a i)=true:=λi hi=>by
  by_cases i0:i=0
  .rwa[i0]
  .cases z:blt (g b 0) (g a i)with
   |true=>rfl
   |false=>
    have f:blt (g b 0) (g a 0)=false:=C.trans (oa 0 i (Q5 _) () hi) z;rw[a9]at f;cases f
 have am:∀(out:Lk)(G O k:Nat),k<=G->G<=a.size->1<=O->O<=b.size->Hi blt (a.toList++b.toList) out.reverse.toList (a.toList.take G) (b.toList.take O)->(∀i,k<=i->i<G->blt (g b<|O-1) (g a i)=true)->
   Hi blt (a.toList++b.toList) (out++(a.extract k G).reverse).reverse.toList (a.toList.take k) (b.toList.take O):=λout G O k h1 h2 h3 h4 lo hk=>by
  have er:(out++(a.extract k G).reverse).reverse.toList=(a.extract k G).toList++out.reverse.toList:=by simp
  have pa:=kB oa G;rw[ww h1]at lo pa;rw[er];refine lo.a pa λx hx y hy=>?_;let{i,b9,ba,cm,rfl}:=c7 hy;let{j,bb,bt,rfl}:=fL hx;have l1:=C.of_lt (hk i b9 ba);by_cases ej:j=O-1
  .rwa[ej]
  .exact C.trans (ob j (O-1) (Qh _) (QU (Xa bb) ej)<|QD h3 h4) l1
 have an:∀(out:Lk)(G O k:Nat),k<=O->O<=b.size->1<=G->G<=a.size->Hi blt (a.toList++b.toList) out.reverse.toList (a.toList.take G) (b.toList.take O)->(∀i,k<=i->i<O->blt (g b i) (g a<|G-1)=false)->
   Hi blt (a.toList++b.toList) (out++(b.extract k O).reverse).reverse.toList (a.toList.take G) (b.toList.take k):=λout G O k h1 h2 h3 h4 lo hk=>by
  have er:(out++(b.extract k O).reverse).reverse.toList=(b.extract k O).toList++out.reverse.toList:=by simp
  have pb:=kB ob O;rw[ww h1]at lo pb;rw[er];refine lo.b pb λx hx y hy=>?_;let{i,b9,ba,cm,rfl}:=c7 hy;let{j,bb,bt,rfl}:=fL hx;have l1:le blt (g a<|G-1) (g b i):=hk i b9 ba;by_cases ej:j=G-1
  .rwa[ej]
  .exact C.trans (oa j (G-1) (Qh _) (QU (Xa bb) ej)<|QD h3 h4) l1
 have one:∀(x:Lk)(i:Nat),i<x.size->(x.extract i<|i+1).reverse= #[g x i]:=λx i hi=>by
  have:x.extract i (i+1)= #[g x i]:=by
   apply Array.ext';rw[nE,rP hi];rfl
  rw[this];rfl
 have b3:∀(out:Lk)(G O:Nat),1<=G->G<=a.size->1<=O->O<=b.size->Hi blt (a.toList++b.toList) out.reverse.toList (a.toList.take G) (b.toList.take O)->blt (g b<|O-1) (g a<|G-1)=true->
   Hi blt (a.toList++b.toList) (out.push<|g a<|G-1).reverse.toList (a.toList.take<|G-1) (b.toList.take O):=λout G O h1 h2 h3 h4 lo hk=>by
  have:=am out G O (G-1) (K8 _ _) h2 h3 h4 lo λi hi hj=>by rwa[Nat.le_antisymm (Xa hj) hi]
  rwa [show a.extract (G-1) G=a.extract (G-1) (G-1+1) by rw[Nat.sub_add_cancel h1],one a (G-1) (QD h1 h2),<-X0]at this
 have b4:∀(out:Lk)(G O:Nat),1<=G->G<=a.size->1<=O->O<=b.size->Hi blt (a.toList++b.toList) out.reverse.toList (a.toList.take G) (b.toList.take O)->blt (g b<|O-1) (g a<|G-1)=false->
   Hi blt (a.toList++b.toList) (out.push<|g b<|O-1).reverse.toList (a.toList.take G) (b.toList.take<|O-1):=λout G O h1 h2 h3 h4 lo hk=>by
  have:=an out G O (O-1) (K8 _ _) h4 h1 h2 lo λi hi hj=>by rwa[Nat.le_antisymm (Xa hj) hi]
  rwa [show b.extract (O-1) O=b.extract (O-1) (O-1+1) by rw[Nat.sub_add_cancel h3],one b (O-1) (QD h3 h4),<-X0]at this
 have endA:∀(out:Lk)(G O:Nat)(st':SortSt),Iu st st'->G=0->O<=b.size->Hi blt (a.toList++b.toList) out.reverse.toList (a.toList.take G) (b.toList.take O)->Q (a.extract 0 G++b.extract 0 O++out.reverse) st':=λout G O st' lk hn cb lo=>by
  subst hn;have e:(a.extract 0 0++b.extract 0 O++out.reverse).toList=b.toList.take O++out.reverse.toList:=by
   rw[QG,QG,EC,EC];rfl
  refine h _ st' lk ?_ ?_
  .rw[e];exact lo.perm
  .rw[e];exact Qk.mpr {kB ob O,lo.srt,λx hx y hy=>lo.high x (by simp[hx]) y hy}
 have endB:∀(out:Lk)(G O:Nat)(st':SortSt),Iu st st'->O=1->G<=a.size->Hi blt (a.toList++b.toList) out.reverse.toList (a.toList.take G) (b.toList.take O)->Q (b.extract 0 O++a.extract 0 G++out.reverse) st':=λout G O st' lk hn cc lo=>by
  subst hn;have e:(b.extract 0 1++a.extract 0 G++out.reverse).toList=(b.toList.take 1++a.toList.take G)++out.reverse.toList:=by
   rw[QG,QG,EC,EC]
  refine h _ st' lk ?_ ?_
  .rw[e];exact KD (KC _ ZV) lo.perm
  .rw[e];refine Qk.mpr {Qk.mpr {kB ob 1,kB oa G,λx hx y hy=>?_},lo.srt,λx hx y hy=>lo.high x ?_ y hy}
   .let{i,b9,ba,rfl}:=fL hx;let{j,bb,bt,rfl}:=fL hy;rw[show i=0 by lia];exact C.of_lt<|ab j bt
   .rcases Q4.mp hx with z|z
    .exact Q4.mpr<|.inr z
    .exact Q4.mpr<|.inl z
 refine Ke ?_;dsimp only;refine wpS_lift<|KP {M,?_};refine nmK ?_;intro k0;refine Ke<|bi () ?_;have start:Hi blt (a.toList++b.toList) (#[g a (a.size-1)]:Lk).reverse.toList (a.toList.take<|a.size-1) (b.toList.take b.size):=by
  have l0:Hi blt (a.toList++b.toList) [] (a.toList.take (a.size-1)++ [g a (a.size-1)]) (b.toList.take b.size):=by
   refine{?_,Kx,λx _ y hy=>Kh hy Z4};rw[<-Bn (),show a.size-1+1=a.size by lia,ZL];have e1:a.toList.take a.size=a.toList:=QC (by rw[Qb];exact Q5 _);have e2:b.toList.take b.size=b.toList:=QC (by rw[Qb];exact Q5 _);rw[e1,e2]
  have:=l0.a (by rw[<-Bn ()];exact kB oa _) (λx hx y hy=>by
   rw[Qa.mp hy];let{j,_,hj,rfl}:=fL hx;exact C.of_lt<|bq j hj)
  exact this
 dsimp only[k0];by_cases a1:a.size-1=0
 .rw[Kd (Kp.mpr a1)];exact Ki<|endA _ (a.size-1) b.size st (Iu.refl _) a1 (Q5 _) start
 .rw[Kc (by simpa using a1)];by_cases b1:b.size=1
  .rw[Kd (Kp.mpr b1)];exact Ki<|endB _ (a.size-1) b.size st (Iu.refl _) b1 () start
  .rw[Kc (by simpa using b1)];refine nmK ?_;intro k1;refine Ke<|KO ?_;dsimp only[k1];refine nmF ?_;intro f1 k2;refine Ke (KM (Kv (I:=λi c st'=>Iu st st'/\LY blt a b i c) (Q:=λc st'=>MQ (Q · st') (λ_=>False) c) ?_ ?_ {Iu.refl _,(),(),(),Q5 _,(),start}) ?_)
   .rintro i c st'- -⟨lk,@⟨G,O,out,mg,cn,cc,hb1,cb,hi,lo⟩⟩;have co:kindOf st'=κ:=lk.kind.trans hK;dsimp only[f1];refine nmF ?_;intro f2 k3;refine Ke (KM (Kv (I:=λ_ c st2=>st2=st'/\LY blt a b i c) (Q:=λc st2=>st2=st'/\MQ (Q · st') (LY blt a b i) c) ?_ (λc st2 h=>{h.1,.go h.2}) ⟨M,cn,cc,hb1,cb,hi,lo⟩) ?_)
    .rintro j c st2- -⟨rfl,@⟨ja,jb,out,x,a3,U,b5,W,Y,lo⟩⟩;dsimp only[f2];have bv:=ZT b5;have be:=QD bv W;have bh:=QD a3 U;refine Ke<|bi be (Ke<|bi bh<|Ke<|L _ _ _ _ (mb (jb-1) be) (ma (ja-1) bh) co ?_);dsimp only;cases e:blt (g b<|jb-1) (g a<|ja-1)with
     |true=>
      rw[Kd M];have a4:=b3 out ja jb a3 U bv W lo e;refine Ke<|bi bh ?_;by_cases z:ja-1=0
      .rw[Kd (Kp.mpr z)];exact Ki {M,.ret<|endA _ (ja-1) jb _ lk z W a4}
      .rw[Kc (by simpa using z)];have h1:=X5 z;have h2:=QV bh;have h3:ja-1+jb+i<=a.size+b.size:=Qu (Xs (Xs (K8 _ _) _) _) Y;split
       .exact Ki {M,.go ⟨h1,h2,b5,W,h3,a4⟩}
       .exact Ki ⟨M,h1,h2,b5,W,h3,a4⟩
     |false=>
      rw[Kc (_)];have a4:=b4 out ja jb a3 U bv W lo e;refine Ke<|bi be ?_;by_cases z:jb-1=1
      .rw[Kd (Kp.mpr z)];exact Ki {M,.ret<|endB _ ja (jb-1) _ lk z U a4}
      .rw[Kc (by simpa using z)];have h1:2<=jb-1:=();have h2:=QV be;have h3:ja+(jb-1)+i<=a.size+b.size:=Qu (Xs (ZG (K8 _ _) _) _) Y;split
       .exact Ki {M,.go ⟨a3,U,h1,h2,h3,a4⟩}
       .exact Ki ⟨M,a3,U,h1,h2,h3,a4⟩
    .rintro c st2 ⟨rfl,⟨q⟩| @⟨_,@⟨ja,jb,out,x,a3,U,b5,W,Y,lo⟩⟩⟩
     .exact Ki<|.ret q
     .dsimp only[k3];refine nmK ?_;intro k5;refine Ke<|wpS_lift (KP {M,?_});dsimp only[k5];refine nmF ?_;intro f3 k6;refine Ke (KM (Kv (I:=λj c a5=>Iu st a5/\LY blt a b (i+j) c) (Q:=λc a5=>Iu st a5/\MQ (Q · a5) (LY blt a b<|i+1) c) ?_ ?_ ⟨lk,a3,U,b5,W,Y,lo⟩) ?_)
      .rintro j c a5- -⟨a6,@⟨ka,kb,out,⟨m',x⟩,bl,a0,bw,a2,Y,lo⟩⟩;dsimp only[f3];apply zh (α:=Nat) (H:=λ_=>True)
       .intro key;by_cases m1:m'>1
        .rw[Kd m1];generalize m'-1=mm;exact key mm trivial
        .rw[Kc m1];exact key m' trivial
       intro mm _;refine nmK ?_;intro k7;refine Ke<|Be λcp lk4=>?_;replace lk4:=a6.trans lk4;have cd:kindOf cp=κ:=lk4.kind.trans hK;dsimp only[k7];refine nmK ?_;intro k8;have c4:=ZT bw;have bo:=QD c4 a2;have up:∀{i m n},i<m->m<=n->0+i<n:=λh1 h2=>by rw[Xh];exact Qo h1 h2
       refine Ke<|bi bo ?_;refine nmK ?_;intro k9;refine Ke<|e7 L cd (mb (kb-1) bo) (λi hi=>{up hi a0,ma _<|up hi a0}) (QD bl<|Q5 _) (λi=>!blt (g b<|kb-1) (g a<|0+i)) (λi hi=>M) (λi j h1 h2 h3=>B8 C oa 0 _ i j h1 (up h2 a0) h3) λk ce cg ci=>?_;have ap:∀i,i<k->blt (g b<|kb-1) (g a i)=false:=λi hi=>by have f:=cg i hi;rw[Xh]at f;simpa using f
       have cj:∀i,k<=i->i<ka->blt (g b<|kb-1) (g a i)=true:=λi hi hj=>by have f:=ci i hi hj;rw[Xh]at f;simpa using f
       clear cg ci;dsimp only[k9];apply m4 (H:=λ(Z:Nat)(o':Lk)=>0<Z/\Z<=ka/\(∀i,i<Z->blt (g b<|kb-1) (g a i)=false)/\Hi blt (a.toList++b.toList) o'.reverse.toList (a.toList.take Z) (b.toList.take kb))
       .intro key;by_cases k0:ka-k>0
        .rw[Kd k0];have lo1:=am out ka kb k ce a0 c4 a2 lo cj;by_cases z:k=0
         .rw[Kd (Kp.mpr z)];exact Ki {lk4,.ret<|endA _ k kb _ lk4 z a2 lo1}
         rw[Kc (by simpa using z)];generalize out++(a.extract k ka).reverse=o' at lo1⊢;obtain⟨Z,ek⟩:∃Z,Z=k:={_,M};rw[<-ek]at lo1⊢;exact key Z o' {by rw[ek];exact X5 z,by rwa[ek],by rwa[ek],lo1}
        .rw[Kc k0];have e0:k=ka:=();rw[e0];exact key ka out {bl,Q5 _,by rwa[<-e0],lo}
       intro Z o' hc;let{c1,c2,ap,lo1}:=hc;refine nmK ?_;intro cr;refine Ke<|bi bo ?_;have c3:=Qu c2 a0;have ax:=QD c1 c3;have c5:=b4 _ Z kb c1 c3 c4 a2 lo1 (ap (Z-1)<|QD c1<|Q5 _);dsimp only[cr];by_cases z2:kb-1=1
       .rw[Kd (Kp.mpr z2)];exact Ki {lk4,.ret<|endB _ Z (kb-1) _ lk4 z2 c3 c5}
       rw[Kc (by simpa using z2)];refine nmK ?_;intro d5;have c9:1<kb-1:=();have b6:=QV bo;refine Ke<|bi ax ?_;refine nmK ?_;intro cu;refine Ke<|e7 L cd (ma _ ax) (λi hi=>{up hi b6,mb _<|up hi b6}) (QD (ZT c9)<|Q5 _) (λi=>blt (g b<|0+i)<|g a<|Z-1) (λi hi=>M) (λi j h1 h2 h3=>B7 C ob 0 _ i j h1 (up h2 b6) h3) λk2 h1 h2 h3=>?_;have ck:0<k2:=by
        rcases Zz k2 with z|z
        .have f:blt (g b<|0+0) (g a<|Z-1)=false:=h3 0 (Z2 z) (ZT c9);rw[ZQ,ab (Z-1) ax]at f;cases f
        .exact z
       have bp:∀i,i<k2->blt (g b i) (g a<|Z-1)=true:=λi hi=>by have f:=h2 i hi;rwa [Xh]at f
       have d4:∀i,k2<=i->i<kb-1->blt (g b i) (g a<|Z-1)=false:=λi hi hj=>by have f:=h3 i hi hj;rwa [Xh]at f
       clear h2 h3;dsimp only[cu];apply m4 (H:=λ(kd:Nat)(o2:Lk)=>1<kd/\kd<=kb-1/\(∀i,i<kd->blt (g b i) (g a<|Z-1)=true)/\Hi blt (a.toList++b.toList) o2.reverse.toList (a.toList.take Z) (b.toList.take kd))
       .intro key;by_cases q0:kb-1-k2>0
        .rw[Kd q0];have b2:=an _ Z (kb-1) k2 h1 b6 c1 c3 c5 d4;by_cases z3:k2=1
         .rw[Kd (Kp.mpr z3)];exact Ki {lk4,.ret<|endB _ Z k2 _ lk4 z3 c3 b2}
         have zz:¬k2=0:=ZN ck;rw[Kc (by simpa using z3),Kc (by simpa using zz)];generalize o'.push (g b<|kb-1)++(b.extract k2<|kb-1).reverse=o2 at b2⊢;obtain⟨kd,ed⟩:∃kd,kd=k2:={_,M};rw[<-ed]at b2⊢;exact key kd o2 {by rw[ed];exact QU ck<|Ne.symm z3,by rwa[ed],by rwa[ed],b2}
        .rw[Kc q0];have e2:k2=kb-1:=();rw[e2];exact key (kb-1) _ {c9,Q5 _,by rwa[<-e2],c5}
       intro kd o2 hd;let{d1,d2,bp,b2}:=hd;refine Ke<|bi ax ?_;have d0:=ZT d1;have d3:=Qu d2 b6;have ca:=b3 _ Z kd c1 c3 d0 d3 b2 (bp (kd-1)<|QD d0<|Q5 _);by_cases z4:Z-1=0
       .rw[Kd (Kp.mpr z4)];exact Ki {lk4,.ret<|endA _ (Z-1) kd _ lk4 z4 d3 ca}
       rw[Kc (by simpa using z4)];have hz:=X5 z4;have Y:Z-1+kd+(i+(j+1))<=a.size+b.size:=();split
       .exact Ki {lk4,.go {hz,QV ax,d1,d3,Qu (ZG (ZG (Nat.le_add_left 1 j) i) _) Y,ca}}
       .exact Ki {lk4,hz,QV ax,d1,d3,Y,ca}
      .rintro c a5 ⟨a6,@⟨ka,kb,_,_,_,_,_,_,Y,_⟩⟩;have em:max 0 (a.size+b.size)=a.size+b.size:=QO (Qh _);rw[em]at Y;lia
      .rintro c a5 ⟨a6,⟨q⟩| @⟨_,⟨bl,a0,bw,a2,Y,lo⟩⟩⟩
       .exact Ki<|.ret q
       .dsimp only[k6];exact Ke<|KF (Ki {⟨a6.kind,a6.arr,a6.pend,a6.fail⟩,bl,a0,bw,a2,Y,lo})
   .rintro c st' ⟨lk,@⟨_,_,_,_,_,_,_,_,hi,_⟩⟩;have em:max 0 (a.size+b.size)=a.size+b.size:=QO (Qh _);rw[em]at hi;lia
   .rintro c st' (⟨q⟩|⟨⟨⟩⟩);exact Ki q
end
variable{A:Lv}{p:Array (Nat×Nat×Nat)}{arr a₀ m xs:Lk}{Q:Bool->SortSt->Prop}{blt:Lx}{l:List (Nat×Nat×Nat)}{at_ i lo n:Nat}{prog:Ln}{s:K'}{κ:SortKind}{st:SortSt}{α:Type}{E:Ls}{w:Lp}
def LL(arr:Lk)(at_:Nat)(m:Lk):Array Keyed:=m.toList.zipIdx.foldl (λa p=>a.setIfInBounds (at_+p.2) p.1) arr
theorem Cm:∀(l:Mf)(j:Nat)(arr:Lk)(at_:Nat),at_+j+l.length<=arr.size->
  ((l.zipIdx j).foldl (λa p=>a.setIfInBounds (at_+p.2) p.1) arr).toList=arr.toList.take (at_+j)++l++arr.toList.drop (at_+j+l.length)
 | [],j,arr,at_,h=>by simp
 |x::l,j,arr,at_,h=>by
  rw[List.zipIdx_cons,List.foldl_cons];have hl:at_+j<arr.size:=by simp at h;lia
  have z:=Cm l (j+1) (arr.setIfInBounds (at_+j) x) at_ (by simp at h⊢;lia)
  rw[z,K9];have G:(arr.toList.set (at_+j) x).take (at_+(j+1))=arr.toList.take (at_+j)++ [x]:=by
   rw[show at_+(j+1)=at_+j+1 by lia,Qt,List.take_set_of_le (Q5 _),Xf (by rwa[Qb])];rfl
  have e2:(arr.toList.set (at_+j) x).drop (at_+(j+1)+l.length)=arr.toList.drop (at_+j+(x::l).length):=by
   rw[List.drop_set_of_lt ()];congr 1;simp;lia
  rw[G,e2,Qp,Qp,Qp];rfl
theorem xb(h:at_+m.size<=arr.size):(LL arr at_ m).toList=arr.toList.take at_++m.toList++arr.toList.drop (at_+m.size):=by
 have:=Cm m.toList 0 arr at_ (by simpa using h)
 simpa[LL]using this
theorem vR(xs:Lk)(k:Nat):g xs k=(xs.toList[k]?).getD dk:=by unfold g;rw[Qz]
theorem HV(h:at_+m.size<=arr.size)(k:Nat):g (LL arr at_ m) k=if at_<=k/\k<at_+m.size then g m (k-at_)else g arr k:=by
 rw[vR,xb h];have l1:(arr.toList.take at_).length=at_:=by rw[Qd,Qb];lia
 by_cases a:k<at_
 .rw[Kc (),Qp,QY (),Xc a,<-vR]
 .by_cases b:k<at_+m.size
  .rw[Kd {(),b},Qp,QT (),l1,QY (by rw[Qb];lia),<-vR]
  .rw[Kc (),QT (by rw[Q8,l1,Qb];lia),Q8,l1,Qb,X6,show at_+m.size+(k-(at_+m.size))=k by lia,<-vR]
theorem Cl(h:at_+m.size<=arr.size)(p:m.toList.Perm ((arr.toList.drop at_).take m.size)):(LL arr at_ m).Perm arr:=by
 rw[X7,xb h];have e:arr.toList=arr.toList.take at_++((arr.toList.drop at_).take m.size++arr.toList.drop (at_+m.size)):=by
  rw[<-K7,QJ,QJ]
 refine KD ?_<|KI e.symm;rw[Qp];exact KJ _<|KC _ p
theorem lg(h:n<=arr.size){k:Nat}(hk:k<n-i):g (arr.extract i n) k=g arr (i+k):=by
 unfold g;rw[Array.getElem?_extract,Kd ()]
theorem qu(h:n<=arr.size):(arr.extract i n).size=n-i:=by rw[Array.size_extract];lia
theorem vE(h:n<=arr.size)(o:On blt arr i n):On blt (arr.extract i n) 0 (arr.extract i n).size:=λa b _ z hb=>by
 rw[qu h]at hb;rw[lg h (),lg h hb];exact o _ _ () () ()
section
theorem DK{x:SortSt}{Q:PUnit->SortSt->Prop}(h:Q ⟨⟩ x):wpS (model prog w) A E s (set x:StateT SortSt Sem PUnit) Q st:=by
 unfold wpS;rw[StateT.run_set];exact Kt ⟨M,h⟩
variable(L:wc prog w A E s a₀ κ blt)
include L
theorem xO{G I pa sb U pb:Nat}(C:Jr blt)(Jb:IQ a₀ κ st)(hi:(pendingOf st)[i]?=some (G,I,pa))(O:(pendingOf st)[i+1]?=some (sb,U,pb))(hb:sb=G+I)(h1:1<=I)(h2:1<=U)(hz:sb+U<=a₀.size)
  (oa:On blt (arrOf st) G (G+I)) (ob:On blt (arrOf st) sb (sb+U))
  (h:∀st',IQ a₀ κ st'->pendingOf st'=((pendingOf st).setIfInBounds i (G,I+U,pa)).eraseIdxIfInBounds (i+1)->On blt (arrOf st') G (G+(I+U))->(∀k,k<G\/G+(I+U)<=k->g (arrOf st') k=g (arrOf st) k)->Q true st'):
  wpS (model prog w) A E s (mergeAt' i) Q st:=by
 subst hb;have hsz:=Jb.size;have b1:((sortPriv%PySem.Builtin.SortState.a) st).size=a₀.size:=Jb.size;refine Ke<|KO ?_;dsimp only;rw[hi,O];dsimp only;refine Ke<|DK ?_;have B1:IQ a₀ κ (SortSt.mk' (kindOf st) (arrOf st) (((pendingOf st).setIfInBounds i (G,I+U,pa)).eraseIdxIfInBounds<|i+1) (gallopOf st)<|failedOf st):=⟨Jb.kind,Jb.fine,Jb.perm⟩;refine Ke<|bi () ?_;refine Ke<|e7 L B1.kind (Jb.mem ()) (λj O=>{(),Jb.mem ()}) () (λj=>!blt (g (arrOf st)<|G+I) (g (arrOf st)<|G+j)) (λj O=>M) (λx y h3 h4 h5=>?_) λk b2 am an=>?_
 .have h5:blt (g (arrOf st)<|G+I) (g (arrOf st)<|G+y)=false:=by simpa using h5
  by_cases e:x=y
  .subst e;simpa using h5
  .have:=C.trans (oa (G+x) (G+y) () () ()) h5;simpa using this
 .dsimp only;have low:∀j,j<k->le blt (g (arrOf st)<|G+j) (g (arrOf st)<|G+I):=λj O=>by have:=am j O;simpa using this
  have up:∀j,k<=j->j<I->blt (g (arrOf st)<|G+I) (g (arrOf st)<|G+j)=true:=λj O ap=>by have:=an j O ap;simpa using this
  have a1:∀j x,j<k->G+I<=x->x<G+I+U->le blt (g (arrOf st)<|G+j) (g (arrOf st) x):=λj x O hx Y=>by
   by_cases e:x=G+I
   .rw[e];exact low j O
   .exact C.trans (low j O)<|ob (G+I) x (Q5 _) () Y
  by_cases n0:I-k=0
  .rw[Kd (Kp.mpr n0)];refine Ki<|h _ B1 M (λx y hx Z hy=>?_) λ_ _=>M;by_cases c:y<G+I
   .exact oa x y hx Z c
   .by_cases d:x<G+I
    .have:=a1 (x-G) y () () ();rwa [show G+(x-G)=x by lia]at this
    .exact ob x y () Z ()
  .rw[Kc (by simpa using n0)];refine Ke<|bi () ?_;rw[show G+k+(I-k)-1=G+I-1 by lia];refine Ke<|e7 L B1.kind (Jb.mem ()) (λj O=>{(),Jb.mem ()}) () (λj=>blt (g (arrOf st)<|G+I+j)<|g (arrOf st)<|G+I-1) (λj O=>M) (λx y h3 h4 h5=>?_) λm b3 ax a5=>?_
   .by_cases e:x=y
    .subst e;exact h5
    .cases z:blt (g (arrOf st)<|G+I+x) (g (arrOf st)<|G+I-1)with
     |true=>rfl
     |false=>
      have f:blt (g (arrOf st)<|G+I+y) (g (arrOf st)<|G+I-1)=false:=C.trans z (ob (G+I+x) (G+I+y) () () ());rw[h5]at f;cases f
   .dsimp only;have a2:∀j,j<m->blt (g (arrOf st)<|G+I+j) (g (arrOf st)<|G+I-1)=true:=ax;have first:blt (g (arrOf st)<|G+I+0) (g (arrOf st)<|G+k+0)=true:=by
     rw[ZQ,ZQ];exact up k (Q5 _) ()
    have mp:0<m:=by
     rcases Zz m with z|z
     .have f:blt (g (arrOf st)<|G+I+0) (g (arrOf st)<|G+I-1)=false:=a5 0 () ();have q:=up (I-1) () ();rw[show G+(I-1)=G+I-1 by lia]at q;rw[ZQ,q]at f;cases f
     .exact z
    have high:∀x,G+I+m<=x->x<G+I+U->le blt (g (arrOf st)<|G+I-1) (g (arrOf st) x):=λx hx Y=>by
     have f:blt (g (arrOf st)<|G+I+(x-(G+I))) (g (arrOf st)<|G+I-1)=false:=a5 (x-(G+I)) () ();rwa [show G+I+(x-(G+I))=x by lia]at f
    have a0:∀y x,G<=y->y<G+I->G+I+m<=x->x<G+I+U->le blt (g (arrOf st) y) (g (arrOf st) x):=λy x hy b4 hx Y=>by
     by_cases e:y=G+I-1
     .rw[e];exact high x hx Y
     .exact C.trans (oa y (G+I-1) hy () ())<|high x hx Y
    have m0:¬m=0:=();rw[Kc (by simpa using m0)];have sx:((arrOf st).extract (G+k)<|G+I).size=G+I-(G+k):=qu ();have sy:((arrOf st).extract (G+I)<|G+I+m).size=G+I+m-(G+I):=qu ();have a6:On blt (arrOf st) (G+k) (G+I):=oa.sub () ();have a9:On blt (arrOf st) (G+I) (G+I+m):=ob.sub () ();have a3:∀(res:Lk)(st2:SortSt),Iu (SortSt.mk' (kindOf st) (arrOf st) (((pendingOf st).setIfInBounds i (G,I+U,pa)).eraseIdxIfInBounds<|i+1) (gallopOf st)<|failedOf st) st2->res.toList.Perm (((arrOf st).extract (G+k)<|G+I).toList++((arrOf st).extract (G+I)<|G+I+m).toList)->PW blt res.toList->
      wpS (model prog w) A E s (modify (λs=>SortSt.mk' (kindOf s) (LL (arrOf s) (G+k) res) (pendingOf s) (gallopOf s)<|failedOf s)>>=λ_=>get>>=λx=>pure (failedOf x).isNone) Q st2:=λres st2 W pm pw=>by
     have rs:res.size=I-k+m:=by
      have:=pm.length_eq;rw[Q8,Qb,Qb,Qb,sx,sy]at this;lia
     have rm:∀j,j<res.size->∃x,G+k<=x/\x<G+I+m/\g res j=g (arrOf st) x:=λj O=>by
      have mem:g res j∈res.toList:=by have:=uA O;simpa using this
      rcases Q4.mp (pm.mem_iff.mp mem)with q|q
      .let{x,x1,x2,_,x4}:=c7 q;exact{x,(),(),x4}
      .let{x,x1,x2,_,x4}:=c7 q;exact{x,(),(),x4}
     have ab:G+k+res.size<=(arrOf st2).size:=by rw[W.arr];show G+k+res.size<=(arrOf st).size;lia
     refine Ke<|KF ?_;refine Ke<|KO (Ki ?_);have hg:∀x,g (LL (arrOf st2) (G+k) res) x=if G+k<=x/\x<G+k+res.size then g res (x-(G+k))else g (arrOf st) x:=λx=>by
      rw[HV ab,W.arr]
     have ef:(failedOf st2).isNone=true:=by
      rw[W.fail];show(failedOf st).isNone=true;rw[Jb.fine];rfl
     show Q (failedOf st2).isNone _;rw[ef];have on:=BU pw;refine h _ {W.kind.trans Jb.kind,W.fail.trans Jb.fine,?_} W.pend ?_ ?_
     .refine(Cl ab ?_).trans (by rw[W.arr];exact Jb.perm);rw[W.arr];show res.toList.Perm (((arrOf st).toList.drop<|G+k).take res.size);refine pm.trans<|KI ?_;rw[Zc,Zc,QZ,QZ,rs,show G+I-(G+k)=I-k by lia,show G+I+m-(G+I)=m by lia,List.take_add,K7,show G+k+(I-k)=G+I by lia]
     .intro x y hx Z hy;show le blt (g (LL (arrOf st2) (G+k) res) x) (g (LL (arrOf st2) (G+k) res) y);rw[hg x,hg y];by_cases y1:G+k<=y/\y<G+k+res.size
      .rw[Kd y1];by_cases x1:G+k<=x/\x<G+k+res.size
       .rw[Kd x1];exact on _ _ (Qh _) () ()
       .rw[Kc x1];let{z,z1,z2,z3}:=rm (y-(G+k)) ();rw[z3];by_cases zz:z<G+I
        .exact oa x z hx () zz
        .have:=a1 (x-G) z () () ();rwa [show G+(x-G)=x by lia]at this
      .rw[Kc y1];by_cases x1:G+k<=x/\x<G+k+res.size
       .rw[Kd x1];let{z,z1,z2,z3}:=rm (x-(G+k)) ();rw[z3];by_cases zz:z<G+I
        .exact a0 z y () zz () ()
        .exact ob z y () () ()
       .rw[Kc x1];by_cases yy:y<G+I
        .exact oa x y hx Z yy
        .by_cases xx:x<G+I
         .exact a0 x y hx xx () ()
         .exact ob x y () Z ()
     .intro x hx;show g (LL (arrOf st2) (G+k) res) x=g (arrOf st) x;rw[hg x,Kc ()]
    by_cases c:I-k<=m
    .rw[Kd c];refine Ke<|xM L C B1.kind (λx hx=>?_) (vE () a6) (vE () a9) (by rw[sx];lia) (by rw[sy];lia) ?_ ?_ λres st2 W pm pw=>?_
     .rcases Q4.mp hx with q|q
      .let{j,_,_,a4,rfl}:=c7 q;exact Jb.mem ()
      .let{j,_,_,a4,rfl}:=c7 q;exact Jb.mem ()
     .rwa[lg () (),lg () ()]
     .intro j O;rw[sy]at O;rw[sx,lg () (),lg () (),show G+k+(G+I-(G+k)-1)=G+I-1 by lia];exact a2 j ()
     .exact a3 res st2 W pm pw
    .rw[Kc c];refine Ke<|xN L C B1.kind (λx hx=>?_) (vE () a6) (vE () a9) (by rw[sx];lia) (by rw[sy];lia) ?_ ?_ λres st2 W pm pw=>?_
     .rcases Q4.mp hx with q|q
      .let{j,_,_,a4,rfl}:=c7 q;exact Jb.mem ()
      .let{j,_,_,a4,rfl}:=c7 q;exact Jb.mem ()
     .rwa[lg () (),lg () ()]
     .intro j O;rw[sy]at O;rw[sx,lg () (),lg () (),show G+k+(G+I-(G+k)-1)=G+I-1 by lia];exact a2 j ()
     .exact a3 res st2 W pm pw
end
def ID(blt:Lx)(xs:Lk):List (Nat×Nat×Nat)->Nat->Nat->Prop
 | [],f,t=>f=t
 |(st,len,_)::r,f,t=>st=f/\1<=len/\On blt xs st (st+len)/\ID blt xs r (st+len) t
theorem ID.le{xs:Lk}:∀{l:List (Nat×Nat×Nat)}{f t:Nat},ID blt xs l f t->f+l.length<=t
 | [],f,t,h=>by cases h;simp
 |(st,len,p)::r,f,t,h=>by
  let{rfl,h1,_,z}:=h;have:=ID.le z;simp;lia
theorem ID.app{xs:Lk}:∀{l r:List (Nat×Nat×Nat)}{f t:Nat},ID blt xs (l++r) f t↔∃m,ID blt xs l f m/\ID blt xs r m t
 | [],r,f,t=>{λh=>⟨f,M,h⟩,λzz=>by let{m,e,h}:=zz;cases e;exact h}
 |(st,len,p)::l,r,f,t=>by
  constructor
  .rintro ⟨h1,h2,z,G⟩;let{m,a,b}:=ID.app.mp G;exact{m,⟨h1,h2,z,a⟩,b}
  .rintro ⟨m,⟨h1,h2,z,a⟩,b⟩;exact{h1,h2,z,ID.app.mpr ⟨m,a,b⟩}
theorem ID.congr{ys:Lk}:∀{l:List (Nat×Nat×Nat)}{f t:Nat},ID blt xs l f t->(∀k,f<=k->k<t->g ys k=g xs k)->ID blt ys l f t
 | [],f,t,h,_=>h
 |(st,len,p)::r,f,t,h,e=>by
  let{rfl,h1,h2,z}:=h;have:=z.le;exact{M,h1,h2.congr λk a b=>e k a (),z.congr λk a b=>e k () b}
theorem ID.pw{a b p q:Nat}{f t:Nat}(h:ID blt xs (l++ [(a,b,p)]) f t):ID blt xs (l++ [(a,b,q)]) f t:=by
 let{m,h1,h2}:=ID.app.mp h;exact ID.app.mpr ⟨m,h1,h2⟩
theorem iM{q:Nat}(S:ID blt xs p.toList 0 lo)(h:1<=n)(o:On blt xs lo (lo+n)):ID blt xs (p.push (lo,n,q)).toList 0 (lo+n):=by
 rw[XO];exact ID.app.mpr ⟨lo,S,M,h,o,M⟩
theorem wV(q:Array α)(x:α)(f:α->α):(q.push x).modify ((q.push x).size-1) f=q.push (f x):=by
 have e:(q.push x).size-1=q.size:=by simp
 rw[e];apply Array.ext
 .simp
 .intro i h1 h2;rw[Array.getElem_modify];by_cases hi:q.size=i
  .subst hi;simp
  .rw[Kc hi];have:i<q.size:=by simp at h2;lia
   rw[Xo this,Xo this]
theorem mY{pw:Nat}(z:1<=p.size)(S:ID blt xs p.toList 0 lo):ID blt xs (p.modify (p.size-1) λx=>(x.1,x.2.1,pw)).toList 0 lo:=by
 obtain⟨q,x,rfl⟩:∃q x,p=q.push x:={p.pop,p[p.size-1],by
  apply Array.ext
  .simp;lia
  .intro i h1 h2;by_cases hi:i<p.pop.size
   .rw[Xo hi];simp
   .have:i=p.size-1:=by simp at h2 hi;lia
    subst this;rw[Array.getElem_push];rw[dif_neg (by simp)]}
 rw[wV,XO];rw[XO]at S;let{a,b,c}:=x;exact S.pw
theorem Bt{l:List α}{x y:α}(h1:l[i]?=some x)(h2:l[i+1]?=some y):∃p r,l=p++x::y::r/\p.length=i:=by
 let{z,G}:=Q2.mp h1;let{I,e2}:=Q2.mp h2;refine{l.take i,l.drop<|i+2,?_,by rw[Qd];lia};have d1:=Z7 z;have d2:=Z7 I;rw[G]at d1;rw[e2]at d2
 calc l=l.take i++l.drop i:=(QJ _ _).symm
  _=_:=by rw[d1,d2]
theorem CK{p r:List α}{x y v:α}:((p++x::y::r).set p.length v).eraseIdx (p.length+1)=p++v::r:=by
 rw[List.set_append_right _ _ (Q5 _),Nat.sub_self];rw[XF (),show p.length+1-p.length=1 by lia];rfl
section
variable(L:wc prog w A E s a₀ κ blt)
include L
theorem nY(C:Jr blt)(Jb:IQ a₀ κ st)(S:ID blt (arrOf st) (pendingOf st).toList 0 lo)(a0:lo<=a₀.size)(hi:i+1<(pendingOf st).size)
  (h:∀st',IQ a₀ κ st'->ID blt (arrOf st') (pendingOf st').toList 0 lo->(pendingOf st').size+1=(pendingOf st).size->(∀k,lo<=k->g (arrOf st') k=g (arrOf st) k)->Q true st'):
  wpS (model prog w) A E s (mergeAt' i) Q st:=by
 have q1:(pendingOf st)[i]?=some ((pendingOf st)[i]'()):=getElem?_pos _ _ _;have q2:(pendingOf st)[i+1]?=some ((pendingOf st)[i+1]'hi):=getElem?_pos _ _ _;obtain⟨⟨z,G,pa⟩,e1⟩:∃x,x=(pendingOf st)[i]'():={_,M};obtain⟨⟨sb,I,pb⟩,e2⟩:∃x,x=(pendingOf st)[i+1]'hi:={_,M};rw[<-e1]at q1;rw[<-e2]at q2;have W:=q1;have Y:=q2;rw[<-Qz]at W Y;let{p,r,O,pl}:=Bt W Y;rw[O]at S;let{m,Z,S2}:=ID.app.mp S;let{rfl,n1,o1,rfl,n2,o2,S3}:=S2;have l3:=S3.le;have l1:=Z.le;refine xO L C Jb q1 q2 M n1 n2 () o1 o2 λst' B' hp on keep=>?_;have ep:(pendingOf st').toList=p++(z,G+I,pa)::r:=by
  rw[hp,Array.toList_eraseIdxIfInBounds,K9,O,<-pl,CK]
 have U:∀k,k<z\/z+G+I<=k->g (arrOf st') k=g (arrOf st) k:=λk hk=>keep k ();refine h st' B' ?_ ?_ λk hk=>U k ()
 .rw[ep];refine ID.app.mpr {z,Z.congr λk a b=>U k<|.inl b,M,(),on,?_};rw[show z+(G+I)=z+G+I by lia];exact S3.congr λk a b=>U k (.inr a)
 .have a:=Ks List.length ep;have b:=Ks List.length O;simp at a b;lia
theorem wn{Q:Unit->SortSt->Prop}(C:Jr blt)(Jb:IQ a₀ κ st)(hp:pendingOf st= #[])(h2:1<=a₀.size)
  (h:∀st',IQ a₀ κ st'->On blt (arrOf st') 0 a₀.size->Q Unit.unit st'):wpS (model prog w) A E s sortRuns' Q st:=by
 rw[sortRuns'_eq];refine Ke<|KO ?_;dsimp only;have hsz:=Jb.size;rw[hsz];refine Ke (KM (Kv
  (I:=λi c st'=>∃lo,c=(none,lo)/\i<=lo/\lo<=a₀.size/\IQ a₀ κ st'/\ID blt (arrOf st') (pendingOf st').toList 0 lo)
  (Q:=λc st'=>c=(none,a₀.size)/\IQ a₀ κ st'/\ID blt (arrOf st') (pendingOf st').toList 0 a₀.size) ?step ?fin {0,M,Q5 _,Qh _,Jb,by rw[hp];exact M}) ?post)
 case fin=>
  rintro c st' ⟨lo,rfl,h1,h3,B',S⟩;have em:max 0 a₀.size=a₀.size:=QO (Qh _);rw[em]at h1;have e:lo=a₀.size:=();subst e;exact⟨M,B',S⟩
 case step=>
  rintro i c st' _ hi ⟨lo,rfl,h1,h3,B',S⟩;dsimp only;by_cases z:lo>=a₀.size
  .rw[Kd z];have e:lo=a₀.size:=();subst e;exact Ki ⟨M,B',S⟩
  .rw[Kc z];refine Ke<|Bf L C B' () () λn st2 B2 p2 m1 m2 O2 k2=>?_;dsimp only;have Z:ID blt (arrOf st2) (pendingOf st2).toList 0 lo:=by
    rw[p2];exact S.congr λk _ b=>k2 k b
   by_cases U:n<minRun' a₀.size a₀.size 0
   .rw[Kd U];refine Ke<|wpS_lift (KP {M,?_});refine Ke<|zN L C B2 m1 () () O2 λO B3 p3 O3 k3=>?_;rw[Kc (_)];have S3:ID blt (arrOf O) (pendingOf O).toList 0 lo:=by
     rw[p3];exact Z.congr λk _ b=>k3 k b
    generalize hn:min (a₀.size-lo) (minRun' a₀.size a₀.size 0)=n' at O3;have a2:1<=n':=();have a3:lo+n'<=a₀.size:=();refine Ke<|KO ?_;cases eb:(pendingOf O).back? with
    |none=>
     dsimp only;exact Ke<|KF (Ki {lo+n',M,(),(),⟨B3.kind,B3.fine,B3.perm⟩,iM S3 () O3})
    |some tt=>
     let{s1,n1,p1}:=tt;dsimp only;have Y:1<=(pendingOf O).size:=by
      rcases Zz (pendingOf O).size with q|q
      .rw[Array.size_eq_zero_iff.mp q]at eb;cases eb
      .exact q
     refine Ke (KM (Kv (I:=λ_ c G=>c=(none,Unit.unit)/\IQ a₀ κ G/\ID blt (arrOf G) (pendingOf G).toList 0 lo/\On blt (arrOf G) lo (lo+n')/\1<=(pendingOf G).size)
      (Q:=λc G=>c=(none,Unit.unit)/\IQ a₀ κ G/\ID blt (arrOf G) (pendingOf G).toList 0 lo/\On blt (arrOf G) lo (lo+n')/\1<=(pendingOf G).size) ?_ (λ_ _ q=>q) ⟨M,B3,S3,O3,Y⟩) ?_)
     .rintro j c G _ _ ⟨rfl,W,S4,O4,z4⟩;refine Ke<|KO ?_;by_cases big:(pendingOf G).size>1
      .rw[Kd big,getElem?_pos (pendingOf G) ((pendingOf G).size-2) ()];obtain⟨⟨u1,u2,a0⟩,eu⟩:∃x,x=(pendingOf G)[(pendingOf G).size-2]'(by(clear big Y eb a3 a2 hn p3 U m2 m1 p2 z h3 h1 hi hsz h2 hp;omega (config:={}))):={_,M};rw[<-eu];dsimp only;split
       .exact Ki ⟨M,W,S4,O4,z4⟩
       .refine Ke<|nY L C W S4 () () λa4 B5 S5 z5 k5=>?_;rw[Kc (_)];exact Ki {M,B5,S5,O4.congr λk a b=>k5 k a,()}
      .rw[Kc big];exact Ki ⟨M,W,S4,O4,z4⟩
     .rintro c G ⟨rfl,W,S4,O4,z4⟩;dsimp only;refine Ke<|KF (Ke<|KF<|Ki {lo+n',M,(),(),⟨W.kind,W.fine,W.perm⟩,?_});exact iM (mY z4 S4) () O4
   .rw[Kc U];have B3:=B2;have S3:=Z;have O3:=O2;obtain⟨O,e3⟩:∃x,x=st2:={_,M};rw[<-e3]at B3 S3 O3⊢;refine Ke<|KO ?_;cases eb:(pendingOf O).back? with
    |none=>
     dsimp only;exact Ke<|KF (Ki {lo+n,M,(),(),⟨B3.kind,B3.fine,B3.perm⟩,iM S3 () O3})
    |some tt=>
     let{s1,n1,p1}:=tt;dsimp only;have Y:1<=(pendingOf O).size:=by
      rcases Zz (pendingOf O).size with q|q
      .rw[Array.size_eq_zero_iff.mp q]at eb;cases eb
      .exact q
     refine Ke (KM (Kv (I:=λ_ c G=>c=(none,Unit.unit)/\IQ a₀ κ G/\ID blt (arrOf G) (pendingOf G).toList 0 lo/\On blt (arrOf G) lo (lo+n)/\1<=(pendingOf G).size)
      (Q:=λc G=>c=(none,Unit.unit)/\IQ a₀ κ G/\ID blt (arrOf G) (pendingOf G).toList 0 lo/\On blt (arrOf G) lo (lo+n)/\1<=(pendingOf G).size) ?_ (λ_ _ q=>q) ⟨M,B3,S3,O3,Y⟩) ?_)
     .rintro j c G _ _ ⟨rfl,W,S4,O4,z4⟩;refine Ke<|KO ?_;by_cases big:(pendingOf G).size>1
      .rw[Kd big,getElem?_pos (pendingOf G) ((pendingOf G).size-2) ()];obtain⟨⟨u1,u2,a0⟩,eu⟩:∃x,x=(pendingOf G)[(pendingOf G).size-2]'(by omega (config:={})):={_,M};rw[<-eu];dsimp only;split
       .exact Ki ⟨M,W,S4,O4,z4⟩
       .refine Ke<|nY L C W S4 () () λa4 B5 S5 z5 k5=>?_;rw[Kc (_)];exact Ki {M,B5,S5,O4.congr λk a b=>k5 k a,()}
      .rw[Kc big];exact Ki ⟨M,W,S4,O4,z4⟩
     .rintro c G ⟨rfl,W,S4,O4,z4⟩;dsimp only;refine Ke<|KF (Ke<|KF<|Ki {lo+n,M,(),(),⟨W.kind,W.fine,W.perm⟩,?_});exact iM (mY z4 S4) () O4
 case post=>
  rintro c st' ⟨rfl,B',S⟩;dsimp only;have a1:=S.le;refine Ke (KM (Kv (I:=λi c st2=>c=(none,Unit.unit)/\IQ a₀ κ st2/\ID blt (arrOf st2) (pendingOf st2).toList 0 a₀.size/\(pendingOf st2).size+i<=a₀.size+1)
   (Q:=λc st2=>c=(none,Unit.unit)/\IQ a₀ κ st2/\ID blt (arrOf st2) (pendingOf st2).toList 0 a₀.size/\(pendingOf st2).size<=1) ?_ ?_ {M,B',S,by rw[Qb]at a1;lia}) ?_)
  .rintro i c st2 _ hi ⟨rfl,B2,Z,z2⟩;refine Ke<|KO ?_;by_cases one:(pendingOf st2).size<=1
   .rw[Kd one];exact Ki ⟨M,B2,Z,one⟩
   .rw[Kc one];generalize a5:(if Option.any _ _=true then(pendingOf st2).size-2-1 else(pendingOf st2).size-2)=ix;have a6:∀bb:Bool,(if bb=true then(pendingOf st2).size-2-1 else(pendingOf st2).size-2)+1<(pendingOf st2).size:=λbb=>by
     cases bb with
     |true=>rw[Kd M];lia
     |false=>rw[Kc (_)];lia
    have hx:ix+1<(pendingOf st2).size:=by
     rw[<-a5];exact a6 _
    refine Ke<|nY L C B2 Z (Q5 _) hx λO B3 S3 z3 k3=>?_;rw[Kc (_)];exact Ki {M,B3,S3,()}
  .rintro c st2 ⟨rfl,B2,Z,z2⟩;have em:max 0 a₀.size=a₀.size:=QO (Qh _);rw[em]at z2;exact{M,B2,Z,()}
  .rintro c st2 ⟨rfl,B2,Z,z2⟩;dsimp only;refine Ki (h st2 B2 ?_)
   match hl:(pendingOf st2).toList,Z with
   | [],Z=>
    have e:0=a₀.size:=Z;lia
   | [(a,b,p)],Z=>
    let{rfl,_,o,e}:=Z;have e:0+b=a₀.size:=e;rw[e]at o;exact o
   |_::_::_,_=>
    have:=Ks List.length hl;simp at this;lia
end
variable{blt:Lx}{vs:Lj}{E Q:Ls}
section
variable{prog:Ln}{w:Lp}{A:Lv}{s:K'}{κ:SortKind}
abbrev But(a:G')(s s':K'):Prop:=∀b o,b≠a->s.heap.get? b=some o->s'.heap.get? b=some o
theorem uf{a:G'}{n:Nat}{P:PySem.Fin->Shared->Prop}(I:s.heap.get? a=some (seqObj ke vs.toArray n))(hz:vs.length<=sizeLine)(C:Jr blt)
  (U:∀h':Heap,But a s {s with heap:=h'}->2<=vs.length->∀Q':SortKind->Shared->Prop,Q' κ {s with heap:=h'}->wpAny (model prog w) A (keyKind' vs.toArray) Q' E {s with heap:=h'})
  (L:∀h':Heap,But a s {s with heap:=h'}->wc prog w A E {s with heap:=h'} (pairsOf vs) κ blt)
  (h:∀out:Array Keyed,out.Perm (pairsOf vs)->PW blt out.toList->P (.done<|.ret .none) {s with heap:=sortedHeap s.heap a vs (out.map (·.2))}):wpAny (model prog w) A (Builtin.«list.sort» {[.ref a],[]}) P E s:=by
 have Z:vs.toArray.size=vs.length:=Qi;have ha:=Kl I;rw[list_sort_plain];refine Kk<|listItems_at I M (Kk<|listUpdate_at I M ?_ (hsz:=by rwa[Z]));obtain⟨e1,G⟩:∃k,(s.heap.update a<|Obj.mapSeq λ_=> #[]).get? a=some (seqObj ke #[] k):={_,get?_update_seq I<|λ_=> #[]};refine Kk<|seqEpoch_at G M (Kk<|wpAny_newTuple ?_ (hsz:=hz));refine Kk<|wpAny_newList (KN ?_);generalize W:((s.heap.update a<|Obj.mapSeq λ_=> #[]).push<|seqObj u6 vs.toArray 0).push (seqObj ke #[] 0)=h6;have up:∀b o,(s.heap.update a<|Obj.mapSeq λ_=> #[]).get? b=some o->h6.get? b=some o:=λb o e=>by
  rw[<-W];exact Kg _<|Kg _ e
 have z:=up a _ G;have but:But a s {s with heap:=h6}:=λb o hb e=>up b o (by exact(KL _ _<|Ne.symm hb).trans e);have fin:∀out:Array Keyed,out.Perm (pairsOf vs)->PW blt out.toList->P (.done<|.ret .none) {s with heap:=h6.update a (Obj.mapSeq λ_=>out.map (·.2))}:=λout p q=>by
  have:=h out p q;unfold sortedHeap at this;rw[W]at this;exact this
 have hsz2:∀out:Array Keyed,out.Perm (pairsOf vs)->(out.map (·.2)).size<=sizeLine+1:=λout p=>by
  have:=p.size_eq;rw[pairsOf_size]at this;rw[Array.size_map];lia
 dsimp only;by_cases h2:vs.toArray.size<2
 .rw[Kd h2,Kd h2];refine Kk<|Kt ?_;rw[StateT.run_pure];refine Kk<|Kt ?_;dsimp only;have Y:(SortSt.mk' general' (vs.toArray.zip vs.toArray) #[] 7 none|>arrOf).Perm (pairsOf vs):=Array.Perm.refl _;refine Kk<|seqEpoch_at z M (Kk<|listUpdate_at z M ?_ (hsz:=Qh _) (hsz2:=hsz2 _ Y));simp only[bne_self_eq_false,Zm,if_false];refine Kt<|fin _ Y ?_;have l1:(vs.toArray.zip vs.toArray).toList.length<=1:=by simp at h2⊢;lia
  show PW blt (vs.toArray.zip vs.toArray).toList;revert l1;generalize (vs.toArray.zip vs.toArray).toList=l;rcases l with _|⟨x,_|⟨y,t⟩⟩<;>intro l1<;>first|exact Kx|exact Zf _ _|exact Kh l1<|Nat.not_le_of_lt (Nat.succ_lt_succ<|Nat.succ_pos _)
 .rw[Kc h2,Kc h2];refine Kk<|U h6 but () _ ?_;refine Kk (KB (wn (L h6 but) (st:=SortSt.mk' κ (vs.toArray.zip vs.toArray) #[] 7 none) (Q:=λ_ st'=>IQ (pairsOf vs) κ st'/\On blt (arrOf st') 0 (pairsOf vs).size) C
   {M,M,Array.Perm.refl _} M (by rw[pairsOf_size];lia) λst' Jb O=>⟨Jb,O⟩) ?_ λ_ _ e=>e)
  rintro ⟨⟨⟩,st'⟩ s' ⟨rfl,Jb,O⟩;dsimp only;refine Kk<|seqEpoch_at z M (Kk<|listUpdate_at z M ?_ (hsz:=Qh _) (hsz2:=hsz2 _ Jb.perm));rw[Jb.fine];simp only[bne_self_eq_false,Zm,if_false];refine Kt<|fin _ Jb.perm ?_;have:=fG (a:=arrOf st') (blt:=blt) (by rwa[Jb.size]) 0;rwa [Zv]at this
theorem sorted_any{l:G'}(hl:s.heap.IsList l vs.toArray)(hz:vs.length<=sizeLine)(C:Jr blt)
  (G:∀h':Heap,(∀b o,s.heap.get? b=some o->h'.get? b=some o)->2<=vs.length->∀Q':SortKind->Shared->Prop,Q' κ {s with heap:=h'}->wpAny (model prog w) A.in1.in1 (keyKind' vs.toArray) Q' (λ_ _=>False) {s with heap:=h'})
  (L:∀h':Heap,(∀b o,s.heap.get? b=some o->h'.get? b=some o)->wc prog w A.in1.in1 (λ_ _=>False) {s with heap:=h'} (pairsOf vs) κ blt)
  (h:∀out:Array Keyed,out.Perm (pairsOf vs)->PW blt out.toList->Q (.ref<|s.heap.objs.size+1) {s with heap:=sortedAll s.heap vs (out.map (·.2))}):wpAny (model prog w) A (call (.builtin va) [.ref l]) Q E s:=by
 refine Calls.call_function_entry kind_sorted plain_sorted entry_sorted (args_sorted1 _) ?_;unfold Builtin.«sorted»;refine Kk (m:=checkCount va 1 1 _)<|Kt (Kk<|collect_list hl ?_ (hsz:=hz));refine Kk<|wpAny_newList ?_ (hsz:=hz);generalize I:(s.heap.push<|seqObj ke #[] 0).update s.heap.objs.size (Obj.mapSeq (· ++vs.toArray))=h1;have z:h1.objs.size=s.heap.objs.size+1:=by rw[<-I,Heap.size_update,size_push']
 have O:∀b o,s.heap.get? b=some o->(h1.push<|seqObj ke vs.toArray 0).get? b=some o:=λb o e=>by
  refine Kg _ ?_;rw[<-I];exact(KL _ _<|Ne.symm<|Qy<|Kl e).trans<|Kg _ e
 have new:(h1.push<|seqObj ke vs.toArray 0).get? (s.heap.objs.size+1)=some (seqObj ke vs.toArray 0):=by
  rw[<-z];exact Ko _ M
 have keep:∀h':Heap,But (s.heap.objs.size+1) {s with heap:=h1.push (seqObj ke vs.toArray 0)} {s with heap:=h'}->∀b o,s.heap.get? b=some o->h'.get? b=some o:=λh' k b o e=>
  k b o (Qy<|Nat.lt_succ_of_lt<|Kl e) (O b o e)
 show wpAny _ _ _ _ _ {s with heap:=h1.push (seqObj ke vs.toArray 0)};rw[z];refine Kk<|KN (KB (wpAny_call_entry (E:=λ_ _=>False) slot_list_sort {_,new,M} entry_list_sort (uf (κ:=κ) (blt:=blt) new hz C (λh' k=>G h'<|keep h' k) (λh' k=>L h'<|keep h' k) λout p q=>{_,M,?_})<|args_list_sort _) (λ_ _ q=>q) λ_ _ f=>f.elim);refine Kt {_,M,?_};have:=h out p q;unfold sortedAll at this;rw[I]at this;exact this
end
variable{blt:Lx}{E:Ls}
theorem xa:∀(a b:Lh),HT.lexLt a b=true->HT.lexLt b a=false
 | [],[],h=>rfl
 | [],_::_,_=>rfl
 |_::_,[],h=>by rw[HT.lexLt_cons_nil]at h;cases h
 |x::xs,y::ys,h=>by
  rw[HT.lexLt_cons]at h⊢;by_cases e:x=y
  .rw[Kd e]at h;rw[Kd e.symm];exact xa xs ys h
  .rw[Kc e]at h;rw[Kc (Ne.symm e)];have:=Kj h;exact Kr ()
theorem Ck:∀(a b c:Lh),HT.lexLt b a=false->HT.lexLt c b=false->HT.lexLt c a=false
 | [],b,[],_,_=>rfl
 |x::xs,[],c,h,_=>by rw[HT.lexLt_nil_cons]at h;cases h
 |a,y::ys,[],_,h=>by rw[HT.lexLt_nil_cons]at h;cases h
 | [],_,_::_,_,_=>HT.lexLt_cons_nil _ _
 |x::xs,y::ys,z::zs,h1,h2=>by
  rw[HT.lexLt_cons]at h1 h2⊢;by_cases G:y=x
  .rw[Kd G]at h1;by_cases e2:z=y
   .rw[Kd e2]at h2;rw[Kd (e2.trans G)];exact Ck xs ys zs h1 h2
   .rw[Kc e2]at h2;rw[Kc (by rwa[<-G])];have:=Ky h2;exact Kr ()
  .rw[Kc G]at h1;have g1:=Ky h1;by_cases e2:z=y
   .rw[Kd e2]at h2;rw[Kc ()];exact Kr ()
   .rw[Kc e2]at h2;have O:=Ky h2;by_cases I:z=x
    .lia
    .rw[Kc I];exact Kr ()
theorem cmp_of(k:Keyed->List Int):Jr λp q=>HT.lexLt (k p) (k q):={λx y h=>xa _ _ h,λx y z h1 h2=>Ck _ _ _ h1 h2}
theorem runs_of{prog:Ln}{w:Lp}{A:Lv}{s:K'}{a₀:Lk}{κ:SortKind} 
  (h:∀(x y:Keyed)(E':Value->Shared->Prop)(Q:Bool->Shared->Prop),x∈a₀->y∈a₀->Q (blt x y) s->wpAny (model prog w) A (keyLt' κ x.1 y.1) Q E' s):wc prog w A E s a₀ κ blt:=by
 intro x y st Q hx hy hk q;rw[lt'_eq];refine Ke<|KO ?_;rw[hk];refine Ke<|wpS_lift (wpAny_attempt<|h x y _ _ hx hy {M,?_});exact Ki q
end Srt
namespace L2
open PySem PySem.Spec PyProof.Rows
variable{H:Hp}{J:Lm}{xs ys:Lf}{us:Lj}{s:K'}{B:St}{u:Lg}
def Je(u:Lg):V:=(absV u).getD .non
def qb{x:V}(r:RelV x u):Je u=x:=by unfold Je;rw[r.abs];rfl
def yQ(h:Du xs us):us.map Je=xs:=by
 induction h with
 |nil=>rfl
 |cons r t z=>rw[Qs,qb r,z]
def jk(h:Du xs us)(hu:u∈us):∃x∈xs,RelV x u:=by
 induction h with
 |nil=>exact Kh hu Z4
 |cons r t z=>
  rcases Q7.mp hu with e|e
  .subst e;exact{_,Q6,r}
  .let{x,h1,h2}:=z e;exact{x,Qc _ h1,h2}
theorem u9:∀{us:Lj},(∀u∈us,RelV (Je u) u)->Du (us.map Je) us
 | [],_=> .nil
 |u::r,h=> .cons (h u Q6) (u9 λv z=>h v<|Qc _ z)
section
variable{X:Cx}
def zX{Q:VK}{p:G'}{its:Lj}{κ:SortKind}{ky:V->List Int}(I:Inv X J B H s)(hz:xs.length<=sizeLine)(rv:Du xs its)(hl:s.heap.IsList p its.toArray)
  (Y:∀h':Heap,(∀b o,s.heap.get? b=some o->h'.get? b=some o)->2<=its.length->∀Q':SortKind->Shared->Prop,Q' κ {s with heap:=h'}->wpAny (model X.prog X.w) X.A.in1.in1 (keyKind' its.toArray) Q' (λ_ _=>False) {s with heap:=h'})
  (Z:∀h':Heap,(∀b o,s.heap.get? b=some o->h'.get? b=some o)->∀(x y:V)(u v:Lg)(E':Ls)(Q':Bool->Shared->Prop),x∈xs->y∈xs->RelV x u->RelV y v->Q' (HT.lexLt (ky x)<|ky y) {s with heap:=h'}->wpAny (model X.prog X.w) X.A.in1.in1 (keyLt' κ u v) Q' E' {s with heap:=h'})
  (q:∀l ys,H l=none->ys.Perm xs->ys.Pairwise (λa b=>HT.lexLt (ky b) (ky a)=false)->Q (.ref l) (upd H l<|.lst ys)):
  Jd X (call (.builtin va) [.ref p]) (EP X J B Q) X.xe s:=by
 have hi:its.length<=sizeLine:=by rwa[<-rv.length]
 have mem:∀z:Keyed,z∈pairsOf its->z.1=z.2/\z.1∈its:=λz hz=>by
  have:z∈(pairsOf its).toList:=by simpa using hz
  rw[pairsOf_toList]at this;exact mem_zip_self this
 refine Srt.sorted_any (κ:=κ) (blt:=λa b=>HT.lexLt (ky<|Je a.1)<|ky<|Je b.1) hl hi (Srt.cmp_of λa=>ky<|Je a.1) Y (λh' k=>Srt.runs_of λx y E' Q' hx hy q'=>?_) λout pm pw=>?_
 .let{x',a0,G}:=jk rv (mem x hx).2;let{y',a1,O}:=jk rv (mem y hy).2;rw[qb G,qb O]at q';exact Z h' k x' y' x.1 y.1 E' Q' a0 a1 G O q'
 .have U:out.toList.Perm (its.zip its):=by
   have:=X7.mp pm;rwa [pairsOf_toList]at this
  have W:∀z∈out.toList,z.1=z.2/\z.1∈its:=λz hz=>mem_zip_self (U.mem_iff.mp hz);have e2:(out.map (·.2)).toList=out.toList.map (·.2):=Array.toList_map;have pv:((out.map (·.2)).toList).Perm its:=by
   rw[e2];refine(U.map _).trans<|KI ?_;exact List.map_snd_zip<|Q5 _
  have hu:∀u∈(out.map (·.2)).toList,RelV (Je u) u:=λu hu=>by
   let{x,_,r}:=jk rv (pv.mem_iff.mp hu);rwa[qb r]
  have vy:=u9 hu;have fresh:H (s.heap.objs.size+1)=none:=I.hok.fresh (Zx _);have py:((out.map (·.2)).toList.map Je).Perm xs:=by
   rw[<-yQ rv];exact pv.map _
  let{e,at_}:=sortedAll_at s.heap its (out.map (·.2));refine{.ref<|s.heap.objs.size+1,upd H (s.heap.objs.size+1) (.lst ((out.map (·.2)).toList.map Je)),I.laid (t':=s.toks) (λb o q=>sortedAll_old q) (Zx _) {?_,_,e,vy,?_},M,q _ _ fresh py ?_}
  .rwa[py.length_eq]
  .rw[at_,Xq]
  .rw[e2,QR];refine QS.mpr<|pw.imp_of_mem λ{a b} ha hb h=>?_;show HT.lexLt (ky<|Je b.2) (ky<|Je a.2)=false;rwa[<-(W a ha).1,<-(W b hb).1]
noncomputable def vN:V->List Int
 | .int i=> [i]
 |_=> []
def Ad{ns:Lh}(h:ys.Perm (ns.map V.int)):∃ms:List Int,ys=ms.map V.int/\ms.Perm ns:=by
 have e:ys=(ys.map λy=>match y with| .int i=>i|_=>0).map V.int:=by
  rw[QR];refine(XQ ys).symm.trans<|Zu λy hy=>?_;let{i,_,rfl}:=Qj.mp (h.mem_iff.mp hy);rfl
 refine{_,e,?_};refine(h.map λy=>match y with| .int i=>i|_=>0).trans<|KI ?_;rw[QR];exact XQ ns
noncomputable def kRef(ky:Addr->List Int):V->List Int
 | .ref a=>ky a
 |_=> []
def Ac{as:Lu}(h:ys.Perm (as.map V.ref)):∃bs:List Addr,ys=bs.map V.ref/\bs.Perm as:=by
 have e:ys=(ys.map λy=>match y with| .ref i=>i|_=>0).map V.ref:=by
  rw[QR];refine(XQ ys).symm.trans<|Zu λy hy=>?_;let{i,_,rfl}:=Qj.mp (h.mem_iff.mp hy);rfl
 refine{_,e,?_};refine(h.map λy=>match y with| .ref i=>i|_=>0).trans<|KI ?_;rw[QR];exact XQ as
def xT{a:G'}(I:Inv X J B H s)(h:H a=some (.tup xs)){h':Heap}(k:∀b o,s.heap.get? b=some o->h'.get? b=some o):
  ∃(o:Obj)(its:Lj)(n:Nat),Du xs its/\h'.get? a=some o/\o.cls= .type u6/\o.data= .seq its.toArray n:=by
 let{_,its,rv,o,e,c,n,d}:=(show II X.prog X.w H s.heap a (.tup xs) from I.hok a _ h);exact{o,its,n,rv,k _ _ e,c,d}
end
end L2
namespace Srt
open PySem PyProof.Rows
variable{blt:Lx}{E Q:Ls}
section
variable{prog:Ln}{w:Lp}{A:Lv}{s:K'}{κ:SortKind}
theorem sorted_src{r:Lg}{G:List Value->Prop} 
  (hc:∀(R:List Value->Shared->Prop)(E':Ls),(∀(h1:Heap)(tk:Nat)(vs:Lj),(∀b o,s.heap.get? b=some o->h1.get? b=some o)->G vs->R vs {s with heap:=h1,toks:=tk})->wpAny (model prog w) A.in1 (collect r) R E' s)
  (hz:∀vs,G vs->vs.length<=sizeLine) (C:Jr blt)
  (z:∀(vs:Lj)(h':Heap)(tk:Nat),G vs->(∀b o,s.heap.get? b=some o->h'.get? b=some o)->2<=vs.length->∀Q':SortKind->Shared->Prop,Q' κ {s with heap:=h',toks:=tk}->wpAny (model prog w) A.in1.in1 (keyKind' vs.toArray) Q' (λ_ _=>False) {s with heap:=h',toks:=tk})
  (L:∀(vs:Lj)(h':Heap)(tk:Nat),G vs->(∀b o,s.heap.get? b=some o->h'.get? b=some o)->wc prog w A.in1.in1 (λ_ _=>False) {s with heap:=h',toks:=tk} (pairsOf vs) κ blt)
  (h:∀(vs:Lj)(h1 h2:Heap)(tk e:Nat)(out:Lk),G vs->(∀b o,s.heap.get? b=some o->h1.get? b=some o)->(∀b o,h1.get? b=some o->h2.get? b=some o)->h2.get? h1.objs.size=some (seqObj ke (out.map (·.2)) e)->out.Perm (pairsOf vs)->PW blt out.toList->Q (.ref h1.objs.size) {s with heap:=h2,toks:=tk}):
  wpAny (model prog w) A (call (.builtin va) [r]) Q E s:=by
 refine Calls.call_function_entry kind_sorted plain_sorted entry_sorted (args_sorted1 _) ?_;unfold Builtin.«sorted»;refine Kk (m:=checkCount va 1 1 _)<|Kt (Kk<|hc _ _ λh1 tk vs I g=>?_);refine Kk<|wpAny_newList ?_ (hsz:=hz vs g);have new:(h1.push<|seqObj ke vs.toArray 0).get? h1.objs.size=some (seqObj ke vs.toArray 0):=Ko _ M;have keep:∀h':Heap,But h1.objs.size {s with heap:=h1.push (seqObj ke vs.toArray 0),toks:=tk} {s with heap:=h',toks:=tk}->∀b o,s.heap.get? b=some o->h'.get? b=some o:=λh' k b o e=>
  k b o (Qy<|Kl<|I b o e) (Kg _<|I b o e)
 show wpAny _ _ _ _ _ {s with heap:=h1.push (seqObj ke vs.toArray 0),toks:=tk};refine Kk<|KN (KB (wpAny_call_entry (E:=λ_ _=>False) slot_list_sort {_,new,M} entry_list_sort (uf (s:={s with heap:=h1.push (seqObj ke vs.toArray 0),toks:=tk}) (κ:=κ) (blt:=blt) new (hz vs g) C (λh' k=>z vs h' tk g<|keep h' k) (λh' k=>L vs h' tk g<|keep h' k) λout p q=>{_,M,?_})<|args_list_sort _) (λ_ _ q=>q) λ_ _ f=>f.elim);refine Kt {_,M,?_};let{e,at_}:=sortedHeap_at (out:=out.map (·.2)) new;refine h vs h1 _ tk e out g I (λb o q=>?_) at_ p q
 have lt:=Kl q;rw[sortedHeap_old (Qy lt) (by rw[size_push'];exact Nat.lt_succ_of_lt lt)];exact Kg _ q
end
end Srt
namespace L2
open PySem PySem.Spec PyProof.Rows
variable{C D a d:G'}{X:Cx}{elt iter tg:Expr}{H H1 H4:Hp}{Fin:Hp->Prop}{Ja:It}{R:It->Hp->Prop}{J:Lm}{kvs:Mg}{vs:List (Key×Value)}{cl:Mm}{elts ifs:Mh}{M' N':Lq}{xs ys:Lf}{i n:Nat}{ob:Obj}{pos px py spos:Pos}{P:Ln}{K:Jc}{scope:Scope}{s:K'}{B:St}{x y:Str}{nx:Ml}{Jb:St->VK->It->Hp->Prop}{te:TE}{g:TG}{wi:TI}{tc:TT}{Q:VK}{RR:Value->Addr->Result->Shared->Prop}{w:Lp}
def zi{k:Key}{v:Lg}(h:(bc P w).is k v=true):RelV (kV k) v:=by
 rw[yp]at h;cases k with
 |inl i=>
  cases v with
  |int j t=>exact{t,by simp[jS,Value.isInt]at h;rw[h]}
  |_=>simp[jS,Value.isInt]at h
 |inr x=>
  cases v with
  |str y t=>exact{t,by simp[jS,Value.isStrOf]at h;rw[h]}
  |_=>simp[jS,Value.isStrOf]at h
def oY(kvs:Mg):List V:=kvs.map λp=>kV p.1
set_option tactic.hygienic true in
def xP{acc:Lj}(z:KV kvs vs)(hl:acc.length=vs.length)
  (G:∀(j:Nat)(v:Lg),acc[j]?=some v->∃k x,vs[j]?=some (k,x)/\(bc P w).is k v=true):Du (oY kvs) acc:=by
 induction z generalizing acc with
 |nil=>cases acc with
  |nil=>exact .nil
  |cons a b=>simp at hl
 |cons r t O=>
  rename_i p q ps qs
  cases acc with
  |nil=>simp at hl
  |cons a b=>
   refine .cons ?_<|O (by simpa using hl) λj v e=>?_
   .let{k,x,I,e2}:=G 0 a M;simp at I;subst I;show RelV (kV p.1) a;rw[r.1];exact zi e2
   .exact G (j+1) v<|by simpa using e
def wD{T:String}{r:G'}{OK:Heap->Prop}{ns:Lh}(hh:X.A.handled=none)(I:Inv X J B H s)(Z:KV kvs vs)(z:kvs.length<=sizeLine)
  (src:PySem.W.KdlSrc X.prog X.w T r d vs.length (λi v=>∃k x,vs[i]?=some (k,x)/\(bc X.prog X.w).is k v=true) OK) (hok:OK s.heap) (Y:oY kvs=ns.map V.int)
  (q:∀(l:Addr)(ms:List Int),H l=none->ms.Perm ns->ms.Pairwise (· <= ·)->Q (.ref l) (upd H l<|.lst<|ms.map V.int)):Jd X (call (.builtin va) [.ref r]) (EP X J B Q) X.xe s:=by
 have a5:kvs.length=vs.length:=Z.length;have a0:(oY kvs).length=kvs.length:=Q0 _;have O:∀its:List Value,Du (oY kvs) its->∀v∈its,∃i t,v=Value.int i t:=λits rv v hv=>by
  let{x,hx,rx}:=jk rv hv;rw[Y]at hx;let{i,_,rfl}:=Qj.mp hx;let{t,e}:=rx;exact⟨i,t,e⟩
 have mem:∀(its:Lj)(z:Keyed),z∈pairsOf its->z.1=z.2/\z.1∈its:=λits z hz=>by
  have:z∈(pairsOf its).toList:=by simpa using hz
  rw[pairsOf_toList]at this;exact mem_zip_self this
 refine Srt.sorted_src (G:=λits=>Du (oY kvs) its) (κ:=oneType') (blt:=λa b=>HT.lexLt (vN<|Je a.1)<|vN<|Je b.1) (λR E' k=>?_) (λits rv=>by rwa[<-rv.length,a0]) (Srt.cmp_of λa=>vN<|Je a.1)
  (λits h' tk rv k h2 Q' hQ=>?_) (λits h' tk rv k=>Srt.runs_of λx y E' Q' hx hy hQ=>?_) (λits h1 h2 tk e out rv k1 k2 at_ pm pw=>?_)
 .refine PySem.W.kdu_collect src hh hok () λh' tk acc hk U=>k h' tk acc.toList hk ?_;exact xP Z (by rw[Qb];exact U.1) λj v e=>U.2 j v (by rwa[<-Qz])
 .refine PySem.W.kas_kind (T:= .type "int") h2 (λv hv=>?_) ∅ ∅ hQ;let{i,t,rfl}:=O its rv v hv;exact PySem.W.Looks.of_pure M
 .let{i,t,e1}:=O its rv _ (mem its x hx).2;let{j,t',e2}:=O its rv _ (mem its y hy).2;rw[e1,e2]at hQ⊢;refine PySem.W.kat_lt_int ?_;have e:HT.lexLt (vN<|Je<|.int i t) (vN<|Je<|.int j t')=decide (i<j):=by
   show HT.lexLt [i] [j]=_;rw[HT.lexLt_cons];by_cases z:i=j
   .rw[Kd z,HT.lexLt_nil_nil,Kr ()]
   .rw[Kc z]
  rw[e]at hQ;exact hQ
 .have a1:out.toList.Perm (its.zip its):=by
   have:=X7.mp pm;rwa [pairsOf_toList]at this
  have a2:∀z∈out.toList,z.1=z.2/\z.1∈its:=λz hz=>mem_zip_self (a1.mem_iff.mp hz);have e2:(out.map (·.2)).toList=out.toList.map (·.2):=Array.toList_map;have pv:((out.map (·.2)).toList).Perm its:=by
   rw[e2];refine(a1.map _).trans<|KI ?_;exact List.map_snd_zip<|Q5 _
  have hu:∀u∈(out.map (·.2)).toList,RelV (Je u) u:=λu hu=>by
   let{x,_,r}:=jk rv (pv.mem_iff.mp hu);rwa[qb r]
  have vy:=u9 hu;have I1:Inv X J B H {s with heap:=h1,toks:=tk}:=I.kept k1;have py:((out.map (·.2)).toList.map Je).Perm (ns.map V.int):=by
   rw[<-Y,<-yQ rv];exact pv.map _
  have a3:((out.map (·.2)).toList.map Je).Pairwise (λa b=>HT.lexLt (vN b) (vN a)=false):=by
   rw[e2,QR];refine QS.mpr<|pw.imp_of_mem λ{a b} ha hb h=>?_;show HT.lexLt (vN<|Je b.2) (vN<|Je a.2)=false;rwa[<-(a2 a ha).1,<-(a2 b hb).1]
  have lz:((out.map (·.2)).toList.map Je).length<=sizeLine:=by
   rwa[py.length_eq,<-Y,a0]
  let{ms,em,a4}:=Ad py;rw[em]at vy a3 lz;refine{.ref h1.objs.size,upd H h1.objs.size<|.lst<|ms.map V.int,I1.laid (t':=tk) k2 (Q5 _) {lz,_,e,vy,?_},M,q _ _ (I1.hok.fresh<|Q5 _) a4 ?_}
  .rw[at_,Xq]
  .refine(QS.mp a3).imp λ{a b} h=>?_;have h:HT.lexLt [b] [a]=false:=h;rw[HT.lexLt_cons]at h;by_cases z:b=a
   .lia
   .rw[Kc z]at h;have:=Ky h;lia
def vV(Y:X.A.handled=none):iz X (.builtin va) (λxs H Q=>∃(a:G')(kvs:Mg)(ns:Lh),xs=[.ref a]/\Rd H a (.dK kvs)/\oY kvs=ns.map V.int/\
  ∀(l:G')(ms:Lh),H l=none->ms.Perm ns->ms.Pairwise (· <= ·)->Q (.ref l) (upd H l<|.lst<|ms.map V.int)):=by
 intro J s B H xs us Q I r h;let{a,kvs,ns,rfl,hd,G,q}:=h;let{u,rfl,Z}:=tZ r;cases Z;let{z,lo,vs,O,dd}:=rQ I.hok hd;let{ep,U}:=dd.dictAt;exact wD Y I O z (PySem.W.kdl_dict (knd:=bc X.prog X.w) (kvs:=vs) (ep:=ep) lo) U G q
inductive HC(x:V)(vs:Lf)(H:Hp)(Q:VK):Prop
 |mk(a kvs k v:_)(_:x= .ref a)(_:vs=[kV k])(_:H a=some (.dK kvs))(_:aI kvs k=some v)(_:Q v (upd H a<|.dK<|bB kvs k))
def y7:Le X "dict.pop" HC:=by
 intro J s B H x vs v us Q I z rv h;let{a,kvs,k,y,rfl,rfl,G,hl,q}:=h;cases z;let{u,rfl,O}:=rv.one;exact HY I G O hl (.inl M) λw' s' U r'=>{y,_,U,r',q}
inductive HB(K:Jc)(x:V)(vs:Lf)(H:Hp)(Q:VK):Prop
 |mk(sep:Str)(a:G')(ys:Lq)(_:x= .str sep)(_:vs=[.ref a])(_:Dv K H a (ys.map V.str))(_:sep.length<=16)(_:(ys.map (·.length)).sum+ys.length<=1048576)(_:Q (.str<|Txt.join sep ys) H)
theorem wy:∀{ys:Lq}{its:Lj},Du (ys.map V.str) its->StrsAre its ys
 | [],_,.nil=> .nil
 |_::_,_,.cons ⟨t,e⟩ r=>by subst e;exact .cons _ _<|wy r
def Eh:Le X "str.join" (HB X.K):=by
 intro J s B H x vs v us Q I z rv h;let{G,a,ys,rfl,rfl,hS,h1,h2,q}:=h;let{t,rfl}:=z;let{u,rfl,O}:=rv.one;cases O;let{its,r,pl,_}:=I.list hS;exact join_listW pl.isList (by simpa using wy r) h1 h2 λt' k=>{.str _,H,I.tok _,⟨t',M⟩,q}
set_option tactic.hygienic true in
theorem mD{env:Env}:∀(l:List (Str×NameKind))(cs:Mm),(∀p∈l,p.2= .free->∃c,env.cells.lookup p.1=some c)->
  ∃cl,(forIn l cs (λp cs=>if(p.2==NameKind.free)=true then cellOf env p.1>>=λa=>pure (ForInStep.yield ((p.1,a)::cs))else pure (ForInStep.yield cs)):Sem _)=pure cl/\
   (∀y c,cl.lookup y=some c->cs.lookup y=some c\/env.cells.lookup y=some c)/\(∀y c,cs.lookup y=some c->∃c',cl.lookup y=some c')/\(∀y,(y,NameKind.free)∈l->∃c,cl.lookup y=some c)
 | [],cs,_=>{cs,by rw[List.forIn_nil],λy c h=> .inl h,λy c h=>⟨c,h⟩,λy h=>nomatch h}
 |(n,k)::r,cs,h=>by
  rw[List.forIn_cons];by_cases hk:k= .free
  .subst hk;let{c,hc}:=h (n,.free) Q6 M;have hc:env.cells.lookup n=some c:=hc;have e:cellOf env n=pure c:=by unfold cellOf;rw[hc]
   let{cl,h1,h2,G,I}:=mD r ((n,c)::cs) λp hp=>h p (Qc _ hp);refine{cl,?_,λy c' hy=>?_,λy c' hy=>?_,λy hy=>?_}
   .simp only[KH,if_true,e,pure_bind];exact h1
   .rcases h2 y c' hy with q|q
    .rw[QX]at q;split at q
     .rename_i z
      cases q;rw[Kp]at z;subst z;exact .inr hc
     .exact .inl q
    .exact .inr q
   .by_cases z:y=n
    .exact G y c<|by rw[QX,z];simp
    .exact G y c'<|by rwa[QX,Kn.mpr z]
   .rcases Q7.mp hy with q|q
    .have O:y=n:=(KK q).1;exact G y c<|by rw[QX,O];simp
    .exact I y q
  .have hb:(k==NameKind.free)=false:=by simpa using hk
   let{cl,h1,h2,G,I}:=mD r cs λp hp=>h p (Qc _ hp);refine{cl,?_,h2,G,λy hy=>?_}
   .simp only[hb,Zm,if_false,pure_bind];exact h1
   .rcases Q7.mp hy with q|q
    .exact Kh (KK q).2.symm hk
    .exact I y q
def rT{env:Env}(h:∀p∈scope.names,p.2= .free->∃c,env.cells.lookup p.1=some c):
  ∃cl,closureFor scope env=pure cl/\(∀y c,cl.lookup y=some c->env.cells.lookup y=some c)/\(∀y,(y,NameKind.free)∈scope.names->∃c,cl.lookup y=some c):=by
 let{cl,h1,h2,_,G}:=mD scope.names [] h;refine{cl,?_,λy c hy=>(h2 y c hy).resolve_left λz=>by simp at z,G};unfold closureFor;simp only[bind_pure];exact h1
def JY(X:Cx)(M' N':Lq)(scope:Scope)(cl:Mm)(C:G')(s₂:K')(H₂:Hp)(fp:Lu):Cx:=
 {X with N:=M'++N',s₀:=s₂,H₀:=H₂,env:=compEnvC scope cl C X.env,outer:=X.stack,stack:=X.stack,ex:=fp,fn:=λ_=>false,pn:=[],xe:=λ_ _=>False}
structure IF(X:Cx)(M' N':Lq)(scope:Scope):Prop where
 kind:scope.kind= .function
 nd:(M'++N').Nodup
 ln:N'.length=X.N.length
 own:∀x∈M',scope.names.lookup x=some .local
 nocell:∀y∈scope.names,y.2≠ .cell
 names:∀y∈scope.names,y.2= .local->scope.names.lookup y.1=some .local
 free:∀y∈scope.names,y.2= .free->X.env.kindOf y.1=some .cell
 vis:∀(j:Nat)(y:Str),N'[j]?=some y->Lc (relabel scope X.env) y->X.N[j]?=some y/\(y,NameKind.free)∈scope.names/\(relabel scope X.env).names.lookup y=some .cell
 cells:∀y,((relabel scope X.env).names.lookup y=some .cell\/(relabel scope X.env).names.lookup y=some .free)->(y,NameKind.free)∈scope.names
def uN(n:Nat)(g:TG)(tc:TT)(te:TE)(B:St)(Q:VK)(Ja:It)(H1:Hp):Prop:=∀D,H1 D=none->∃W:Nat->Nat->St->List V->Hp->Prop,(∃m,W 0 m (List.replicate n none++B) [] (upd H1 D<|.lst []))/\∀i m τ ys H2,W i m τ ys H2->H2 D=some (.lst ys)->
 (Ja.stop i H2/\Q (.ref D) H2)\/(Ja.go i H2/\∀x H3,Ja.yld i H2 x H3->∃G:St->Hp->Prop,(∀τ2 H4,G τ2 H4->∃(Ny:VK)(Ns:Hp->Prop),(∀y H6,Ny y H6->H6 D=some (.lst ys)/\ys.length<sizeLine/\∃m',m'<m/\W (i+1) m' τ2 (ys++ [y]) (upd H6 D<|.lst<|ys++ [y]))/\
  (∀H5,Ns H5->H5 D=some (.lst ys)/\∃m',m'<m/\W (i+1) m' τ2 ys H5)/\tc τ2 H4 λb H5=>if b=true then te τ2 H5 Ny else Ns H5)/\g x τ H3 G)
def EZ:TT:=λ_ H Q=>Q true H
def LZ(X:Cx)(ifs:Mh)(tc:TT):Prop:=∀(J:Lm)(s:K')(B:St)(H:Hp)(Q:Bool->Hp->Prop),Inv X J B H s->tc B H Q->
 Jd X (forIn ifs true λc r=>if r=true then do let ok<-isTrue c X.env (eval c X.env);pure (ForInStep.yield ok)else pure (ForInStep.yield r)) (λb s'=>∃H',Inv X J B H' s'/\Q b H') X.xe s
def D8:LZ X [] EZ:=λ_ _ _ H _ I h=>wpAny_tests_nil ⟨H,I,h⟩
def vv{c:Expr}(h:PT X c tc):LZ X [c] tc:=λJ s B H Q I q=>wpAny_tests_one (h J s B H Q I q)
def IF.pg{s₂:K'}{z:Hp}{fp:Lu}(S:IF X M' N' scope)(h:M'[i]?=some x):PG (JY X M' N' scope cl C s₂ z fp) (.Name x px) (jU i):=
 yY S.nd (by show(M'++N')[i]?=_;rwa[QY (Q2.mp h).1]) (.inl<|lookup_relabel_local<|S.own x<|Q1 h) (.inr<|lookup_relabel_local<|S.own x<|Q1 h)
def Ea{es:Mh}{k:Nat}{t:TGs}(K:Jc)(hK:X.K=K)(hc:X.calm=true)(h:PGs X es t)(G:(assignEach es X.env).length=n:=by rfl)(z:(assignEach es X.env).findIdx? (·.1)=none:=by rfl):PG X (.Tuple es k pos) (gTup K n t):=by
 subst hK;exact qS hc h G z
structure FG(X:Cx)(J:Lm)(H:Hp)(C:G'):Prop where
 no:H C=none
 fr:C≠X.env.locals
 ab:X.s₀.heap.objs.size<=C
 ce:∀x c,X.env.cells.lookup x=some c->c≠C
 pi:∀p∈X.pn++J,p.1≠C
def uK(hc:X.calm=true)(S:IF X M' N' scope)(hi:PI X tg iter wi)
  (hg:∀cl C s₂ a0 fp,PG (JY X M' N' scope cl C s₂ a0 fp) tg g) (ba:∀cl C s₂ a0 fp,LZ (JY X M' N' scope cl C s₂ a0 fp) ifs tc) (he:∀cl C s₂ a0 fp,PE (JY X M' N' scope cl C s₂ a0 fp) elt te)
  (a1:∀y c,cl.lookup y=some c->X.env.cells.lookup y=some c) (ax:∀y,(y,NameKind.free)∈scope.names->∃c,cl.lookup y=some c) (I:Inv X J B H s) (h:wi B H R) (hB:∀Ja H,R Ja H->uN M'.length g tc te B Q Ja H)
  (hR:∀D C s4 H',Inv X J B H' s4->(∃m,s4.heap.Ns C m)->FG X J H' C->Q (.ref D) H'->RR (.ref D) C (.ok .next) s4):
  Jd X (eval iter X.env) (λv s1=>Jd X (pyIter v) (λb1 U=>Jd X (newList []) (λacc s3=>
   Jd X (newFunctionEnv scope X.env.globals cl [] X.env.qual none .none<|some X.env) (λa6 s4=>
    codeAny (model X.prog X.w) X.A (.compStart (.ListComp elt [{tg,iter,ifs,0}] scope pos) 0 b1 acc {a6 with scope:=relabel scope X.env}) (RR acc a6.locals) s4) X.xe s3) X.xe U) X.xe s1) X.xe s:=by
 refine IH (hi J s B H _ I h) λv s1 h1=>IH h1 λb1 U h2=>?_;let{it,fp,tn,Ja,H2,e,O,T,st2,f2,h}:=h2;subst e;refine wpAny_newObj_type<|wpAny_newFunctionEnv S.nocell (by intro y hy;simp at hy) (λh₁ Y Z=>?_) S.kind;dsimp only at Y Z⊢;generalize hD:U.heap.objs.size=D at*;generalize am:U.heap.push {cls:= .type ke,dict:=none,data:= .seq ([]:List Value).toArray}=h3 at Y Z⊢;have a3:h3.objs.size=D+1:=by rw[<-am,Heap.size_push,hD]
 have fD:H2 D=none:=O.hok.fresh (Z2 hD);let{W,{m0,w0},b2}:=hB _ _ h D fD;generalize hC:h3.objs.size=C at*;have gD:U.heap.get? D=none:=KQ (Z2 hD);have gC:U.heap.get? C=none:=KQ (by rw[hD,a3];exact Zx _);have DC:D≠C:=by rw[a3];exact Qy<|ZE _
 have bb:∀b o,U.heap.get? b=some o->h3.get? b=some o:=λb o e=>by rw[<-am];exact Kg _ e
 have a9:∀b o,h3.get? b=some o->h₁.get? b=some o:=λb o e=>Z.extBut b o (by intro z;have:=Kl e;rw[z,hC]at this;exact Kh this<|Zr _) (Kg _ e);have up:∀b o,U.heap.get? b=some o->h₁.get? b=some o:=λb o e=>a9 b o (bb b o e);have oD:h₁.get? D=some {cls:= .type ke,dict:=none,data:= .seq ([]:List Value).toArray}:=a9 _ _ (by rw[<-am,<-hD];exact Ko _ M);have a5:∀b∈fp,b≠C/\b∉Jy X.stack:=λb hb=>by
  let{o,e,_}:=T.obj _ _ st2 b hb;refine{λz=>(by rw[z,gC]at e;cases e),λz=>?_};rcases Q7.mp (O.stkSub b z)with q|q
  .exact(f2 b hb).2.1 q
  .exact(f2 b hb).2.2.1 q
 have fC:H2 C=none:=O.hok.fresh (by rw[hD,a3];exact Zx _);have ok:(JY X M' N' scope cl C U H2 fp).Ok:=
  {mod:=O.ok.mod,kind:=S.kind,glob:=O.ok.glob,blt:=O.ok.blt,above:=by show U.heap.objs.size<=C;rw[hD,a3];exact Zx _
   inj:=λy z c h1 h2=>O.ok.inj y z c (a1 _ _ h1) (a1 _ _ h2),has:=λy hy=>ax y (S.cells y hy),cab:=λy c z=>by cases z
   hd:=O.ok.hd,frames:=O.ok.frames,stk:= .inl M,exf:=λb hb=>{(a5 b hb).1,λy c e=>(f2 b hb).2.2.2.2.1 y c<|a1 y c e}
   bs:=O.bs,bsz:=Qu O.ok.bsz O.sz
   noex:=λb o e hb=>by
    rcases(f2 b hb).2.2.2.1 with q|q
    .exact O.ok.noex b o e q
    .exact Kh (Qo (Kl e)<|Qu O.ok.bsz q) (Zr _)
   exfs:=λb hb=>(a5 b hb).2,funs:=O.stack,frf:=O.stkFree}
 have bt:∀b u,H2 b=some u->b≠D:=λb u e=>aj e fD;have I3:Inv (JY X M' N' scope cl C U H2 fp) [] (List.replicate M'.length none++B) (upd H2 D<|.lst []) {U with heap:=h₁,toks:=U.toks+([]:Mo).length}:=
  {ok:=ok,os:=rfl,bare:=O.bare,base:=Un.laid up (Z2 hD) fD
   loc:={_,Y,λi y v e1 e2 e3=>by
    by_cases lt:i<M'.length
    .have e2:(List.replicate M'.length none++B)[i]?=some (some v):=e2;rw[QY (by rwa[Zn]),List.getElem?_replicate,Kd lt]at e2;cases e2
    .have e1:(M'++N')[i]?=some y:=e1;have e2:(List.replicate M'.length none++B)[i]?=some (some v):=e2;rw[QT (Nat.not_lt.mp lt)]at e1;rw[QT (by rw[Zn];exact Nat.not_lt.mp lt),Zn]at e2;generalize i-M'.length=j at e1 e2;let{e1,q1,q2}:=S.vis j y e1 e3;have kc:=S.free _ q1 M;let{m,hn,hl}:=O.loc;let{u,r,l}:=hl j y v e1 e2 (.inr<|.inl kc);refine{u,r,?_};rcases l with⟨k,_⟩|⟨_,c,e,z⟩
     .rw[kc]at k;cases k
     .let{c',e'}:=ax y q1;have ee:=a1 _ _ e';rw[e]at ee;cases ee;let{o,ho,hd}:=z;exact .inr {.inl q2,c,e',o,up _ _ ho,hd}}
   cell:=λy c e=>by
    let{v,o,ho,hd}:=O.cell y c (a1 _ _ e);exact{v,o,up _ _ ho,hd}
   free:=by show upd H2 D (.lst []) C=none;rwa[ac DC.symm]
   freeC:=λy c e=>by
    have q:=O.freeC y c (a1 _ _ e);let{v,o,ho,hd}:=O.cell y c (a1 _ _ e);rw[ac (λz=>by rw[z,gD]at ho;cases ho)];exact q
   pin:=λp hp=>Kh (show p∈([]:Lm) from hp) (by simp)
   hok:=O.hok.laid up (Z2 hD) {Qh _,[],0,.nil,oD}
   len:=by show(List.replicate M'.length none++B).length=(M'++N').length;rw[Q8,Q8,Zn,O.len,S.ln]}
 have a4:∀{H':Hp},(∀b∈fp,H' b=none)->∀b∈fp,xz (JY X M' N' scope cl C U H2 fp) [] H' b:=λhn b hb=>
  {hn b hb,(a5 b hb).1,(a5 b hb).2,.inl hb,λy c e=>(f2 b hb).2.2.2.2.1 y c<|a1 _ _ e,λp hp=>Kh (show p∈([]:Lm) from hp)<|by simp}
 have b3:tn 0 h₁:=T.keep _ _ _ st2 λb hb o e=>up b o e;have ab:∀s3:Shared,s3={U with heap:=h₁,toks:=U.toks+([]:Mo).length}->
   codeAny (model X.prog X.w) X.A (.compLoop (.ListComp elt [{tg,iter,ifs,0}] scope pos) 0 (.ref it) (.ref D)<|compEnvC scope cl C X.env) (RR (.ref D) C) s3:=by
  rintro s3 rfl;refine codeAny_loop M (λn s'=>∃i τ ys H',Inv (JY X M' N' scope cl C U H2 fp) [] τ H' s'/\tn i s'.heap/\(∀b∈fp,H' b=none)/\H' D=some (.lst ys)/\W i n τ ys H') ?_ m0
   {0,_,[],_,I3,b3,λb hb=>by rw[ac (λz=>by let{o,e,_}:=T.obj _ _ st2 b hb;rw[z,gD]at e;cases e)];exact(f2 b hb).1,ag,w0}
  rintro n s' ⟨i,τ,ys,H',I',st',b4,be,w'⟩;show wpAny _ X.A ((compTurn (.ListComp elt [{tg,iter,ifs,0}] scope pos) 0 (.ref it) (.ref D)<|compEnvC scope cl C X.env).onRaise<|λx=>do noteFrame x (compEnvC scope cl C X.env);theTreesLotGoes x) _ _ s';refine wpAny_noted ?_;rw[compTurn_list];refine Kk<|wpAny_standAt (Kk ?_);rcases b2 i n τ ys H' w' be with⟨b5,qn⟩|⟨go,step⟩
  .refine IH (T.done (JY X M' N' scope cl C U H2 fp) M M M hc i [] s' _ H' _ I' (a4 b4) st' b5) λr s4 zz=>?_;let{hr,I4}:=zz;subst hr;refine Kt ?_;let{m,hn,_}:=I4.loc;have IX:Inv X J B H' s4:=O.call' (s':=s4) I4.os (show Un (Jy X.stack) fp H2 H' U.heap s4.heap from I4.base) I4.hok I4.bare λb hb=>{(f2 b hb).2.2.2.1,(f2 b hb).2.1,(f2 b hb).2.2.2.2.1,(f2 b hb).2.2.2.2.2};refine hR D C s4 H' IX ⟨m,hn⟩ {I4.free,λz=>?_,?_,λy c e z=>?_,λp hp z=>?_} qn
   .have:=O.lt;rw[<-z,a3,hD]at this;exact Kh this<|Nat.not_lt.mpr (Zx _)
   .refine Qu O.sz ?_;rw[hD,a3];exact Zx _
   .let{v,o,ho,_}:=O.cell y c e;rw[z,gC]at ho;cases ho
   .have ho:=(O.pin p hp).1;rw[z,gC]at ho;cases ho
  .refine IH (T.item (JY X M' N' scope cl C U H2 fp) M M M hc i [] s' _ H' _ I' (a4 b4) st' go) λr s4 zz=>?_;let{u,hr,h4}:=zz;subst hr;refine Kk<|IH h4 λ_ s5 a2=>?_;let{y,H5,I5,r5,y5,an,bh}:=a2;have bl:=I5.pinned (a4 bh) (T.obj _ _ an);let{G,hG,gq}:=step y H5 y5;refine Kk<|KB (hg cl C U H2 fp _ s5 _ H5 y _ _ bl r5 gq) (λ_ s6 a2=>?_) λ_ _ f=>f.elim;let{b6,H6,I6,q6}:=a2;have fin:∀{b9:St}{H7:Hp}{s7:K'},Inv (JY X M' N' scope cl C U H2 fp) ([]++qR fp s5.heap) b9 H7 s7->tn (i+1) s7.heap/\∀b∈fp,H7 b=none:=λ{b9 H7 s7} I7=>by
    refine{T.keep _ _ _ an λb hb o e=>(I7.pin (b,o)<|Qv _<|Qv _<|iQ hb e).1,λb hb=>?_};let{o,e,d}:=T.obj _ _ an b hb;exact(I7.pin (b,o)<|Qv _<|Qv _<|iQ hb e).2.1
   let{Ny,Ns,hy,hn,q6}:=hG _ _ q6;refine Kk<|KB (ba cl C U H2 fp _ s6 _ H6 _ I6 q6) (λb s7 zz=>?_) λ_ _ f=>f.elim;let{H7,I7,q7}:=zz;cases b with
   |false=>
    rw[Kc Qg]at q7;let{bo,m',ap,w7}:=hn _ q7;exact Kt<|show _/\_ from{M,m',ap,i+1,b6,ys,_,I7.unpinned,(fin I7).1,(fin I7).2,bo,w7}
   |true=>
    rw[Kd M]at q7;refine Kk<|Kk (KB (he cl C U H2 fp _ s7 _ H7 _ I7 q7) (λz s8 a2=>?_) λ_ _ f=>f.elim);let{y',H8,I8,r8,q8}:=a2;let{bp,bq,m',ap,w8}:=hy _ _ q8;refine Kk<|KB (c6 (X:=JY X M' N' scope cl C U H2 fp) _ s8 _ H8 (.ref D) [y'] (.ref D) [z] (λ_ H9=>H9=upd H8 D (.lst<|ys++ [y'])) I8 M (.cons r8 .nil) ⟨D,ys,y',M,M,bp,bq,M⟩) (λz9 s9 a2=>?_) λ_ _ f=>f.elim;let{_,H9,I9,_,e9}:=a2;subst e9;exact Kt<|Kt {M,m',ap,i+1,b6,ys++ [y'],_,I9.unpinned,(fin I9).1,(fin I9).2,ag,w8}
 exact codeAny_compStart_list (ab _ M)<|T.self _ 0 _ _ _ b3 (ab _ M)
def Inv.loose{h':Heap}(I:Inv X J B H s)(l:FG X J H C)(z:Heap.SameBut C s.heap h'):Inv X J B H {s with heap:=h'}:=
 I.turned (t':=s.toks) (λb o hb e=>(z.2 b hb).trans e) l.no l.fr (.inr l.ab) l.ce l.pi
def wM(Z:∀B Q Ja H,Jb B Q Ja H->uN M'.length g tc te B Q Ja H)(hc:X.calm=true)(S:IF X M' N' scope)(hi:PI X tg iter wi)(hg:IF X M' N' scope->∀cl C s₂ z fp,PG (JY X M' N' scope cl C s₂ z fp) tg g)(O:∀cl C s₂ z fp,LZ (JY X M' N' scope cl C s₂ z fp) ifs tc)(he:∀cl C s₂ z fp,PE (JY X M' N' scope cl C s₂ z fp) elt te)
  (hs:∀x,foldedSetIterable iter X.env x=pure x:=by subst_eqs):PE X (.ListComp elt [{tg,iter,ifs,0}] scope pos) (λB H Q=>wi B H<|Jb B Q):=by
 intro J s B H Q I h;let{cl,G,U,W}:=rT (env:=X.env) (scope:=scope) λp hp hf=>I.ok.has p.1 (.inl<|S.free p hp hf);rw[eval_ListComp];refine wpAny_comprehension_free (use:=none) M hs G S.kind S.names<|uK hc S hi (hg S) O he U W I h (Z _ _) λD C s4 H' I4 Y l q=>?_;let{m,Y}:=Y;exact{m,Y,λh' sb=>{.ref D,H',I4.loose l sb,M,q}}
def wK(hB:∀B Q Ja H,Jb B Q Ja H->uN M'.length g tc te B Q Ja H)(hc:X.calm=true)(S:IF X M' N' scope)(hi:PI X tg iter wi)(hg:IF X M' N' scope->∀cl C s₂ G fp,PG (JY X M' N' scope cl C s₂ G fp) tg g)(U:∀cl C s₂ G fp,LZ (JY X M' N' scope cl C s₂ G fp) ifs tc)(he:∀cl C s₂ G fp,PE (JY X M' N' scope cl C s₂ G fp) elt te)
  (hN:X.N.Nodup) (hy:X.N[i]?=some y) (hk:X.env.scope.names.lookup y=some .local) (W:swapsWith (.ListComp elt [{tg,iter,ifs,0}] scope pos) (some<|.Name y py) spos.line X.env=pure true:=by rfl)
  (hs:∀x,foldedSetIterable iter X.env x=pure x:=by subst_eqs):PS X (.Assign [.Name y py] (.ListComp elt [{tg,iter,ifs,0}] scope pos) spos) (zT (λB H Q=>wi B H<|Jb B Q)<|jU i):=by
 intro J s B H D I h;let{cl,O,Y,Z}:=rT (env:=X.env) (scope:=scope) λp hp hf=>I.ok.has p.1 (.inl<|S.free p hp hf);rw[exec_Assign_Name_used _ _ _ _ W];refine Kk<|wpAny_standAt (Kk ?_);show wpAny _ X.A (do let _<-comprehension (.ListComp elt [{tg,iter,ifs,0}] scope pos) scope X.env _ (newList []) false (eval iter X.env) (some<|assign (.Name y py) X.env)) _ _ s;refine Kk (IH (wpAny_comprehension_free (use:=some<|assign (.Name y py) X.env) (Q:=λ_ s'=>SP X J D .next s') M hs O S.kind S.names
  (uK (Q:=λv H'=>D.nx (B.set i<|some v) H') hc S hi (hg S) U he Y Z I h (hB _ _) λD' C s4 H' I4 hn l q=>?_)) λ_ s' hq=>Kt<|Kt hq)
 let{m,hn}:=hn;show wpAny _ X.A (assign (.Name y py) X.env<|.ref D') _ _ _;refine wpAny_assign_Name<|ud (v:= .ref D') I4 hN hy (.inl hk) M (λs5 I5 a0=>?_) (.inr hk);let{a,sb,ha}:=a0;have ne:C≠a:=by
  rcases ha with z|z
  .rw[z];exact l.fr
  .exact Ne.symm<|l.ce _ _ z
 exact{m,hn.sameBut sb ne,λh' a1=>{_,H',I5.loose l a1,q}}
def yF(te:TE)(B:St)(Q:VK)(Ja:It)(H1:Hp):Prop:=∀D,H1 D=none->∃W:Nat->Nat->List V->Hp->Prop,(∃m,W 0 m [] (upd H1 D<|.lst []))/\∀i m ys H2,W i m ys H2->H2 D=some (.lst ys)->
 (Ja.stop i H2/\Q (.ref D) H2)\/(Ja.go i H2/\∀x H3,Ja.yld i H2 x H3->te (some x::B) H3 λy H4=>H4 D=some (.lst ys)/\ys.length<sizeLine/\∃m',m'<m/\W (i+1) m' (ys++ [y]) (upd H4 D<|.lst<|ys++ [y]))
def Ht(wi:TI)(te:TE):TE:=λB H Q=>wi B H (yF te B Q)
def Ih(h:yF te B Q Ja H1):uN 1 (jU 0) EZ te B Q Ja H1:=λD hD=>by
 let{W,{Y,Z},G}:=h D hD;refine{λi m U ys H=>(∃v,U=v::B)/\W i m ys H,{Y,⟨none,M⟩,Z},λi m U ys H2 w e=>?_};let{{v,rfl},w}:=w;rcases G i m ys H2 w e with z|⟨go,z⟩
 .exact .inl z
 .refine .inr {go,λx H3 y=>{λI H4=>I=some x::B/\H4=H3,λI H4 e=>?_,M,M}};let{rfl,rfl}:=e;refine{λy O=>O D=some (.lst ys)/\ys.length<sizeLine/\∃m',m'<m/\W (i+1) m' (ys++ [y]) (upd O D<|.lst<|ys++ [y]),λ_=>False,λy O n=>?_,λ_ n=>n.elim,?_}
  .let{n1,n2,m',n3,n4}:=n;exact{n1,n2,m',n3,{_,M},n4}
  .exact cK (Jb:=False)<|z x _ y
def kE(hc:X.calm=true)(S:IF X [x] N' scope)(hi:PI X (.Name x px) iter wi)(he:∀cl C s₂ z fp,PE (JY X [x] N' scope cl C s₂ z fp) elt te)
  (hs:∀x,foldedSetIterable iter X.env x=pure x:=by subst_eqs):PE X (.ListComp elt [{.Name x px,iter,[],0}] scope pos) (Ht wi te):=
 wM (Jb:=yF te) (λ_ _ _ _=>Ih) hc S hi (λS _ _ _ _ _=>S.pg M) (λ_ _ _ _ _=>D8) he hs
def yE(n:Nat)(g:TG)(tc:TT)(te:TE)(B:St)(Q:VK)(Ja:It)(H1:Hp):Prop:=∀D,H1 D=none->∃W:Nat->Nat->St->List V->Hp->Prop,(∃m,W 0 m (List.replicate n none++B) [] (upd H1 D<|.lst []))/\∀i m τ ys H2,W i m τ ys H2->H2 D=some (.lst ys)->
 (Ja.stop i H2/\Q (.ref D) H2)\/(Ja.go i H2/\∀x H3,Ja.yld i H2 x H3->g x τ H3 λτ2 H4=>tc τ2 H4 λb H5=>if b=true then te τ2 H5 λy H6=>H6 D=some (.lst ys)/\ys.length<sizeLine/\∃m',m'<m/\W (i+1) m' τ2 (ys++ [y]) (upd H6 D<|.lst<|ys++ [y])else H5 D=some (.lst ys)/\∃m',m'<m/\W (i+1) m' τ2 ys H5)
def FV(n:Nat)(wi:TI)(g:TG)(tc:TT)(te:TE):TE:=λB H Q=>wi B H (yE n g tc te B Q)
def Ig(h:yE n g tc te B Q Ja H1):uN n g tc te B Q Ja H1:=λD hD=>by
 let{W,I,G}:=h D hD;refine{W,I,λi m O ys H2 w e=>?_};rcases G i m O ys H2 w e with z|⟨go,z⟩
 .exact .inl z
 .exact .inr {go,λx H3 y=>{_,λU H4 q=>{_,_,λ_ _ h=>h,λ_ h=>h,q},z x H3 y}}
def BH(hc:X.calm=true)(S:IF X M' N' scope)(hi:PI X tg iter wi)(O:IF X M' N' scope->∀cl C s₂ z fp,PG (JY X M' N' scope cl C s₂ z fp) tg g)(G:∀cl C s₂ z fp,LZ (JY X M' N' scope cl C s₂ z fp) ifs tc)(he:∀cl C s₂ z fp,PE (JY X M' N' scope cl C s₂ z fp) elt te)
  (hN:X.N.Nodup) (hy:X.N[i]?=some y) (hk:X.env.scope.names.lookup y=some .local) (I:swapsWith (.ListComp elt [{tg,iter,ifs,0}] scope pos) (some<|.Name y py) spos.line X.env=pure true:=by rfl)
  (hs:∀x,foldedSetIterable iter X.env x=pure x:=by subst_eqs):PS X (.Assign [.Name y py] (.ListComp elt [{tg,iter,ifs,0}] scope pos) spos) (zT (FV M'.length wi g tc te)<|jU i):=
 wK (Jb:=yE M'.length g tc te) (λ_ _ _ _=>Ig) hc S hi O G he hN hy hk I hs
noncomputable def wJ(scope dsc:Scope):List (Str×NameKind):=scope.names.map λp=>if(p.2==NameKind.free&&dsc.kind==ScopeKind.function&&dsc.names.lookup p.1==some NameKind.cell)=true then(p.1,NameKind.cell)else(p.1,p.2)
def Fw(M' N N':Lq)(dsc:Scope)(scope:Scope):Bool:=
 (scope.kind==ScopeKind.function)&&decide (M'++N').Nodup&&(M'.all λx=>scope.names.lookup x==some NameKind.local)&&(scope.names.all λy=>y.2 !=NameKind.cell)&&(scope.names.all λy=>y.2 !=NameKind.local||scope.names.lookup y.1==some NameKind.local)
 &&(scope.names.all λy=>y.2 !=NameKind.free||dsc.names.lookup y.1==some NameKind.cell)&&(N'.all λy=>(wJ scope dsc).lookup y !=some NameKind.local&&(wJ scope dsc).lookup y !=some NameKind.free)&&decide (N'.length=N.length)&&(N'.zip N).all λp=>p.1==p.2||(wJ scope dsc).lookup p.1==none
set_option tactic.hygienic true in
theorem mP{dsc:Scope}:∀{l:List (Str×NameKind)}{y:Str}{k:NameKind},(∀p∈l,p.2≠NameKind.cell)->(l.map λp=>if(p.2==NameKind.free&&dsc.kind==ScopeKind.function&&dsc.names.lookup p.1==some NameKind.cell)=true then(p.1,NameKind.cell)else(p.1,p.2)).lookup y=some k->(k= .cell\/k= .free)->(y,NameKind.free)∈l
 | [],y,k,_,h,_=>by simp at h
 |(n,kk)::r,y,k,hn,h,hk=>by
  rw[Qs]at h;by_cases c:(kk==NameKind.free&&dsc.kind==ScopeKind.function&&dsc.names.lookup n==some NameKind.cell)=true
  .dsimp only at h;rw[Kd c,QX]at h;split at h
   .rename_i z
    rw[Kp]at z;subst z;have:kk= .free:=by
     rw[QM,QM]at c;simpa using c.1.1
    rw[this];exact Q6
   .exact Qc _<|mP (λp hp=>hn p<|Qc _ hp) h hk
  .dsimp only at h;rw[Kc c,QX]at h;split at h
   .rename_i z
    rw[Kp]at z;subst z;cases h;rcases hk with e|e
    .exact Kh e<|hn _ Q6
    .rw[e];exact Q6
   .exact Qc _<|mP (λp hp=>hn p<|Qc _ hp) h hk
def IF.of{dsc:Scope}{N:Lq}(W:X.N=N)(Y:X.env.scope=dsc)(h:Fw M' N N' dsc scope=true):IF X M' N' scope:=by
 unfold Fw at h;simp only[QM]at h;let{{{{{{{{h1,h2},h3},h4},h5},h6},h7},Z},h9}:=h;have I:(relabel scope X.env).names=wJ scope dsc:=by rw[<-Y];rfl
 have G:∀y∈scope.names,y.2≠NameKind.cell:=λy hy=>by have:=QN.mp h4 y hy;simpa using this
 refine{by simpa using h1,Kj h2,by rw[W];exact Kj Z,λx hx=>by simpa using QN.mp h3 x hx,G,λy hy e=>?_,λy hy e=>?_,λj y U v=>?_,λy e=>?_}
 .have:=QN.mp h5 y hy;rw[e]at this;simpa using this
 .have:=QN.mp h6 y hy;rw[e]at this;show X.env.scope.names.lookup y.1=_;rw[Y];simpa using this
 .have O:=QN.mp h7 y (Q1 U);have hz:∃z,N[j]?=some z/\(y,z)∈N'.zip N:=by
   have lj:=(Q2.mp U).1;have l8:N'.length=N.length:=Kj Z;refine{N[j]'(),Q3 _,?_};refine Q1 (i:=j) ?_;rw[X9];exact{U,Q3 _}
  let{z,hz,mz}:=hz;have e9:=QN.mp h9 _ mz;unfold Lc at v;rw[I]at v⊢;have O:¬(wJ scope dsc).lookup y=some NameKind.local/\¬(wJ scope dsc).lookup y=some NameKind.free:=by simpa using O
  rcases v with v|v|v
  .exact Kh v O.1
  .refine{?_,mP G v<|.inl M,v};rw[W,hz];dsimp only at e9;rw[v,Bool.or_eq_true]at e9;rcases e9 with e9|e9
   .rw[Kp]at e9;rw[e9]
   .cases e9
  .exact Kh v O.2
 .have e:(wJ scope dsc).lookup y=some .cell\/(wJ scope dsc).lookup y=some .free:=by rwa[<-I]
  rcases e with e|e
  .exact mP G e<|.inl M
  .exact mP G e<|.inr M
abbrev _root_.Mn:=Nat->List V->Hp->Prop
def IW(n i:Nat)(ys:Lf)(D:G')(Pv:Mn):VK:=λy H4=>H4 D=some (.lst ys)/\ys.length<sizeLine/\∃m',m'<n-i/\m'=n-(i+1)/\i+1<=n/\Pv (i+1) (ys++ [y]) (upd H4 D<|.lst<|ys++ [y])
def IW.mk{Pv:Mn}{y:V}(hi:i<n)(h1:H4 D=some (.lst ys))(h2:ys.length<sizeLine)(z:Pv (i+1) (ys++ [y]) (upd H4 D<|.lst<|ys++ [y])):IW n i ys D Pv y H4:=
 {h1,h2,n-(i+1),(),M,hi,z}
def oP(Pv:Mn)(z:Pv 0 [] (upd H1 D<|.lst []))(hl:∀i ys H,i<=xs.length->Pv i ys H->Dv K H a xs)
  (hs:∀i x ys H2,xs[i]?=some x->Pv i ys H2->H2 D=some (.lst ys)->te (some x::B) H2 (IW xs.length i ys D Pv))
  (hd:∀ys H2,Pv xs.length ys H2->H2 D=some (.lst ys)->Fin H2):
  ∃W:Nat->Nat->List V->Hp->Prop,(∃m,W 0 m [] (upd H1 D<|.lst []))/\∀i m ys H2,W i m ys H2->H2 D=some (.lst ys)->
   ((Jx K a).stop i H2/\Fin H2)\/((Jx K a).go i H2/\∀x H3,(Jx K a).yld i H2 x H3->te (some x::B) H3 λy H4=>H4 D=some (.lst ys)/\ys.length<sizeLine/\∃m',m'<m/\W (i+1) m' (ys++ [y]) (upd H4 D<|.lst<|ys++ [y])):=by
 refine{λi m ys H=>m=xs.length-i/\i<=xs.length/\Pv i ys H,{xs.length,by simp,Qh _,z},?_};rintro i m ys H ⟨rfl,hi,p⟩ hD;have q:=hl i ys H hi p;by_cases lt:i<xs.length
 .refine .inr {{xs,xs[i],q,by simp[lt]},λx H' y=>?_};let{e,y}:=y;subst e;exact hs i x ys _ (y xs q) p hD
 .have e:i=xs.length:=();subst e;exact .inl {{xs,q,Q5 _},hd ys H p hD}
def mB{lo:Int}(Pv:Mn)(z:Pv 0 [] (upd H1 D<|.lst []))
  (hs:∀i ys H2,i<n->Pv i ys H2->H2 D=some (.lst ys)->te (some (.int<|lo+i)::B) H2 (IW n i ys D Pv))
  (hd:∀ys H2,Pv n ys H2->H2 D=some (.lst ys)->Fin H2):
  ∃W:Nat->Nat->List V->Hp->Prop,(∃m,W 0 m [] (upd H1 D<|.lst []))/\∀i m ys H2,W i m ys H2->H2 D=some (.lst ys)->
   ((LB lo n).stop i H2/\Fin H2)\/((LB lo n).go i H2/\∀x H3,(LB lo n).yld i H2 x H3->te (some x::B) H3 λy H4=>H4 D=some (.lst ys)/\ys.length<sizeLine/\∃m',m'<m/\W (i+1) m' (ys++ [y]) (upd H4 D<|.lst<|ys++ [y])):=by
 refine{λi m ys H=>m=n-i/\i<=n/\Pv i ys H,{n,by simp,Qh _,z},?_};rintro i m ys H ⟨rfl,hi,p⟩ hD;by_cases lt:i<n
 .refine .inr {lt,λx H' y=>?_};let{e,y}:=y;subst e y;exact hs i ys _ lt p hD
 .have e:i=n:=();subst e;exact .inl {Q5 _,hd ys H p hD}
def yD(Pv:Nat->St->List V->Hp->Prop)(O:Pv 0 (List.replicate n none++B) [] (upd H1 D<|.lst []))(hl:∀i G ys H,i<=xs.length->Pv i G ys H->Dv K H a xs)
  (hs:∀i x G ys H2,xs[i]?=some x->Pv i G ys H2->H2 D=some (.lst ys)->g x G H2 λz H4=>tc z H4 λb H5=>if b=true then te z H5 (IW xs.length i ys D λi=>Pv i z)else H5 D=some (.lst ys)/\∃m',m'<xs.length-i/\m'=xs.length-(i+1)/\i+1<=xs.length/\Pv (i+1) z ys H5)
  (hd:∀G ys H2,Pv xs.length G ys H2->H2 D=some (.lst ys)->Fin H2):
  ∃W:Nat->Nat->St->List V->Hp->Prop,(∃m,W 0 m (List.replicate n none++B) [] (upd H1 D<|.lst []))/\∀i m G ys H2,W i m G ys H2->H2 D=some (.lst ys)->
   ((Jx K a).stop i H2/\Fin H2)\/((Jx K a).go i H2/\∀x H3,(Jx K a).yld i H2 x H3->g x G H3 λz H4=>tc z H4 λb H5=>if b=true then te z H5 λy I=>I D=some (.lst ys)/\ys.length<sizeLine/\∃m',m'<m/\W (i+1) m' z (ys++ [y]) (upd I D<|.lst<|ys++ [y])else H5 D=some (.lst ys)/\∃m',m'<m/\W (i+1) m' z ys H5):=by
 refine{λi m G ys H=>m=xs.length-i/\i<=xs.length/\Pv i G ys H,{xs.length,by simp,Qh _,O},?_};rintro i m G ys H ⟨rfl,hi,p⟩ hD;have q:=hl i G ys H hi p;by_cases lt:i<xs.length
 .refine .inr {{xs,xs[i],q,by simp[lt]},λx H' y=>?_};let{e,y}:=y;subst e;exact hs i x G ys _ (y xs q) p hD
 .have e:i=xs.length:=();subst e;exact .inl {{xs,q,Q5 _},hd G ys H p hD}
def vW(tc:TT)(te:TE)(B:St)(Q:VK)(Ja:It)(H1:Hp):Prop:=∀D,H1 D=none->∃W:Nat->Nat->List V->Hp->Prop,(∃m,W 0 m [] (upd H1 D<|.lst []))/\∀i m ys H2,W i m ys H2->H2 D=some (.lst ys)->
 (Ja.stop i H2/\Q (.ref D) H2)\/(Ja.go i H2/\∀x H3,Ja.yld i H2 x H3->tc (some x::B) H3 λb H4=>if b=true then te (some x::B) H4 λy H5=>H5 D=some (.lst ys)/\ys.length<sizeLine/\∃m',m'<m/\W (i+1) m' (ys++ [y]) (upd H5 D<|.lst<|ys++ [y])else H4 D=some (.lst ys)/\∃m',m'<m/\W (i+1) m' ys H4)
def Br(wi:TI)(tc:TT)(te:TE):TE:=λB H Q=>wi B H (vW tc te B Q)
def Fx(h:vW tc te B Q Ja H1):uN 1 (jU 0) tc te B Q Ja H1:=λD hD=>by
 let{W,{m0,w0},G}:=h D hD;refine{λi m Z ys H=>(∃v,Z=v::B)/\W i m ys H,{m0,⟨none,M⟩,w0},λi m Z ys H2 w e=>?_};let{{v,rfl},w}:=w;rcases G i m ys H2 w e with z|⟨go,z⟩
 .exact .inl z
 .refine .inr {go,λx H3 y=>{λI H4=>I=some x::B/\H4=H3,λI H4 e=>?_,M,M}};let{rfl,rfl}:=e;refine{_,_,λy H6 n=>?_,λH5 n=>?_,z x _ y}
  .let{O,n2,m',U,Y}:=n;exact{O,n2,m',U,{_,M},Y}
  .let{O,m',U,Y}:=n;exact{O,m',U,{_,M},Y}
def jG{G:Expr}(hc:X.calm=true)(S:IF X [x] N' scope)(hi:PI X (.Name x px) iter wi)(I:∀cl C s₂ z fp,PT (JY X [x] N' scope cl C s₂ z fp) G tc)(he:∀cl C s₂ z fp,PE (JY X [x] N' scope cl C s₂ z fp) elt te)
  (hs:∀x,foldedSetIterable iter X.env x=pure x:=by subst_eqs):PE X (.ListComp elt [{.Name x px,iter,[G],0}] scope pos) (Br wi tc te):=
 wM (Jb:=vW tc te) (λ_ _ _ _=>Fx) hc S hi (λS _ _ _ _ _=>S.pg M) (λ_ _ _ _ _=>vv<|I _ _ _ _ _) he hs
def BG{G:Expr}(hc:X.calm=true)(S:IF X [x] N' scope)(hi:PI X (.Name x px) iter wi)(I:∀cl C s₂ z fp,PT (JY X [x] N' scope cl C s₂ z fp) G tc)(he:∀cl C s₂ z fp,PE (JY X [x] N' scope cl C s₂ z fp) elt te)
  (hN:X.N.Nodup) (hy:X.N[i]?=some y) (hk:X.env.scope.names.lookup y=some .local) (O:swapsWith (.ListComp elt [{.Name x px,iter,[G],0}] scope pos) (some<|.Name y py) spos.line X.env=pure true:=by rfl)
  (hs:∀x,foldedSetIterable iter X.env x=pure x:=by subst_eqs):PS X (.Assign [.Name y py] (.ListComp elt [{.Name x px,iter,[G],0}] scope pos) spos) (zT (Br wi tc te)<|jU i):=
 wK (Jb:=vW tc te) (λ_ _ _ _=>Fx) hc S hi (λS _ _ _ _ _=>S.pg M) (λ_ _ _ _ _=>vv<|I _ _ _ _ _) he hN hy hk O hs
def JJ(n i:Nat)(ys:Lf)(D:G')(Pv:Mn)(H4:Hp):Prop:=H4 D=some (.lst ys)/\∃m',m'<n-i/\m'=n-(i+1)/\i+1<=n/\Pv (i+1) ys H4
def JJ.mk{Pv:Mn}(hi:i<n)(h1:H4 D=some (.lst ys))(z:Pv (i+1) ys H4):JJ n i ys D Pv H4:={h1,n-(i+1),(),M,hi,z}
def fX(Pv:Mn)(z:Pv 0 [] (upd H1 D<|.lst []))(hl:∀i ys H,i<=xs.length->Pv i ys H->Dv K H a xs)
  (hs:∀i x ys H2,xs[i]?=some x->Pv i ys H2->H2 D=some (.lst ys)->tc (some x::B) H2 λb H4=>if b=true then te (some x::B) H4 (IW xs.length i ys D Pv)else JJ xs.length i ys D Pv H4)
  (hd:∀ys H2,Pv xs.length ys H2->H2 D=some (.lst ys)->Fin H2):
  ∃W:Nat->Nat->List V->Hp->Prop,(∃m,W 0 m [] (upd H1 D<|.lst []))/\∀i m ys H2,W i m ys H2->H2 D=some (.lst ys)->
   ((Jx K a).stop i H2/\Fin H2)\/((Jx K a).go i H2/\∀x H3,(Jx K a).yld i H2 x H3->tc (some x::B) H3 λb H4=>if b=true then te (some x::B) H4 λy H5=>H5 D=some (.lst ys)/\ys.length<sizeLine/\∃m',m'<m/\W (i+1) m' (ys++ [y]) (upd H5 D<|.lst<|ys++ [y])else H4 D=some (.lst ys)/\∃m',m'<m/\W (i+1) m' ys H4):=by
 refine{λi m ys H=>m=xs.length-i/\i<=xs.length/\Pv i ys H,{xs.length,by simp,Qh _,z},?_};rintro i m ys H ⟨rfl,hi,p⟩ hD;have q:=hl i ys H hi p;by_cases lt:i<xs.length
 .refine .inr {{xs,xs[i],q,by simp[lt]},λx H' y=>?_};let{e,y}:=y;subst e;exact hs i x ys _ (y xs q) p hD
 .have e:i=xs.length:=();subst e;exact .inl {{xs,q,Q5 _},hd ys H p hD}
noncomputable def LV(a d:G'):HO:= .ext λh=>h.IsItemsView a d
def Itd(ob:Obj)(d:G')(kvs:Mg):It:=
 {λi H=>H d=some (.frz ob<|.dK kvs)/\i<kvs.length,λi H x H'=>∃p k v,x= .ref p/\H p=none/\kvs[i]?=some (k,v)/\H'=upd H p (.tup [kV k,v]),λi H=>H d=some (.frz ob<|.dK kvs)/\kvs.length<=i}
def DObj(P:Ln)(w:Lp)(ob:Obj)(d:G')(kvs:Mg)(vs:List (Key×Value))(ep:Nat):Prop:=
 KV kvs vs/\∀h:Heap,h.get? d=some ob->h.DictAt (bc P w) d vs ep
set_option tactic.hygienic true in
def KV.getI(h:KV kvs vs):∀{i:Nat}{k:Key}{v:V},kvs[i]?=some (k,v)->∃u,vs[i]?=some (k,u)/\RelV v u:=by
 induction h with
 |nil=>intro i k v e;simp at e
 |cons r t z=>
  rename_i p q ps qs
  intro i k v e;cases i with
  |zero=>
   simp at e;subst e;exact{q.2,by simp[show k=q.1 from r.1],r.2}
  |succ j=>
   let{u,h1,h2}:=z (i:=j) (by simpa using e);exact{u,by simpa using h1,h2}
def xS{x1}{ep:Nat}(it:G')(D:DObj P w ob d kvs vs ep):
  AU P w K (.Tuple elts x1 pos) (Itd ob d kvs) [it] it (λi h=>∃ok Y,IsItemIter h it d i vs.length ep ok Y) where
 mem:=by simp
 obj:=λi h st b hb=>by
  let{ok,Y,st}:=st;have z:b=it:=by simpa using hb
  subst z;exact{_,st,λv z=>by cases z}
 keep:=λi h h' st k=>by
  let{ok,Y,st}:=st;exact{ok,Y,k it (by simp) _ st}
 item:=by
  intro X hP hw hK hc i J s B H E I hf st hg;subst hP hw hK;let{ok,Y,st}:=st;let{hq,hi}:=hg;have fi:=hf it (by simp);let{G,_}:=I.hok d _ hq;have O:=D.2 s.heap G;obtain⟨⟨k,v⟩,hx⟩:∃kv,kvs[i]?=some kv:={kvs[i],by simp[hi]};let{u,hu,ru}:=KV.getI D.1 hx;refine wpAny_pyNext_items_item st O hu λkey h' a0 g1 g3 gz g5=>{_,M,?_};refine wpAny_letOwnedTupleGo_items g1 λh2 k1 k2=>?_;have rk:RelV (kV k) key:=zi a0;have Z:H s.heap.objs.size=none:=I.hok.fresh (Q5 _);have a1:s.heap.objs.size≠it:=ZN (Kl st);have keep:∀b o,b≠it->s.heap.get? b=some o->h2.get? b=some o:=λb o z q=>(k2.2 b z).trans (g5 b o z q);have U:h2.get? s.heap.objs.size=some {cls:= .type u6,data:= .seq #[key,u]}:=(k2.2 _ a1).trans g3;have LU:∀b v,H b=some v->b≠it:=λb v q z=>by rw[z,fi.1]at q;cases q
  have un:Un (Jy X.stack) [it] H (upd H s.heap.objs.size<|.tup [kV k,v]) s.heap h2:=by
   refine{λb o q n hb hx=>keep b o (λz=>hx<|by simp[z]) q,λb o q n hb hx=>{o.slots,keep b o (λz=>hx<|by simp[z]) q},λb o q n hx=>?_,
    λb o q hx=>{o,keep b o (λz=>hx<|by simp[z]) q},λb ys q=>?_,λb o v q=>?_,λb ps q=>{#[],?_}}
   .rwa[ac (Qy<|Kl q)]
   .rw[ac (aj q Z)];exact q
   .rw[ac (aj q Z)];exact q
   .rw[ac (aj q Z),q];simp
  have hok:Iz X.prog X.w (upd H s.heap.objs.size<|.tup [kV k,v]) h2:=λb v' q=>by
   by_cases z:b=s.heap.objs.size
   .subst z;rw[ag]at q;cases q;exact{by show 2<=sizeLine;decide,[key,u],.cons rk<|.cons ru .nil,_,U,M,_,M}
   .rw[ac z]at q;refine(I.hok b v' q).stay (λc o hc r=>?_) (λc r=>by rwa[ac (aj r Z)]) λc ys r=>by rwa[ac (aj r Z)]
    rcases hc with rfl|hc
    .exact keep _ _ (LU _ _ q) r
    .exact keep _ _ (LU _ _ hc) r
  have I2:Inv X J B (upd H s.heap.objs.size<|.tup [kV k,v]) {s with heap:=h2}:=I.call' (s':={s with heap:=h2}) M un hok I.bare λb hb=>by
   have z:xz X J H b:=hf b hb;exact⟨z.2.2.2.1,z.2.1,z.2.2.2.2.1,z.2.2.2.2.2⟩
  refine{.ref s.heap.objs.size,_,I2,M,{_,k,v,M,Z,hx,M},⟨key,u,k1⟩,λb hb=>?_};have z:b=it:=by simpa using hb
  subst z;rw[ac (Ne.symm a1)];exact fi.1
 done:=by
  intro X hP hw hK hc i J s B H E I hf st hg;subst hP hw hK;let{ok,Y,st}:=st;let{hq,hi}:=hg;let{G,_}:=I.hok d _ hq;have O:=D.2 s.heap G;let{f0,f1,f2,f3,f4,f5}:=hf it (by simp);have hl:kvs.length=vs.length:=D.1.length;exact wpAny_pyNext_items_end (I.ok.hd hc) st O (by simp;lia) λh' eb=>{M,I.turned (t':=s.toks) (λb o hb e=>eb b o hb e) f0 f1 f3 f4 f5}
 self:=λ_ _ _ _ _ st h=>let⟨_,_,st⟩:=st;PySem.W.kcp_self st h
inductive Ge(x:V)(vs:Lf)(H:Hp)(Q:VK):Prop
 |mk(d kvs:_)(_:x= .ref d)(_:vs=[])(_:H d=some (.dK kvs))(_:∀a,H a=none->Q (.ref a) (upd H a<|LV a d))
def wS:Le X "dict.items" Ge:=by
 intro J s B H x vs v us Q I O rv h;let{d,kvs,rfl,rfl,hd,q}:=h;cases O;cases rv;let{z,lo,U,W,G}:=xk I.hok hd;refine call_meetsIn Xd G.typeIs PySem.F.entry_dict_items (PySem.F.args_dict_items_1 _) (meets_dict_items (bc X.prog X.w) d lo) {⟨U,G⟩,?_};have new:(s.heap.push {cls:= .type "dict_items",data:= .fields #[.ref d]}).get? s.heap.objs.size=some {cls:= .type "dict_items",data:= .fields #[.ref d]}:=Ko _ M;refine{.ref s.heap.objs.size,_,I.laid (t':=s.toks) (λb o e=>Kg _ e) (Q5 _) (show II X.prog X.w _ _ _ (LV s.heap.objs.size d) from{{_,new,M,M},{_,new},λh1 h2 p k=>?_}),M,q _<|I.hok.fresh (Q5 _)};let{o,e,c}:=p;exact{o,k o e,c}
def Inv.freeze{H:Hp}{d:G'}{kvs:Mg}(I:Inv X J B H s)(hd:H d=some (.dK kvs))(G:s.heap.get? d=some ob):Inv X J B (upd H d<|.frz ob<|.dK kvs) s:=by
 have own:∀b y,H b=some (.own y)->upd H d (.frz ob<|.dK kvs) b=some (.own y):=λb y q=>by rw[ac (λz=>by rw[z,hd]at q;cases q)];exact q
 have tup:∀b xs,H b=some (.tup xs)->upd H d (.frz ob<|.dK kvs) b=some (.tup xs):=λb xs q=>by rw[ac (λz=>by rw[z,hd]at q;cases q)];exact q
 have non:∀b,H b=none->upd H d (.frz ob<|.dK kvs) b=none:=λb q=>by rw[ac (λz=>by rw[z,hd]at q;cases q)];exact q
 refine{I.ok,I.os,I.bare,{I.base.keep,I.base.slot,λb o e n hx=>non b<|I.base.free b o e n hx,I.base.there,λb xs e=>tup b xs<|I.base.tups b xs e,λb o u e=>?_,λb ps e=>?_},I.loc,I.cell,non _ I.free,λx c e=>non c<|I.freeC x c e,λp hp=>?_,λb o e=>?_,I.len}
 .have:=I.base.frzs b o u e;rwa[ac (λz=>by rw[z,hd]at this;cases this)]
 .let{m,q}:=I.base.tbls b ps e;exact{m,by rw[ac (λz=>by rw[z,hd]at q;cases q)];exact q}
 .let{h1,h2,O}:=I.pin p hp;exact{h1,non _ h2,O}
 .by_cases z:b=d
  .subst z;rw[ag]at e;cases e;exact{G,(I.hok b _ hd).stay (λ_ _ _ q=>q) (λc q=>own c b q) tup}
  .rw[ac z]at e;exact(I.hok b o e).stay (λ_ _ _ q=>q) (λc q=>own c b q) tup
def Inv.thaw{H:Hp}{d:G'}{kvs:Mg}(I:Inv X J B H s)(hd:H d=some (.frz ob<|.dK kvs))(G:∀o u,X.H₀ d≠some (.frz o u)):Inv X J B (upd H d<|.dK kvs) s:=by
 have own:∀b y,H b=some (.own y)->upd H d (.dK kvs) b=some (.own y):=λb y q=>by rw[ac (λz=>by rw[z,hd]at q;cases q)];exact q
 have tup:∀b xs,H b=some (.tup xs)->upd H d (.dK kvs) b=some (.tup xs):=λb xs q=>by rw[ac (λz=>by rw[z,hd]at q;cases q)];exact q
 have non:∀b,H b=none->upd H d (.dK kvs) b=none:=λb q=>by rw[ac (λz=>by rw[z,hd]at q;cases q)];exact q
 refine{I.ok,I.os,I.bare,{I.base.keep,I.base.slot,λb o e n hx=>non b<|I.base.free b o e n hx,I.base.there,λb xs e=>tup b xs<|I.base.tups b xs e,λb o u e=>?_,λb ps e=>?_},I.loc,I.cell,non _ I.free,λx c e=>non c<|I.freeC x c e,λp hp=>?_,λb o e=>?_,I.len}
 .have:=I.base.frzs b o u e;rwa[ac (λz=>by rw[z]at e;exact G _ _ e)]
 .let{m,q}:=I.base.tbls b ps e;exact{m,by rw[ac (λz=>by rw[z,hd]at q;cases q)];exact q}
 .let{h1,h2,O}:=I.pin p hp;exact{h1,non _ h2,O}
 .by_cases z:b=d
  .subst z;rw[ag]at e;cases e;let{_,q}:=I.hok b _ hd;exact II.stay (show II X.prog X.w H s.heap b (.dK kvs) from q) (λ_ _ _ q=>q) (λc q=>own c b q) tup
  .rw[ac z]at e;exact(I.hok b o e).stay (λ_ _ _ q=>q) (λc q=>own c b q) tup
def Inv.noFrz{H:Hp}{d:G'}{kvs:Mg}(I:Inv X J B H s)(hd:H d=some (.dK kvs)):∀o u,X.H₀ d≠some (.frz o u):=λo u e=>by
 have:=I.base.frzs d o u e;rw[hd]at this;cases this
def GP(te:TE):TI:=λB H R=>te B H λx H1=>∃a d kvs,x= .ref a/\H1 a=some (LV a d)/\H1 d=some (.dK kvs)/\∀ob,R (Itd ob d kvs) (upd H1 d<|.frz ob<|.dK kvs)
def wL{l:Expr}{x1}(hl:PE X l te):PI X (.Tuple elts x1 pos) l (GP te):=by
 intro J s B H R I h;refine IH (hl J s B H _ I h) λv s1 O=>?_;let{x,H1,U,r1,q1}:=O;let{a,d,kvs,e,ha,hd,q}:=q1;subst e;cases r1;let{z,lo,vs,W,dd}:=xk U.hok hd;let{ep,G}:=dd.dictAt;let{vw,_,_}:=(show II X.prog X.w H1 s1.heap a (LV a d) from U.hok a _ ha);let{ob,es,Y,rest}:=id G;refine wpAny_pyIter_items vw G ?_;have Z:=U.freeze hd Y;refine{s1.heap.objs.size,[s1.heap.objs.size],_,_,_,M,Z.kept (t':=s1.toks) λb o e=>Kg _ e,xS _ {W,λh e=>⟨ob,es,e,rest⟩},{_,_,Ko _ M},λb hb=>?_,q ob};have e:b=s1.heap.objs.size:=by simpa using hb
 subst e;exact Z.fpOk (Q5 _) (Z.hok.fresh<|Q5 _)
inductive Hk(t:TS)(D:nW)(B:St)(H:Hp):Prop
 |mk(d kvs:_)(_:H d=some (.dK kvs))(_:t {λσ' H'=>∃ob,H' d=some (.frz ob<|.dK kvs)/\D.nx σ' (upd H' d<|.dK kvs),λv H'=>∃ob,H' d=some (.frz ob<|.dK kvs)/\D.rt v (upd H' d<|.dK kvs),λσ' H'=>∃ob,H' d=some (.frz ob<|.dK kvs)/\D.bk σ' (upd H' d<|.dK kvs),λσ' H'=>∃ob,H' d=some (.frz ob<|.dK kvs)/\D.ct σ' (upd H' d<|.dK kvs)} B H)
def yX{st:Stmt}{t:TS}(h:PS X st t):PS X st (Hk t):=by
 intro J s B H D I ⟨d,kvs,hd,q⟩;have U:=I.noFrz hd;refine IH (h J s B H _ I q) λf s1 q1=>?_;cases f with
 |next=>let{z,W,G,ob,e,O}:=q1;exact{z,_,G.thaw e U,O}
 |cont=>let{z,W,G,ob,e,O}:=q1;exact{z,_,G.thaw e U,O}
 |brk=>let{z,W,G,ob,e,O}:=q1;exact{z,_,G.thaw e U,O}
 |ret v=>let{Y,z,W,G,Z,ob,e,O}:=q1;exact{Y,z,_,G.thaw e U,Z,O}
def rO{tb:TS}{rt:VK}(Pv:Mr)(O:Pv 0 B H)(hl:∀i B H,i<=kvs.length->Pv i B H->H d=some (.frz ob<|.dK kvs))
  (hs:∀i k v p B H,kvs[i]?=some (k,v)->Pv i B H->H p=none->g (.ref p) B (upd H p<|.tup [kV k,v]) λG H2=>tb {Pv<|i+1,rt,nx,Pv<|i+1} G H2) (hd:∀B H,Pv kvs.length B H->nx B H):
  ∃W:Nat->Nat->St->Hp->Prop,(∃m,W 0 m B H)/\∀i m B H,W i m B H->
   ((Itd ob d kvs).stop i H/\nx B H)\/((Itd ob d kvs).go i H/\∃N:St->Hp->Prop,(∀I H',N I H'->∃m',m'<m/\W (i+1) m' I H')/\∀x H',(Itd ob d kvs).yld i H x H'->g x B H' λG H2=>tb ⟨N,rt,nx,N⟩ G H2):=by
 refine{λi m B H=>m=kvs.length-i/\i<=kvs.length/\Pv i B H,{kvs.length,by simp,Qh _,O},?_};rintro i m B H ⟨rfl,hi,p⟩;have q:=hl i B H hi p;by_cases lt:i<kvs.length
 .refine .inr {⟨q,lt⟩,Pv<|i+1,λI H' z=>{kvs.length-(i+1),(),M,lt,z},λx H' y=>?_};let{U,k,v,rfl,Y,e,rfl}:=y;exact hs i k v U B H e p Y
 .have e:i=kvs.length:=();subst e;exact .inl {{q,Q5 _},hd B H p}
section
variable(K:Jc)(hK:X.K=K)
include hK
theorem tR:iz X (.builtin "len") (λxs H Q=>∃p ys,xs=[.ref p]/\(Dv K H p ys\/JE K H p ys)/\Q (.int ys.length) H):=by subst hK;exact au
theorem Cs:IxR X (rIxL K):=by subst hK;exact aL
theorem m7:IxR X (rIxT K):=by subst hK;exact bz
end
def uL(hc:X.calm=true):iz X (.builtin "min") (λxs H Q=>∃(p:G')(ns:Lh),xs=[.ref p]/\Dv X.K H p (ns.map V.int)/\0<ns.length/\∀M',M'∈ns->(∀a∈ns,M'<=a)->Q (.int M') H):=by
 intro J s B H xs us Q I r h;let{p,ns,rfl,hq,G,q}:=h;let{u,rfl,U}:=tZ r;cases U;let{its,rv,pl,hz}:=I.list hq;have hi:IntsAre its ns:=rL rv;let{xs,e}:=hi.allInts.items;have z:ns=xs.toList.map (·.1):=by
  rw[<-hi.numsOf,<-nums_intItems,<-e]
 have hsz:0<xs.size:=by
  have O:=G;rw[z,Q0,Qb]at O;exact O
 have hl:=pl.isList;rw[e]at hl;refine min_intList (I.ok.hd hc) hl hsz λv h' tk W hk=>?_;let{t,rfl}:=intItems_at W;let{h1,h2}:=argBest_lt (numAt xs) (xs.size-1);refine{.int _,H,I.kept (t':=tk) hk,⟨t,M⟩,q _ ?_ λa ha=>?_}
 .rw[z,numAt_eq];exact getD_mem<|by rw[Q0,Qb];lia
 .rw[z]at ha;let{j,Y,rfl}:=mem_getD ha;rw[Q0,Qb]at Y;rw[<-numAt_eq];exact h2 j ()
theorem ut{y:Int}:∀{ns:Lh}{m:Nat},m<ns.idxOf y->(h:m<ns.length)->ns[m]≠y
 | [],m,_,h=>by simp at h
 |a::r,m,lt,h=>by
  rw[List.idxOf_cons]at lt;by_cases c:a=y
  .rw[c]at lt;simp at lt
  .have:(a==y)=false:=Kn.mpr c;rw[this]at lt;cases m with
   |zero=>exact c
   |succ j=>exact ut (ns:=r) (m:=j) (by simpa using lt)<|by simpa using h
theorem uF:∀(ns:Lh)(i:Nat),(ns.eraseIdx i).map V.int=(ns.map V.int).eraseIdx i
 | [],_=>rfl
 |_::_,0=>rfl
 |a::r,i+1=>by
  show V.int a::(r.eraseIdx i).map V.int=V.int a::(r.map V.int).eraseIdx i;rw[uF r i]
inductive D4(x:V)(vs:Lf)(H:Hp)(Q:VK):Prop
 |mk(l:G')(xs:Lf)(k:Int)(y:V)(_:x= .ref l)(_:vs=[.int k,y])(_:H l=some (.lst xs))(_:0<=k)(_:k<=(xs.length:Int))(_:xs.length<sizeLine)(_:Q .non (upd H l<|.lst (xs.take k.toNat++y::xs.drop k.toNat)))
def uu:MtM X "list.insert" D4:=by
 intro J s B H x vs v us Q I W rv h;let{l,xs,k,y,rfl,rfl,O,Z,hk,hz,q}:=h;cases W;let{u1,u,rfl,{t,rfl},Y}:=rv.two;let{z,its,n,r,hl,e}:=I.lstM O;have G:¬(!Builtin.List.listFitsIndex k)=true:=by
  have U:=rE;rw[fitsIndex_both () ()];exact Qg
 have hsz:its.toArray.size<=sizeLine:=by rw[Qi];lia
 refine call_meets F.slot_list_insert {_,e,M} F.entry_list_insert (F.args_list_insert_3 _ _ _) (AutoListH.list_insert_list_int_val_1 l its.toArray n k t u G hsz) {e,?_};refine{.non,_,I.lset (its':=its.take k.toNat++u::its.drop k.toNat) O e ?_ ((r.take k.toNat).append<|.cons Y<|r.drop k.toNat) ?_,M,q}
 .have e0:(if k<0 then(k+((its.toArray.size:Nat):Int)).toNat else min k.toNat its.toArray.size)=k.toNat:=by
   rw[Kc (),Qi];lia
  show(its.toArray.extract 0 _).push u++its.toArray.extract _=_;rw[e0];simp;exact QC<|by rw[QL];lia
 .rw[Q8,Qr,Qd,QL];lia
inductive D3(x:V)(vs:Lf)(H:Hp)(Q:VK):Prop
 |mk(l:G')(ns:Lh)(y:Int)(_:x= .ref l)(_:vs=[.int y])(_:H l=some (.lst<|ns.map V.int))(_:y∈ns)(_:Q .non (upd H l<|.lst<|(ns.erase y).map V.int))
def An:MtM X "list.remove" D3:=by
 intro J s B H x vs v us Q I rx rv h;let{l,ns,y,rfl,rfl,Z,hy,q}:=h;cases rx;let{u,rfl,ru}:=rv.one;let{t,rfl}:=ru;let{z,its,n,r,hl,e}:=I.lstM Z;have hi:IntsAre its ns:=rL r;have at_:∀(m:Nat)(O:m<its.toArray.size),∃t',its.toArray[m]=Value.int (ns.getD m 0) t':=λm O=>by
  have G:m<ns.length:=by rw[Qi,<-hl,Q0]at O;exact O
  let{w,hw,W}:=r.get (i:=m) (x:= .int<|ns.getD m 0) (by rw[Ql,Q3 G,Qm,Q3 G];rfl);let{t',rfl}:=W;refine{t',?_};have:=(Q2.mp hw).2;simpa using this
 have hx:ns.idxOf y<ns.length:=List.idxOf_lt_length_of_mem hy;have ga:∀m,m<ns.length->ns.getD m 0=ns[m]!:=λm O=>by simp[O]
 refine call_meets F.slot_list_remove {_,e,M} F.entry_list_remove (F.args_list_remove_2 _ _) (MeetsSeq.list_remove l its.toArray n (.int y t) (λv=>match v with| .int i _=>i==y|_=>false) (λv hv=>?_) (ns.idxOf y) (by rwa[Qi,<-hl,Q0]) ?_ (λm O lt=>?_)<|by rw[Qi];lia) {e,?_}
 .let{m,O,Y}:=Array.getElem_of_mem hv;let{t',U}:=at_ m O
  rw[<-Y,U];exact MeetsSeq.EqGives.int _ _ _ _
 .let{t',U}:=at_ (ns.idxOf y) (by rwa[Qi,<-hl,Q0])
  rw[U];show(ns.getD (ns.idxOf y) 0==y)=true;rw[Qm,Q3 hx,Option.getD_some,List.getElem_idxOf hx];exact KH y
 .let{t',U}:=at_ m O
  rw[U];show(ns.getD m 0==y)=false;have G:m<ns.length:=();rw[Qm,Q3 G,Option.getD_some];exact Kn.mpr<|λw=>ut lt G w
 .have ee:ns.erase y=ns.eraseIdx (ns.idxOf y):=(List.erase_eq_eraseIdx_of_idxOf M);have Y:(ns.eraseIdx<|ns.idxOf y).map V.int=(ns.map V.int).eraseIdx (ns.idxOf y):=uF _ _;rw[ee,Y]at q;refine{.non,_,I.lset (its':=its.eraseIdx<|ns.idxOf y) Z e ?_ (r.eraseIdx<|ns.idxOf y) ?_,M,q}
  .show its.toArray.eraseIdxIfInBounds (ns.idxOf y)=(its.eraseIdx<|ns.idxOf y).toArray;rw[XS]
  .have:=oC (ns.map V.int) (ns.idxOf y);lia
inductive D0(x:V)(vs:Lf)(H:Hp)(Q:VK):Prop
 |mk(a kvs k y:_)(_:x= .ref a)(_:vs=[kV k,y])(_:H a=some (.dK kvs))(_:kvs.length<sizeLine)(_:(∀v,aI kvs k=some v->Q v H))(_:(aI kvs k=none->Q y (upd H a<|.dK<|bg kvs k y)))
def Am:Le X "dict.setdefault" D0:=by
 intro J s B H x vs v us Q I rx rv h;let{a,kvs,k,y,rfl,rfl,W,hl,q1,q2}:=h;cases rx;let{u,r,rfl,ru,Y}:=tY rv;let{z,hd,ws,O,Z}:=xk I.hok W;have G:=O.val k;refine call_meetsIn K0 Z.typeIs PySem.F.entry_dict_setdefault (PySem.F.args_dict_setdefault_3 _ _ _) (kt_meets_setdefault (bc X.prog X.w) a (rH ru) hd r) {ws,Z,by rwa[<-O.length],λv hv=>?_,λhn h' U hs=>?_}
 .rw[hv]at G;cases e:aI kvs k with
  |none=>rw[e]at G;exact G.elim
  |some x=>
   rw[e]at G;exact{x,H,I.tok _,G,q1 x e}
 .rw[hn]at G;cases e:aI kvs k with
  |some x=>rw[e]at G;exact G.elim
  |none=>
   have he:∃q,h'.get? a=some q:=by let{q,_,_,hq,_}:=U;exact⟨q,hq⟩
   have lp:=cf kvs k y;exact{y,_,pZ I (by rw[W];exact Ku) hs he<|yC () hd (O.put k Y) U,Y,q2 e}
end L2
namespace PySem
open PySem.Spec
namespace F
end F
end PySem
namespace L2
open PySem PySem.Spec PyProof.Rows
variable{tg:Expr}{H:Hp}{hi lo st:Int}{R:It->Hp->Prop}{B:St}{nx:Ml}{E:Ls}
def AV(lo st:Int)(n:Nat):It:={λi _=>i<n,λi H x H'=>H'=H/\x= .int (lo+i*st),λi _=>n<=i}
def wu{P:Ln}{w:Lp}{K:Jc}(it:G')(lo st:Int)(n:Nat):AU P w K tg (AV lo st n) [it] it (λi h=>IsRangeIter h it (lo+(i:Nat)*st) ((n:Int)-(i:Nat)) st) where
 mem:=by simp
 obj:=λi h G b hb=>by
  have e:b=it:=by simpa using hb
  subst e;exact{_,G,λv z=>by
   have z':Data.fields _=Data.cell v:=z;cases z'}
 keep:=λi h h' G k=>k it (by simp) _ G
 item:=by
  intro X O hw hK hc i J s B H E I hf G U;subst O hw hK;let{Y,Z,f2,f3,f4,f5}:=hf it (by simp);have W:=Walks.range (prog:=X.prog) (w:=X.w) (I.ok.hd hc) it lo st n;refine W.item i s _ _ U G λv h' tk hv st' kk=>?_;let{t,rfl}:=hv;have I1:Inv X J B H {s with heap:=h',toks:=tk}:=I.turned (λb o hb e=>kk b o (by simpa using hb) e) Y Z f3 f4 f5;exact{_,M,zm (s:={s with heap:=h',toks:=tk}) (n:="range_iterator") st' M M (_) {.int<|lo+i*st,H,I1,⟨t,M⟩,⟨M,M⟩,st',λb hb=>(hf b hb).1}}
 done:=by
  intro X O hw hK hc i J s B H E I hf G U;subst O hw hK;let{Y,Z,f2,f3,f4,f5}:=hf it (by simp);exact wpAny_pyNext_range_end (I.ok.hd hc) G (by have:n<=i:=U;lia) λh' eb=>{M,I.turned (t':=s.toks) (λb o hb e=>eb b o hb e) Y Z f3 f4 f5}
 self:=λ_ _ _ _ _ G h=>wpAny_pyIter_rangeiter G h
noncomputable def mC(lo hi st:Int):Nat:=(Builtin.Range.rangeSize lo hi st).toNat
def kU(h:0<st):Builtin.Range.rangeSize lo hi st=if lo<hi then(hi-lo-1)/st+1 else 0:=by
 unfold Builtin.Range.rangeSize;rw[Kd h]
def vq(h:0<st)(z:0<=lo)(h1:0<=hi):0<=Builtin.Range.rangeSize lo hi st/\Builtin.Range.rangeSize lo hi st<=hi:=by
 rw[kU h];split
 .have a:0<=(hi-lo-1)/st:=K2 () ();have b:(hi-lo-1)/st<=hi-lo-1:=Int.ediv_le_self _ ();lia
 .lia
section
variable{X:Cx}
def z8{J:Lm}{s:K'}{t u v:Tok}{tk:Nat}(I:Inv X J B H s)(h1:0<=lo)(h2:lo<2^30)(W:0<=hi)(Y:hi<2^30)(U:0<st)(Z:st<2^30)
  (q:R (AV lo st<|mC lo hi st) H):Jd X (pyIter<|.ref s.heap.objs.size) (PIE X J B tg R) E {s with heap:=s.heap.push {cls:= .type nC,data:= .fields #[.int lo t,.int hi u,.int st v]},toks:=tk}:=by
 have bd:=vq (lo:=lo) (hi:=hi) U h1 W;refine wpAny_pyIter_range (IsRange.new ..) ?_ ?_
 .unfold Builtin.Range.small;simp only[Builtin.Range.rangeFitsLong,QM,Bool.or_eq_true,Kq,Kp,U,if_true];generalize Builtin.Range.rangeSize lo hi st=n at bd⊢;have z:(2:Int)^63=9223372036854775808:=by decide
  have G:(2:Int)^30=1073741824:=by decide
  rw[G]at h2 Y Z
  try rw[z]
  lia
 have O:Inv X J B H {s with heap:=s.heap.push {cls:= .type nC,data:= .fields #[.int lo t,.int hi u,.int st v]},toks:=tk}:=I.kept λb o e=>Kg _ e;refine{(s.heap.push {cls:= .type nC,data:= .fields #[.int lo t,.int hi u,.int st v]}).objs.size,[(s.heap.push {cls:= .type nC,data:= .fields #[.int lo t,.int hi u,.int st v]}).objs.size],_,_,H,M,
  O.kept (t':=tk) λb o e=>Kg _ e,wu _ lo st<|mC lo hi st,?_,λb hb=>?_,q}
 .have e1:lo+((0:Nat):Int)*st=lo:=by simp
  have e2:((mC lo hi st:Nat):Int)-((0:Nat):Int)=Builtin.Range.rangeSize lo hi st:=by unfold mC;lia
  show IsRangeIter _ _ (lo+((0:Nat):Int)*st) (((mC lo hi st:Nat):Int)-((0:Nat):Int)) st;rw[e1,e2];exact Ko _ M
 .have e:b=(s.heap.push {cls:= .type nC,data:= .fields #[.int lo t,.int hi u,.int st v]}).objs.size:=by simpa using hb
  subst e;exact O.fpOk (Q5 _)<|O.hok.fresh (Q5 _)
def HR(ta:TA):TI:=λB H R=>ta B H λvs H1=>∃i j k:Int,vs=[.int i,.int j,.int k]/\(0<=i/\i<2^30/\0<=j/\j<2^30/\0<k/\k<2^30)/\R (AV i k<|mC i j k) H1
def Ab{a b c:Expr}{ta:TA}{p pos:Pos}(W:Gl X nC)(Y:X.mg nC=none)(ha:PA X [a,b,c] ta)(hs:starEach [a,b,c] X.env=[(false,eval a X.env),(false,eval b X.env),(false,eval c X.env)]:=by rfl)
  (z:starEach [b,c] X.env=[(false,eval b X.env),(false,eval c X.env)]:=by rfl):PI X tg (.Call (.Name nC p) [a,b,c] [] pos) (HR ta):=by
 intro J s B H R I h;refine Call_<|oE I W Y boot_range (PyProof.Rows.callWith_type1 (IH (ha pos J s B H _ I h) λus s1 O=>?_) (by rw[hs,z])<|by rw[z];rfl);let{vs,H1,Z,r1,q1}:=O;let{i,j,k,e,{q1,q2,q3,q4,q5,q6},q}:=q1;subst e;cases r1 with
 |cons r G=>
  cases G with
  |cons r' G=>
   cases G with
   |cons U G=>
    cases G;let{t,rfl}:=r;let{t',rfl}:=r';let{a0,rfl}:=U;exact call_range_3 () (z8 Z q1 q2 q3 q4 q5 q6 q)<|.inl (PyProof.noPylong_small ())
end
def xg{n:Nat}{g:TG}{tb:TS}{rt:VK}(Pv:Mr)(O:Pv 0 B H)
  (hs:∀i B H,i<n->Pv i B H->g (.int<|lo+i*st) B H λz H2=>tb {Pv<|i+1,rt,nx,Pv<|i+1} z H2) (hd:∀B H,Pv n B H->nx B H):
  ∃W:Nat->Nat->St->Hp->Prop,(∃m,W 0 m B H)/\∀i m B H,W i m B H->
   ((AV lo st n).stop i H/\nx B H)\/((AV lo st n).go i H/\∃N:St->Hp->Prop,(∀G H',N G H'->∃m',m'<m/\W (i+1) m' G H')/\∀x H',(AV lo st n).yld i H x H'->g x B H' λz H2=>tb ⟨N,rt,nx,N⟩ z H2):=by
 refine{λi m B H=>m=n-i/\i<=n/\Pv i B H,{n,by simp,Qh _,O},?_};rintro i m B H ⟨rfl,hi,p⟩;by_cases I:i<n
 .refine .inr {I,Pv<|i+1,λG H' U=>{n-(i+1),(),M,I,U},λx H' y=>?_};let{e,y}:=y;subst e y;exact hs i B _ I p
 .have e:i=n:=();subst e;exact .inl {Q5 _,hd B H p}
open Srt
section
variable{X:Cx}
def K3f(H:Hp)(a:G')(k:Lh):Prop:=∃i j m:Int,H a=some (.tup [.int i,.int j,.int m])/\k=[i,j,m]
def qd{x y z:V}{its:Lj}(r:Du [x,y,z] its):∃u v w,its=[u,v,w]/\RelV x u/\RelV y v/\RelV z w:=by
 cases r with
 |cons r1 r=>
  let{v,w,rfl,h2,G}:=tY r;exact{_,v,w,M,r1,h2,G}
def tQ:iz X (.builtin va) (λvs H Q=>∃(p:G')(as:Lu)(ky:Addr->List Int),vs=[.ref p]/\Dv X.K H p (as.map V.ref)/\(∀a∈as,K3f H a (ky a))/\
  ∀(l:G')(bs:Lu),H l=none->bs.Perm as->bs.Pairwise (λa b=>HT.lexLt (ky b) (ky a)=false)->Q (.ref l) (upd H l<|.lst<|bs.map V.ref)):=by
 intro J s B H xs us Q I r h;let{p,as,ky,rfl,hq,hk,q}:=h;let{u,rfl,ru}:=tZ r;cases ru;let{its,rv,pl,hz}:=I.list hq;refine zX (κ:=tuples'<|Value.type "int" !=Value.type u6) (ky:=kRef ky) I hz rv pl.isList (λh' k h2 Q' G=>?_) (λh' k x y u v E' Q' hx hy rx ry G=>?_) λl ys hl pm pw=>?_
 .have tups:∀(bs:Lu)(U:Lj),(∀a∈bs,K3f H a (ky a))->Du (bs.map V.ref) U->∃fs:List Value,PySem.W.KatTups h' U fs/\(∀f∈fs,∃i t,f=Value.int i t)/\fs.length=U.length:=by
   intro bs
   induction bs with
   |nil=>intro U _ r;cases r;exact{[],.nil,λ_ h=>Kh h Z4,M}
   |cons a bs ih=>
    intro U hk r;cases r with
    |cons r1 r2=>
     cases r1;let{fs,t,hi,hl}:=ih _ (λb hb=>hk b<|Qc _ hb) r2;let{i,j,m,ha,_}:=hk a Q6;let{o,Y,n,O,e,c,d}:=xT I ha k;let{u1,u2,u3,rfl,q1,q2,q3}:=qd O;let{Z,rfl}:=q1;refine{Value.int i Z::fs,.cons e c d M t,λf hf=>?_,by rw[Qr,Qr,hl]};rcases Q7.mp hf with z|z
     .exact⟨i,Z,z⟩
     .exact hi f z
  let{fs,t,hi,hl}:=tups as its hk rv;refine PySem.W.kat_kind (T:= .type "int") t () (λv hv=>?_) ∅ G;let{i,t,rfl}:=hi v hv;exact PySem.W.Looks.of_pure M
 .let{a,ha,rfl}:=Qj.mp hx;let{b,hb,rfl}:=Qj.mp hy;cases rx;cases ry;let{i,j,m,ea,ka}:=hk a ha;let{i',j',m',eb,kb}:=hk b hb;have G:Q' (HT.lexLt (ky a)<|ky b) {s with heap:=h'}:=G;rw[ka,kb,HT.lexLt_cons,HT.lexLt_cons,HT.lexLt_cons,HT.lexLt_nil_nil]at G;let{o,a2,n,a0,e1,c1,d1}:=xT I ea k;let{u1,u2,u3,rfl,{Z,rfl},{t2,rfl},{t5,rfl}}:=qd a0;let{o',Y,n',O,e2,c2,d2}:=xT I eb k;let{w1,w2,w3,rfl,{t3,rfl},{t4,rfl},{t6,rfl}}:=qd O;refine PySem.W.kat_lt e1 d1 e2 d2<|XU (SeqAt.EqAt.int_int _ _ _ _ _ _ _ _<|Ka (λe=>K3 ?_)<|λe=>Kb ?_)
  .rw[Kd (Kp.mp e)]at G;refine XU<|SeqAt.EqAt.int_int _ _ _ _ _ _ _ _ (Ka (λe=>K3 ?_)<|λe=>Kb ?_)
   .rw[Kd (Kp.mp e)]at G;refine XU<|SeqAt.EqAt.int_int _ _ _ _ _ _ _ _ (Ka (λe=>K3 ?_)<|λe=>Kb ?_)
    .rw[Kd (Kp.mp e)]at G;exact PySem.W.kat_nil<|by simpa using G
    .rw[Kc (Kn.mp e)]at G;exact PySem.W.kat_one _ _<|lt_int G
   .rw[Kc (Kn.mp e)]at G;exact PySem.W.kat_one _ _<|lt_int G
  .rw[Kc (Kn.mp e)]at G;exact oneLt_int G
 .let{bs,rfl,a1}:=Ac pm;exact q l bs hl a1<|QS.mp pw
end
end L2
namespace L2
open PySem PySem.Spec PyProof.Rows
variable{tg:Expr}{K:Jc}
def Itv(K:Jc)(a:G')(n:Nat):It:=
 {λi H=>i<n/\∃xs x,Dv K H a xs/\xs[n-1-i]?=some x,λi H x H'=>H'=H/\∀xs,Dv K H a xs->xs[n-1-i]?=some x,λi _=>n<=i}
def Bk{P:Ln}{w:Lp}(a it:G')(n:Nat):AU P w K tg (Itv K a n) [it] it (λi h=>i<=n/\h.IsRevIter it a ((n:Int)-1-(i:Int))) where
 mem:=by simp
 obj:=λi h st b hb=>by
  have e:b=it:=by simpa using hb
  subst e;let{_,o,e,c,d}:=st;exact{o,e,λv z=>by rw[d]at z;cases z}
 keep:=λi h h' st k=>{st.1,st.2.at λo e=>k it (by simp) o e}
 item:=by
  intro X O hw hK hc i J s B H E I hf st U;subst O hw hK;let{hi,xs,x,hq,hx}:=U;let{its,rv,p,hz}:=I.list hq;let{u,hu,ru}:=rv.get hx;let{W,Y,f2,Z,f4,f5}:=hf it (by simp);have e1:(n:Int)-1-(i:Int)=((n-1-i:Nat):Int):=();have G:=st.2;rw[e1]at G;refine wpAny_pyNext_rev_item G p.isList (x:=u) (by simpa using hu) λh' st' sb=>?_;have e2:((n-1-i:Nat):Int)-1=(n:Int)-1-((i+1:Nat):Int):=();rw[e2]at st';have I1:Inv X J B H {s with heap:=h'}:=I.turned (t':=s.toks) (λb o hb e=>(sb.2 b hb).trans e) W Y Z f4 f5;let{o,e,c,d}:=id st';exact{u,M,zm (s:={s with heap:=h'}) e c d (_) {x,H,I1,ru,{M,λys hy=>by rwa[I.list_inj hy hq]},⟨hi,st'⟩,λb hb=>(hf b hb).1}}
 done:=by
  intro X O hw hK hc i J s B H E I hf st U;subst O hw hK;let{W,Y,f2,Z,f4,f5}:=hf it (by simp);have G:=st.2;have hn:n<=i:=U;have e:(n:Int)-1-(i:Int)= -1:=by have:=st.1;lia
  rw[e]at G;exact wpAny_pyNext_rev_end (I.ok.hd hc) G λh' eb=>{M,I.turned (t':=s.toks) (λb o hb e=>eb b o hb e) W Y Z f4 f5}
 self:=λ_ _ _ _ _ st h=>wpAny_pyIter_revIter st.2 h
section
variable{X:Cx}
def iRev(K:Jc)(ta:TA):TI:=λB H R=>ta B H λvs H1=>∃a xs,vs=[.ref a]/\Dv K H1 a xs/\R (Itv K a xs.length) H1
def Gi{a:Expr}{ta:TA}{p pos:Pos}(O:Gl X "reversed")(U:X.mg "reversed"=none)(ha:PA X [a] ta)(hs:starEach [a] X.env=[(false,eval a X.env)]:=by rfl):PI X tg (.Call (.Name "reversed" p) [a] [] pos) (iRev X.K ta):=by
 intro J s B H R I h;refine Call_<|oE I O U Boot.«reversed» (PyProof.Rows.callWith_type1 (IH (ha pos J s B H _ I h) λus s1 G=>?_) hs M);let{vs,H1,z,r1,q1}:=G;let{b,xs,e,hq,q}:=q1;subst e;cases r1 with
 |cons r W=>
  cases W;cases r;let{its,rv,p,hz}:=z.list hq;have hl:=rv.length;refine call_reversed_list p.isList ?_;refine wpAny_pyIter_revIter (l:=b) (i:=(its.toArray.size:Int)-1) {_,Ko _ M,M,M} ?_;refine{s1.heap.objs.size,[s1.heap.objs.size],_,_,H1,M,z.kept (t':=s1.toks) λb o e=>Kg _ e,Bk b _ xs.length,{Qh _,?_},λb hb=>?_,q}
  .have e:(xs.length:Int)-1-((0:Nat):Int)=(its.toArray.size:Int)-1:=by simp;lia
   rw[e];exact{_,Ko _ M,M,M}
  .have e:b=s1.heap.objs.size:=by simpa using hb
   subst e;exact z.fpOk (Q5 _)<|z.hok.fresh (Q5 _)
end
def AL{a D:G'}{xs:Lf}{te:TE}{tc:TT}{B:St}{H1:Hp}{Fin:Hp->Prop}(Pv:Mn)(z:Pv 0 [] (upd H1 D<|.lst []))(hl:∀i ys H,i<=xs.length->Pv i ys H->Dv K H a xs)
  (hs:∀i x ys H2,xs.reverse[i]?=some x->Pv i ys H2->H2 D=some (.lst ys)->tc (some x::B) H2 λb H4=>if b=true then te (some x::B) H4 (IW xs.length i ys D Pv)else JJ xs.length i ys D Pv H4)
  (hd:∀ys H2,Pv xs.length ys H2->H2 D=some (.lst ys)->Fin H2):
  ∃W:Nat->Nat->List V->Hp->Prop,(∃m,W 0 m [] (upd H1 D<|.lst []))/\∀i m ys H2,W i m ys H2->H2 D=some (.lst ys)->
   ((Itv K a xs.length).stop i H2/\Fin H2)\/((Itv K a xs.length).go i H2/\∀x H3,(Itv K a xs.length).yld i H2 x H3->tc (some x::B) H3 λb H4=>if b=true then te (some x::B) H4 λy H5=>H5 D=some (.lst ys)/\ys.length<sizeLine/\∃m',m'<m/\W (i+1) m' (ys++ [y]) (upd H5 D<|.lst<|ys++ [y])else H4 D=some (.lst ys)/\∃m',m'<m/\W (i+1) m' ys H4):=by
 refine{λi m ys H=>m=xs.length-i/\i<=xs.length/\Pv i ys H,{xs.length,by simp,Qh _,z},?_};rintro i m ys H ⟨rfl,hi,p⟩ hD;have q:=hl i ys H hi p;by_cases lt:i<xs.length
 .refine .inr {{lt,xs,xs[xs.length-1-i]'(),q,Q3 _},λx H' y=>?_};let{e,y}:=y;subst e;exact hs i x ys _ (by rw[List.getElem?_reverse lt];exact y xs q) p hD
 .have e:i=xs.length:=();subst e;exact .inl {Q5 _,hd ys H p hD}
end L2
namespace SW
open PySem L2
set_option maxHeartbeats 0
abbrev _root_.Li:=Addr->Prop
abbrev _root_.Ll:=List (Int×V)
abbrev _root_.Mc:=List (List Int)
variable{C L a b c c' c1 c2 dx f lc p r tb:G'}{F F':Li}{t:IT}{up:Bool}{fd:Lw}{o:HO}{x':JH}{H H' H2:Hp}{c0 hi k lo m n sz:Int}{R:Ma}{kv' kvs ps qs:Ll}{ls:Mc}{fs:L'}{A:Lu}{ks l x y:Lh}{pa':List Pk}{ts ts2 us:List Tp}{xs:Lf}{i i0 j n0:Nat}{E:Nat->Prop}{o1 o2 ob:Obj}{p0 q1 q2:Pos}{P:Ln}{K:Jc}{st:IE}{B:St}{qual:Str}{α β:Type}{a' av v:V}{Q:VK}{ct pm:Lg}{w:Lp}
structure Txt(K:Jc)(mg:Lr)(t:IT):Prop where
 wZ:mg "Token"=some (.ref t.dZ)
 rB:mg "BySlots"=some (.ref t.aQ)
 B9:mg "Up"=some (.ref t.cY)
 Ej:mg "Down"=some (.ref t.bG)
 Hh:mg "Leaves"=some (.ref t.a9)
 HM:mg "Makes"=some (.ref t.d6)
 HL:mg "Slots"=some (.ref t.aP)
 HN:mg "House"=some (.ref t.a6)
 w6:mg "turned"=some (.ref t.xy)
 sk:IV K "turned" "turned" qN t.xy t.rR
 xw:Binds K t.rR ["number"] []
 Ar:mg "mark_of"=some (.ref t.uX)
 u7:IV K "mark_of" "mark_of" oj t.uX t.oN
 AQ:Binds K t.oN [eR] []
 Gw:mg "place_of"=some (.ref t.rZ)
 yJ:IV K "place_of" "place_of" lW t.rZ t.mt
 G4:Binds K t.mt [eR] []
 uw:mg "slot_of"=some (.ref t.uV)
 oT:IV K "slot_of" "slot_of" oh t.uV t.oK
 uT:Binds K t.oK [eR,rW] []
 Er:mg "stretch_of"=some (.ref t.nI)
 wf:IV K "stretch_of" "stretch_of" iA t.nI t.iU
 EE:Binds K t.iU ["slot",rW] []
 Aq:mg "slot_at"=some (.ref t.uW)
 u0:IV K "slot_at" "slot_at" oi t.uW t.oM
 AO:Binds K t.oM ["place",rW] []
 Gx:mg "is_whole"=some (.ref t.r6)
 yK:IV K "is_whole" "is_whole" lX t.r6 t.mw
 G5:Binds K t.mw ["thing"] []
 ig:mg "is_from"=some (.ref t.uY)
 fg:IV K "is_from" "is_from" oo t.uY t.oO
 iw:Binds K t.oO ["thing","low"] []
 Ap:mg "word_of"=some (.ref t.uU)
 uZ:IV K "word_of" "word_of" oe t.uU t.oJ
 AN:Binds K t.oJ ["bound"] []
 g8:IV K pr "Token.__init__" gr t.g7 t.gL
 lu:Binds K t.gL [eH,"kind",sf,nX] []
 C9:IV K "words" "Token.words" fE t.cp t.fV
 j8:Binds K t.fV [eH] []
 Bb:KR K pr "BySlots.__init__" eF t.je t.bP
 pT:Binds K t.bP [eH,sf,nX] []
 He:KR K pr "Up.__init__" lY t.sd t.fS
 yG:Binds K t.fS [eH,sf,nX] []
 FH:IV K "holds" "Up.holds" jv t.pq t.j3
 FA:Binds K t.j3 [eH,eR] []
 EV:KR K pr "Down.__init__" iK t.nU t.dI
 v8:Binds K t.dI [eH,sf,nX] []
 DJ:IV K "holds" "Down.holds" gH t.lM t.g6
 Dt:Binds K t.g6 [eH,eR] []
 zd:mg "ask"=some (.ref t.FC)
 xB:KR K "ask" "ask" yU t.FC t.uJ
 Ii:Binds K t.uJ [u4,ir,mu,"sieve"] []
 G8:kx K t.uJ [u4,ir,mu,"sieve"] [.non]
 G7:kx K t.uJ [u4,ir,mu,"sieve"] [(.int<|10),.non]
 AZ:mg "page_by_slots"=some (.ref t.jd)
 pU:IV K "page_by_slots" "page_by_slots" eE t.jd t.eJ
 Ba:Binds K t.eJ ["slots",ir,mu] []
 Cg:mg "page_by_keys"=some (.ref t.kg)
 ss:IV K "page_by_keys" "page_by_keys" dh t.kg t.fO
 CY:Binds K t.fO [u4,ir,mu] []
 Ch:mg "keys_of_page"=some (.ref t.kh)
 su:IV K "keys_of_page" "keys_of_page" dj t.kh t.fP
 CZ:Binds K t.fP [kj,ir,mu] []
 Fm:mg "keys_near"=some (.ref t.pe)
 xA:IV K "keys_near" "keys_near" jt t.pe t.jX
 Fy:Binds K t.jX [kj,ir,ua] []
 Cf:mg "token_behind"=some (.ref t.kf)
 sr:IV K "token_behind" "token_behind" fw t.kf t.fN
 CW:Binds K t.fN [ir,eR] []
 Da:IV K pr "Leaves.__init__" fF t.kr t.fW
 C3:Binds K t.fW [eH] []
 DF:IV K "add" "Leaves.add" dU t.lI t.gW
 Dq:Binds K t.gW [eH,eR] []
 zL:IV K "discard" "Leaves.discard" dw t.gl t.dH
 zE:Binds K t.dH [eH,eR] []
 DE:IV K "has" "Leaves.has" gy t.lH t.gU
 tU:Binds K t.gU [eH,eR] []
 zK:IV K "from_on" "Leaves.from_on" bU t.gk t.dG
 zD:Binds K t.dG [eH,eR,ua] []
 xL:IV K "down_from" "Leaves.down_from" bI t.eU t.cG
 xJ:Binds K t.cG [eH,eR,ua] []
 zJ:IV K "leaf_of" "Leaves.leaf_of" du t.gj t.dF
 b6:Binds K t.dF [eH,eR] []
 xK:IV K "part_leaf" "Leaves.part_leaf" cx t.eT t.cE
 xI:Binds K t.cE [eH,sf] []
 xD:IV K "join_small" "Leaves.join_small" b8 t.eC t.cm
 j9:Binds K t.cm [eH,sf] []
 DD:IV K pr "Makes.__init__" gx t.lG t.gT
 Dp:Binds K t.gT [eH] []
 DB:IV K "note" "Makes.note" gw t.lF t.gR
 Do:Binds K t.gR [eH,"moment",oS] []
 oW:mg "empty_row"=some (.ref t.pf)
 ku:IV K "empty_row" "empty_row" gd t.pf t.jY
 pc:Binds K t.jY [rW] []
 Dz:IV K pr "Slots.__init__" gu t.lD t.gP
 Dm:Binds K t.gP [eH] []
 EQ:IV K "put" "Slots.put" iF t.nO t.iZ
 EH:Binds K t.iZ [eH,eR,oS] []
 DA:IV K "drop" "Slots.drop" gv t.lE t.gQ
 Dn:Binds K t.gQ [eH,eR] []
 ES:IV K "get" "Slots.get" iH t.nR t.i5
 EI:Binds K t.i5 [eH,eR] []
 ER:IV K "has" "Slots.has" iG t.nQ t.i4
 vZ:Binds K t.i4 [eH,eR] []
 Dy:IV K "rows" "Slots.rows" dS t.lC t.gO
 tT:Binds K t.gO [eH] []
 Dx:IV K "span" "Slots.span" cI t.lB t.gN
 Dl:Binds K t.gN [eH,"low","high"] []
 Dw:IV K "stop" "Slots.stop" gs t.lw t.gM
 tS:Binds K t.gM [eH,"place"] []
 AW:IV K "cell_of" "Slots.cell_of" dN t.iy t.dP
 dQ:Binds K t.dP [eH,eR] []
 zI:IV K "lying_at" "Slots.lying_at" dn t.gi t.dE
 zC:Binds K t.dE [eH,"place"] []
 yM:IV K "move_slot" "Slots.move_slot" cQ t.fY t.cW
 mE:Binds K t.cW [eH] []
 yN:IV K "begin_row" "Slots.begin_row" cR t.fZ t.cX
 mF:Binds K t.cX [eH] []
 DG:IV K pr "House.__init__" gE t.lJ t.gX
 Dr:Binds K t.gX [eH] []
 ET:IV K "put" "House.put" iI t.nS t.i6
 EJ:Binds K t.i6 [eH,eR,oS] []
 DH:IV K "drop" "House.drop" gF t.lK t.gY
 Ds:Binds K t.gY [eH,eR] []
 EU:IV K "get" "House.get" iJ t.nT t.i7
 EK:Binds K t.i7 [eH,eR] []
 DI:IV K "done" "House.done" gG t.lL t.gZ
 tV:Binds K t.gZ [eH,"row",oS] []
 jR:mg "_law_cell_at"=some (.ref t.kq)
 f9:IV K "_law_cell_at" "_law_cell_at" fB t.kq t.fR
 j7:Binds K t.fR [lq,vb] []
 vL:mg "_law_mixed"=some (.ref t.nM)
 nV:IV K "_law_mixed" "_law_mixed" iD t.nM t.iX
 vY:Binds K t.iX [eN,vb] []
 Gy:mg "_law_run"=some (.ref t.r9)
 yL:IV K "_law_run" "_law_run" fz t.r9 t.my
 G6:Binds K t.my [eN] []
 Fn:mg "_law_deed"=some (.ref t.pj)
 xC:IV K "_law_deed" "_law_deed" ju t.pj t.jZ
 Fz:Binds K t.jZ [lm,u5,eN] []
 Et:mg "_law_house"=some (.ref t.nN)
 wj:IV K "_law_house" "_law_house" iE t.nN t.iY
 EG:Binds K t.iY ["_law_cells"] []
 xG:mg "_law_numbers_told"=some (.ref t.eS)
 kQ:IV K "_law_numbers_told" "_law_numbers_told" cw t.eS t.cC
 xH:Binds K t.cC ["_law_kind",eN] []
 Ci:mg "_law_numbers"=some (.ref t.ko)
 sw:IV K "_law_numbers" "_law_numbers" fA t.ko t.fQ
 C2:Binds K t.fQ [eN,"_law_keys"] []
 Es:mg "_law_token"=some (.ref t.nK)
 wg:IV K "_law_token" "_law_token" iC t.nK t.iW
 EF:Binds K t.iW ["_law_numbers_here"] []
 Di:mg "_law_answer"=some (.ref t.d7)
 tW:IV K "_law_answer" "_law_answer" gp t.d7 t.cM
 Dk:Binds K t.cM [hH,eN,kz,hL] []
 dC:mg "_law_words"=some (.ref t.nJ)
 cu:IV K "_law_words" "_law_words" iB t.nJ t.iV
 dJ:Binds K t.iV [ly] []
 Iq:mg "law"=some (.ref t.FB)
 Ij:IV K "law" "law" yT t.FB t.xn
 pR:IB K t.aQ "kind"
 k4:IB K t.aQ sf
 cc:IB K t.aQ nX
 cn:Jk K t.aQ
 yo:Mk K t.aQ t.je
 lN:XIs K t.aQ
 yw:PySem.W.kitOne K (.ref t.aQ) (.ref t.aQ)=some true
 Ao:bM K t.aQ "words" t.cp
 yk:IB K t.cY "kind"
 mX:IB K t.cY sf
 ie:IB K t.cY nX
 iu:Jk K t.cY
 HH:Mk K t.cY t.sd
 jj:XIs K t.cY
 Dj:PySem.W.kitOne K (.ref t.cY) (.ref t.aQ)=some false
 Cr:PySem.W.kitOne K (.ref t.cY) (.ref t.cY)=some true
 Fj:bM K t.cY "words" t.cp
 Fk:bM K t.cY "holds" t.pq
 vI:IB K t.bG "kind"
 fK:IB K t.bG sf
 gf:IB K t.bG nX
 cr:Jk K t.bG
 Ei:Mk K t.bG t.nU
 de:XIs K t.bG
 A7:PySem.W.kitOne K (.ref t.bG) (.ref t.aQ)=some false
 yv:PySem.W.kitOne K (.ref t.bG) (.ref t.cY)=some false
 Dg:bM K t.bG "words" t.cp
 Dh:bM K t.bG "holds" t.lM
 am:IB K t.a9 kj
 aC:Jk K t.a9
 Hg:Mk K t.a9 t.kr
 De:bM K t.a9 "add" t.lI
 zc:bM K t.a9 "discard" t.gl
 tO:bM K t.a9 "has" t.lH
 zb:bM K t.a9 "from_on" t.gk
 xF:bM K t.a9 "down_from" t.eU
 bX:bM K t.a9 "leaf_of" t.gj
 xE:bM K t.a9 "part_leaf" t.eT
 jQ:bM K t.a9 "join_small" t.eC
 tJ:IB K t.d6 "made"
 xt:Jk K t.d6
 HJ:Mk K t.d6 t.lG
 Dd:bM K t.d6 "note" t.lF
 aM:IB K t.aP "table"
 bp:IB K t.aP "shifted"
 bh:IB K t.aP "kept"
 ax:Jk K t.aP
 HI:Mk K t.aP t.lD
 Em:bM K t.aP "put" t.nO
 Dc:bM K t.aP "drop" t.lE
 En:bM K t.aP "get" t.nR
 vK:bM K t.aP "has" t.nQ
 tN:bM K t.aP "rows" t.lC
 Db:bM K t.aP "span" t.lB
 tM:bM K t.aP "stop" t.lw
 dO:bM K t.aP "cell_of" t.iy
 za:bM K t.aP "lying_at" t.gi
 mn:bM K t.aP "move_slot" t.fY
 mq:bM K t.aP "begin_row" t.fZ
 iP:IB K t.a6 "now"
 B0:IB K t.a6 "floor"
 b9:IB K t.a6 "slots"
 eG:IB K t.a6 kj
 oA:IB K t.a6 "written"
 BZ:IB K t.a6 "marks"
 tK:IB K t.a6 "past"
 Al:IB K t.a6 "holders"
 aU:Jk K t.a6
 HK:Mk K t.a6 t.lJ
 Eo:bM K t.a6 "put" t.nS
 Df:bM K t.a6 "drop" t.lK
 Ep:bM K t.a6 "get" t.nT
 tP:bM K t.a6 "done" t.lL
 kZ:C7 K t.dZ pr (.ref t.g7)
 g_BITS:∃tk,mg "BITS"=some (.int 16 tk)
 g_PLACES:∃tk,mg "PLACES"=some (.int 65536 tk)
 g_STRETCHES_A_KEY:∃tk,mg "STRETCHES_A_KEY"=some (.int 4 tk)
 g_MOST_IN_LEAF:∃tk,mg "MOST_IN_LEAF"=some (.int 8 tk)
 g_LEAST_IN_TWO:∃tk,mg "LEAST_IN_TWO"=some (.int 5 tk)
 g_LEAST_SIZE:∃tk,mg "LEAST_SIZE"=some (.int 4 tk)
 g_GREATEST_SIZE:∃tk,mg "GREATEST_SIZE"=some (.int 256 tk)
 Il:mg "bool"=none
 Ip:mg "int"=none
 eV:mg "isinstance"=none
 bq:mg "len"=none
 Hj:mg "max"=none
 wm:mg "min"=none
 mG:mg nC=none
 FJ:mg "reversed"=none
 Bc:mg va=none
 Io:mg "str"=none
 FI:LamK K mg t.xn t.bS
 Im:∃m,RelV (.int<|10) m/\we K t.uJ [u4,ir,mu,"sieve"] ["sieve"] (g2m m) (g2m<|.int<|10)
def z6:ao ["number","told","rest","step"] ["number"] (ai qN):=IY
def yc:ao [eR] [eR] (ai oj):=IY
def wF:ao [eR] [eR] (ai lW):=IY
def ya:ao [eR,rW] [eR,rW] (ai oh):=IY
def sP:ao ["slot",rW,"low"] ["slot",rW] (ai iA):=IY
def yb:ao ["place",rW] ["place",rW] (ai oi):=IY
def wG:ao ["thing"] ["thing"] (ai lX):=IY
def yd:ao ["thing","low"] ["thing","low"] (ai oo):=IY
def x9:ao ["bound"] ["bound"] (ai oe):=IY
def qz:ao [eH,"kind",sf,nX] [eH,"kind",sf,nX] (ai gr):=IY
def pI:ao [eH] [eH] (ai fE):=IY
def JI:ao [eH,sf,nX] [eH,sf,nX] (ai eF):=IY
def JX:ao [eH,sf,nX] [eH,sf,nX] (ai lY):=IY
def vn:ao [eH,eR] [eH,eR] (ai jv):=IY
def JP:ao [eH,sf,nX] [eH,sf,nX] (ai iK):=IY
def qM:ao [eH,eR] [eH,eR] (ai gH):=IY
def LJ:ao [u4,ir,mu,"sieve","page"] [u4,ir,mu,"sieve"] (ai yU):=IY
def JG:ao ["slots",ir,mu,"rows","reached","gone","stop"] ["slots",ir,mu] (ai eE):=IY
def pF:ao [u4,ir,mu,"page"] [u4,ir,mu] (ai dh):=IY
def JK:ao [kj,ir,mu,ua,"held","page"] [kj,ir,mu] (ai dj):=IY
def vj:ao [kj,ir,ua] [kj,ir,ua] (ai jt):=IY
def pE:ao [ir,eR] [ir,eR] (ai fw):=IY
def pJ:ao [eH] [eH] (ai fF):=IY
def qI:ao [eH,eR,sf,"leaf"] [eH,eR] (ai dU):=IY
def lV:ao [eH,eR,sf] [eH,eR] (ai dw):=IY
def qH:ao [eH,eR,sf] [eH,eR] (ai gy):=IY
def JC:ao [eH,eR,ua,"told",sf] [eH,eR,ua] (ai bU):=IY
def Ix:ao [eH,eR,ua,"told",sf] [eH,eR,ua] (ai bI):=IY
def lU:ao [eH,eR,"low","high","middle"] [eH,eR] (ai du):=IY
def js:ao [eH,sf,"leaf","middle"] [eH,sf] (ai cx):=IY
def jg:ao [eH,sf,"both"] [eH,sf] (ai b8):=IY
def qG:ao [eH] [eH] (ai gx):=IY
def qF:ao [eH,"moment",oS] [eH,"moment",oS] (ai gw):=IY
def vk:ao [rW] [rW] (ai gd):=IY
def qD:ao [eH] [eH] (ai gu):=IY
def sV:ao [eH,eR,oS,"cell"] [eH,eR,oS] (ai iF):=IY
def qE:ao [eH,eR] [eH,eR] (ai gv):=IY
def sX:ao [eH,eR,"cell"] [eH,eR] (ai iH):=IY
def sW:ao [eH,eR] [eH,eR] (ai iG):=IY
def qC:ao [eH] [eH] (ai dS):=IY
def qB:ao [eH,"low","high","found","reached",nX,"inside"] [eH,"low","high"] (ai cI):=IY
def qA:ao [eH,"place",rW] [eH,"place"] (ai gs):=IY
def mN:ao [eH,eR,"old","slot","new"] [eH,eR] (ai dN):=IY
def lT:ao [eH,"place",rW,"found","row","slot",eR,oS] [eH,"place"] (ai dn):=IY
def kO:ao [eH,"old","new",eR,oS] [eH] (ai cQ):=IY
def kP:ao [eH,rW] [eH] (ai cR):=IY
def qJ:ao [eH] [eH] (ai gE):=IY
def sY:ao [eH,eR,oS] [eH,eR,oS] (ai iI):=IY
def qK:ao [eH,eR] [eH,eR] (ai gF):=IY
def sZ:ao [eH,eR] [eH,eR] (ai iJ):=IY
def qL:ao [eH,"row",oS,eR] [eH,"row",oS] (ai gG):=IY
def pH:ao [lq,vb] [lq,vb] (ai fB):=IY
def sS:ao [eN,vb,si] [eN,vb] (ai iD):=IY
def IM:ao [eN,"_law_start",si,"_law_way","_law_step"] [eN] (ai fz):=IY
def vm:ao [lm,u5,eN,"_law_keys",vb,hL] [lm,u5,eN] (ai ju):=IY
def sU:ao ["_law_cells",lm,u5,eN] ["_law_cells"] (ai iE):=IY
def jr:ao ["_law_kind",eN,"_law_low","_law_high"] ["_law_kind",eN] (ai cw):=IY
def pG:ao [eN,"_law_keys","_law_kind",si,"_law_low","_law_high"] [eN,"_law_keys"] (ai fA):=IY
def sR:ao ["_law_numbers_here"] ["_law_numbers_here"] (ai iC):=IY
def qy:ao [hH,eN,kz,hL] [hH,eN,kz,hL] (ai gp):=IY
def sQ:ao [ly] [ly] (ai iB):=IY
def Js:ao [lq,lm,u5,ly,eN,"_law_many",hH,"_law_strainer","_law_plain","_law_rest","_law_found","_law_due","_law_again","_law_left"] [lq] (ai yT):=IY
def Sc:V->Prop
 | .non=>True| .bl _=>True| .int _=>True| .str _=>True|_=>False
def T0(z:Int):Sc (.int z):=Ku
noncomputable def isW:V->Bool
 | .int _=>true|_=>false
def Fr(F F':Li)(H H':Hp):Prop:=∀b o,¬F b->H b=some o->H' b=some o/\¬F' b
def Fr.refl:Fr F F H H:=λ_ _ n e=>⟨e,n⟩
def Fr.trans{z:Li}{H'':Hp}(x:Fr F F' H H')(y:Fr F' z H' H''):Fr F z H H'':=λb o n e=>y b o (x b o n e).2 (x b o n e).1
def Fr.of_same(s:IA H H'):Fr F F H H':=λb o n e=>{s b o e,n}
noncomputable def aO(kv:Ll):List (Key×V):=kv.map λp=>(Sum.inl p.1,p.2)
def IP{kv:Ll}:aI (aO kv) (Sum.inl k:Key)=aI kv k:=by
 induction kv with
 |nil=>rfl
 |cons p r G=>
  show aI ((Sum.inl p.1,p.2)::aO r) (Sum.inl k:Key)=_;by_cases e:p.1=k
  .rw[a7 e,a7 (by show(Sum.inl p.1:Key)=_;rw[e])]
  .rw[aW e,aW (by show ¬(Sum.inl p.1:Key)=_;exact λz=>e<|Sum.inl.inj z),G]
def At{kv:Ll}:((aO kv).any λx=>decide (x.1=(Sum.inl k:Key)))=kv.any λx=>decide (x.1=k):=by
 rw[b7,b7,IP]
def ii{kv:Ll}:bg (aO kv) (Sum.inl k:Key) v=aO (bg kv k v):=by
 unfold bg;rw[At];by_cases c:(kv.any λx=>decide (x.1=k))=true
 .rw[Kd c,Kd c];unfold aO;rw[QR,QR];refine Zu λp _=>?_;show(if(Sum.inl p.1:Key)=Sum.inl k then _ else _)=_;by_cases e:p.1=k
  .rw[Kd (by rw[e])];simp[e]
  .rw[Kc λz=>e (Sum.inl.inj z)];simp[e]
 .rw[Kc c,Kc c];unfold aO;rw[Q9];rfl
def rF{kv:Ll}:bB (aO kv) (Sum.inl k:Key)=aO (bB kv k):=by
 unfold bB aO;rw[List.filter_map];congr 1;refine XR λp _=>?_;show decide ((Sum.inl p.1:Key)≠Sum.inl k)=_;by_cases e:p.1=k
 .rw[e];simp
 .have:¬(Sum.inl p.1:Key)=Sum.inl k:=λz=>e (Sum.inl.inj z);simp[e,this]
def c8{kv:Ll}:(aO kv).length=kv.length:=Q0 _
theorem jA{f:Str}{v:V}:∀fs:List (Str×V),(bF f v fs).length<=fs.length+1
 | []=>Q5 _
 |(g,x)::r=>by
  rw[bF];split
  .rw[Qr,Qr];lia
  .have:=jA (f:=f) (v:=v) r;rw[Qr,Qr];lia
section
variable{κ:Type}[DecidableEq κ]{kv:List (κ×V)}{k j:κ}
theorem dM:∀{kv:List (κ×V)},aI (bB kv k) j=if j=k then none else aI kv j
 | []=>by
  show aI ([]:List (κ×V)) j=_;rw[jn];split<;>rfl
 |p::r=>by
  by_cases e:p.1=k
  .rw[oI e,dM];by_cases z:j=k
   .rw[Kd z,Kd z]
   .rw[Kc z,Kc z,aW λy=>z (y.symm.trans e)]
  .rw[kJ e];by_cases y:p.1=j
   .rw[a7 y,a7 y,Kc λz=>e (y.trans z)]
   .rw[aW y,aW y,dM]
theorem mem_keys:∀{kv:List (κ×V)},k∈kv.map (·.1)↔(aI kv k).isSome=true
 | []=>by simp[jn]
 |p::r=>by
  by_cases e:p.1=k
  .rw[a7 e];simp[e]
  .rw[aW e,<-mem_keys];simp[Ne.symm e]
def m6:(bg kv k v).map (·.1)=if(aI kv k).isSome=true then kv.map (·.1)else kv.map (·.1)++ [k]:=by
 unfold bg;rw[b7];by_cases c:(aI kv k).isSome=true
 .rw[Kd c,Kd c,QR];refine Zu λp _=>?_;show(if p.1=k then(p.1,v)else p).1=p.1;split<;>rfl
 .rw[Kc c,Kc c,Q9];rfl
def yj(h:(kv.map (·.1)).Nodup):((bg kv k v).map (·.1)).Nodup:=by
 cases e:aI kv k with
 |none=>exact Eg v h e
 |some x=>rwa[m6,e]
theorem eh:∀{l S:List κ},l.Nodup->(∀x∈l,x∈S)->l.length<=S.length
 | [],_,_,_=>Qh _
 |x::xs,S,hn,hs=>by
  let{h1,h2}:=QP.mp hn;have hx:x∈S:=hs x Q6;have:=eh (S:=S.erase x) h2 λy hy=>(List.mem_erase_of_ne λz=>h1<|by rwa[<-z]).mpr (hs y<|Qc _ hy);rw[List.length_erase_of_mem hx]at this;have:=List.length_pos_of_mem hx;rw[Qr];lia
end
def LI(K:Jc)(F:Li)(H:Hp)(a:G')(xs:Lf):Prop:=(Rd H a (.lst xs)/\¬F a)\/∀H',Dv K H' a xs
def LI.sq(h:LI K F H a xs):Dv K H a xs:=by
 rcases h with h|h
 .exact .inl h.1
 .exact h H
def LI.of(h:Dv K H a xs)(n:∀o,H a=some o->¬F a):LI K F H a xs:=by
 rcases h with h|h
 .rcases h with h|⟨o,h⟩
  .exact .inl {.inl h,n _ h}
  .exact .inl {.inr ⟨o,h⟩,n _ h}
 .exact .inr λ_=> .inr h
def LI.fr(h:LI K F H a xs)(f:Fr F F' H H'):LI K F' H' a xs:=by
 rcases h with⟨h,n⟩|h
 .rcases h with h|⟨o,h⟩
  .exact .inl {.inl (f _ _ n h).1,(f _ _ n h).2}
  .exact .inl {.inr {o,(f _ _ n h).1},(f _ _ n h).2}
 .exact .inr h
def LI.new(h:LI K F H a xs)(n:H p=none):LI K F (upd H p o) a xs:=h.fr (Fr.of_same<|ak n)
set_option genInjectivity false in
structure IE where
 kv:List (Int×V)
 size:Int
 nxt:Option Int
 mv:Int
noncomputable def IE.new:IE:={[],4,none,0}
noncomputable def IE.one(s:IE):IE:=match s.nxt with
 |none=>s
 |some m=>if s.mv+1=s.size then{s with size:=m,nxt:=none,mv:=0}else{s with mv:=s.mv+1}
noncomputable def IE.three(s:IE):IE:=match s.nxt with
 |some _=>s
 |none=>if s.size<(s.kv.length:Int)/\s.size<256 then{s with nxt:=some (2*s.size),mv:=0}else if 4*(s.kv.length:Int)<s.size/\4<s.size then{s with nxt:=some (s.size/2),mv:=0}else s
def IE.put(s:IE)(k:Int)(v:V):IE:=IE.three {s.one with kv:=bg s.kv k v}
def IE.drop(s:IE)(k:Int):IE:=IE.three {s.one with kv:=bB s.kv k}
noncomputable def IE.rows(s:IE):List Int:=match s.nxt with
 |none=> [s.size]
 |some m=> [s.size,m]
noncomputable def IE.moved(s:IE):Int:=match s.nxt with
 |none=>0
 |some _=>s.mv
set_option genInjectivity false in
structure Jv where
 tb:Addr
 r0:Addr
 r1:Addr
 A0:List Addr
 A1:List Addr
 C0:List (List<|Int×V)
 C1:List (List<|Int×V)
 n:Int
noncomputable def JR(tb:G')(sh n:Int):List (Str×V):=[("table",.ref tb),("shifted",.int sh),("kept",.int n)]
def eY{k:Str}{r:L'}:((k,v)::r).lookup k=some v:=by
 have hb:(k==k)=true:=Kp.mpr M;simp only[List.lookup,hb]
def bx{k m:Str}{r:L'}(h:m≠k):((k,v)::r).lookup m=r.lookup m:=by
 have hb:(m==k)=false:=Kn.mpr h;simp only[List.lookup,hb]
section
variable{tb':G'}{sh sh' n':Int}{m:Str}
def gc:(JR tb sh n).lookup ("table":Str)=some (.ref tb):=eY
def wE:(JR tb sh n).lookup ("shifted":Str)=some (.int sh):=by unfold JR;rw[bx ∅,eY]
def mL:(JR tb sh n).lookup ("kept":Str)=some (.int n):=by unfold JR;rw[bx ∅,bx ∅,eY]
def NoM(m:Str):Prop:=m≠("table":Str)/\m≠("shifted":Str)/\m≠("kept":Str)
instance:Decidable (NoM m):=by unfold NoM;infer_instance
def E9(h:NoM m):(JR tb sh n).lookup m=none:=by unfold JR;rw[bx h.1,bx h.2.1,bx h.2.2];rfl
def HF:bF ("table":Str) (.ref tb') (JR tb sh n)=JR tb' sh n:=by unfold JR;rw[bF,Kd M]
def Fd:bF ("shifted":Str) (.int sh') (JR tb sh n)=JR tb sh' n:=by unfold JR;rw[bF,Kc ∅,bF,Kd M]
def Fe:bF ("kept":Str) (.int n') (JR tb sh n)=JR tb sh n':=by unfold JR;rw[bF,Kc ∅,bF,Kc ∅,bF,Kd M]
def mK:(JR tb sh n).length<1000:=by show 3<1000;decide
end
structure IJ(H:Hp)(r:G')(A:Lu)(C:List (List<|Int×V))(sz:Int):Prop where
 lst:H r=some (.lst<|A.map V.ref)
 la:(A.length:Int)=sz
 lc:(C.length:Int)=sz
 cell:∀(j:Nat)(b:G')(kv:Ll),A[j]?=some b->C[j]?=some kv->H b=some (.dK<|aO kv)
 ndk:∀(j:Nat)(kv:Ll),C[j]?=some kv->(kv.map (·.1)).Nodup
 inj:∀(i j:Nat)(b:G'),A[i]?=some b->A[j]?=some b->i=j
 home:∀(j:Nat)(kv:Ll),C[j]?=some kv->∀p∈kv,p.1%65536%sz=(j:Int)
def IJ.has{C:List (List<|Int×V)}(h:IJ H r A C sz)(hb:b∈A):∃(j:Nat)(kv:Ll),A[j]?=some b/\C[j]?=some kv/\H b=some (.dK<|aO kv):=by
 let{j,G,e}:=QB hb;have hc:j<C.length:=by have:=h.la;have:=h.lc;lia
 have z:A[j]?=some b:=by rw[Q3 G,e]
 have e2:C[j]?=some C[j]:=Q3 hc;exact{j,C[j],z,e2,h.cell j b _ z e2}
def IJ.frame{C:List (List<|Int×V)}(h:IJ H r A C sz)(f:∀b,b=r\/b∈A->H' b=H b):IJ H' r A C sz:=
 {by rw[f r (.inl M)];exact h.lst,h.la,h.lc,λj b kv z e2=>by rw[f b (.inr<|Q1 z)];exact h.cell j b kv z e2,h.ndk,h.inj,h.home}
def IJ.notr{C:List (List<|Int×V)}(h:IJ H r A C sz)(hb:b∈A){x:G'}(e:H x=some o)(G:∀kvs,o≠ .dK kvs):b≠x:=λz=>by
 let{j,kv,_,_,q}:=h.has hb;rw[z,e]at q;cases q;exact G _ M
def IJ.set{C:List (List<|Int×V)}(h:IJ H r A C sz)(I:A[j]?=some c)(O:(kv'.map (·.1)).Nodup)(U:∀p∈kv',p.1%65536%sz=(j:Int)):
  IJ (upd H c<|.dK<|aO kv') r A (C.set j kv') sz:=by
 have hc:r≠c:=(h.notr (Q1 I) h.lst<|λ_ z=>by cases z).symm;refine{by rw[ac hc];exact h.lst,h.la,by rw[QH];exact h.lc,λi b kv G e2=>?_,λi kv e=>?_,h.inj,λi kv e=>?_}
 .rw[Qw]at e2;by_cases z:j=i
  .subst z;rw[I]at G;cases G;rw[Kd M]at e2;split at e2
   .cases e2;exact ag
   .cases e2
  .rw[Kc z]at e2;rw[ac λy=>z (h.inj j i c I<|by rwa[<-y])];exact h.cell i b kv G e2
 .rw[Qw]at e;by_cases z:j=i
  .rw[Kd z]at e;split at e
   .cases e;exact O
   .cases e
  .rw[Kc z]at e;exact h.ndk i kv e
 .rw[Qw]at e;by_cases z:j=i
  .subst z;rw[Kd M]at e;split at e
   .cases e;exact U
   .cases e
  .rw[Kc z]at e;exact h.home i kv e
def JQ(a:G')(st:IE)(d:Jv):Addr->Prop:=λb=>b=a\/b=d.tb\/b=d.r0\/b∈d.A0\/(st.nxt.isSome=true/\b=d.r1)\/b∈d.A1
def IsCell(d:Jv)(st:IE)(k:Int)(c:G')(kv:Ll):Prop:=
 (st.moved<=k%65536%st.size/\d.A0[(k%65536%st.size).toNat]?=some c/\d.C0[(k%65536%st.size).toNat]?=some kv)\/
 (∃m,st.nxt=some m/\k%65536%st.size<st.moved/\d.A1[(k%65536%m).toNat]?=some c/\d.C1[(k%65536%m).toNat]?=some kv)
structure IN(st:IE):Prop where
 pw:st.size∈([4,8,16,32,64,128,256]:Lh)
 nx:∀m,st.nxt=some m->m∈([4,8,16,32,64,128,256]:Lh)/\0<=st.mv/\st.mv<st.size/\(m=2*st.size\/2*m=st.size)
def jz{x:Int}(h:x∈([4,8,16,32,64,128,256]:List Int)):x=4\/x=8\/x=16\/x=32\/x=64\/x=128\/x=256:=by simpa using h
def br{x:Int}(h:x∈([4,8,16,32,64,128,256]:List Int)):4<=x/\x<=256:=by
 rcases jz h with h|h|h|h|h|h|h<;>lia
structure Iv(t:IT)(H:Hp)(a:G')(st:IE)(d:Jv):Prop where
 obj:∃dx,H a=some (.ins t.aP dx<|JR d.tb st.moved d.n)
 tbl:H d.tb=some (.lst<|match st.nxt with|none=> [.ref d.r0]|some _=> [.ref d.r0,.ref d.r1])
 row0:IJ H d.r0 d.A0 d.C0 st.size
 row1:match st.nxt with|none=>d.A1=[]/\d.C1=[]|some m=>IJ H d.r1 d.A1 d.C1 m
 dis:∀b,b∈d.A0->b∉d.A1
 tr:d.tb≠d.r0
 tr1:st.nxt.isSome=true->d.tb≠d.r1/\d.r0≠d.r1
 old:∀(j:Nat)(kv:Ll),d.C0[j]?=some kv->(j:Int)<st.moved->kv=[]
 new:∀(j:Nat)(kv:Ll),d.C1[j]?=some kv->∀p∈kv,p.1%65536%st.size<st.moved
 val:∀(k:Int)(c:G')(kv:Ll),IsCell d st k c kv->aI kv k=aI st.kv k
section
variable{d:Jv}
def Iv.frame(h:Iv t H a st d)(f:∀b,JQ a st d b->H' b=H b):Iv t H' a st d:=by
 let{dx,z}:=h.obj;refine{{dx,by rwa[f a (.inl M)]},by rw[f d.tb (.inr<|.inl M)];exact h.tbl,h.row0.frame λb hb=>f b ?_,?_,h.dis,h.tr,h.tr1,h.old,h.new,h.val}
 .rcases hb with hb|hb
  .exact .inr<|.inr (.inl hb)
  .exact .inr<|.inr (.inr<|.inl hb)
 .have r1:=h.row1;have G:=f;unfold JQ at G;cases e:st.nxt with
  |none=>rw[e]at r1;exact r1
  |some m=>
   rw[e]at r1;refine IJ.frame (H:=H) r1 λb hb=>f b ?_;unfold JQ;rw[e];rcases hb with hb|hb
   .exact .inr<|.inr (.inr<|.inr<|.inl ⟨M,hb⟩)
   .exact .inr<|.inr (.inr<|.inr<|.inr hb)
def Iv.dom(h:Iv t H a st d)(hb:JQ a st d b):∃o,H b=some o:=by
 let{dx,z}:=h.obj;rcases hb with rfl|rfl|rfl|hb|⟨hs,rfl⟩|hb
 .exact{_,z}
 .exact{_,h.tbl}
 .exact{_,h.row0.lst}
 .let{_,_,_,_,q}:=h.row0.has hb;exact{_,q}
 .have r1:=h.row1;cases e:st.nxt with
  |none=>rw[e]at hs;cases hs
  |some m=>rw[e]at r1;exact{_,r1.lst}
 .have r1:=h.row1;cases e:st.nxt with
  |none=>rw[e]at r1;rw[r1.1]at hb;cases hb
  |some m=>rw[e]at r1;let{_,_,_,_,q}:=r1.has hb;exact{_,q}
def Iv.at(h:Iv t H a st d){kv:Ll}(G:IsCell d st k c kv):H c=some (.dK<|aO kv)/\JQ a st d c/\(kv.map (·.1)).Nodup:=by
 rcases G with⟨_,z,e2⟩|⟨m,I,_,z,e2⟩
 .exact{h.row0.cell _ _ _ z e2,.inr<|.inr<|.inr<|.inl<|Q1 z,h.row0.ndk _ _ e2}
 .have r1:=h.row1;rw[I]at r1;exact{r1.cell _ _ _ z e2,.inr<|.inr<|.inr<|.inr<|.inr<|Q1 z,r1.ndk _ _ e2}
def oB(z:4<=m):0<=k%65536%m/\k%65536%m<m/\((k%65536%m).toNat:Int)=k%65536%m:=by
 have h1:=Qf (k%65536) (show m≠0 by lia);have h2:=Qe (k%65536) (show 0<m by lia);exact{h1,h2,Xz h1}
def cz{l:List α}{z:Int}(G:0<=z)(h1:z<(l.length:Int)):∃x,l[z.toNat]?=some x:={l[z.toNat]'(),Q3 ()}
def Iv.cell(h:Iv t H a st d)(z:IN st)(k:Int):∃c kv,IsCell d st k c kv:=by
 let{s4,_}:=br z.pw;let{I,O,Y}:=oB (k:=k) s4;by_cases c:st.moved<=k%65536%st.size
 .let{x,G}:=cz (l:=d.A0) I (by rwa[h.row0.la]);let{y,e2}:=cz (l:=d.C0) I (by rwa[h.row0.lc]);exact{x,y,.inl ⟨c,G,e2⟩}
 .cases e:st.nxt with
  |none=>
   exfalso;have:st.moved=0:=by unfold IE.moved;rw[e]
   lia
  |some m=>
   let{pm,_}:=z.nx m e;let{W,_}:=br pm;let{n0,U,Z}:=oB (k:=k) W;have r1:=h.row1;rw[e]at r1;let{x,G}:=cz (l:=d.A1) n0 (by rwa[r1.la]);let{y,e2}:=cz (l:=d.C1) n0 (by rwa[r1.lc]);exact{x,y,.inr {m,e,(),G,e2}}
def IsCell.uniq{kv:Ll}(x:IsCell d st k c kv)(y:IsCell d st k c' kv'):c=c'/\kv=kv':=by
 rcases x with⟨U,O,e2⟩|⟨m,W,U,O,e2⟩<;>rcases y with⟨Y,z,G⟩|⟨m',I,Y,z,G⟩
 .rw[O]at z;rw[e2]at G;cases z;cases G;exact⟨M,M⟩
 .lia
 .lia
 .rw[W]at I;cases I;rw[O]at z;rw[e2]at G;cases z;cases G;exact⟨M,M⟩
def Iv.setN(h:Iv t H a st d):Iv t (upd H a<|.ins t.aP dx<|JR d.tb st.moved n) a st {d with n:=n}:=by
 let{O,G}:=h.obj;have I:d.tb≠a:=bO h.tbl G (by intro z;cases z);refine{⟨dx,ag⟩,by show upd H a _ d.tb=_;rw[ac I];exact h.tbl,h.row0.frame λb hb=>ac ?_,?_,h.dis,h.tr,h.tr1,h.old,h.new,h.val}
 .rcases hb with rfl|hb
  .exact bO h.row0.lst G<|by intro z;cases z
  .exact h.row0.notr hb G<|λ_ z=>by cases z
 .have r1:=h.row1;cases e:st.nxt with
  |none=>rw[e]at r1;exact r1
  |some m=>
   rw[e]at r1;refine IJ.frame (H:=H) r1 λb hb=>ac ?_;rcases hb with rfl|hb
   .exact bO r1.lst G<|by intro z;cases z
   .exact r1.notr hb G<|λ_ z=>by cases z
def Iv.setCell(h:Iv t H a st d)(z:IN st){kv:Ll}(ic:IsCell d st k c kv)(nd:(kv'.map (·.1)).Nodup)(hm:∀p∈kv',p∈kv\/p.1=k)
  (hk:aI kv' k=aI kvs k) (ho:∀j,j≠k->aI kv' j=aI kv j/\aI kvs j=aI st.kv j):
  ∃d',Iv t (upd H c<|.dK<|aO kv') a {st with kv:=kvs} d'/\d'.n=d.n/\∀b,JQ a {st with kv:=kvs} d' b↔JQ a st d b:=by
 let{hc,hf,_}:=h.at ic;let{dx,a1}:=h.obj;let{s4,_}:=br z.pw;let{m0,m1,m2}:=oB (k:=k) s4;have na:a≠c:=bO a1 hc (by intro z;cases z);have nt:d.tb≠c:=bO h.tbl hc (by intro z;cases z);have nr:d.r0≠c:=bO h.row0.lst hc (by intro z;cases z);have a0:∀(d':Jv)(j:Int)(b:G')(x:Ll),IsCell d' {st with kv:=kvs} j b x->(∀y,IsCell d st j b y->(x=y/\b≠c)\/(x=kv'/\y=kv))->(∃y,IsCell d st j b y)->aI x j=aI kvs j:=λd' j b x hx f ⟨y,hy⟩=>by
  by_cases e:j=k
  .subst e;let{rfl,rfl}:=IsCell.uniq hy ic;rcases f y hy with⟨_,z⟩|⟨rfl,_⟩
   .exact Kh M z
   .exact hk
  .rw[(ho j e).2];rcases f y hy with⟨rfl,_⟩|⟨rfl,rfl⟩
   .exact h.val j b x hy
   .rw[(ho j e).1];exact h.val j b y hy
 rcases ic with⟨h0,e1,e2⟩|⟨m,em,h0,e1,e2⟩
 .have W:c∈d.A0:=Q1 e1;have Y:∀p∈kv',p.1%65536%st.size=((k%65536%st.size).toNat:Int):=λp hp=>by
   rcases hm p hp with q|q
   .exact h.row0.home _ _ e2 p q
   .rw[q,m2]
  refine⟨{d with C0:=d.C0.set (k%65536%st.size).toNat kv'},{{dx,by rwa[ac na]},by show upd H c _ d.tb=_;rw[ac nt];exact h.tbl,h.row0.set e1 nd Y,?_,h.dis,h.tr,h.tr1,λj x e lt=>?_,h.new,λj b x hx=>?_},M,λb=>Iff.rfl⟩
  .have r1:=h.row1;show match st.nxt with|none=>_|some m=>_
   cases e:st.nxt with
   |none=>rw[e]at r1;exact r1
   |some m=>
    rw[e]at r1;refine IJ.frame (H:=H) r1 λb hb=>ac ?_;rcases hb with rfl|hb
    .exact bO r1.lst hc<|by intro z;cases z
    .exact λy=>h.dis c W (y▸hb)
  .have e:(d.C0.set (k%65536%st.size).toNat kv')[j]?=some x:=e;have lt:(j:Int)<st.moved:=lt;rw[Qw]at e;by_cases q:(k%65536%st.size).toNat=j
   .exfalso;lia
   .rw[Kc q]at e;exact h.old j x e lt
  .refine a0 _ j b x hx (λy hy=>?_) ?_
   .rcases hx with⟨U,G,O⟩|⟨m',I,U,G,O⟩
    .have O:(d.C0.set (k%65536%st.size).toNat kv')[(j%65536%st.size).toNat]?=some x:=O;have G:d.A0[(j%65536%st.size).toNat]?=some b:=G;have U:st.moved<=j%65536%st.size:=U;rcases hy with⟨_,Z,y2⟩|⟨_,_,y0,_,_⟩
     .rw[Qw]at O;by_cases q:(k%65536%st.size).toNat=(j%65536%st.size).toNat
      .rw[Kd q]at O;split at O
       .cases O;rw[<-q,e2]at y2;cases y2;exact .inr ⟨M,M⟩
       .cases O
      .rw[Kc q,y2]at O;cases O;exact .inl {M,λw=>q<|h.row0.inj _ _ c e1 (by rwa[<-w])}
     .lia
    .have G:d.A1[(j%65536%m').toNat]?=some b:=G;have O:d.C1[(j%65536%m').toNat]?=some x:=O;have U:j%65536%st.size<st.moved:=U;have I:st.nxt=some m':=I;rcases hy with⟨y0,_,_⟩|⟨m2,e3,y0,Z,y2⟩
     .lia
     .rw[I]at e3;cases e3;rw[O]at y2;cases y2;exact .inl {M,λw=>h.dis c W<|w▸Q1 G}
   .let{b',y,hy}:=h.cell z j;have:b'=b:=by
     rcases hx with⟨U,G,O⟩|⟨m',I,U,G,O⟩<;>rcases hy with⟨y0,Z,y2⟩|⟨m3,e3,y0,Z,y2⟩
     .have G:d.A0[(j%65536%st.size).toNat]?=some b:=G;rw[Z]at G;exact Kf G
     .have U:st.moved<=j%65536%st.size:=U;lia
     .have U:j%65536%st.size<st.moved:=U;lia
     .have I:st.nxt=some m':=I;rw[I]at e3;cases e3;have G:d.A1[(j%65536%m').toNat]?=some b:=G;rw[Z]at G;exact Kf G
    subst this;exact⟨y,hy⟩
 .have r1:=h.row1;rw[em]at r1;have W:c∈d.A1:=Q1 e1;let{pm,_}:=z.nx m em;let{s5,_}:=br pm;let{n0,n1,n2}:=oB (k:=k) s5;have Y:∀p∈kv',p.1%65536%m=((k%65536%m).toNat:Int):=λp hp=>by
   rcases hm p hp with q|q
   .exact r1.home _ _ e2 p q
   .rw[q,n2]
  refine⟨{d with C1:=d.C1.set (k%65536%m).toNat kv'},{{dx,by rwa[ac na]},by show upd H c _ d.tb=_;rw[ac nt];exact h.tbl,h.row0.frame λb hb=>ac ?_,?_,h.dis,h.tr,h.tr1,h.old,λj x e p hp=>?_,λj b x hx=>?_},M,λb=>Iff.rfl⟩
  .rcases hb with rfl|hb
   .exact nr
   .exact λy=>h.dis b hb (y▸W)
  .show match st.nxt with|none=>_|some m=>_
   rw[em];exact r1.set e1 nd Y
  .have e:(d.C1.set (k%65536%m).toNat kv')[j]?=some x:=e;show p.1%65536%st.size<st.moved;rw[Qw]at e;by_cases q:(k%65536%m).toNat=j
   .rw[Kd q]at e;split at e
    .cases e;rcases hm p hp with q|q
     .exact h.new _ _ e2 p q
     .rwa[q]
    .cases e
   .rw[Kc q]at e;exact h.new j x e p hp
  .refine a0 _ j b x hx (λy hy=>?_) ?_
   .rcases hx with⟨U,G,O⟩|⟨m',I,U,G,O⟩
    .have G:d.A0[(j%65536%st.size).toNat]?=some b:=G;have O:d.C0[(j%65536%st.size).toNat]?=some x:=O;have U:st.moved<=j%65536%st.size:=U;rcases hy with⟨_,Z,y2⟩|⟨_,_,y0,_,_⟩
     .rw[O]at y2;cases y2;exact .inl {M,λw=>h.dis b (Q1 G)<|w▸W}
     .lia
    .have I:st.nxt=some m':=I;rw[em]at I;cases I;have O:(d.C1.set (k%65536%m).toNat kv')[(j%65536%m).toNat]?=some x:=O;have G:d.A1[(j%65536%m).toNat]?=some b:=G;have U:j%65536%st.size<st.moved:=U;rcases hy with⟨y0,_,_⟩|⟨m2,e3,y0,Z,y2⟩
     .lia
     .rw[em]at e3;cases e3;rw[Qw]at O;by_cases q:(k%65536%m).toNat=(j%65536%m).toNat
      .rw[Kd q]at O;split at O
       .cases O;rw[<-q,e2]at y2;cases y2;exact .inr ⟨M,M⟩
       .cases O
      .rw[Kc q,y2]at O;cases O;exact .inl {M,λw=>q<|r1.inj _ _ c e1 (by rwa[<-w])}
   .let{b',y,hy}:=h.cell z j;have:b'=b:=by
     rcases hx with⟨U,G,O⟩|⟨m',I,U,G,O⟩<;>rcases hy with⟨y0,Z,y2⟩|⟨m3,e3,y0,Z,y2⟩
     .have G:d.A0[(j%65536%st.size).toNat]?=some b:=G;rw[Z]at G;exact Kf G
     .have U:st.moved<=j%65536%st.size:=U;lia
     .have U:j%65536%st.size<st.moved:=U;lia
     .have I:st.nxt=some m':=I;rw[I]at e3;cases e3;have G:d.A1[(j%65536%m').toNat]?=some b:=G;rw[Z]at G;exact Kf G
    subst this;exact⟨y,hy⟩
end
def rC{kv:Ll}{p:Int×V}(h:p∈bg kv k v):p∈kv\/p.1=k:=by
 unfold bg at h;split at h
 .let{q,hq,e}:=Qj.mp h;by_cases z:q.1=k
  .rw[Kd z]at e;rw[<-e];exact .inr z
  .rw[Kc z]at e;rw[<-e];exact .inl hq
 .rcases Q4.mp h with h|h
  .exact .inl h
  .rw[Qa.mp h];exact .inr M
def Ek{kv:Ll}{p:Int×V}(h:p∈kv):(aI kv p.1).isSome=true:=mem_keys.mp (Qj.mpr ⟨p,h,M⟩)
def eI(m:Int)(C:List (List<|Int×V))(p:Int×V):List (List<|Int×V):=C.set (p.1%65536%m).toNat (bg (C.getD (p.1%65536%m).toNat []) p.1 p.2)
def B6{C:List (List<|Int×V)}{p:Int×V}:(eI m C p).length=C.length:=QH
theorem y9{m:Int}:∀{kv:Ll}{C:List (List<|Int×V)},(kv.foldl (eI m) C).length=C.length
 | [],_=>rfl
 |p::r,C=>by rw[List.foldl_cons,y9,B6]
def wU{C:List (List<|Int×V)}{p:Int×V}{y:Ll}(e:C[j]?=some y):(eI m C p)[j]?=some (if(p.1%65536%m).toNat=j then bg y p.1 p.2 else y):=by
 unfold eI;rw[Qw];by_cases z:(p.1%65536%m).toNat=j
 .have G:j<C.length:=(Q2.mp e).1;rw[Kd z,Kd z,Kd (by rwa[z]),Qm,z,e];rfl
 .rw[Kc z,Kc z,e]
set_option tactic.hygienic true in
theorem vJ{m:Int}:∀{kv:Ll}{C:List (List<|Int×V)}{j:Nat}{y:Ll},(kv.map (·.1)).Nodup->C[j]?=some y->∃x,(kv.foldl (eI m) C)[j]?=some x/\
  (∀p∈x,p∈y\/p.1∈kv.map (·.1))/\∀k,aI x k=if(k%65536%m).toNat=j then(aI kv k).or (aI y k)else aI y k
 | [],C,j,y,_,e=>{y,e,λp hp=> .inl hp,λk=>by rw[jn];simp}
 |p::r,C,j,y,nd,e=>by
  let{G,I}:=QP.mp (show(p.1::r.map (·.1)).Nodup from nd);let{x,h1,h2,O}:=vJ (m:=m) I (wU (m:=m) (p:=p) e);refine{x,h1,λq hq=>?_,λk=>?_}
  .rcases h2 q hq with z|z
   .split at z
    .rcases rC z with z|z
     .exact .inl z
     .exact .inr<|Qj.mpr ⟨p,Q6,z.symm⟩
    .exact .inl z
   .exact .inr<|Qc _ z
  .rw[O k];by_cases z:(k%65536%m).toNat=j
   .rw[Kd z,Kd z];by_cases w:p.1=k
    .subst w;have:aI r p.1=none:=by
      cases q:aI r p.1 with
      |none=>rfl
      |some v=>exact Kh (pV q) G
     rw[this,a7 M,Kd z,fj,Kd M];rfl
    .rw[aW w];congr 1;split
     .rw[fj,Kc (Ne.symm w)]
     .rfl
   .rw[Kc z,Kc z];split
    .rename_i w
     rw[fj,Kc (λy=>z<|by rwa[y])]
    .rfl
def IJ.mov{C:List (List<|Int×V)}{y:Ll}(h:IJ H r A C sz)(s4:4<=sz)(I:A[(k%65536%sz).toNat]?=some c)(G:C[(k%65536%sz).toNat]?=some y):
  IJ (upd H c<|.dK<|aO<|bg y k v) r A (eI sz C (k,v)) sz:=by
 have e:eI sz C (k,v)=C.set (k%65536%sz).toNat (bg y k v):=by
  unfold eI;rw[Qm];show C.set (k%65536%sz).toNat (bg (C[(k%65536%sz).toNat]?.getD []) k v)=_;rw[G];rfl
 rw[e];let{U,W,O}:=oB (k:=k) s4;refine h.set I (yj<|h.ndk _ _ G) λp hp=>?_;rcases rC hp with z|z
 .exact h.home _ _ G p z
 .rw[z,O]
section
variable{d:Jv}
def IE.moved_some(e:st.nxt=some m):st.moved=st.mv:=by unfold IE.moved;rw[e]
def IE.moved_none(e:st.nxt=none):st.moved=0:=by unfold IE.moved;rw[e]
def Iv.movVal(h:Iv t H a st d)(z:IN st)(G:st.nxt=some m){kv:Ll}(I:d.C0[st.mv.toNat]?=some kv)(hk:k%65536%st.size<=st.mv){x:Ll}
  (ex:(kv.foldl (eI m) d.C1)[(k%65536%m).toNat]?=some x):aI x k=aI st.kv k:=by
 let{pm,v0,v1,_}:=z.nx m G;let{s4,_}:=br z.pw;let{s5,_}:=br pm;have r1:=h.row1;rw[G]at r1;let{n0,Z,n2}:=oB (k:=k) s5;let{m0,m1,m2}:=oB (k:=k) s4;let{y,O}:=cz (l:=d.C1) n0 (by rwa[r1.lc]);let{c1,U}:=cz (l:=d.A1) n0 (by rwa[r1.la]);let{x',e',_,hv}:=vJ (m:=m) (h.row0.ndk _ _ I) O;rw[ex]at e';cases e';rw[hv k,Kd M];have hm:=IE.moved_some G;by_cases c:k%65536%st.size=st.mv
 .let{b0,W}:=cz (l:=d.A0) m0 (by rwa[h.row0.la]);have Y:IsCell d st k b0 kv:= .inl {(),W,by rw[c];exact I};have yn:aI y k=none:=by
   cases q:aI y k with
   |none=>rfl
   |some v=>
    let{p,hp,e}:=Qj.mp (pV q);have:=h.new _ _ O p hp;rw[e]at this;lia
  rw[h.val k b0 kv Y,yn];simp
 .have Y:IsCell d st k c1 y:= .inr {m,G,(),U,O};have kn:aI kv k=none:=by
   cases q:aI kv k with
   |none=>rfl
   |some v=>
    let{p,hp,e}:=Qj.mp (pV q);have:=h.row0.home _ _ I p hp;rw[e]at this;lia
  rw[kn,h.val k c1 y Y];rfl
def cO{l:List α}{x y:α}(e:(l.set i x)[j]?=some y):(i=j/\y=x)\/(i≠j/\l[j]?=some y):=by
 rw[Qw]at e;by_cases z:i=j
 .rw[Kd z]at e;split at e
  .cases e;exact .inl ⟨z,M⟩
  .cases e
 .rw[Kc z]at e;exact .inr ⟨z,e⟩
def Iv.one(h:Iv t H a st d)(z:IN st)(W:st.nxt=some m){kv:Ll}(ek:d.C0[st.mv.toNat]?=some kv){b':G'}(nl:st.mv+1≠st.size)
  (ha:H' a=some (.ins t.aP dx<|JR d.tb (st.mv+1) d.n)) (ht:H' d.tb=H d.tb) (h0:H' d.r0=some (.lst<|(d.A0.set st.mv.toNat b').map V.ref)) (hb:H' b'=some (.dK [])) (hF:¬JQ a st d b')
  (hA:∀(j:Nat) b,d.A0[j]?=some b->j≠st.mv.toNat->H' b=H b) (hr:IJ H' d.r1 d.A1 (kv.foldl (eI m) d.C1) m):
  Iv t H' a st.one {d with A0:=d.A0.set st.mv.toNat b',C0:=d.C0.set st.mv.toNat [],C1:=kv.foldl (eI m) d.C1}:=by
 let{pm,v0,v1,_}:=z.nx m W;have a0:st.one={st with mv:=st.mv+1}:=by unfold IE.one;rw[W];exact Kc nl
 have G:({st with mv:=st.mv+1}:IE).moved=st.mv+1:=IE.moved_some (st:={st with mv:=st.mv+1}) W;have hm:=IE.moved_some W;have a1:b'∉d.A0:=λq=>hF (.inr<|.inr<|.inr<|.inl q);have a2:b'∉d.A1:=λq=>hF (.inr<|.inr<|.inr<|.inr<|.inr q);rw[a0];have r1:=h.row1;rw[W]at r1;refine{{dx,by rwa[G]},by rw[ht];exact h.tbl,{h0,by rw[QH];exact h.row0.la,by rw[QH];exact h.row0.lc,λj b x Y e2=>?_,λj x e=>?_,λi j b Y e2=>?_,λj x e p hp=>?_},?_,λb a3 hb1=>?_,h.tr,h.tr1,λj x e lt=>?_,λj x e p hp=>?_,λk c x ic=>?_}
 .rcases cO Y with⟨q,rfl⟩|⟨q,Y⟩
  .rcases cO e2 with⟨_,rfl⟩|⟨q2,_⟩
   .exact hb
   .exact Kh q q2
  .rcases cO e2 with⟨q2,_⟩|⟨_,e2⟩
   .exact Kh q2 q
   .rw[hA j b Y (Ne.symm q)];exact h.row0.cell j b x Y e2
 .rcases cO e with⟨_,rfl⟩|⟨_,e⟩
  .exact Zl
  .exact h.row0.ndk j x e
 .have Y:(d.A0.set st.mv.toNat b')[i]?=some b:=Y;have e2:(d.A0.set st.mv.toNat b')[j]?=some b:=e2;rcases cO Y with⟨q,y1⟩|⟨q,O⟩<;>rcases cO e2 with⟨q2,y2⟩|⟨q2,I⟩
  .exact q.symm.trans q2
  .rw[y1]at I;exact Kh (Q1 I) a1
  .rw[y2]at O;exact Kh (Q1 O) a1
  .exact h.row0.inj i j b O I
 .rcases cO e with⟨_,rfl⟩|⟨_,e⟩
  .cases hp
  .exact h.row0.home j x e p hp
 .show match st.nxt with|none=>_|some m=>_
  rwa[W]
 .let{j,hj,e}:=QB (show b∈d.A0.set st.mv.toNat b' from a3);rcases cO (Q2.mpr ⟨hj,e⟩)with⟨_,rfl⟩|⟨_,e⟩
  .exact a2 hb1
  .exact h.dis b (Q1 e) hb1
 .rw[G]at lt;rcases cO e with⟨_,rfl⟩|⟨q,e⟩
  .rfl
  .exact h.old j x e ()
 .rw[G];show p.1%65536%st.size<st.mv+1;obtain⟨y,ey⟩:∃y,d.C1[j]?=some y:=by
   have hj:j<(kv.foldl (eI m) d.C1).length:=(Q2.mp e).1;rw[y9]at hj;exact{_,Q3 hj}
  let{x',e',Z,_}:=vJ (m:=m) (h.row0.ndk _ _ ek) ey;have e:(kv.foldl (eI m) d.C1)[j]?=some x:=e;rw[e]at e';cases e';rcases Z p hp with q|q
  .have:=h.new j y ey p q;lia
  .let{p',Z,e3}:=Qj.mp q;have:=h.row0.home _ _ ek p' Z;rw[e3]at this;lia
 .show aI x k=aI st.kv k;rcases ic with⟨g0,O,I⟩|⟨m',U,g0,O,I⟩
  .rw[G]at g0;have g0:st.mv+1<=k%65536%st.size:=g0;have O:(d.A0.set st.mv.toNat b')[(k%65536%st.size).toNat]?=some c:=O;have I:(d.C0.set st.mv.toNat [])[(k%65536%st.size).toNat]?=some x:=I;rcases cO O with⟨q,_⟩|⟨_,O⟩
   .lia
   .rcases cO I with⟨q,_⟩|⟨_,I⟩
    .lia
    .exact h.val k c x<|.inl {(),O,I}
  .rw[G]at g0;have U:st.nxt=some m':=U;rw[W]at U;cases U;have g0:k%65536%st.size<st.mv+1:=g0;exact h.movVal z W ek () I
def Iv.last(h:Iv t H a st d)(z:IN st)(U:st.nxt=some m){kv:Ll}(W:d.C0[st.mv.toNat]?=some kv){tb':G'}(l:st.mv+1=st.size)
  (ha:H' a=some (.ins t.aP dx<|JR tb' 0 d.n)) (Y:H' tb'=some (.lst [.ref d.r1])) (Z:tb'≠d.r1) (hr:IJ H' d.r1 d.A1 (kv.foldl (eI m) d.C1) m):
  Iv t H' a st.one {tb',d.r1,d.r1,d.A1,[],kv.foldl (eI m) d.C1,[],d.n}:=by
 have G:st.one={st with size:=m,nxt:=none,mv:=0}:=by unfold IE.one;rw[U];exact Kd l
 let{s4,_}:=br z.pw;rw[G];refine{⟨dx,ha⟩,Y,hr,⟨M,M⟩,(λb _ q=>by cases q),Z,(λq=>by cases q),λj x e lt=>?_,(λj x e=>by simp at e),λk c x ic=>?_}
 .have lt:(j:Int)<0:=lt;lia
 .rcases ic with⟨g0,f1,I⟩|⟨m',O,_⟩
  .have I:(kv.foldl (eI m) d.C1)[(k%65536%m).toNat]?=some x:=I;let{m0,m1,m2}:=oB (k:=k) s4;exact h.movVal z U W () I
  .cases O
def Iv.begin(h:Iv t H a st d)(Z:st.nxt=none)(ha:H' a=H a)(ht:H' d.tb=some (.lst [.ref d.r0,.ref r]))(h0:∀b,b=d.r0\/b∈d.A0->H' b=H b)
  (hr:IJ H' r A (List.replicate m.toNat []) m) (O:¬JQ a st d r) (nA:∀b∈A,¬JQ a st d b):Iv t H' a {st with nxt:=some m,mv:=0} {d with r1:=r,A1:=A,C1:=List.replicate m.toNat []}:=by
 let{dx,U}:=h.obj;have W:=IE.moved_none Z;refine{{dx,by rw[ha];rw[W]at U;exact U},ht,h.row0.frame h0,hr,λb q q2=>nA b q2<|.inr<|.inr<|.inr<|.inl q,h.tr,λ_=>{λq=>O<|.inr<|.inl q.symm,λq=>O<|.inr (.inr<|.inl q.symm)},λj x e lt=>?_,λj x e p hp=>?_,λk c x ic=>?_}
 .have lt:(j:Int)<0:=lt;lia
 .have:=Zs (Q1 e);subst this;cases hp
 .rcases ic with⟨G,Y,I⟩|⟨m',a0,G,Y,I⟩
  .refine h.val k c x<|.inl {?_,Y,I};rwa[W]
  .have G:k%65536%st.size<0:=G;have I:(List.replicate m.toNat ([]:Ll))[(k%65536%m').toNat]?=some x:=I;have:0<=k%65536%st.size:=by
    have z:(0:Int)<=st.size:=by rw[<-h.row0.la];lia
    rcases Int.lt_or_eq_of_le z with q|q
    .exact Qf _ ()
    .rw[<-q,Int.emod_zero];exact Qf _ (_)
   lia
def Iv.fresh(ha:H a=some (.ins t.aP dx<|JR tb 0 0))(I:H tb=some (.lst [.ref r]))(O:IJ H r A (List.replicate 4 []) 4)(n:tb≠r):Iv t H a IE.new {tb,r,r,A,[],List.replicate 4 [],[],0}:=by
 refine{⟨dx,ha⟩,I,O,⟨M,M⟩,(λb _ q=>by cases q),n,(λq=>by cases q),λj x e lt=>?_,(λj x e=>by simp at e),λk c x U=>?_}
 .have lt:(j:Int)<0:=lt;lia
 .rcases U with⟨W,Y,z⟩|⟨m',G,_⟩
  .have z:(List.replicate 4 ([]:Ll))[(k%65536%4).toNat]?=some x:=z;have:=Zs (Q1 z);subst this;rfl
  .cases G
def Iv.short(h:Iv t H a st d)(z:IN st){kv:Ll}(W:IsCell d st k c kv):kv.length<=st.kv.length:=by
 let{_,_,Z}:=h.at W;have sub:∀x∈kv.map (·.1),x∈st.kv.map (·.1):=λx hx=>by
  let{p,hp,e}:=Qj.mp hx;subst e;refine mem_keys.mpr ?_;have hs:=Ek hp;have:∃c',IsCell d st p.1 c' kv:=by
   rcases W with⟨Y,I,G⟩|⟨m,O,Y,I,G⟩
   .let{s4,_}:=br z.pw;let{m0,m1,m2}:=oB (k:=k) s4;have e:=h.row0.home _ _ G p hp;rw[m2]at e;exact{c,.inl {by rwa[e],by rw[e];exact I,by rwa[e]}}
   .let{pm,_}:=z.nx m O;let{s5,_}:=br pm;let{n0,n1,n2}:=oB (k:=k) s5;have r1:=h.row1;rw[O]at r1;have e:=r1.home _ _ G p hp;rw[n2]at e;exact{c,.inr {m,O,h.new _ _ G p hp,by rw[e];exact I,by rwa[e]}}
  let{c',U}:=this;rwa[<-h.val p.1 c' kv U]
 have:=eh Z sub;rw[Q0,Q0]at this;exact this
end
theorem wT{m:Int}:∀{kv:Ll}{C:List (List<|Int×V)}{j:Nat}{x y:Ll},C[j]?=some y->(kv.foldl (eI m) C)[j]?=some x->x.length<=y.length+kv.length
 | [],C,j,x,y,e,f=>by
  have f:C[j]?=some x:=f;rw[e]at f;cases f;exact Q5 _
 |p::r,C,j,x,y,e,f=>by
  have h:=wT (m:=m) (wU (m:=m) (p:=p) e) f;have l:=cf y p.1 p.2;rw[Qr];split at h<;>lia
section
variable{d:Jv}
def Iv.short0(h:Iv t H a st d)(z:IN st){kv:Ll}(e:d.C0[j]?=some kv):kv.length<=st.kv.length:=by
 cases kv with
 |nil=>exact Qh _
 |cons p r=>
  have hp:=h.row0.home j _ e p Q6;have I:¬(j:Int)<st.moved:=λq=>by have:=h.old j _ e q;cases this
  have ej:(p.1%65536%st.size).toNat=j:=();have G:j<d.A0.length:=by
   have:=h.row0.la;have:=h.row0.lc;have:=(Q2.mp e).1;lia
  exact h.short z (k:=p.1) (c:=d.A0[j])<|.inl {(),by rw[ej];exact Q3 G,by rwa[ej]}
def Iv.short1(h:Iv t H a st d)(z:IN st)(G:st.nxt=some m){kv:Ll}(e:d.C1[j]?=some kv):kv.length<=st.kv.length:=by
 have r1:=h.row1;rw[G]at r1;cases kv with
 |nil=>exact Qh _
 |cons p r=>
  have hp:=r1.home j _ e p Q6;have I:=h.new j _ e p Q6;have ej:(p.1%65536%m).toNat=j:=();have O:j<d.A1.length:=by
   have:=r1.la;have:=r1.lc;have:=(Q2.mp e).1;lia
  exact h.short z (k:=p.1) (c:=d.A1[j])<|.inr {m,G,I,by rw[ej];exact Q3 O,by rwa[ej]}
end
def IN.new:IN IE.new:={(_),λm e=>by cases e}
def IN.kv(z:IN st):IN {st with kv:=kvs}:=⟨z.pw,z.nx⟩
set_option tactic.hygienic true in
def IN.one(z:IN st):IN st.one:=by
 unfold IE.one;cases e:st.nxt with
 |none=>exact z
 |some m=>
  let{pm,I,O,G}:=z.nx m e;show IN (if _ then _ else _);split
  .exact{pm,λm' q=>by cases q}
  .rename_i c
   refine{z.pw,λm' q=>?_};have q:some m=some m':=q;cases q;exact{pm,by show 0<=st.mv+1;lia,by show st.mv+1<st.size;lia,G}
def HE{x:Int}(h:x∈([4,8,16,32,64,128,256]:List Int))(c:x<256):2*x∈([4,8,16,32,64,128,256]:Lh):=by
 rcases jz h with rfl|rfl|rfl|rfl|rfl|rfl|rfl<;>first|decide|exact Kh c (_)
def Fc{x:Int}(h:x∈([4,8,16,32,64,128,256]:List Int))(c:4<x):x/2∈([4,8,16,32,64,128,256]:Lh)/\2*(x/2)=x:=by
 rcases jz h with rfl|rfl|rfl|rfl|rfl|rfl|rfl<;>first|decide|exact Kh c (_)
def Fb{x:Int}(h:x∈([4,8,16,32,64,128,256]:List Int)):0<x:=by
 rcases jz h with rfl|rfl|rfl|rfl|rfl|rfl|rfl<;>decide
set_option tactic.hygienic true in
def IN.three(z:IN st):IN st.three:=by
 unfold IE.three;cases e:st.nxt with
 |some m=>exact z
 |none=>
  show IN (if _ then _ else _);split
  .rename_i c
   refine{z.pw,λm' q=>?_};cases q;exact{HE z.pw c.2,ZD _,Fb z.pw,.inl M}
  .split
   .rename_i c
    refine{z.pw,λm' q=>?_};cases q;exact{(Fc z.pw c.2).1,ZD _,Fb z.pw,.inr (Fc z.pw c.2).2}
   .exact z
def JB(_K:Jc)(t:IT)(H:Hp)(a:G')(F:Li)(st:IE):Prop:=
 ∃d,Iv t H a st d/\(∀b,F b↔JQ a st d b)/\d.n=(st.kv.length:Int)/\(st.kv.map (·.1)).Nodup/\IN st
def JB.ins(h:JB K t H a F st):∃dx fs,H a=some (.ins t.aP dx fs)/\∀m,NoM m->fs.lookup m=none:=by
 let{d,hb,_}:=h;let{dx,z}:=hb.obj;exact{dx,_,z,λm G=>E9 G}
def JB.dom(h:JB K t H a F st)(hb:F b):∃o,H b=some o:=by
 let{d,h1,h2,_}:=h;exact h1.dom<|(h2 b).mp hb
def JB.frame(h:JB K t H a F st)(f:∀b,F b->H' b=H b):JB K t H' a F st:=by
 let{d,h1,h2,z}:=h;exact{d,h1.frame λb hb=>f b<|(h2 b).mpr hb,h2,z}
def JB.same(h:JB K t H a F st)(s:IA H H'):JB K t H' a F st:=h.frame λb hb=>by
 let{o,e}:=h.dom hb;rw[e];exact s b o e
def JB.out(h:JB K t H a F st)(e:H p=none):¬F p:=λz=>by
 let{o,q}:=h.dom z;rw[q]at e;cases e
def JB.upd(h:JB K t H a F st)(e:¬F p):JB K t (L2.upd H p o) a F st:=h.frame λb hb=>ac λz=>e (z▸hb)
def JB.new(h:JB K t H a F st)(e:H p=none):JB K t (L2.upd H p o) a F st:=h.upd (h.out e)
def qj(K:Jc)(t:IT):Sp:=λvs H Q _=>∃(a dx:G'),vs=[.ref a]/\H a=some (.ins t.aP dx [])/\H dx=some (.own a)/\∀H' F,JB K t H' a F IE.new->Fr (λb=>b=a\/b=dx) F H H'->Q .non H'
def sI(K:Jc)(t:IT):Sp:=λvs H Q _=>∃(a:G')(k i:Int)(F:Li)(st:IE),vs=[.ref a,.int k,.int i]/\JB K t H a F st/\0<=k/\st.kv.length<4096/\
 ∀H' F',JB K t H' a F' (st.put k<|.int i)->Fr F F' H H'->Q .non H'
def qk(K:Jc)(t:IT):Sp:=λvs H Q E=>∃(a:G')(k:Int)(F:Li)(st:IE),vs=[.ref a,.int k]/\JB K t H a F st/\0<=k/\
 ((aI st.kv k).isSome=true->st.kv.length<4096/\∀H' F',JB K t H' a F' (st.drop k)->Fr F F' H H'->Q .non H')/\(aI st.kv k=none->False)
def sK(K:Jc)(t:IT):Sp:=λvs H Q E=>∃(a:G')(k:Int)(F:Li)(st:IE),vs=[.ref a,.int k]/\JB K t H a F st/\0<=k/\
 (∀v,aI st.kv k=some v->∀H' F',JB K t H' a F' st->Fr F F' H H'->Q v H')/\(aI st.kv k=none->False)
def sJ(K:Jc)(t:IT):Sp:=λvs H Q _=>∃(a:G')(k:Int)(F:Li)(st:IE),vs=[.ref a,.int k]/\JB K t H a F st/\0<=k/\
 ∀H' F',JB K t H' a F' st->Fr F F' H H'->Q (.bl (aI st.kv k).isSome) H'
def qi(K:Jc)(t:IT):Sp:=λvs H Q _=>∃(a:G')(F:Li)(st:IE),vs=[.ref a]/\JB K t H a F st/\
 ∀H' F' l,JB K t H' a F' st->Fr F F' H H'->H l=none->¬F' l->H' l=some (.lst<|st.rows.map V.int)->Q (.ref l) H'
def bQ(l:Lh):Prop:=l.Pairwise (· < ·)
structure IZ(ls:Mc):Prop where
 ne:∀l∈ls,l≠[]
 le:∀l∈ls,l.length<=8
 nb:∀(i:Nat)(x y:Lh),ls[i]?=some x->ls[i+1]?=some y->5<=x.length+y.length
 up:bQ ls.flatten
def IZ.nil:IZ []:={(λ_ h=>by cases h),(λ_ h=>by cases h),(λi x y e=>by simp at e),Kx}
def GY(e:ls[i]?=some x):ls=ls.take i++x::ls.drop (i+1):=by
 let{h,e}:=Q2.mp e;rw[<-e,<-Z7 h,QJ]
def e6(e:ls[i]?=some x):ls.flatten=(ls.take i).flatten++(x++(ls.drop<|i+1).flatten):=by
 conv=>lhs;rw[GY e]
 rw[Zh,Zg]
def Ji{a b c:Lh}:bQ (a++(b++c))↔bQ a/\bQ b/\bQ c/\(∀x∈a,∀y∈b,x<y)/\(∀x∈a,∀y∈c,x<y)/\∀x∈b,∀y∈c,x<y:=by
 unfold bQ;rw[Qk,Qk];constructor
 .rintro ⟨h1,⟨h2,I,O⟩,G⟩;exact{h1,h2,I,λx hx y hy=>G x hx y<|ZY _ hy,λx hx y hy=>G x hx y<|Qv _ hy,O}
 .rintro ⟨h1,h2,I,O,G,U⟩;refine{h1,⟨h2,I,U⟩,λx hx y hy=>?_};rcases Q4.mp hy with z|z
  .exact O x hx y z
  .exact G x hx y z
structure Iy(ls:Mc)(k:Int)(i:Nat):Prop where
 le:i<=ls.length
 lo:∀(j:Nat)(x:Lh),j<i->ls[j]?=some x->∀y∈x,y<k
 hi:∀x,ls[i]?=some x->∃y∈x,k<=y
def wv{y:Int}(h:y∈(ls.take i).flatten):∃(j:Nat)(x:Lh),j<i/\ls[j]?=some x/\y∈x:=by
 let{x,hx,hy}:=XV.mp h;let{j,z,e}:=QB hx;rw[Qd]at z;rw[ZS]at e;exact{j,x,(),Q2.mpr {(),e},hy}
def Iy.ahead(h:Iy ls k i):∀y∈(ls.take i).flatten,y<k:=λy hy=>by
 let{j,x,z,e,hx}:=wv hy;exact h.lo j x z e y hx
def Iy.behind(o:IZ ls)(h:Iy ls k i):∀y∈(ls.drop<|i+1).flatten,k<y:=λy hy=>by
 cases e:ls[i]? with
 |none=>
  have:ls.length<=i:=Zp.mp e;rw[Zi ()]at hy;cases hy
 |some x=>
  let{z,hz,le}:=h.hi x e;have up:=o.up;rw[e6 e]at up;have:=(Ji.mp up).2.2.2.2.2 z hz y hy;lia
def Iy.mem(o:IZ ls)(h:Iy ls k i):k∈ls.flatten↔∃x,ls[i]?=some x/\k∈x:=by
 constructor
 .intro hk;cases e:ls[i]? with
  |none=>
   have l:ls.length<=i:=Zp.mp e;have:ls.take i=ls:=QC l;have:=h.ahead k (by rwa[this]);lia
  |some x=>
   rw[e6 e]at hk;rcases Q4.mp hk with z|z
   .have:=h.ahead k z;lia
   .rcases Q4.mp z with z|z
    .exact⟨x,M,z⟩
    .have:=h.behind o k z;lia
 .rintro ⟨x,e,hk⟩;exact XV.mpr {x,Q1 e,hk}
theorem xp:∀{l:Lh}{k:Int},bQ l->k∉l->(∀x∈l.take (l.filter<|λz=>decide (z<k)).length,x<k)/\∀x∈l.drop (l.filter<|λz=>decide (z<k)).length,k<x
 | [],k,_,_=>{λx h=>by simp at h,λx h=>by simp at h}
 |a::r,k,up,nk=>by
  let{h1,h2}:=Za.mp up;have G:k∉r:=λz=>nk (Qc _ z);have U:a≠k:=λz=>nk (by rw[z];exact Q6);by_cases c:a<k
  .let{I,O}:=xp h2 G;rw[ZW,Kd (by simpa using c),Qr,XA,List.drop_succ_cons];refine{λx hx=>?_,O};rcases Q7.mp hx with rfl|hx
   .exact c
   .exact I x hx
  .have:(a::r).filter (λz=>decide (z<k))=[]:=by
    rw[ZA];intro x hx;rcases Q7.mp hx with rfl|hx
    .simpa using c
    .have:=h1 x hx;simp;lia
   rw[this];refine{λx hx=>by simp at hx,λx hx=>?_};have hx:x∈a::r:=by simpa using hx
   rcases Q7.mp hx with rfl|hx
   .lia
   .have:=h1 x hx;lia
noncomputable def eB(l:Lh)(k:Int):List Int:=l.take (l.filter<|λz=>decide (z<k)).length++k::l.drop (l.filter<|λz=>decide (z<k)).length
def Cu:(eB l k).length=l.length+1:=by
 have h:=Qn (λz=>decide (z<k)) l;unfold eB;rw[Q8,Qr,Qd,QL];lia
def Jj{x:Int}:x∈eB l k↔x=k\/x∈l:=by
 unfold eB;rw[Q4,Q7];have:x∈l↔x∈l.take (l.filter<|λz=>decide (z<k)).length\/x∈l.drop (l.filter<|λz=>decide (z<k)).length:=by
  rw[<-Q4,QJ]
 rw[this];constructor
 .rintro (h|h|h)
  .exact .inr<|.inl h
  .exact .inl h
  .exact .inr<|.inr h
 .rintro (h|h|h)
  .exact .inr<|.inl h
  .exact .inl h
  .exact .inr<|.inr h
def AB(up:bQ l)(G:k∉l):bQ (eB l k):=by
 let{h1,h2}:=xp up G;have up':bQ (l.take (l.filter<|λz=>decide (z<k)).length++l.drop (l.filter<|λz=>decide (z<k)).length):=by rwa[QJ]
 let{I,O,U}:=Qk.mp up';unfold eB;refine Qk.mpr {I,Za.mpr ⟨h2,O⟩,λx hx y hy=>?_};rcases Q7.mp hy with rfl|hy
 .exact h1 x hx
 .exact U x hx y hy
structure LG(ls:Mc)(k:Int)(i:Nat)(x:Lh):Prop where
 at_:ls[i]?=some x
 lo:∀y∈(ls.take i).flatten,y<k
 hi:∀y∈(ls.drop<|i+1).flatten,k<y
def Iy.add(o:IZ ls)(h:Iy ls k i)(G:ls≠[]):∃x,LG ls k (min i<|ls.length-1) x:=by
 have hl:0<ls.length:=Z5.mpr G;by_cases c:i<ls.length
 .have:min i (ls.length-1)=i:=();rw[this];exact{ls[i],Q3 c,h.ahead,h.behind o}
 .have le:=h.le;have:min i (ls.length-1)=ls.length-1:=();rw[this];have z:ls.length-1<ls.length:=();refine{ls[ls.length-1],Q3 z,λy hy=>?_,λy hy=>?_}
  .let{j,x,I,e,hx}:=wv hy;exact h.lo j x () e y hx
  .rw[Zi ()]at hy;cases hy
def vi(e:ls[i]?=some x):ls.set i y=ls.take i++y::ls.drop (i+1):=by
 have hi:=(Q2.mp e).1;rw[List.set_eq_take_append_cons_drop,Kd hi]
def mM(e:ls[i]?=some x):(ls.set i y).flatten=(ls.take i).flatten++(y++(ls.drop<|i+1).flatten):=by
 rw[vi e,Zh,Zg]
def LG.set(o:IZ ls)(h:LG ls k i x)(G:k∉ls.flatten):bQ (ls.set i<|eB x k).flatten/\∀z,z∈(ls.set i<|eB x k).flatten↔z=k\/z∈ls.flatten:=by
 have up:=o.up;rw[e6 h.at_]at up G;let{I,O,U,W,Y,Z}:=Ji.mp up;have nx:k∉x:=λz=>G (Qv _<|ZY _ z);rw[mM h.at_,e6 h.at_];refine{Ji.mpr {I,AB O nx,U,λa ha b hb=>?_,Y,λa ha b hb=>?_},λz=>?_}
 .rcases Jj.mp hb with rfl|hb
  .exact h.lo a ha
  .exact W a ha b hb
 .rcases Jj.mp ha with rfl|ha
  .exact h.hi b hb
  .exact Z a ha b hb
 .rw[Q4,Q4,Q4,Q4,Jj];constructor
  .rintro (h|(h|h)|h)
   .exact .inr<|.inl h
   .exact .inl h
   .exact .inr<|.inr (.inl h)
   .exact .inr<|.inr (.inr h)
  .rintro (h|h|h|h)
   .exact .inr<|.inl (.inl h)
   .exact .inl h
   .exact .inr<|.inl (.inr h)
   .exact .inr<|.inr h
def m8{z:Lh}(e:ls[i]?=some x)(f:(ls.set i y)[j]?=some z):(i=j/\z=y)\/(i≠j/\ls[j]?=some z):=by
 rw[Qw]at f;by_cases c:i=j
 .rw[Kd c]at f;split at f
  .cases f;exact .inl ⟨c,M⟩
  .cases f
 .rw[Kc c]at f;exact .inr ⟨c,f⟩
def pW{z:Lh}(e:ls[i]?=some x)(h:z∈ls.set i y):z=y\/z∈ls:=by
 let{j,G,I}:=QB h;rcases m8 e (Q2.mpr ⟨G,I⟩)with⟨_,q⟩|⟨_,q⟩
 .exact .inl q
 .exact .inr<|Q1 q
def IZ.grown(o:IZ ls)(e:ls[i]?=some x)(l1:x.length<=y.length)(G:y.length<=8)(up:bQ (ls.set i y).flatten):IZ (ls.set i y):=by
 have hx:=o.ne x (Q1 e);have px:0<x.length:=Z5.mpr hx;refine{λl hl=>?_,λl hl=>?_,λj a b f g=>?_,up}
 .rcases pW e hl with rfl|hl
  .exact Zq ()
  .exact o.ne l hl
 .rcases pW e hl with rfl|hl
  .exact G
  .exact o.le l hl
 .rcases m8 e f with⟨c,h1⟩|⟨c,z⟩<;>rcases m8 e g with⟨c',h2⟩|⟨c',g1⟩
  .lia
  .subst c;have:=o.nb i x b e g1;rw[h1];lia
  .rw[c']at e;have:=o.nb j a x z e;rw[h2];lia
  .exact o.nb j a b z g1
set_option tactic.hygienic true in
def IZ.parted{a b:Lh}(o:IZ ls)(e:ls[i]?=some x)(I:a.length=4)(O:b.length=5)(up:bQ (ls.set i<|a++b).flatten):
  IZ ((ls.set i a).take (i+1)++b::(ls.set i a).drop (i+1))/\((ls.set i a).take (i+1)++b::(ls.set i a).drop (i+1)).flatten=(ls.set i<|a++b).flatten:=by
 have hi:=(Q2.mp e).1;have lt:(ls.take i).length=i:=by rw[Qd];lia
 have G:(ls.set i a).take (i+1)++b::(ls.set i a).drop (i+1)=ls.take i++a::b::ls.drop (i+1):=by
  rw[vi (y:=a) e];have h1:(ls.take i++a::ls.drop (i+1)).take (i+1)=ls.take i++ [a]:=by
   rw[List.take_append,lt,QC ()];have:i+1-i=1:=();rw[this];rfl
  have h2:(ls.take i++a::ls.drop (i+1)).drop (i+1)=ls.drop (i+1):=by
   rw[List.drop_append,lt,Zi ()];have:i+1-i=1:=();rw[this];rfl
  rw[h1,h2,Qp];rfl
 have e2:(ls.take i++a::b::ls.drop (i+1)).flatten=(ls.set i<|a++b).flatten:=by
  rw[mM e,Zh,Zg,Zg,Qp]
 rw[G];refine{{λl hl=>?_,λl hl=>?_,λj p q f g=>?_,by rwa[e2]},e2}
 .rcases Q4.mp hl with h|h
  .exact o.ne l<|Zd h
  .rcases Q7.mp h with rfl|h
   .exact Zq ()
   .rcases Q7.mp h with rfl|h
    .exact Zq ()
    .exact o.ne l<|X1 h
 .rcases Q4.mp hl with h|h
  .exact o.le l<|Zd h
  .rcases Q7.mp h with rfl|h
   .lia
   .rcases Q7.mp h with rfl|h
    .lia
    .exact o.le l<|X1 h
 .have look:∀(j:Nat)(p:Lh),(ls.take i++a::b::ls.drop (i+1))[j]?=some p->(j<i/\ls[j]?=some p)\/(j=i/\p=a)\/(j=i+1/\p=b)\/(i+2<=j/\ls[j-1]?=some p):=λj p f=>by
   rw[Xu,lt]at f;split at f
   .rename_i c
    rw[List.getElem?_take,Kd c]at f;exact .inl ⟨c,f⟩
   .rename_i c
    rcases(show j=i\/j=i+1\/i+2<=j by lia)with rfl|rfl|h
    .have:j-j=0:=();rw[this]at f;cases f;exact .inr<|.inl ⟨M,M⟩
    .have:i+1-i=1:=();rw[this]at f;cases f;exact .inr<|.inr (.inl ⟨M,M⟩)
    .obtain⟨n,rfl⟩:∃n,j=i+2+n:={j-(i+2),()};have:i+2+n-i=n+1+1:=();rw[this,Xe,Xe,X6]at f;refine .inr<|.inr (.inr {h,?_});have:i+2+n-1=i+1+n:=();rw[this];exact f
  have pos:∀(j:Nat)(p:Lh),ls[j]?=some p->1<=p.length:=λj p f=>Z5.mpr (o.ne p<|Q1 f);rcases look j p f with⟨c,z⟩|⟨c,h1⟩|⟨c,h1⟩|⟨c,z⟩<;>rcases look (j+1) q g with⟨c',g1⟩|⟨c',h2⟩|⟨c',h2⟩|⟨c',g1⟩<;>(try rw[h1])<;>(try rw[h2])<;>(try lia)
  .exact o.nb j p q z g1
  .have:=pos j p z;lia
  .have:j+1-1=j-1+1:=();rw[this]at g1;exact o.nb (j-1) p q z g1
def lvF(L:G'):List (Str×V):=[(kj,.ref L)]
def bY:(lvF L).lookup (kj:Str)=some (.ref L):=by
 have hb:((kj:Str)==(kj:Str))=true:=Kp.mpr M;unfold lvF;simp only[List.lookup,hb]
def Fo{m:Str}(h:m≠(kj:Str)):(lvF L).lookup m=none:=by
 have hb:(m==(kj:Str))=false:=Kn.mpr h;unfold lvF;simp only[List.lookup,hb]
structure JN(t:IT)(H:Hp)(a L:G')(A:Lu)(ls:Mc):Prop where
 obj:∃dx,H a=some (.ins t.a9 dx<|lvF L)
 lst:H L=some (.lst<|A.map V.ref)
 len:A.length=ls.length
 leaf:∀(j:Nat)(b:G')(l:Lh),A[j]?=some b->ls[j]?=some l->H b=some (.lst<|l.map V.int)
 inj:∀(i j:Nat)(b:G'),A[i]?=some b->A[j]?=some b->i=j
 nL:L∉A
def JZ(a L:G')(A:Lu):Addr->Prop:=λb=>b=a\/b=L\/b∈A
def JN.at(h:JN t H a L A ls)(e:ls[i]?=some x):∃c,A[i]?=some c/\H c=some (.lst<|x.map V.int):=by
 have hi:i<A.length:=by rw[h.len];exact(Q2.mp e).1
 exact{A[i],Q3 hi,h.leaf i _ x (Q3 hi) e}
def JN.has(h:JN t H a L A ls)(hb:b∈A):∃(j:Nat)(l:Lh),A[j]?=some b/\ls[j]?=some l/\H b=some (.lst<|l.map V.int):=by
 let{j,z,e}:=QB hb;have hc:j<ls.length:=by rwa[<-h.len]
 have G:A[j]?=some b:=by rw[Q3 z,e]
 exact{j,ls[j],G,Q3 hc,h.leaf j b _ G<|Q3 hc}
def JN.frame(h:JN t H a L A ls)(f:∀b,JZ a L A b->H' b=H b):JN t H' a L A ls:=by
 let{dx,G}:=h.obj;exact{{dx,by rwa[f a (.inl M)]},by rw[f L (.inr<|.inl M)];exact h.lst,h.len,λj b l z e2=>by rw[f b (.inr<|.inr<|Q1 z)];exact h.leaf j b l z e2,h.inj,h.nL}
def JN.dom(h:JN t H a L A ls)(hb:JZ a L A b):∃o,H b=some o:=by
 let{dx,z}:=h.obj;rcases hb with rfl|rfl|hb
 .exact{_,z}
 .exact{_,h.lst}
 .let{_,_,_,_,q}:=h.has hb;exact{_,q}
def JN.same(h:JN t H a L A ls)(s:IA H H'):JN t H' a L A ls:=h.frame λb hb=>by
 let{o,e}:=h.dom hb;rw[e,s b o e]
def JN.out(h:JN t H a L A ls)(n:H p=none):¬JZ a L A p:=λz=>by
 let{o,e}:=h.dom z;rw[n]at e;cases e
def JN.write(h:JN t H a L A ls)(G:A[i]?=some c)(ex:ls[i]?=some x):JN t (upd H c<|.lst<|y.map V.int) a L A (ls.set i y):=by
 let{dx,O}:=h.obj;have hc:=h.leaf i c x G ex;have U:=Q1 G;refine{{dx,by rwa[ac (bO O hc<|by intro z;cases z)]},by rw[ac (λz=>h.nL<|by rwa[z])];exact h.lst,by rw[QH];exact h.len,λj b l I e2=>?_,h.inj,h.nL};rw[Qw]at e2;by_cases z:i=j
 .subst z;rw[G]at I;cases I;rw[Kd M]at e2;split at e2
  .cases e2;exact ag
  .cases e2
 .rw[Kc z]at e2;rw[ac (λy=>z<|h.inj i j c G<|by rw[<-y];exact I)];exact h.leaf j b l I e2
def JN.swap(h:JN t H a L A ls){n:G'}(Z:A[i]?=some c)(ex:ls[i]?=some x)(W:H n=some (.lst<|y.map V.int))(I:¬JZ a L A n):JN t (upd H L<|.lst<|(A.set i n).map V.ref) a L (A.set i n) (ls.set i y):=by
 let{dx,O}:=h.obj;have nA:n∉A:=λz=>I (.inr<|.inr z);have U:n≠L:=λz=>I (.inr<|.inl z);refine{{dx,by rwa[ac (bO O h.lst<|by intro z;cases z)]},ag,by rw[QH,QH];exact h.len,λj b l G e2=>?_,λj k b G e2=>?_,λz=>?_}
 .rw[Qw]at G e2;by_cases z:i=j
  .rw[Kd z]at G e2;split at G
   .cases G;split at e2
    .cases e2;rwa[ac U]
    .cases e2
   .cases G
  .rw[Kc z]at G e2;rw[ac (λy=>h.nL<|by rw[<-y];exact Q1 G)];exact h.leaf j b l G e2
 .rw[Qw]at G e2;by_cases z:i=j
  .rw[Kd z]at G;split at G
   .cases G;by_cases w:i=k
    .exact z.symm.trans w
    .rw[Kc w]at e2;exact Kh (Q1 e2) nA
   .cases G
  .rw[Kc z]at G;by_cases w:i=k
   .rw[Kd w]at e2;split at e2
    .cases e2;exact Kh (Q1 G) nA
    .cases e2
   .rw[Kc w]at e2;exact h.inj j k b G e2
 .let{j,Y,e}:=QB z;have G:=Q2.mpr ⟨Y,e⟩;rw[Qw]at G;by_cases w:i=j
  .rw[Kd w]at G;split at G
   .cases G;exact U M
   .cases G
  .rw[Kc w]at G;exact h.nL<|Q1 G
set_option tactic.hygienic true in
def JA{l:List α}{x y:α}(hi:i<=l.length)(e:(l.take i++x::l.drop i)[j]?=some y):(j<i/\l[j]?=some y)\/(j=i/\y=x)\/(i<j/\l[j-1]?=some y):=by
 have lt:(l.take i).length=i:=by rw[Qd];lia
 rw[Xu,lt]at e;split at e
 .rename_i c
  rw[List.getElem?_take,Kd c]at e;exact .inl ⟨c,e⟩
 .rename_i c
  rcases(show j=i\/i<j by lia)with rfl|h
  .have:j-j=0:=();rw[this]at e;cases e;exact .inr<|.inl ⟨M,M⟩
  .obtain⟨n,rfl⟩:∃n,j=i+1+n:={j-(i+1),()};have:i+1+n-i=n+1:=();rw[this,Xe,X6]at e;have:i+1+n-1=i+n:=();exact .inr<|.inr {h,by rwa[this]}
def JN.insert(h:JN t H a L A ls){n:G'}(hi:i<=A.length)(hn:H n=some (.lst<|y.map V.int))(W:¬JZ a L A n):
  JN t (upd H L<|.lst<|(A.take i++n::A.drop i).map V.ref) a L (A.take i++n::A.drop i) (ls.take i++y::ls.drop i):=by
 let{dx,Y}:=h.obj;have nA:n∉A:=λz=>W (.inr<|.inr z);have Z:n≠L:=λz=>W (.inr<|.inl z);have O:i<=ls.length:=by rwa[<-h.len]
 refine{{dx,by rwa[ac (bO Y h.lst<|by intro z;cases z)]},ag,?_,λj b l U e2=>?_,λj k b U e2=>?_,λz=>?_}
 .have:=h.len;rw[Q8,Q8,Qr,Qr,Qd,Qd,QL,QL];lia
 .rcases JA hi U with⟨c1,G⟩|⟨c1,G⟩|⟨c1,G⟩<;>rcases JA O e2 with⟨c2,I⟩|⟨c2,I⟩|⟨c2,I⟩<;>(try lia)
  .rw[ac (λy=>h.nL<|by rw[<-y];exact Q1 G)];exact h.leaf j b l G I
  .rwa[G,I,ac Z]
  .rw[ac (λy=>h.nL<|by rw[<-y];exact Q1 G)];exact h.leaf (j-1) b l G I
 .rcases JA hi U with⟨c1,G⟩|⟨c1,G⟩|⟨c1,G⟩<;>rcases JA hi e2 with⟨c2,I⟩|⟨c2,I⟩|⟨c2,I⟩
  .exact h.inj j k b G I
  .rw[I]at G;exact Kh (Q1 G) nA
  .have:=h.inj _ _ b G I;lia
  .rw[G]at I;exact Kh (Q1 I) nA
  .lia
  .rw[G]at I;exact Kh (Q1 I) nA
  .have:=h.inj _ _ b G I;lia
  .rw[I]at G;exact Kh (Q1 G) nA
  .have:=h.inj _ _ b G I;lia
 .rcases Q4.mp z with z|z
  .exact h.nL<|Zd z
  .rcases Q7.mp z with z|z
   .exact Z z.symm
   .exact h.nL<|X1 z
set_option tactic.hygienic true in
def kI{l:List α}{y:α}(e:(l.eraseIdx i)[j]?=some y):(j<i/\l[j]?=some y)\/(i<=j/\l[j+1]?=some y):=by
 rw[List.getElem?_eraseIdx]at e;split at e
 .rename_i c;exact .inl ⟨c,e⟩
 .rename_i c;exact .inr {(),e}
def JN.erase(h:JN t H a L A ls):JN t (upd H L<|.lst<|(A.eraseIdx i).map V.ref) a L (A.eraseIdx i) (ls.eraseIdx i):=by
 let{dx,U}:=h.obj;refine{{dx,by rwa[ac (bO U h.lst<|by intro z;cases z)]},ag,?_,λj b l O e2=>?_,λj k b O e2=>?_,λz=>h.nL<|Zb z}
 .rw[Xv,Xv,h.len]
 .have W:b∈A:=Zb (Q1 O);rw[ac (λy=>h.nL<|by rwa[<-y])];rcases kI O with⟨c1,G⟩|⟨c1,G⟩<;>rcases kI e2 with⟨c2,I⟩|⟨c2,I⟩<;>(try lia)
  .exact h.leaf j b l G I
  .exact h.leaf (j+1) b l G I
 .rcases kI O with⟨c1,G⟩|⟨c1,G⟩<;>rcases kI e2 with⟨c2,I⟩|⟨c2,I⟩
  .exact h.inj j k b G I
  .have:=h.inj _ _ b G I;lia
  .have:=h.inj _ _ b G I;lia
  .have:=h.inj _ _ b G I;lia
def uh(up:bQ ls.flatten)(ex:ls[i]?=some x)(z:ls[j]?=some y)(h:i<j):∀p∈x,∀q∈y,p<q:=λp hp q hq=>by
 rw[e6 ex]at up;refine(Ji.mp up).2.2.2.2.2 p hp q<|XV.mpr {y,?_,hq};refine Q1 (i:=j-(i+1)) ?_;rw[X6];have:i+1+(j-(i+1))=j:=();rwa[this]
def DZ(up:bQ ls.flatten)(ex:ls[i]?=some x):bQ x:=by
 rw[e6 ex]at up;exact(Ji.mp up).2.1
def Co(up:bQ x)(G:x≠[]):∃m,x[x.length-1]?=some m/\m∈x/\∀y∈x,y<=m:=by
 have hl:=Z5.mpr G;have z:x.length-1<x.length:=();refine{x[x.length-1],Q3 z,Zk z,λy hy=>?_};let{j,I,e}:=QB hy;rcases(show j=x.length-1\/j<x.length-1 by lia)with h|h
 .subst h;rw[e];exact ZD _
 .have:=Z8.mp up j (x.length-1) I z h;rw[e]at this;lia
structure Ld(ls:Mc)(E:Nat->Prop):Prop where
 ne:∀l∈ls,l≠[]
 le:∀l∈ls,l.length<=8
 nb:∀(i:Nat)(x y:Lh),ls[i]?=some x->ls[i+1]?=some y->E i\/5<=x.length+y.length
 up:bQ ls.flatten
def Ld.ok(h:Ld ls E)(z:∀i,¬E i):IZ ls:={h.ne,h.le,λi x y G e2=>(h.nb i x y G e2).resolve_left<|z i,h.up}
noncomputable def lf(ls:Mc)(i:Nat):List (List Int):=match ls[i]?,ls[i+1]? with
 |some x,some y=>if x.length+y.length<5 then(ls.set i<|x++y).eraseIdx (i+1)else ls
 |_,_=>ls
set_option tactic.hygienic true in
def rK(h:ls.length<=i+1):lf ls i=ls:=by
 unfold lf;have:ls[i+1]?=none:=Zp.mpr h;rw[this];split
 .rename_i h2;cases h2
 .rfl
def xc(ex:ls[i]?=some x)(z:ls[i+1]?=some y):lf ls i=if x.length+y.length<5 then(ls.set i<|x++y).eraseIdx (i+1)else ls:=by
 unfold lf;rw[ex,z]
def Az:(lf ls i).length<=ls.length/\ls.length<=(lf ls i).length+1:=by
 unfold lf;split
 .split
  .rw[Xv,QH];split<;>lia
  .lia
 .lia
set_option tactic.hygienic true in
def rJ{z v:Lh}(e:((ls.set i z).eraseIdx<|i+1)[j]?=some v):(j<i/\ls[j]?=some v)\/(j=i/\v=z)\/(i<j/\ls[j+1]?=some v):=by
 rw[List.getElem?_eraseIdx]at e;split at e
 .rename_i c
  rw[Qw]at e;by_cases h:i=j
  .rw[Kd h]at e;split at e
   .cases e;exact .inr<|.inl ⟨h.symm,M⟩
   .cases e
  .rw[Kc h]at e;exact .inl {(),e}
 .rename_i c
  rw[Qw,Kc ()]at e;exact .inr<|.inr {(),e}
def Ay(ex:ls[i]?=some x)(z:ls[i+1]?=some y):((ls.set i<|x++y).eraseIdx<|i+1).flatten=ls.flatten:=by
 have hi:=(Q2.mp ex).1;have lt:(ls.take i).length=i:=by rw[Qd];lia
 have hy:ls.drop (i+1)=y::ls.drop (i+2):=by
  let{h,e}:=Q2.mp z;rw[<-e,<-Z7 h]
 have G:(ls.set i<|x++y).eraseIdx (i+1)=ls.take i++(x++y)::ls.drop (i+2):=by
  rw[vi ex,hy,XF (),lt];have:i+1-i=1:=();rw[this];rfl
 rw[G,e6 ex,hy,Zh,Zg,Zg,Qp]
def Ld.join(h:Ld ls E)(I:∀j,E j->j=i\/j+1=i):Ld (lf ls i) (λj=>j+1=i/\E j)/\(lf ls i).flatten=ls.flatten:=by
 cases ex:ls[i]? with
 |none=>
  have hl:ls.length<=i:=Zp.mp ex;rw[rK ()];refine{{h.ne,h.le,λj x y G e2=>?_,h.up},M};rcases h.nb j x y G e2 with z|z
  .rcases I j z with rfl|w
   .rw[ex]at G;cases G
   .exact .inl ⟨w,z⟩
  .exact .inr z
 |some x=>
  cases O:ls[i+1]? with
  |none=>
   have hl:ls.length<=i+1:=Zp.mp O;rw[rK hl];refine{{h.ne,h.le,λj x' y G e2=>?_,h.up},M};rcases h.nb j x' y G e2 with z|z
   .rcases I j z with rfl|w
    .rw[O]at e2;cases e2
    .exact .inl ⟨w,z⟩
   .exact .inr z
  |some y=>
   rw[xc ex O];by_cases c:x.length+y.length<5
   .rw[Kd c];have fl:=Ay ex O;have mem:∀v∈(ls.set i<|x++y).eraseIdx (i+1),v=x++y\/v∈ls:=λv Y=>by
     let{j,Z,e}:=QB Y;rcases rJ (Q2.mpr ⟨Z,e⟩)with⟨_,q⟩|⟨_,q⟩|⟨_,q⟩
     .exact .inr<|Q1 q
     .exact .inl q
     .exact .inr<|Q1 q
    have px:=Z5.mpr (h.ne x<|Q1 ex);have a0:(x++y).length=x.length+y.length:=Q8;refine{{λv Y=>?_,λv Y=>?_,λj u v G e2=>?_,by rw[fl];exact h.up},fl}
    .rcases mem v Y with rfl|q
     .exact Zq ()
     .exact h.ne v q
    .rcases mem v Y with rfl|q
     .lia
     .exact h.le v q
    .rcases rJ G with⟨c1,U⟩|⟨c1,U⟩|⟨c1,U⟩<;>rcases rJ e2 with⟨c2,W⟩|⟨c2,W⟩|⟨c2,W⟩<;>(try lia)
     .rcases h.nb j u v U W with z|z
      .rcases I j z with w|w
       .lia
       .lia
      .exact .inr z
     .rcases h.nb j u x U (by rwa[c2])with z|z
      .exact .inl ⟨c2,z⟩
      .rw[W];exact .inr ()
     .have e3:ls[i+1+1]?=some v:=by rwa[<-c1]
      rcases h.nb (i+1) y v O e3 with z|z
      .rcases I (i+1) z with w|w<;>lia
      .rw[U];exact .inr ()
     .rcases h.nb (j+1) u v U W with z|z
      .rcases I (j+1) z with w|w<;>lia
      .exact .inr z
   .rw[Kc c];refine{{h.ne,h.le,λj u v G e2=>?_,h.up},M};rcases h.nb j u v G e2 with z|z
    .rcases I j z with w|w
     .subst w;rw[ex]at G;rw[O]at e2;cases G;cases e2;exact .inr ()
     .exact .inl ⟨w,z⟩
    .exact .inr z
def yi(h:bQ l):l.Nodup:=h.imp λh=>Int.ne_of_lt h
def IZ.gone(o:IZ ls)(ex:ls[i]?=some x)(hk:k∈x):bQ (ls.set i<|x.erase k).flatten/\∀z,z∈(ls.set i<|x.erase k).flatten↔z≠k/\z∈ls.flatten:=by
 have up:=o.up;rw[e6 ex]at up;let{U,G,W,I,Y,O}:=Ji.mp up;have sub:(x.erase k).Sublist x:=List.erase_sublist;have nx:=yi G;rw[mM ex,e6 ex];refine{Ji.mpr {U,G.sublist sub,W,λa ha b hb=>I a ha b<|sub.subset hb,Y,λa ha b hb=>O a (sub.subset ha) b hb},λz=>?_};rw[Q4,Q4,Q4,Q4,nx.mem_erase_iff];constructor
 .rintro (h|⟨h1,h2⟩|h)
  .have:=I z h k hk;exact{(),.inl h}
  .exact{h1,.inr<|.inl h2}
  .have:=O k hk z h;exact{(),.inr<|.inr h}
 .rintro ⟨Z,h|h|h⟩
  .exact .inl h
  .exact .inr<|.inl ⟨Z,h⟩
  .exact .inr<|.inr h
def IZ.shrunk(o:IZ ls)(ex:ls[i]?=some x)(z:y≠[])(I:y.length<=x.length)(up:bQ (ls.set i y).flatten):Ld (ls.set i y) (λj=>j=i\/j+1=i):=by
 have hx:=o.le x (Q1 ex);refine{λl hl=>?_,λl hl=>?_,λj a b f g=>?_,up}
 .rcases pW ex hl with rfl|hl
  .exact z
  .exact o.ne l hl
 .rcases pW ex hl with rfl|hl
  .lia
  .exact o.le l hl
 .rcases m8 ex f with⟨c,_⟩|⟨c,G⟩
  .exact .inl<|.inl c.symm
  .rcases m8 ex g with⟨c',_⟩|⟨c',g1⟩
   .exact .inl<|.inr c'.symm
   .exact .inr<|o.nb j a b G g1
def IZ.out(o:IZ ls)(ex:ls[i]?=some x)(I:x.length=1)(up:bQ (ls.set i []).flatten):IZ (ls.eraseIdx i)/\(ls.eraseIdx i).flatten=(ls.set i []).flatten:=by
 have hi:=(Q2.mp ex).1;have lt:(ls.take i).length=i:=by rw[Qd];lia
 have G:ls.eraseIdx i=ls.take i++ls.drop (i+1):=List.eraseIdx_eq_take_drop_succ _ _;have fl:(ls.eraseIdx i).flatten=(ls.set i []).flatten:=by
  rw[G,mM ex,Zh];rfl
 refine{{λl hl=>o.ne l<|Zb hl,λl hl=>o.le l<|Zb hl,λj a b f g=>?_,by rwa[fl]},fl};rcases kI f with⟨c1,z⟩|⟨c1,z⟩<;>rcases kI g with⟨c2,g1⟩|⟨c2,g1⟩
 .exact o.nb j a b z g1
 .have e2:j+1=i:=();subst e2;have h1:=o.nb j a x z ex;have h2:=o.nb (j+1) x b ex g1;lia
 .lia
 .exact o.nb (j+1) a b z g1
def JW(_K:Jc)(t:IT)(H:Hp)(a:G')(F:Li)(ks:Lh):Prop:=∃L A ls,JN t H a L A ls/\IZ ls/\ls.flatten=ks/\∀b,F b↔JZ a L A b
def JW.ins(h:JW K t H a F ks):∃dx fs,H a=some (.ins t.a9 dx fs)/\∀m,m≠(kj:Str)->fs.lookup m=none:=by
 let{L,A,ls,hb,_}:=h;let{dx,z}:=hb.obj;exact{dx,_,z,λm G=>Fo G}
def JW.dom(h:JW K t H a F ks)(hb:F b):∃o,H b=some o:=by
 let{L,A,ls,h1,_,_,h2}:=h;exact h1.dom<|(h2 b).mp hb
def JW.frame(h:JW K t H a F ks)(f:∀b,F b->H' b=H b):JW K t H' a F ks:=by
 let{L,A,ls,h1,z,G,h2}:=h;exact{L,A,ls,h1.frame λb hb=>f b<|(h2 b).mpr hb,z,G,h2}
def JW.out(h:JW K t H a F ks)(e:H p=none):¬F p:=λz=>by
 let{o,q}:=h.dom z;rw[q]at e;cases e
def pD(K:Jc)(t:IT):Sp:=λvs H Q _=>∃(a dx:G'),vs=[.ref a]/\H a=some (.ins t.a9 dx [])/\H dx=some (.own a)/\∀H' F,JW K t H' a F []->Fr (λb=>b=a\/b=dx) F H H'->Q .non H'
def qo(K:Jc)(t:IT):Sp:=λvs H Q _=>∃(a:G')(k:Int)(F:Li)(ks:Lh),vs=[.ref a,.int k]/\JW K t H a F ks/\∀H' F',JW K t H' a F' ks->Fr F F' H H'->Q (.bl<|decide (k∈ks)) H'
def qp(K:Jc)(t:IT):Sp:=λvs H Q E=>∃(a:G')(k:Int)(F:Li)(ks:Lh),vs=[.ref a,.int k]/\JW K t H a F ks/\ks.length<4096/\
 (k∉ks->∀H' F' ks',JW K t H' a F' ks'->(∀z,z∈ks'↔z=k\/z∈ks)->Fr F F' H H'->Q .non H')/\(k∈ks->False)
def lR(K:Jc)(t:IT):Sp:=λvs H Q E=>∃(a:G')(k:Int)(F:Li)(ks:Lh),vs=[.ref a,.int k]/\JW K t H a F ks/\ks.length<4096/\
 (k∈ks->∀H' F' ks',JW K t H' a F' ks'->(∀z,z∈ks'↔z≠k/\z∈ks)->Fr F F' H H'->Q .non H')/\(k∉ks->False)
def IZ.short(o:IZ ls):ls.length<=ls.flatten.length:=by
 have h:=o.ne;clear o
 induction ls with
 |nil=>exact Q5 _
 |cons x r z=>
  have:=Z5.mpr (h x Q6);have:=z λl hl=>h l (Qc _ hl);rw[Zg,Q8,Qr];lia
def lQ(K:Jc)(t:IT):Sp:=λvs H Q _=>∃(a:G')(k n:Int)(F:Li)(ks:Lh),vs=[.ref a,.int k,.int n]/\JW K t H a F ks/\ks.length<4096/\0<=n/\
 ∀(H':Hp)(l:G'),IA H H'->H l=none->H' l=some (.lst<|((ks.filter λz=>decide (k<=z)).take n.toNat).map V.int)->Q (.ref l) H'
def rS(h:0<=n):nG xs none (some n)=xs.take n.toNat:=by
 unfold nG HT.sIx;simp only[Zv,Nat.sub_zero];rw[Kc ()];rcases Nat.le_total n.toNat xs.length with c|c
 .rw[Xl c]
 .rw[Nat.min_eq_right c,QF,QC c]
def AE(o:IZ ls)(h:Iy ls k i0):∀z∈(ls.take i0).flatten,¬k<=z:=λz hz=>by
 have:=h.ahead z hz;lia
noncomputable def da(k:Mi)(z:Int):Bool:=match k with|none=>true|some k=>decide (z<=k)
def vDn:Option Int->V|none=> .non|some k=> .int k
def jq(K:Jc)(t:IT):Sp:=λvs H Q _=>∃(a:G')(k:Mi)(n:Int)(F:Li)(ks:Lh),vs=[.ref a,vDn k,.int n]/\JW K t H a F ks/\ks.length<4096/\0<=n/\
 ∀(H':Hp)(l:G'),IA H H'->H l=none->H' l=some (.lst<|((ks.reverse.filter<|da k).take n.toNat).map V.int)->Q (.ref l) H'
noncomputable def IE.low(s:IE):Int:=match s.nxt with
 |none=>s.size
 |some m=>if m<s.size then m else s.size
def Cj{M':Int}(h:M'∈st.rows)(l:∀x∈st.rows,M'<=x):M'=st.low:=by
 unfold IE.rows at h l;unfold IE.low;cases e:st.nxt with
 |none=>rw[e]at h;simpa using h
 |some m=>
  rw[e]at h l;have h:M'=st.size\/M'=m:=by simpa using h
  have l1:=l st.size (by simp);have z:=l m (by simp);show M'=if m<st.size then m else st.size
  split<;>lia
def gK(z:IN st):st.low∈([4,8,16,32,64,128,256]:Lh):=by
 unfold IE.low;cases e:st.nxt with
 |none=>exact z.pw
 |some m=>
  show(if m<st.size then m else st.size)∈_;split
  .exact(z.nx m e).1
  .exact z.pw
def vt{x:Int}(h:x∈([4,8,16,32,64,128,256]:List Int)):∃a b,Row x a b:=by
 rcases jz h with h|h|h|h|h|h|h<;>subst h
 .exact{_,_,l5 (k:=0) (_)}
 .exact{_,_,l5 (k:=1) (_)}
 .exact{_,_,l5 (k:=2) (_)}
 .exact{_,_,l5 (k:=3) (_)}
 .exact{_,_,l5 (k:=4) (_)}
 .exact{_,_,l5 (k:=5) (_)}
 .exact{_,_,l5 (k:=6) (_)}
def vc{S p:Int}{a b:Nat}(R:Row S a b)(G:0<=p)(h1:p<65536):tz (tz p%S)+65536/S=(p/(65536/S)+1)*(65536/S):=by
 have hs:=R.st_has (m:=tz p) (nZ p);rw[yR G h1]at hs;have I:=R.slot (s:=tz p%S) (R.mod0 _) (R.mod1 _);have w:=R.width;have z:=R.wpos';rw[I.1,<-w]at hs⊢;have:p/(65536/S)=rz a (tz p%S):=by
  have k0:=Qf p (QW z);have O:=Qe p z;have k2:=Xn p (65536/S);exact R.between z (x:=p/(65536/S)) (y:=rz a<|tz p%S) (p:=p) () () hs.1 hs.2
 rw[this,Int.add_mul,Int.one_mul,XI]
def qg(K:Jc)(t:IT):Sp:=λvs H Q _=>∃(a:G')(p:Int)(F:Li)(st:IE),vs=[.ref a,.int p]/\JB K t H a F st/\0<=p/\p<65536/\
 ∀H' F',JB K t H' a F' st->Fr F F' H H'->Q (.int<|(p/(65536/st.low)+1)*(65536/st.low)) H'
structure wb(kd:Str)(fs:L')(a e:V):Prop where
 ki:fs.lookup ("kind":Str)=some (.str kd)
 at_:fs.lookup (sf:Str)=some a
 end_:fs.lookup (nX:Str)=some e
 wo:fs.lookup ("words":Str)=none
 ho:fs.lookup ("holds":Str)=none
def okS(a e:V):Prop:=∃i j,a= .int i/\e= .int j/\0<=i/\i<=j/\j<=65536
def Jo(a e:V):Prop:=∃i,a= .int i/\0<=i/\(e= .non\/∃j,e= .int j/\i<=j)
def Jn(a e:V):Prop:=∃j,e= .int j/\0<=j/\(a= .non\/∃i,a= .int i/\j<=i)
def Jg(p:G')(H H':Hp):Prop:=∀b o,H b=some o->b≠p->H' b=some o
def wA:Sp:=λvs H Q _=>∃x,vs=[x]/\Sc x/\Q (.bl<|isW x) H
noncomputable def isF(lo:Int):V->Bool
 | .int i=>decide (lo<=i)|_=>false
def x5:Sp:=λvs H Q _=>∃x lo,vs=[x,.int lo]/\Sc x/\Q (.bl<|isF lo x) H
noncomputable def wr:V->Str
 | .int i=>toString i|_=>"-"
def xW:Sp:=λvs H Q _=>∃x,vs=[x]/\(x= .non\/∃i:Int,x= .int i/\i.natAbs.log2<1920)/\Q (.str<|wr x) H
def fu(K:Jc):Sp:=λvs H Q _=>∃(p C dx:G')(kd:Str)(a e:V),vs=[.ref p,.str kd,a,e]/\H p=some (.ins C dx [])/\Jk K C/\IB K C "kind"/\IB K C sf/\IB K C nX/\∀H' fs,Jg p H H'->H' p=some (.ins C dx fs)->wb kd fs a e->Q .non H'
def yS(C N:G')(kd:Str)(ok:V->V->Prop):Sp:=λvs H Q E=>∃(p dx:G')(a e:V),vs=[.ref p,a,e]/\H p=some (.ins C dx [])/\Sc a/\Sc e/\
 (ok a e->∀H' fs,Jg p H H'->H' p=some (.ins C dx fs)->wb kd fs a e->Q .non H')/\(¬ok a e->False)
def n8(t:IT):Sp:=yS t.aQ t.kL "slots" okS
def wC(t:IT):Sp:=yS t.cY t.kL "up" Jo
def sN(t:IT):Sp:=yS t.bG t.kL "down" Jn
def Jm(kd:Int)(a e:V):Prop:=(kd=0/\okS a e)\/(kd=1/\Jo a e)\/(kd=2/\Jn a e)
def hS:V->V->Int->Bool
 | .int i,.int j,k=>decide (i<=tz (k%65536))&&decide (tz (k%65536)<j)
 |_,_,_=>false
noncomputable def hU:V->V->Int->Bool
 | .int i,.int j,k=>decide (i<=k)&&decide (k<j)
 | .int i,.non,k=>decide (i<=k)
 |_,_,_=>false
noncomputable def hD:V->V->Int->Bool
 | .int i,.int j,k=>decide (j<=k)&&decide (k<=i)
 | .non,.int j,k=>decide (j<=k)
 |_,_,_=>false
def hN(kd:Int):V->V->Int->Bool:=if kd=0 then hS else if kd=1 then hU else hD
def KZ:V->Prop
 | .int i=>i<10^80|_=>True
def u8(kd:Str)(a e:V):Str:=Txt.join (" ":Str) [kd,wr a,wr e]
def Bv(C:G')(kd:Str)(ok:V->V->Prop)(h:V->V->Int->Bool):Sp:=λvs H Q _=>∃(p dx:G')(fs:L')(a e:V)(k:Int),vs=[.ref p,.int k]/\H p=some (.ins C dx fs)/\wb kd fs a e/\ok a e/\0<=k/\∀H',IA H H'->Q (.bl<|h a e k) H'
def eX(t:IT):Sp:=Bv t.cY "up" Jo hU
def dg(t:IT):Sp:=Bv t.bG "down" Jn hD
def LR(t:IT)(kd:Int):Addr:=if kd=0 then t.aQ else if kd=1 then t.cY else t.bG
noncomputable def LO(kd:Int):Str:=if kd=0 then "slots" else if kd=1 then "up" else "down"
def bN(t:IT):Sp:=λvs H Q _=>∃(p dx:G')(kd:Int)(fs:L')(a e:V),vs=[.ref p]/\H p=some (.ins (LR t kd) dx fs)/\wb (LO kd) fs a e/\Jm kd a e/\KZ a/\KZ e/\∀H',IA H H'->Q (.str<|u8 (LO kd) a e) H'
def n9{x:G'}(h1:H x=none)(h2:H dx=none)(k:Jg x (upd (upd H dx<|.own x) x<|.ins C dx []) H'):IA H H':=λb o q=>by
 refine k b o ?_<|aj q h1;rw[ac (aj q h1),ac (aj q h2)];exact q
def JO(t:IT)(H:Hp)(p:G')(kd:Int)(a e:V):Prop:=∃(dx:G')(fs:L'),H p=some (.ins (LR t kd) dx fs)/\wb (LO kd) fs a e
def JO.same{kd:Int}{a e:V}(h:JO t H p kd a e)(s:IA H H'):JO t H' p kd a e:=by
 let{dx,fs,h1,h2}:=h;exact{dx,fs,s _ _ h1,h2}
def Jm.sc{kd:Int}{a e:V}(h:Jm kd a e):Sc a/\Sc e:=by
 rcases h with⟨_,i,j,rfl,rfl,_⟩|⟨_,i,rfl,_,rfl|⟨j,rfl,_⟩⟩|⟨_,j,rfl,_,rfl|⟨i,rfl,_⟩⟩<;>exact⟨Ku,Ku⟩
def Jm.kd{kd:Int}{a e:V}(h:Jm kd a e):kd=0\/kd=1\/kd=2:=by
 rcases h with⟨h,_⟩|⟨h,_⟩|⟨h,_⟩
 .exact .inl h
 .exact .inr<|.inl h
 .exact .inr<|.inr h
def Jm.s{a e:V}(h:Jm 0 a e):okS a e:=by
 rcases h with⟨_,h⟩|⟨h,_⟩|⟨h,_⟩
 .exact h
 .cases h
 .cases h
def Jm.u{a e:V}(h:Jm 1 a e):Jo a e:=by
 rcases h with⟨h,_⟩|⟨_,h⟩|⟨h,_⟩
 .cases h
 .exact h
 .cases h
def Jm.d{a e:V}(h:Jm 2 a e):Jn a e:=by
 rcases h with⟨h,_⟩|⟨h,_⟩|⟨_,h⟩
 .cases h
 .cases h
 .exact h
def dWN{kd:Int}(h:kd=0\/kd=1\/kd=2):DOr (D1 t.aQ<|bN t) (DOr (D1 t.cY<|bN t)<|D1 t.bG<|bN t) (LR t kd) (bN t):=by
 rcases h with rfl|rfl|rfl
 .exact .inl ⟨M,M⟩
 .exact .inr<|.inl ⟨M,M⟩
 .exact .inr (.inr ⟨M,M⟩)
set_option exponentiation.threshold 2000 in
def HP{i:Int}(G:0<=i)(h1:i<10^80):i.natAbs.log2<1920:=by
 rcases Zz i.natAbs with z|z
 .rw[z];decide
 .refine(Nat.log2_lt<|ZN z).mpr ?_;have:i.natAbs<10^80:=();exact Nat.lt_trans this<|Qo (show 10^80<2^300 by decide) (Nat.pow_le_pow_right (_) (_))
def few(a:V):Prop:=(a= .non\/∃i:Int,a= .int i/\i.natAbs.log2<1920)/\(wr a).length<=81
def zp:few .non:={.inl M,∅}
def gh{i:Int}(z:0<=i)(h1:KZ (.int i)):few (.int i):=by
 have h1:i<10^80:=h1;refine{.inr {i,M,HP z h1},?_};show(Str.ofString<|toString i).length<=81;have h:(toString i).length<=80+1:=PySem.int_text_length_le10 (_) ();rw[Str.ofString_eq_toList];show((toString i).toList.map Char.toNat).toArray.size<=81;rwa[Qi,Q0]
def Jm.few{kd:Int}{a e:V}(h:Jm kd a e)(G:KZ a)(I:KZ e):few a/\few e:=by
 rcases h with⟨_,i,j,rfl,rfl,z,h1,_⟩|⟨_,i,rfl,z,rfl|⟨j,rfl,h1⟩⟩|⟨_,j,rfl,z,rfl|⟨i,rfl,h1⟩⟩
 .exact{gh z G,gh () I}
 .exact{gh z G,zp}
 .exact{gh z G,gh () I}
 .exact{zp,gh z I}
 .exact{gh () G,gh z I}
set_option genInjectivity false in
structure Tp where
 p:Addr
 k:Int
 v:V
def Tp.kv(e:Tp):Int×V:=(e.k,e.v)
structure PgA(H H':Hp)(F F':Li)(r g:G')(v:V)(ts:List Tp):Prop where
 tu:H' r=some (.tup [.ref g,v])
 li:H' g=some (.lst<|ts.map λe=>V.ref e.p)
 rw:∀e∈ts,H' e.p=some (.tup [.int e.k,e.v])/\¬F' e.p
 nr:(¬F r->H r=none)/\¬F' r
 ng:(¬F g->H g=none)/\¬F' g
section
variable{mg:Lr}{base:Heap}
variable{K:Jc}{t:IT}(T:Txt K mg t)
def zW:Sp:=λvs H Q _=>∃n:Int,vs=[.int n]/\0<=n/\Q (.int<|tz n) H
def xZ:Sp:=λvs H Q _=>∃k:Int,vs=[.int k]/\Q (.int<|k%65536) H
def wz:Sp:=λvs H Q _=>∃k:Int,vs=[.int k]/\Q (.int<|tz<|k%65536) H
def xX:Sp:=λvs H Q _=>∃k n:Int,vs=[.int k,.int n]/\0<n/\Q (.int<|k%65536%n) H
def xY:Sp:=λvs H Q _=>∃p n:Int,vs=[.int p,.int n]/\0<=p/\0<n/\Q (.int<|tz p%n) H
def sD:Sp:=λvs H Q _=>∃s n:Int,vs=[.int s,.int n]/\0<=s/\0<n/\n<1073741824/\∀p,H p=none->Q (.ref p) (upd H p<|.tup [.int (tz s),.int (tz s+65536/n)])
def ox:C5 P w K mg base IL 1 t.xy t.rR ["number"] zW:=by
 let{G,z}:=T.g_BITS;refine T.sk.okl z6 λs H vs Q E O h _=>?_;intro X;let{n,rfl,U,k}:=h;refine ah (IR 1 ae)
   (ah (IR 2 AS)
   (ah (l7 Kw M (hJ {_} T.mG (aa (bV (v:= .int 16) {_} z {_,M}) af)) (L9 3)
    (jB (IR 1<|al aX (al cU IC ae)<|al aH IG ae)
    (aB<|IR 2<|al aK IG ae)))
   (aA (aD IC) ?_)))
 intros
 have I:((n.toNat/2^0:Nat):Int)=n:=by rw[Nat.pow_zero,Nat.div_one];lia
 refine{_,M,16,M,(_),(_),uB (n:=16) (λi B H'=>∃v,H'=H/\B=[some (.int n),some (.int ((rv i n.toNat:Nat):Int)),some (.int ((n.toNat/2^i:Nat):Int)),v]) ?_ ?_ ?_}
 .refine{none,M,?_};rw[I];rfl
 .rintro i B H' hi ⟨v,rfl,rfl⟩;refine{_,M,_,_,M,M,.inr {(_),(_)},_,M,_,_,M,M,(by show(0:Int)<2;decide),_,_,M,M,_,M,_,_,M,M,{(_),(_)},?_};refine{some<|.int<|0+(i:Int),M,?_};rw[<-zP i n.toNat,<-zQ i n.toNat];rfl
 .rintro B H' ⟨v,rfl,rfl⟩;unfold tz at k;exact{_,M,k}
def qW:C5 P w K mg base IL 1 t.uX t.oN [eR] xZ:=by
 let{G,z}:=T.g_PLACES;refine T.u7.okl yc λs H vs Q E I h _=>?_;intro X;let{n,rfl,k}:=h;refine{_,(aB<|aD<|al aH AS<|bV (v:= .int 65536) {_} z {_,M})
  ,?_}
 exact{_,M,_,_,M,M,(by show(0:Int)<65536;decide),k}
def wO:C5 P w K mg base IL 2 t.rZ t.mt [eR] wz:=by
 refine T.yJ.okl wF λs H vs Q E z h _=>?_;intro X;let{n,rfl,k}:=h;refine{_,(aB<|aD<|aE (ox T) z.mo {_} T.w6 T.sk.kp T.xw .nil ar (aa (aE (qW T) z.mo {_} T.Ar T.u7.kp T.AQ .nil ar (aa AS af)) af))
  ,?_}
 exact{_,M,_,M,_,M,Qf _ (_),k}
def qU:C5 P w K mg base IL 2 t.uV t.oK [eR,rW] xX:=by
 refine T.oT.okl ya λs H vs Q E z h _=>?_;intro X;let{n,m,rfl,G,k}:=h;refine{_,(aB<|aD<|al aH (aE (qW T) z.mo {_} T.Ar T.u7.kp T.AQ .nil ar (aa AS af)) IC)
  ,?_}
 exact{_,M,_,M,_,M,_,_,M,M,G,k}
def qV:C5 P w K mg base IL 2 t.uW t.oM ["place",rW] xY:=by
 refine T.u0.okl yb λs H vs Q E z h _=>?_;intro X;let{n,m,rfl,G,I,k}:=h;refine{_,(aB<|aD<|al aH (aE (ox T) z.mo {_} T.w6 T.sk.kp T.xw .nil ar (aa AS af)) IC)
  ,?_}
 exact{_,M,_,M,G,_,M,_,_,M,M,I,k}
def tm:C5 P w K mg base IL 2 t.nI t.iU ["slot",rW] sD:=by
 let{G,z}:=T.g_PLACES;refine T.wf.okl sP λs H vs Q E I h _=>?_;intro X;let{n,m,rfl,O,U,h1,k}:=h;refine ah (IR 2<|aE (ox T) I.mo {_} T.w6 T.sk.kp T.xw .nil ar (aa AS af))
   (aA (aD<|bj<|aa IG<|aa (al aX IG<|al aK (bV (v:= .int 65536) {_} z {_,M}) IC) af) ?_)
 intros
 exact{_,M,_,M,O,_,M,_,M,_,M,_,_,M,M,⟨U,h1⟩,_,_,M,M,(by show 2<=sizeLine;decide),λp hp=>k p hp}
def zY{n:Nat}(h:n<=4096):n<sizeLine:=X4 h (_)
def ve:Sp:=λvs H Q _=>∃n:Int,vs=[.int n]/\0<=n/\n<=1000/\∀H' r A,IA H H'->H r=none->(∀b∈A,H b=none)->IJ H' r A (List.replicate n.toNat []) n->Q (.ref r) H'
set_option tactic.hygienic true in
def mV:C5 P w K mg base IL 1 t.pf t.jY [rW] ve:=by
 refine T.ku.okl vk λs H vs Q E hr h _=>?_;intro X;let{n,rfl,n0,n1,q}:=h;refine{_,(aB<|aD<|kE M (IF.of (M':=["slot"]) (N:=[rW]) (N':=[rW]) (dsc:=ai gd) M M ∅) (hJ {_} T.mG (aa AS af))<|λ_ _ _ _ _=>jF)
  ,?_}
 refine{_,M,n,M,(),(),λD hD=>?_};refine mB (n:=n.toNat) (lo:=0) (λi ys H3=>IA H H3/\∃as:List Addr,ys=as.map V.ref/\as.length=i/\(∀b∈as,H b=none/\b≠D/\H3 b=some (.dK []))/\∀(x y:Nat)(b:G'),as[x]?=some b->as[y]?=some b->x=y)
  {ak hD,[],M,M,(λb hb=>by cases hb),λx y b e=>by simp at e} (λi ys H3 hi Y G=>?_) (λys H3 Y G=>?_)
 .let{s3,as,W,Z,hb,inj}:=Y;intro c O;have cD:c≠D:=(aj G O).symm;have I:c∉as:=λz=>by
   have:=(hb c z).2.2;rw[O]at this;cases this
  have nH:H c=none:=by
   cases e:H c with
   |none=>rfl
   |some o=>rw[s3 c o e]at O;cases O
  refine IW.mk hi (by rwa[ac cD.symm]) (by rw[W,Q0];exact bR ()) {bJ (s3.trans<|ak O) hD,as++ [c],by rw[W,Q9];rfl,by rw[Q8,Z];rfl,λb a0=>?_,λx y b e1 e2=>?_}
  .rcases Q4.mp a0 with z|z
   .let{h1,h2,h3}:=hb b z;exact{h1,h2,by rwa[ac h2,ac (λw=>I<|by rw[<-w];exact z)]}
   .rw[Qa.mp z];exact{nH,cD,by rw[ac cD,ag]}
  .have U:∀x:Nat,(as++ [c])[x]?=some b->as[x]?=some b\/(x=as.length/\b=c):=λx e=>by
    rw[Xu]at e;split at e
    .exact .inl e
    .rename_i w
     have:x-as.length=0:=by
      rcases Zz (x-as.length)with z|z
      .exact z
      .rw[List.getElem?_eq_none (by simp;lia)]at e;cases e
     rw[this]at e;cases e;exact .inr {(),M}
   rcases U x e1 with f1|⟨f1,g1⟩<;>rcases U y e2 with f2|⟨f2,g2⟩
   .exact inj x y b f1 f2
   .subst g2;exact Kh (Q1 f1) I
   .subst g1;exact Kh (Q1 f2) I
   .lia
 .let{s3,as,W,Z,hb,inj}:=Y;refine q H3 D as s3 hD (λb z=>(hb b z).1) {by rw[G,W],by rw[Z];lia,by rw[Zn];lia,λj b kv e1 e2=>?_,λj kv e=>?_,inj,λj kv e p hp=>?_}
  .rw[Zs (Q1 e2)];exact(hb b<|Q1 e1).2.2
  .rw[Zs (Q1 e)];exact Zl
  .rw[Zs (Q1 e)]at hp;cases hp
def mJ(t:IT):Sp:=λvs H Q _=>∃(a:G')(k:Int)(st:IE)(d:Jv),vs=[.ref a,.int k]/\Iv t H a st d/\IN st/\∀c kv,IsCell d st k c kv->Q (.ref c) H
def kM(t:IT):Sp:=λvs H Q _=>∃(a:G')(st:IE)(d:Jv),vs=[.ref a]/\Iv t H a st d/\IN st/\st.kv.length<4096/\∀H' d',Iv t H' a st.one d'->d'.n=d.n->Fr (JQ a st d) (JQ a st.one d') H H'->Q .non H'
def kN(t:IT):Sp:=λvs H Q _=>∃(a:G')(st:IE)(d:Jv),vs=[.ref a]/\Iv t H a st d/\IN st/\d.n=(st.kv.length:Int)/\∀H' d',Iv t H' a st.three d'->d'.n=d.n->Fr (JQ a st d) (JQ a st.three d') H H'->Q .non H'
def rD{z:Int}(G:0<=z)(e:A[z.toNat]?=some c):L4 (A.map V.ref) z=some (.ref c):=by
 let{j,rfl}:=Ze G;refine p7 ?_;rw[Ql];have e:A[j]?=some c:=e;rw[e];rfl
def bW:C5 P w K mg base IL 3 t.iy t.dP [eH,eR] (mJ t):=by
 refine T.AW.okl mN λs H vs Q E U h _=>?_;intro X;let{a,k,st,d,rfl,hb,z,q}:=h;refine ah (IR 2<|aJ aL (ay AS M) ae<|λ_ _=>M)
   (ah (IR 3<|aE (qU T) U.mo {_} T.uw T.oT.kp T.uT .nil ar (aa IC<|aa (az au {_} T.bq aZ (aa IG af)) af))
   (ah (aT (aq ur IU (ay AS M)<|aw _)
    (aB<|aD<|aJ aL IG IU<|λ_ _=>M)
    aF)
   (ah (IR 4<|aJ aL (ay AS M) ae<|λ_ _=>M)
   (aA (aD<|aJ aL JF (aE (qU T) U.mo {_} T.uw T.oT.kp T.uT .nil ar (aa IC<|aa (az au {_} T.bq aZ (aa JF af)) af))<|λ_ _=>M) ?_))))
 intros
 let{dx,I}:=hb.obj;let{s4,s5}:=br z.pw;let{O,W,m2}:=oB (k:=k) s4;have t0:∃xs,H d.tb=some (.lst xs)/\L4 xs 0=some (.ref d.r0):=by
  refine{_,hb.tbl,?_};cases st.nxt<;>rfl
 let{xs,hx,x0}:=t0;have a0:∀{Q':VK},Q' (.ref d.tb) H->tFld K (FP 0) "table" [some (.ref a),some (.int k),none,none,none] H Q':=λ{Q'} q=>{_,M,a,_,dx,_,_,M,I,T.ax,T.aM,gc,q};have Y:((d.A0.map V.ref).length:Int)=st.size:=by rw[Q0];exact hb.row0.la
 refine{_,M,a,_,dx,_,_,M,I,T.ax,T.aM,gc,d.tb,_,_,_,M,M,Dv.of hx,x0,?_};refine{_,M,_,M,d.r0,_,M,.inl<|Dv.of hb.row0.lst,k,_,M,by rw[Y];lia,?_};dsimp only;rw[Y];refine{_,M,_,M,a,_,dx,_,_,M,I,T.ax,T.bp,wE,_,_,M,M,_,M,bC (λc=>?_)<|λc=>?_}
 .have c:=Kj c;let{x,G}:=cz (l:=d.A0) O (by rwa[hb.row0.la]);let{y,e2}:=cz (l:=d.C0) O (by rwa[hb.row0.lc]);exact{_,M,_,M,d.r0,_,_,_,M,M,Dv.of hb.row0.lst,rD O G,q x y<|.inl ⟨c,G,e2⟩}
 .have c:¬st.moved<=k%65536%st.size:=λz=>c (Km z);cases e:st.nxt with
  |none=>rw[IE.moved_none e]at c;exact Kh O c
  |some m=>
   have hm:=IE.moved_some e;let{pm,_}:=z.nx m e;let{s6,_}:=br pm;let{n0,Z,n2}:=oB (k:=k) s6;have r1:=hb.row1;rw[e]at r1;have ht:=hb.tbl;rw[e]at ht;have lb:((d.A1.map V.ref).length:Int)=m:=by rw[Q0];exact r1.la
   let{x,G}:=cz (l:=d.A1) n0 (by rwa[r1.la]);let{y,e2}:=cz (l:=d.C1) n0 (by rwa[r1.lc]);refine{_,M,a,_,dx,_,_,M,I,T.ax,T.aM,gc,d.tb,_,_,_,M,M,Dv.of ht,M,?_};refine{_,M,_,M,_,M,d.r1,_,M,.inl<|Dv.of r1.lst,k,_,M,by rw[lb];lia,?_};dsimp only;rw[lb];exact{d.r1,_,_,_,M,M,Dv.of r1.lst,rD n0 G,q x y<|.inr {m,e,(),G,e2}}
def a8{n:Nat}(h:n<=100000):n<sizeLine:=X4 h (_)
def GK{n:Nat}{z:Int}(G:0<=z)(h1:z<n):LA n z=some z.toNat:=by unfold LA;rw[Kd G,Kd h1]
def ux{kv:Ll}{k:Key}(e:(aO kv)[i]?=some (k,v)):∃n:Int,k=Sum.inl n/\kv[i]?=some (n,v):=by
 unfold aO at e;rw[Ql]at e;cases q:kv[i]? with
 |none=>rw[q]at e;cases e
 |some p=>rw[q]at e;cases e;exact⟨p.1,M,M⟩
def Bm{kv:Ll}{C:List (List<|Int×V)}{p:Int×V}(e:kv[i]?=some p):(kv.take<|i+1).foldl (eI m) C=eI m ((kv.take i).foldl (eI m) C) p:=by
 rw[Qt,e,List.foldl_append];rfl
def eO:C5 P w K mg base IL 3 t.fY t.cW [eH] (kM t):=by
 refine T.yM.okl kO λs H vs Q E hr h _=>?_;intro X;let{a,st,d,rfl,hb,z,hl,q}:=h;refine ah (aT (aq bH (az au {_} T.bq aZ (aa (ay AS M) af)) ae<|aw _)
    (aB mR)
    aF)
   (ah (IR 1<|aJ aL (ay AS M) ae<|λ_ _=>M)
   (ah (IR 2<|aJ aL (ay AS M) ae<|λ_ _=>M)
   (cv (λx=>(yX (l7 Kw M (wL<|BP Zw Xd PySem.F.type_dict_items wS<|aJ aL IC (ay AS M)<|λ_ _=>M) (qS M<|cJ (L9 3)<|cJ (L9 4) mT)
    x))) ?_)))
 refine aA (vx (oZ hr) (aJ aL IG (aE (qU T) hr.mo {_} T.uw T.oT.kp T.uT .nil ar (aa IU<|aa (az au {_} T.bq aZ (aa IG af)) af))<|λ_ _=>M) IU JF M) ?_
 intros
 refine ah (qQ jF<|yg IC (ay AS M) qw)
   (ah (kC AS ae yx)
   (aA (aT (aq bH (ay AS M) (az au {_} T.bq aZ (aa IC af))<|aw _)
    (jB (bT AS (bn<|aa IG af) M)
    (aB<|bT AS ae M))
    aF) ?_))
 intros
 let{dx,ho}:=hb.obj;have ht:=hb.tbl;cases e:st.nxt with
 |none=>
  rw[e]at ht;refine{_,M,a,_,dx,_,_,M,ho,T.ax,T.aM,gc,d.tb,_,M,.inl<|Dv.of ht,M,_,M,jT M ?_};have e1:st.one=st:=by unfold IE.one;rw[e]
  rw[e1]at q;exact q H d hb M Fr.refl
 |some m=>
  rw[e]at ht;refine{_,M,a,_,dx,_,_,M,ho,T.ax,T.aM,gc,d.tb,_,M,.inl<|Dv.of ht,M,_,M,bf (λz=>by cases z) ?_};refine{_,M,a,_,dx,_,_,M,ho,T.ax,T.aM,gc,d.tb,_,_,_,M,M,Dv.of ht,M,?_};refine{_,M,a,_,dx,_,_,M,ho,T.ax,T.aM,gc,d.tb,_,_,_,M,M,Dv.of ht,M,?_};let{pm,v0,v1,_}:=z.nx m e;let{s4,s5}:=br z.pw;let{s6,s7}:=br pm;have hm:=IE.moved_some e;rw[hm]at ho;have r1:=hb.row1;rw[e]at r1;let{c0,ec}:=cz (l:=d.A0) v0 (by rwa[hb.row0.la]);let{kv,ek}:=cz (l:=d.C0) v0 (by rwa[hb.row0.lc]);have I:=hb.row0.cell _ _ _ ec ek;have lb:((d.A1.map V.ref).length:Int)=m:=by rw[Q0];exact r1.la
  have a4:c0∉d.A1:=hb.dis c0 (Q1 ec);have ab:d.r1≠c0:=bO r1.lst I (by intro z;cases z);have b9:=hb.short0 z ek;have a5:∀b,b=d.r1\/b∈d.A1->∃o,H b=some o:=λb hb1=>by
   rcases hb1 with rfl|hb1
   .exact{_,r1.lst}
   .let{_,_,_,_,w}:=r1.has hb1;exact{_,w}
  refine{c0,aO kv,I,_,M,_,M,a,_,dx,_,_,M,ho,T.ax,T.bp,wE,d.r0,_,_,_,M,M,Dv.of hb.row0.lst,rD v0 ec,.inr<|.inr<|.inl {M,.inl {_,I}},c0,aO kv,M,M,I,λvw nv=>?_};have b1:upd H vw (LV vw c0) c0=some (.dK<|aO kv):=by rw[ac (aj I nv)];exact I
  refine{vw,c0,aO kv,M,ag,b1,λob=>?_};refine rO (λi B H'=>∃v3 v4,B=[some (.ref a),some (.ref d.r0),some (.ref d.r1),v3,v4]/\IJ H' d.r1 d.A1 ((kv.take i).foldl (eI m) d.C1) m/\H' c0=some (.frz ob<|.dK<|aO kv)/\∀b o,b∉d.A1->b≠c0->H b=some o->H' b=some o)
   {_,_,M,?_,ag,λb o _ n2 e=>?_} (λi B H' _ zz=>by let{_,_,_,_,hf,_}:=zz;exact hf) (λi k v p B H' ei zw np=>?_) (λB H' zw=>?_)
  .refine IJ.frame (H:=H) r1 λb hb1=>?_;let{o,w}:=a5 b hb1;have n2:b≠c0:=by
    rcases hb1 with rfl|hb1
    .exact ab
    .exact λz=>a4 (z▸hb1)
   rw[ac n2,ac (aj w nv)]
  .rwa[ac n2,ac (aj e nv)]
  .let{v3,v4,a6,hr,hf,hk}:=zw;subst a6;let{n,rfl,en}:=ux ei;have Z:IJ (upd H' p<|.tup [kV (Sum.inl n),v]) d.r1 d.A1 ((kv.take i).foldl (eI m) d.C1) m:=hr.frame λb hb1=>ac λw=>by
    have:∃o,H' b=some o:=by
     rcases hb1 with rfl|hb1
     .exact{_,hr.lst}
     .let{_,_,_,_,w}:=hr.has hb1;exact{_,w}
    let{o,q}:=this;rw[w,np]at q;cases q
   let{n0,n1,n2}:=oB (k:=n) s6;let{c,e1}:=cz (l:=d.A1) n0 (by rwa[Z.la]);let{y,e2}:=cz (l:=(kv.take i).foldl (eI m) d.C1) n0 (by rwa[Z.lc]);let{y0,e3}:=cz (l:=d.C1) n0 (by rwa[r1.lc]);have yl:=wT e3 e2;have ba:=hb.short1 z e e3;have tl:(kv.take i).length<=kv.length:=by rw[Qd];lia
   have hc:=Z.cell _ _ _ e1 e2;have cA:c∈d.A1:=Q1 e1;refine{p,_,M,JE.of ag,M,_,_,M,_,_,M,M,?_};refine{_,M,_,M,_,M,_,M,d.r1,_,M,.inl<|Dv.of Z.lst,n,_,M,by rw[lb];lia,?_};dsimp only;rw[lb];refine{d.r1,_,_,_,M,M,Dv.of Z.lst,rD n0 e1,_,M,c,_,M,KS.k (k:=Sum.inl n) hc (by rw[c8];exact a8 ()),?_};rw[ii];have pn:∀b o,H' b=some o->b≠p:=λb o q=>aj q np;refine{_,_,M,?_,?_,λb o nA nc q=>?_}
   .rw[Bm en];exact Z.mov s6 e1 e2
   .rwa[ac (λw=>a4<|by rw[w];exact cA),ac (pn _ _ hf)]
   .have q:=hk b o nA nc q;rw[ac (λw=>nA<|by rw[w];exact cA),ac (pn _ _ q)];exact q
  .let{v3,v4,a6,hr,hf,hk}:=zw;subst a6;rw[c8,QF]at hr;refine{ob,hf,λb' O=>?_};have hF:∀b,¬JQ a st d b->b∉d.A1/\b≠c0/\b≠a/\b≠d.r0/\b≠d.tb/\b≠d.r1:=λb n=>
    {λq=>n<|.inr<|.inr<|.inr<|.inr<|.inr q,λq=>n<|.inr<|.inr<|.inr<|.inl<|q▸Q1 ec,λq=>n<|.inl q,λq=>n<|.inr<|.inr<|.inl q,λq=>n<|.inr<|.inl q,λq=>n<|.inr (.inr<|.inr<|.inr<|.inl {by rw[e];rfl,q})}
   have a1:∀b o,H b=some o->(∀kvs,o≠ .dK kvs)->b∉d.A1:=λb o q ne w=>(r1.notr w q ne) M;have K1:∀b o,b∉d.A1->b≠c0->H b=some o->upd H' c0 (.dK<|aO kv) b=some o:=λb o n1 n2 q=>by rw[ac n2];exact hk b o n1 n2 q
   have a0:IJ (upd H' c0<|.dK<|aO kv) d.r1 d.A1 (kv.foldl (eI m) d.C1) m:=hr.frame λb hb1=>ac (by
    rcases hb1 with rfl|hb1
    .exact ab
    .exact λw=>a4<|w▸hb1)
   have am:upd H' c0 (.dK<|aO kv) c0=some (.dK<|aO kv):=ag;generalize upd H' c0 (.dK<|aO kv)=H3 at O K1 a0 am⊢;have U:=K1 a _ (a1 _ _ ho<|λ_ w=>by cases w) (bO ho I<|by intro w;cases w) ho;have a2:=hb.row0.lst;have G:=K1 d.r0 _ (a1 _ _ a2<|λ_ w=>by cases w) (bO a2 I<|by intro w;cases w) a2;have a9:=K1 d.tb _ (a1 _ _ ht<|λ_ w=>by cases w) (bO ht I<|by intro w;cases w) ht;have b2:¬JQ a st d b':=λw=>by
    rcases w with w|w|w|w|⟨_,w⟩|w
    .rw[w,U]at O;cases O
    .rw[w,a9]at O;cases O
    .rw[w,G]at O;cases O
    .let{j,b3,f1,f2,f3}:=hb.row0.has w;by_cases y:b'=c0
     .rw[y,am]at O;cases O
     .rw[K1 b' _ (hb.dis b' w) y f3]at O;cases O
    .rw[w,a0.lst]at O;cases O
    .let{_,_,_,_,w'}:=a0.has w;rw[w']at O;cases O
   have lA:((d.A0.map V.ref).length:Int)=st.size:=by rw[Q0];exact hb.row0.la
   have bo:∀{x:G'}{o:HO},H3 x=some o->x≠b':=λq=>aj q O;refine{_,M,_,M,a,_,dx,_,_,M,(by rwa[ac (bo U)]),T.ax,T.bp,wE,d.r0,_,_,_,M,M,(by rwa[ac (bo G)]),GK v0 (by rwa[lA]),?_};have g0:H3 d.r1=some (.lst<|d.A1.map V.ref):=a0.lst;have ra:d.r0≠a:=bO a2 ho (by intro w;cases w);have b4:d.r0≠d.r1:=(hb.tr1<|by rw[e];rfl).2;have t1:d.tb≠d.r1:=(hb.tr1<|by rw[e];rfl).1;have ta:d.tb≠a:=bO ht ho (by intro w;cases w);have an:d.r1≠a:=bO r1.lst ho (by intro w;cases w);have Y:∀b∈d.A1,b≠b'/\b≠d.r0/\b≠a:=λb w=>by
    let{_,_,_,_,f}:=a0.has w;exact{bo f,bO f G (by intro w;cases w),bO f U<|by intro w;cases w}
   have es:(d.A0.map V.ref).set st.mv.toNat (V.ref b')=(d.A0.set st.mv.toNat b').map V.ref:=by rw[List.map_set]
   rw[es];have ap:upd (upd H3 b'<|.dK []) d.r0 (.lst<|(d.A0.set st.mv.toNat b').map V.ref) a=some (.ins t.aP dx<|JR d.tb st.mv d.n):=by rwa[ac ra.symm,ac (bo U)]
   refine{_,M,a,_,dx,_,_,M,ap,T.ax,T.bp,wE,_,_,M,M,dx,_,ap,mK,?_};rw[Fd];have a3:∀{o:HO},upd (upd (upd H3 b'<|.dK []) d.r0<|.lst<|(d.A0.set st.mv.toNat b').map V.ref) a o d.r0=some (.lst<|(d.A0.set st.mv.toNat b').map V.ref):=by
    intro o;rw[ac ra,ag]
   have lS:(((d.A0.set st.mv.toNat b').map V.ref).length:Int)=st.size:=by rw[Q0,QH];exact hb.row0.la
   refine{_,M,a,_,dx,_,_,M,ag,T.ax,T.bp,wE,_,M,d.r0,_,M,.inl<|Dv.of a3,M,_,M,?_};rw[lS];have W:∀{o:HO},IJ (upd (upd (upd H3 b'<|.dK []) d.r0<|.lst<|(d.A0.set st.mv.toNat b').map V.ref) a o) d.r1 d.A1 (kv.foldl (eI m) d.C1) m:=λ{o}=>a0.frame λb hb1=>by
    have:b≠b'/\b≠d.r0/\b≠a:=by
     rcases hb1 with rfl|hb1
     .exact{bo g0,b4.symm,an}
     .exact Y b hb1
    rw[ac this.2.2,ac this.2.1,ac this.1]
   have K6:∀{o':HO}(b:G')(o:HO),¬JQ a st d b->H b=some o->upd (upd (upd H3 b'<|.dK []) d.r0<|.lst<|(d.A0.set st.mv.toNat b').map V.ref) a o' b=some o:=λ{o'} b o n q=>by
    let{f1,f2,f3,f4,_}:=hF b n;have q3:=K1 b o f1 f2 q;rwa[ac f3,ac f4,ac (bo q3)]
   refine bC (λc=>?_)<|λc=>?_
   .have c:st.mv+1=st.size:=V.int.inj (Kj c);refine{_,M,(by show 1<=sizeLine;decide),λtb' nt=>{_,M,a,_,dx,_,M,(by rw[ac (aj ag nt)];exact ag),T.ax,T.aM,mK,?_}};rw[HF];refine{_,M,a,_,dx,_,M,ag,T.ax,T.bp,mK,?_};rw[Fd,dR];have b5:tb'≠a:=(aj ag nt).symm;have b6:tb'≠d.r1:=(aj (W (o:= .ins t.aP dx<|JR d.tb (st.mv+1) d.n)).lst nt).symm;refine q _ _ (hb.last z e ek (tb':=tb') (dx:=dx) c ag (by rw[ac b5];exact ag) b6 ?_) M<|λb o n w=>?_
    .refine(W (o:= .ins t.aP dx<|JR d.tb (st.mv+1) d.n)).frame λb hb1=>?_;have:b≠a:=by
      rcases hb1 with rfl|hb1
      .exact an
      .exact(Y b hb1).2.2
     rw[ac this,ac (λw=>?_)];obtain⟨o,f⟩:∃o,upd (upd (upd H3 b'<|.dK []) d.r0<|.lst<|(d.A0.set st.mv.toNat b').map V.ref) a (.ins t.aP dx<|JR d.tb (st.mv+1) d.n) b=some o:=by
      rcases hb1 with rfl|hb1
      .exact{_,W.lst}
      .let{_,_,_,_,f}:=W.has hb1;exact{_,f}
     rw[w,nt]at f;cases f
    .let{f1,f2,f3,f4,f5,f6}:=hF b n;have k6:=K6 (o':= .ins t.aP dx<|JR d.tb (st.mv+1) d.n) b o n w;have bt:b≠tb':=aj k6 nt;refine{by rwa[ac f3,ac bt],λy=>?_};rcases y with y|y|y|y|⟨_,y⟩|y
     .exact f3 y
     .exact bt y
     .exact f6 y
     .exact f1 y
     .exact f6 y
     .cases y
   .have c:st.mv+1≠st.size:=λw=>c (Km<|by rw[w]);refine q _ _ (hb.one z e ek (b':=b') (dx:=dx) c ag (by rw[ac ta,ac hb.tr,ac (bo a9),a9,hb.tbl,e]) a3 ?_ b2 (λj b f1 f2=>?_) W) M<|λb o n w=>{K6 b o n w,λy=>?_}
    .have n1:b'≠a:=(bo U).symm;have n2:b'≠d.r0:=(bo G).symm;rw[ac n1,ac n2];exact ag
    .have bA:=Q1 f1;let{_,b3,_,_,f}:=hb.row0.has bA;have nc:b≠c0:=λw=>f2 (hb.row0.inj j _ c0 (w▸f1) ec);have f3:=K1 b _ (hb.dis b bA) nc f;rw[ac (bO f3 U<|by intro w;cases w),ac (bO f3 G<|by intro w;cases w),ac (bo f3),f3,f]
    .let{f1,f2,f3,f4,f5,f6}:=hF b n;rcases y with y|y|y|y|⟨_,y⟩|y
     .exact f3 y
     .exact f5 y
     .exact f4 y
     .let{j,hj,ej}:=QB (show b∈d.A0.set st.mv.toNat b' from y);rcases cO (Q2.mpr ⟨hj,ej⟩)with⟨_,g⟩|⟨_,g⟩
      .have:=K1 b o f1 f2 w;rw[g,O]at this;cases this
      .exact n<|.inr (.inr<|.inr<|.inl<|Q1 g)
     .exact f6 y
     .exact f1 y
def eQ:C5 P w K mg base IL 2 t.fZ t.cX [eH] (kN t):=by
 let{U,G}:=T.g_GREATEST_SIZE;let{Y,I}:=T.g_LEAST_SIZE;refine T.yN.okl kP λs H vs Q E hr h _=>?_;intro X;let{a,st,d,rfl,hb,z,hn,q}:=h;refine ah (aT (aq bH (az au {_} T.bq aZ (aa (ay AS M) af)) ae<|aw _)
    (aB mR)
    aF)
   (ah (IR 1<|az au {_} T.bq aZ (aa (aJ aL (ay AS M) ae<|λ_ _=>M) af))
   (Fh (λx y=>aT (PW.pt<|fH (aq qT (ay AS M) IC<|aw _)<|dW<|aq d9 IC (bV (v:= .int 256) {_} G {_,M})<|aw _) x y) ?_))
 refine aA (aN<|cZ Qq Z0 Z1 c6 (ay AS M)<|aa (aE (mV T) hr.mo {_} T.oW T.ku.kp T.pc .nil ar (aa (al cU IC ae) af)) af) ?_
 intros
 refine rq (λx=>aT (PW.pt<|fH (aq d9 (al cU ae<|ay AS M) IC<|aw _)<|dW<|aq qT IC (bV (v:= .int 4) {_} I {_,M})<|aw _) x aF) ?_;refine aA (aN<|cZ Qq Z0 Z1 c6 (ay AS M)<|aa (aE (mV T) hr.mo {_} T.oW T.ku.kp T.pc .nil ar (aa (al aK IC ae) af)) af) ?_
 intros
 let{dx,O}:=hb.obj;have W:=hb.tbl;cases e:st.nxt with
 |some m=>
  rw[e]at W;refine{_,M,a,_,dx,_,_,M,O,T.ax,T.aM,gc,d.tb,_,M,.inl<|Dv.of W,M,_,M,jT M ?_};have e1:st.three=st:=by unfold IE.three;rw[e]
  rw[e1]at q;exact q H d hb M Fr.refl
 |none=>
  rw[e]at W;refine{_,M,a,_,dx,_,_,M,O,T.ax,T.aM,gc,d.tb,_,M,.inl<|Dv.of W,M,_,M,bf (λz=>by cases z) ?_};have la:((d.A0.map V.ref).length:Int)=st.size:=by rw[Q0];exact hb.row0.la
  let{a3,a4}:=br z.pw;refine{_,M,a,_,dx,_,_,M,O,T.ax,T.aM,gc,d.tb,_,_,_,M,M,Dv.of W,M,d.r0,_,M,.inl<|Dv.of hb.row0.lst,?_};dsimp only;rw[la];have fin:∀{m:Int}{H':Hp}{r:G'}{A:Lu},st.three={st with nxt:=some m,mv:=0}->IA H H'->H r=none->(∀b∈A,H b=none)->IJ H' r A (List.replicate m.toNat []) m->H' d.tb=some (.lst [.ref d.r0])/\Q .non (upd H' d.tb<|.lst<|[.ref d.r0]++ [.ref r]):=λ{m H' r A} e3 s nr nA hr=>by
   have a0:=s _ _ W;have Z:∀b,JQ a st d b->∃o,H b=some o:=λb w=>hb.dom w;have a1:¬JQ a st d r:=λw=>by let{o,q}:=Z r w;rw[nr]at q;cases q
   have a2:∀b∈A,¬JQ a st d b:=λb hA w=>by let{o,q}:=Z b w;rw[nA b hA]at q;cases q
   refine{a0,?_};have sb:=hb.begin (H':=upd H' d.tb<|.lst [.ref d.r0,.ref r]) e (m:=m) (r:=r) (A:=A) (by rw[ac (bO O W<|by intro w;cases w),s _ _ O,O]) ag (λb hb1=>?_) (hr.frame λb hb1=>ac ?_) a1 a2
   .rw[<-e3]at sb;refine q _ _ sb M λb o n w=>{?_,λy=>?_}
    .rw[ac (λv=>n<|.inr<|.inl v)];exact s _ _ w
    .rw[e3]at y;rcases y with y|y|y|y|⟨_,y⟩|y
     .exact n<|.inl y
     .exact n<|.inr (.inl y)
     .exact n<|.inr (.inr<|.inl y)
     .exact n<|.inr (.inr<|.inr<|.inl y)
     .have y:b=r:=y;rw[y,nr]at w;cases w
     .rw[nA b y]at w;cases w
   .let{o,q}:=Z b (by
     rcases hb1 with w|w
     .exact .inr<|.inr (.inl w)
     .exact .inr<|.inr<|.inr<|.inl w)
    have:b≠d.tb:=by
     rcases hb1 with w|w
     .rw[w];exact hb.tr.symm
     .exact hb.row0.notr w W<|λ_ z=>by cases z
    rw[ac this,s _ _ q,q]
   .rcases hb1 with w|w
    .rw[w];exact λv=>by rw[v,W]at nr;cases nr
    .exact λv=>by have:=nA b w;rw[v,W]at this;cases this
  by_cases cA:st.size<d.n/\st.size<256
  .have e3:st.three={st with nxt:=some (2*st.size),mv:=0}:=by
    unfold IE.three;rw[e];exact Kd<|by rwa[<-hn]
   refine{_,M,a,_,dx,_,_,M,O,T.ax,T.bh,mL,_,M,_,_,M,M,_,M,ji cA.1 {_,M,_,_,M,M,_,M,ji cA.2 ?_}};refine{_,M,a,_,dx,_,_,M,O,T.ax,T.aM,gc,.inl {M,_,Dv.of W},_,M,_,_,M,M,.inr {(_),(_)},_,M,(),(),λH' r A s nr nA hr=>?_};let{f1,f2}:=fin (m:=st.size*2) (by rw[e3,XI]) s nr nA hr;exact{d.tb,_,_,M,M,f1,bR (by show 1<=1000;decide),f2}
  .by_cases cB:4*d.n<st.size/\4<st.size
   .have e3:st.three={st with nxt:=some (st.size/2),mv:=0}:=by
     unfold IE.three;rw[e];exact(Kc<|by rwa[<-hn]).trans<|Kd (by rwa[<-hn])
    have c1:¬st.size<d.n:=();refine{_,M,a,_,dx,_,_,M,O,T.ax,T.bh,mL,_,M,_,_,M,M,_,M,bf c1 ?_};refine{_,M,a,_,dx,_,_,M,O,T.ax,T.bh,mL,_,_,M,M,.inl {(_),(_)},_,M,_,_,M,M,_,M,ji cB.1 {_,M,_,_,M,M,_,M,ji cB.2 ?_}};refine{_,M,a,_,dx,_,_,M,O,T.ax,T.aM,gc,.inl {M,_,Dv.of W},_,M,_,_,M,M,{(_),(_)},_,M,(),(),λH' r A s nr nA hr=>?_};let{f1,f2}:=fin (m:=st.size/2) e3 s nr nA hr;exact{d.tb,_,_,M,M,f1,bR (by show 1<=1000;decide),f2}
   .have e3:st.three=st:=by
     unfold IE.three;rw[e];exact(Kc<|by rwa[<-hn]).trans<|Kc (by rwa[<-hn])
    rw[e3]at q;have q0:=q H d hb M Fr.refl;by_cases c1:st.size<d.n
    .have c2:¬st.size<256:=λw=>cA ⟨c1,w⟩;have c3:¬4*d.n<st.size:=();refine{_,M,a,_,dx,_,_,M,O,T.ax,T.bh,mL,_,M,_,_,M,M,_,M,ji c1 {_,M,_,_,M,M,_,M,bf c2 ?_}};exact{_,M,a,_,dx,_,_,M,O,T.ax,T.bh,mL,_,_,M,M,.inl {(_),(_)},_,M,_,_,M,M,_,M,bf c3 q0}
    .refine{_,M,a,_,dx,_,_,M,O,T.ax,T.bh,mL,_,M,_,_,M,M,_,M,bf c1 ?_};refine{_,M,a,_,dx,_,_,M,O,T.ax,T.bh,mL,_,_,M,M,.inl {(_),(_)},_,M,_,_,M,M,_,M,?_};by_cases c3:4*d.n<st.size
     .exact ji c3 {_,M,_,_,M,M,_,M,bf (λw=>cB ⟨c3,w⟩) q0}
     .exact bf c3 q0
section
variable{d:Jv}
def Iv.put(h:Iv t H a st d)(z:IN st){kv:Ll}(G:IsCell d st k c kv)(v:V):
  ∃d',Iv t (upd H c<|.dK<|aO<|bg kv k v) a {st with kv:=bg st.kv k v} d'/\d'.n=d.n/\∀b,JQ a {st with kv:=bg st.kv k v} d' b↔JQ a st d b:=
 h.setCell z G (yj (h.at G).2.2) (λ_ hp=>rC hp) (by rw[fj,fj,Kd M,Kd M]) λj I=>{by rw[fj,Kc I],by rw[fj,Kc I]}
def Iv.drop(h:Iv t H a st d)(z:IN st){kv:Ll}(G:IsCell d st k c kv):
  ∃d',Iv t (upd H c<|.dK<|aO<|bB kv k) a {st with kv:=bB st.kv k} d'/\d'.n=d.n/\∀b,JQ a {st with kv:=bB st.kv k} d' b↔JQ a st d b:=
 h.setCell z G (mW (h.at G).2.2) (λ_ hp=> .inl<|uG hp) (by rw[dM,dM,Kd M,Kd M]) λj I=>{by rw[dM,Kc I],by rw[dM,Kc I]}
def Iv.insM(h:Iv t H a st d):∃dx fs,H a=some (.ins t.aP dx fs)/\∀m,NoM m->fs.lookup m=none:=by
 let{dx,z}:=h.obj;exact{dx,_,z,λm G=>E9 G}
def IE.one_kv:st.one.kv=st.kv:=by
 unfold IE.one;cases st.nxt with
 |none=>rfl
 |some m=>show(if _ then _ else _:IE).kv=_;split<;>rfl
def IE.three_kv:st.three.kv=st.kv:=by
 unfold IE.three;cases st.nxt with
 |some m=>rfl
 |none=>show(if _ then _ else _:IE).kv=_;split;rfl;split<;>rfl
set_option tactic.hygienic true in
def zf{kv:Ll}:((bg kv k v).length:Int)=if(aI kv k).isSome=true then(kv.length:Int)else kv.length+1:=by
 have:=Ks List.length (m6 (kv:=kv) (k:=k) (v:=v));rw[Q0]at this;split
 .rename_i c;rw[Kd c,Q0]at this;lia
 .rename_i c;rw[Kc c,Q8,Q0]at this;simp at this;lia
end
def kX:C5 P w K mg base IL 4 t.nQ t.i4 [eH,eR] (sJ K t):=by
 refine T.ER.okl sW λs H vs Q E G h _=>?_;intro X;let{a,k,F,st,rfl,{d,hb,O,U,W,z},Z,q}:=h;refine{_,(aB<|aD<|Gn<|BR (oZ G) IC<|aR AS T.ax T.dO (bW T) G.mo T.dQ .nil ar<|aa IC af)
  ,?_}
 let{dx,fs,hi,Y}:=hb.insM;refine{_,M,_,M,a,dx,fs,M,hi,Y _ ∅,_,M,a,k,st,d,M,hb,z,λc kv I=>?_};let{hc,_,_}:=hb.at I;refine{c,_,M,JT.k (k:=Sum.inl k) hc,?_};rw[IP,hb.val k c kv I];exact q H F ⟨d,hb,O,U,W,z⟩ Fr.refl
def tG:C5 P w K mg base IL 4 t.nR t.i5 [eH,eR] (sK K t):=by
 refine T.ES.okl sX λs H vs Q E G h _=>?_;intro X;let{a,k,F,st,rfl,{d,hb,U,W,Y,z},h0,q1,q2}:=h;refine ah (IR 2<|aR AS T.ax T.dO (bW T) G.mo T.dQ .nil ar<|aa IC af)
   (ah (aT (ye<|uk (oZ G) IC IG)
    (aB iN)
    aF)
   (aA (aD<|Eb (oZ G) IG IC<|λ_ _=>M) ?_))
 intros
 have Z:JB K t H a F st:=⟨d,hb,U,W,Y,z⟩;let{dx,fs,hi,hm}:=hb.insM;refine{_,M,a,dx,fs,M,hi,hm _ ∅,_,M,a,k,st,d,M,hb,z,λc kv I=>?_};let{hc,_,_}:=hb.at I;have O:=hb.val k c kv I;refine{_,M,_,M,c,_,M,JT.k (k:=Sum.inl k) hc,?_};rw[IP,O];cases e:aI st.kv k with
 |none=>
  refine{_,M,cK ?_};exact(q2 e).elim
 |some v=>
  refine{_,M,db ?_};refine{_,M,_,M,c,v,M,?_,q1 v e H F Z Fr.refl};have:=JT.k (k:=Sum.inl k) hc;rw[IP,O,e]at this;exact this
def tF:C5 P w K mg base IL 4 t.nO t.iZ [eH,eR,oS] (sI K t):=by
 refine T.EQ.okl sV λs H vs Q E hr h _=>?_;intro X;let{a,k,i,F,st,rfl,{d,hb,hF,hn,nd,z},h0,hl,q}:=h;refine ah (aN<|hX AS T.ax T.mn (eO T) hr.mo T.mE .nil ar)
   (ah (IR 3<|aR AS T.ax T.dO (bW T) hr.mo T.dQ .nil ar<|aa IC af)
   (ah (aT (ye<|uk (oZ hr) IC IU)
    (aB<|kC AS ae yx)
    aF)
   (ah (vx (oZ hr) IU IC IG M)
   (aA (aN<|hX AS T.ax T.mq (eQ T) hr.mo T.mF .nil ar) ?_))))
 intros
 let{dx,fs,hi,hm}:=hb.insM;refine{_,M,a,dx,fs,M,hi,hm _ ∅,a,st,d,M,hb,z,hl,λH1 d1 hb1 e1 O=>?_};let{a6,a9,ab,am}:=hb1.insM;have z1:=z.one;refine{_,M,a,a6,a9,M,ab,am _ ∅,_,M,a,k,st.one,d1,M,hb1,z1,λc kv ic=>?_};let{hc,cF,_}:=hb1.at ic;have hv:=hb1.val k c kv ic;have sh:=hb1.short z1 ic;rw[IE.one_kv]at hv sh;let{U,W}:=hb1.obj;have na:a≠c:=bO W hc (by intro w;cases w);have key:∀(H2:Hp)(n2:Int),Iv t H2 a st.one {d1 with n:=n2}->Fr (JQ a st d) (JQ a st.one d1) H H2->n2=((bg st.kv k<|.int i).length:Int)->∃I,Iv t (upd H2 c<|.dK<|aO<|bg kv k<|.int i) a {st.one with kv:=bg st.one.kv k (.int i)} I/\I.n=((bg st.one.kv k<|.int i).length:Int)/\
   ∀H4 d4,Iv t H4 a (IE.three {st.one with kv:=bg st.one.kv k (.int i)}) d4->d4.n=I.n->Fr (JQ a {st.one with kv:=bg st.one.kv k (.int i)} I) (JQ a (IE.three {st.one with kv:=bg st.one.kv k (.int i)}) d4) (upd H2 c<|.dK<|aO<|bg kv k<|.int i) H4->Q .non H4:=λH2 n2 Y an ap=>by
  let{I,G,e3,f3}:=Y.put z1 (kv:=kv) ic (.int i);have Z:I.n=((bg st.one.kv k<|.int i).length:Int):=by rwa[e3,IE.one_kv]
  refine{I,G,Z,λH4 d4 a4 e4 a5=>?_};rw[IE.one_kv]at a4 a5 f3 Z;refine q H4 _ {d4,a4,λb=>Iff.rfl,?_,?_,?_} ?_
  .show d4.n=((IE.three _).kv.length:Int);rw[IE.three_kv,e4,Z]
  .show((IE.three _).kv.map (·.1)).Nodup;rw[IE.three_kv];exact yj nd
  .exact(z1.kv).three
  .have step:Fr (JQ a st.one d1) (JQ a {st.one with kv:=bg st.kv k (.int i)} I) H2 (upd H2 c<|.dK<|aO<|bg kv k<|.int i):=λb o n w=>{by rwa[ac (λy=>n<|by rw[y];exact cF)],λy=>n<|(f3 b).mp y};exact Fr.trans (λb o n w=>an b o (λy=>n<|(hF b).mpr y) w)<|Fr.trans step a5
 refine{_,M,_,M,c,_,M,JT.k (k:=Sum.inl k) hc,?_};rw[IP,hv];have kl:(aO kv).length<sizeLine:=by rw[c8];exact zY ()
 cases e:aI st.kv k with
 |none=>
  refine{_,M,cK ?_};refine{_,M,a,_,U,_,_,M,W,T.ax,T.bh,mL,_,_,M,M,U,_,W,mK,?_};rw[Fe];have Y:=hb1.setN (dx:=U) (n:=d1.n+1);have b1:upd H1 a (.ins t.aP U<|JR d1.tb st.one.moved<|d1.n+1) c=some (.dK<|aO kv):=by rwa[ac na.symm]
  let{I,G,n3,fin}:=key _ _ Y (λb o n w=>{by rw[ac (λy=>(O b o n w).2<|.inl y)];exact(O b o n w).1,(O b o n w).2}) (by rw[zf,e,e1,hn];rfl);refine{_,M,_,M,_,M,c,_,M,KS.k (k:=Sum.inl k) b1 kl,?_};rw[ii];let{a0,a1,a2,a3}:=G.insM;exact{_,M,a,a0,a1,M,a2,a3 _ ∅,a,_,I,M,G,z1.kv,n3,fin}
 |some v=>
  refine{_,M,db ?_};let{I,G,n3,fin}:=key H1 d1.n hb1 O (by rw[zf,e,e1,hn];rfl);refine{_,M,_,M,_,M,c,_,M,KS.k (k:=Sum.inl k) hc kl,?_};rw[ii];let{a0,a1,a2,a3}:=G.insM;exact{_,M,a,a0,a1,M,a2,a3 _ ∅,a,_,I,M,G,z1.kv,n3,fin}
def q9:C5 P w K mg base IL 5 t.lE t.gQ [eH,eR] (qk K t):=by
 refine T.DA.okl qE λs H vs Q E W h _=>?_;intro X;let{a,k,F,st,rfl,hA,h0,q1,q2}:=h;refine ah (aT (ot<|cT<|aR AS T.ax T.vK (kX T) W.mo T.vZ .nil ar<|aa IC af)
    (aB iN)
    aF)
   (ah (aN<|hX AS T.ax T.mn (eO T) W.mo T.mE .nil ar)
   (ah (aN<|cZ Zw Xm PySem.F.type_dict_pop y7 (aR AS T.ax T.dO (bW T) W.mo T.dQ .nil ar<|aa IC af)<|aa IC af)
   (ah (kC AS ae GM)
   (aA (aN<|hX AS T.ax T.mq (eQ T) W.mo T.mF .nil ar) ?_))))
 intros
 let{dx,fs,hi,Z}:=hA.ins;refine{_,M,a,dx,fs,M,hi,Z _ ∅,_,M,a,k,F,st,M,hA,h0,λH0 F0 a0 a1=>?_};cases e:aI st.kv k with
 |none=>
  refine{_,M,cK ?_};exact(q2 e).elim
 |some v=>
  refine{_,M,db ?_};let{d,hb,hF,hn,nd,z}:=a0;let{dx,fs,hi,Z}:=hb.insM;let{hl,q1}:=q1 (by rw[e];rfl);refine{_,M,a,dx,fs,M,hi,Z _ ∅,a,st,d,M,hb,z,hl,λH1 d1 hb1 e1 a2=>?_};let{a3,a4,a5,a6}:=hb1.insM;have Y:=z.one;refine{_,M,a,a3,a4,M,a5,a6 _ ∅,_,M,a,k,st.one,d1,M,hb1,Y,λc kv ic=>?_};let{hc,cF,_}:=hb1.at ic;have hv:=hb1.val k c kv ic;rw[IE.one_kv,e]at hv;let{d3,G,e3,f3}:=hb1.drop Y ic;rw[IE.one_kv]at G f3;refine{.inr<|.inr<|.inl {M,.inl {_,hc}},_,M,c,_,Sum.inl k,v,M,M,hc,IP.trans hv,?_};rw[rF];let{I,O}:=G.obj;refine{_,M,a,_,I,_,_,M,O,T.ax,T.bh,mL,_,_,M,M,I,_,O,mK,?_};rw[Fe];have U:=G.setN (dx:=I) (n:=d3.n-1);let{a9,ab,am,an}:=U.insM;have dl:=uH nd (pV e);have n4:d3.n-1=((bB st.kv k).length:Int):=by rw[e3,e1,hn];lia
  refine{_,M,a,a9,ab,M,am,an _ ∅,a,_,_,M,U,Y.kv,n4,λH5 d5 ap e5 b1=>?_};refine q1 H5 _ {d5,ap,λb=>Iff.rfl,?_,?_,Y.kv.three} ?_
  .show d5.n=((IE.three _).kv.length:Int);rwa[IE.three_kv,e5]
  .show((IE.three _).kv.map (·.1)).Nodup;rw[IE.three_kv];exact mW nd
  .refine a1.trans<|Fr.trans (λb o n w=>a2 b o (λy=>n<|(hF b).mpr y) w) (Fr.trans (λb o n w=>?_) b1);exact{by rwa[ac (λy=>n<|.inl y),ac (λy=>n<|by rw[y];exact cF)],λy=>n<|(f3 b).mp y}
def jK:C5 P w K mg base IL 1 t.lC t.gO [eH] (qi K t):=by
 refine T.Dy.okl qC λs H vs Q E W h _=>?_;intro X;let{a,F,st,rfl,{d,hb,hF,hn,nd,z},q}:=h;refine{_,(aB<|aD<|kE M (IF.of (M':=["row"]) (N:=[eH]) (N':=[eH]) (dsc:=ai dS) M M ∅) (dA<|ay AS M)<|λ_ _ _ _ _=>(az (tR K M) {_} T.bq aZ (aa AS af)))
  ,?_}
 have hA:JB K t H a F st:=⟨d,hb,hF,hn,nd,z⟩;let{dx,ho}:=hb.obj;have Y:∃xs,H d.tb=some (.lst xs)/\xs.length=st.rows.length/\∀(i:Nat)(x:V),xs[i]?=some x->∃r O,x= .ref r/\H r=some (.lst O)/\st.rows[i]?=some (O.length:Int):=by
  have G:=hb.tbl;have l0:((d.A0.map V.ref).length:Int)=st.size:=by rw[Q0];exact hb.row0.la
  unfold IE.rows;have r1:=hb.row1;cases e:st.nxt with
  |none=>
   rw[e]at G;refine{_,G,M,λi x hx=>?_};cases i with
   |zero=>cases hx;exact{d.r0,_,M,hb.row0.lst,by rw[l0];rfl}
   |succ j=>simp at hx
  |some m=>
   rw[e]at G r1;have l1:((d.A1.map V.ref).length:Int)=m:=by rw[Q0];exact r1.la
   refine{_,G,M,λi x hx=>?_};cases i with
   |zero=>cases hx;exact{d.r0,_,M,hb.row0.lst,by rw[l0];rfl}
   |succ j=>
    cases j with
    |zero=>cases hx;exact{d.r1,_,M,r1.lst,by rw[l1];rfl}
    |succ j=>simp at hx
 let{xs,G,lx,look}:=Y;refine{_,M,a,_,dx,_,_,M,ho,T.ax,T.aM,gc,d.tb,M,{_,Dv.of G},λD hD=>?_};refine oP (K:=K) (a:=d.tb) (xs:=xs) (λi ys H3=>H3=upd H D (.lst ys)/\ys=(st.rows.take i).map V.int) ⟨M,M⟩ (λi ys H3 _ w=>Dv.of<|by rwa[w.1,ac (aj G hD)]) (λi x ys H3 hx w I=>?_)<|λys H3 w I=>?_
 .let{U,e2}:=w;let{r,O,rfl,W,hs}:=look i x hx;have hi:i<xs.length:=(Q2.mp hx).1;have Z:H3 r=some (.lst O):=by rwa[U,ac (aj W hD)]
  refine{_,M,r,_,M,.inl<|Dv.of Z,IW.mk hi I ?_ {?_,?_}}
  .rw[e2,Q0,Qd];have:st.rows.length<=2:=by(unfold IE.rows;cases st.nxt<;>simp)
   exact bR ()
  .rw[U,dR]
  .rw[e2,Qt,hs,Q9];rfl
 .let{U,e2}:=w;rw[lx,QF]at e2;subst e2;subst U;exact q _ F D (hA.new hD) (Fr.of_same<|ak hD) hD (hA.out hD) ag
def Ga{sh:Int}:bF ("kept":Str) (.int n) (bF ("shifted":Str) (.int sh)<|bF ("table":Str) (.ref tb) [])=JR tb sh n:=by
 have z:bF ("table":Str) (.ref tb) []=[(("table":Str),V.ref tb)]:=M;rw[z,bF,Kc ∅,bF,bF,Kc ∅,bF,Kc ∅,bF];rfl
def qZ:C5 P w K mg base IL 2 t.lD t.gP [eH] (qj K t):=by
 let{G,z}:=T.g_LEAST_SIZE;refine T.Dz.okl qD λs H vs Q E I h _=>?_;intro X;let{a,dx,rfl,ha,hd,q}:=h;refine ah (bT AS (bn<|aa (aE (mV T) I.mo {_} T.oW T.ku.kp T.pc .nil ar (aa (bV (v:= .int 4) {_} z {_,M}) af)) af) M)
   (ah (bT AS ae M)
   (aA (bT AS ae M) ?_))
 intros
 refine{4,M,(_),(_),λH' r A s Z nA I=>{(by show 1<=sizeLine;decide),λtb nt=>?_}};have O:=s _ _ ha;have U:a≠tb:=aj O nt;refine{_,M,a,_,dx,[],M,(by rwa[ac U]),T.ax,T.aM,(by show 0<1000;decide),?_};refine{_,M,a,_,dx,_,M,ag,T.ax,T.bp,?_,?_}
 .show 1<1000;decide
 refine{_,M,a,_,dx,_,M,ag,T.ax,T.bh,?_,?_}
 .have h1:=jA (f:="shifted") (v:= .int 0) (bF "table" (.ref tb) []);have h2:=jA (f:="table") (v:= .ref tb) [];have h3:([]:L').length=0:=M;lia
 rw[Ga,dR,dR];have a0:tb≠r:=(aj I.lst nt).symm;have sb:=Iv.fresh (t:=t) (H:=upd (upd H' tb<|.lst [.ref r]) a<|.ins t.aP dx<|JR tb 0 0) (a:=a) (tb:=tb) (r:=r) (A:=A) (dx:=dx) ag (by rw[ac U.symm];exact ag) (I.frame λb hb1=>?_) a0
 .refine q _ _ {_,sb,λb=>Iff.rfl,M,Zl,IN.new} λb o n w=>?_;have W:b≠a:=λy=>n (.inl y);have w1:=s _ _ w;have Y:b≠tb:=aj w1 nt;refine{by rwa[ac W,ac Y],λy=>?_};rcases y with y|y|y|y|⟨y,_⟩|y
  .exact W y
  .exact Y y
  .have y:b=r:=y;rw[y,Z]at w;cases w
  .rw[nA b y]at w;cases w
  .cases y
  .cases y
 .have:∃o,H' b=some o:=by
   rcases hb1 with rfl|hb1
   .exact{_,I.lst}
   .let{_,_,_,_,w}:=I.has hb1;exact{_,w}
  let{o,w}:=this;have Y:b≠tb:=aj w nt;have W:b≠a:=λy=>by
   rcases hb1 with y2|y2
   .rw[<-y2,y,ha]at Z;cases Z
   .have:=nA b y2;rw[y,ha]at this;cases this
  rw[ac W,ac Y]
def jJ:C5 P w K mg base IL 3 t.lw t.gM [eH,"place"] (qg K t):=by
 refine T.Dw.okl qA λs H vs Q E G h _=>?_;intro X;let{a,p,F,st,rfl,I,p0,U,q}:=h;refine ah (IR 2<|az (uL M) {_} T.wm oQ (aa (hX AS T.ax T.tN (jK T) G.mo T.tT .nil ar) af))
   (aA (aD<|aJ bz (aE (tm T) G.mo {_} T.Er T.wf.kp T.EE .nil ar (aa (aE (qV T) G.mo {_} T.Aq T.u0.kp T.AO .nil ar (aa IC<|aa IG af))<|aa IG af)) ae<|λ_ _=>M) ?_)
 intros
 have z:IN st:=let⟨_,_,_,_,_,z⟩:=I;z
 let{s4,s5}:=br (gK z);let{x,y,R}:=vt (gK z);let{dx,fs,hi,W}:=I.ins;refine{_,M,a,dx,fs,M,hi,W _ ∅,a,F,st,M,I,λH1 F1 l Y fr nl oF hl=>{l,st.rows,M,Dv.of hl,?_,λM' Z O=>?_}}
 .unfold IE.rows;cases st.nxt<;>simp
 .have eM:=Cj Z O;subst eM;refine{_,M,_,M,p,_,M,p0,(),_,M,_,_,M,Qf _ (),(),(),λtp nt=>?_};rw[vc R p0 U];exact{tp,_,_,_,M,M,JE.of ag,M,q _ F1 (Y.new nt)<|fr.trans (Fr.of_same<|ak nt)}
set_option genInjectivity false in
structure Rw where
 r:Addr
 A:List Addr
 C:List (List<|Int×V)
 s:Int
noncomputable def dL(st:IE)(d:Jv):List Rw:=match st.nxt with|none=> [⟨d.r0,d.A0,d.C0,st.size⟩]|some m=> [⟨d.r0,d.A0,d.C0,st.size⟩,⟨d.r1,d.A1,d.C1,m⟩]
def Ir(k:Int):Int:=tz (k%65536)
def pX{st:Int}{x:Nat}(h:0<st):x<mC lo hi st↔lo+(x:Int)*st<hi:=by
 unfold mC;rw[kU h];by_cases c:lo<hi
 .rw[Kd c];have a:0<=(hi-lo-1)/st:=K2 () ();have e:(x:Int)<=(hi-lo-1)/st↔(x:Int)*st<=hi-lo-1:=Int.le_ediv_iff_mul_le h;lia
 .rw[Kc c];have:0<=(x:Int)*st:=X8 () ();lia
def d8{kv:Ll}(z:(kv.map (·.1)).Nodup)(h:(k,v)∈kv):aI kv k=some v:=by
 induction kv with
 |nil=>cases h
 |cons p r G=>
  rw[Qs,QP]at z;by_cases e:p.1=k
  .rw[a7 e];rcases Q7.mp h with h|h
   .rw[<-h]
   .exact Kh (QK (f:=(·.1)) h)<|by rw[<-e]at*;exact z.1
  .rw[aW e];rcases Q7.mp h with h|h
   .rw[<-h]at e;exact Kh M e
   .exact G z.2 h
def jP{kv:Ll}(h:aI kv k=some v):(k,v)∈kv:=by
 induction kv with
 |nil=>rw[jn]at h;cases h
 |cons p r z=>
  by_cases e:p.1=k
  .rw[a7 e]at h;cases h;rw[<-e];exact Q6
  .rw[aW e]at h;exact Qc _<|z h
def p6{d:Jv}{ri:Nat}{R:Rw}{kv:Ll}(hb:Iv t H a st d)(U:(dL st d)[ri]?=some R)(hk:R.C[j]?=some kv)(W:(k,v)∈kv):
  k%65536%R.s=(j:Int)/\(kv.map (·.1)).Nodup/\∃c,IsCell d st k c kv:=by
 have O:∀{A:Lu}{C:List (List<|Int×V)}{r:G'}{s:Int}{x:Nat},IJ H r A C s->C[x]?=some kv->∃b,A[x]?=some b:=λ{A C r s x} ro h=>by
  have h1:=(Q2.mp h).1;have h2:=ro.la;have h3:=ro.lc;exact{A[x]'(),Q3 _}
 have Y:kv≠[]:=λz=>by rw[z]at W;cases W
 have I:=hb.row1;have zero:(j:Int)<st.moved->d.C0[j]?=some kv->False:=λh1 h2=>Y (hb.old _ _ h2 h1);unfold dL at U;cases en:st.nxt with
 |none=>
  rw[en]at U;cases ri with
  |zero=>
   cases U;have G:=hb.row0.home _ _ hk _ W;let{b,Z}:=O hb.row0 hk;refine{G,hb.row0.ndk _ _ hk,b,.inl {?_,by rwa[G],by rwa[G]}};rw[G,IE.moved_none en];lia
  |succ j=>simp at U
 |some m=>
  rw[en]at U I;cases ri with
  |zero=>
   cases U;have G:=hb.row0.home _ _ hk _ W;let{b,Z}:=O hb.row0 hk;refine{G,hb.row0.ndk _ _ hk,b,.inl {?_,by rwa[G],by rwa[G]}};rw[G];exact Int.not_lt.mp λy=>zero y hk
  |succ j'=>
   cases j' with
   |zero=>
    cases U;have G:=I.home _ _ hk _ W;let{b,Z}:=O I hk;exact{G,I.ndk _ _ hk,b,.inr {_,en,hb.new _ _ hk _ W,by rwa[G],by rwa[G]}}
   |succ j=>simp at U
noncomputable def kR(C:List (List<|Int×V))(s m:Int)(x:Nat):List (Int×V):=C.getD (s+(x:Int)*m).toNat []
def DY(s m:Int)(R:Rw):List (Int×V):=(List.range<|mC s R.s m).flatMap (kR R.C s m)
def Gz(st:IE)(d:Jv)(s:Int):List (Int×V):=(dL st d).flatMap (DY s st.low)
def oq{d:Jv}(z:IN st){R:Rw}(h:R∈dL st d):R.s=st.low\/R.s=2*st.low:=by
 unfold dL at h;unfold IE.low;cases e:st.nxt with
 |none=>rw[e]at h;rw[Qa.mp h];exact .inl M
 |some m=>
  rw[e]at h;let{_,_,_,nx}:=z.nx m e;have p:=br z.pw;show R.s=(if m<st.size then m else st.size)\/R.s=2*(if m<st.size then m else st.size);rcases Q7.mp h with h|h
  .rw[h];show st.size=_\/st.size=_;split<;>lia
  .rw[Qa.mp h];show m=_\/m=_;split<;>lia
def ze{x r:Int}(h:r=m\/r=2*m):x%r%m=x%m:=by
 rcases h with rfl|rfl
 .exact Int.emod_emod_of_dvd _<|Int.dvd_refl _
 .exact Int.emod_emod_of_dvd _ {2,()}
def El{d:Jv}{s:Int}(hb:Iv t H a st d)(z:IN st)(nd:(st.kv.map (·.1)).Nodup)(s0:0<=s)(s1:s<st.low)(k:Int)(v:V):
  (k,v)∈Gz st d s↔(k,v)∈st.kv/\k%65536%st.low=s:=by
 have lp:=br (gK z);constructor
 .intro h;let{R,G,h}:=ZF.mp h;let{x,hx,h}:=ZF.mp h;have hx:=K4.mp hx;have O:=oq z G;let{ri,U,W}:=QB G;have W:(dL st d)[ri]?=some R:=by rw[Q3 U,W]
  unfold kR at h;have xs:=(pX ()).mp hx;have xm:0<=(x:Int)*st.low:=X8 () ();cases Y:R.C[(s+(x:Int)*st.low).toNat]? with
  |none=>rw[Qm,Y]at h;cases h
  |some kv=>
   rw[Qm,Y]at h;have h:(k,v)∈kv:=h;let{h1,h2,c,I}:=p6 hb W Y h;refine{jP (by rw[<-hb.val k c kv I];exact d8 h2 h),?_};rw[<-ze O,h1,Xz (),Int.add_mul_emod_self_right];exact Int.emod_eq_of_lt s0 s1
 .rintro ⟨h,hs⟩;let{c,kv,Z}:=hb.cell z k;have hv:=hb.val k c kv Z;rw[d8 nd h]at hv;have hm:=jP hv;have fin:∀R:Rw,R∈dL st d->R.C[(k%65536%R.s).toNat]?=some kv->(k,v)∈Gz st d s:=λR G hk=>by
   have O:=oq z G;have j0:0<=k%65536%R.s:=Qf _ ();have j1:k%65536%R.s<R.s:=Qe _ ();have jm:=ze (x:=k%65536) O;rw[hs]at jm;have dv:=Xn (k%65536%R.s) st.low;have q0:0<=k%65536%R.s/st.low:=K2 j0 ();have eq:s+((k%65536%R.s/st.low).toNat:Int)*st.low=k%65536%R.s:=by
    rw[Xz q0,XI];lia
   refine ZF.mpr {R,G,ZF.mpr {(k%65536%R.s/st.low).toNat,K4.mpr<|(pX ()).mpr (by rwa[eq]),?_}};unfold kR;rwa[eq,Qm,hk]
  rcases Z with⟨_,_,I⟩|⟨m,en,_,_,I⟩
  .refine fin ⟨d.r0,d.A0,d.C0,st.size⟩ ?_ I;unfold dL;cases st.nxt<;>simp
  .refine fin ⟨d.r1,d.A1,d.C1,m⟩ ?_ I;unfold dL;rw[en];simp
def kG{C:List (List<|Int×V)}{s:Int}{x:Nat}{p:Int×V}(h:p∈kR C s m x):∃kv,C[(s+(x:Int)*m).toNat]?=some kv/\p∈kv:=by
 unfold kR at h;cases z:C[(s+(x:Int)*m).toNat]? with
 |none=>rw[Qm,z]at h;cases h
 |some kv=>
  rw[Qm,z]at h;exact⟨kv,M,h⟩
def Aj{d:Jv}{s:Int}(hb:Iv t H a st d)(z:IN st)(s0:0<=s):((Gz st d s).map (·.1)).Nodup:=by
 have lp:=br (gK z);refine QS.mpr ?_;have row:∀R∈dL st d,(DY s st.low R).Pairwise (λp q=>p.1≠q.1):=λR I=>by
  let{ri,O,G}:=QB I;have G:(dL st d)[ri]?=some R:=by rw[Q3 O,G]
  refine List.pairwise_flatMap.mpr {λx _=>?_,?_}
  .unfold kR;cases U:R.C[(s+(x:Int)*st.low).toNat]? with
   |none=>rw[Qm,U];exact Kx
   |some kv=>
    rw[Qm,U];show List.Pairwise _ kv;cases Z:kv with
    |nil=>exact Kx
    |cons p r=>
     have:=(p6 hb G U (k:=p.1) (v:=p.2)<|by rw[Z];exact Q6).2.1;rw[Z]at this;exact QS.mp this
  .refine(List.pairwise_lt_range (n:=mC s R.s st.low)).imp λ{x y} a3 p hp q hq e=>?_;let{kv,h1,h2}:=kG hp;let{kv',W,Y}:=kG hq;have a1:=(p6 hb G h1 h2).1;have a2:=(p6 hb G W Y).1;have m1:(x:Int)*st.low<(y:Int)*st.low:=Int.mul_lt_mul_of_pos_right () ();have m0:0<=(x:Int)*st.low:=X8 () ();rw[e,a2]at a1;lia
 refine List.pairwise_flatMap.mpr {row,?_};have a0:=hb.row1;unfold dL;cases en:st.nxt with
 |none=>exact Zf _ _
 |some m=>
  refine Za.mpr {λR I p hp q hq e=>?_,Zf _ _};rw[Qa.mp I]at hq;let{x,_,hp}:=ZF.mp hp;let{y,_,hq}:=ZF.mp hq;let{kv,h1,h2}:=kG hp;let{kv',W,Y}:=kG hq;have n1:=hb.new _ _ W _ Y;have n2:=hb.row0.home _ _ h1 _ h2;have n3:¬((s+(x:Int)*st.low).toNat:Int)<st.moved:=λc=>by
   have:=hb.old _ _ h1 c;rw[this]at h2;cases h2
  rw[<-e,n2]at n1;exact n3 n1
structure Ly(X:Lu)(H H':Hp)(l:G')(ts:List Tp)(L:Ll):Prop where
 sm:∀c o,c∉X->H c=some o->H' c=some o
 li:H' l=some (.lst<|ts.map λe=>V.ref e.p)
 tu:∀e∈ts,H' e.p=some (.tup [.int (Ir e.k),.int e.k,e.v])/\H e.p=none
 eq:ts.map Tp.kv=L
section
variable{X:Lu}{H'':Hp}{l:G'}{L:Ll}
def Ly.same(h:Ly X H H' l ts L)(s:IA H' H''):Ly X H H'' l ts L:={λc o n e=>s _ _<|h.sm c o n e,s _ _ h.li,λe he=>{s _ _ (h.tu e he).1,(h.tu e he).2},h.eq}
def Ly.add(h:Ly X H H' l ts L)(s:IA H' H'')(G:H' p=none)(U:H l=none)(W:∀c∈X,∃o,H c=some o/\∃o',H' c=some o')(Y:H'' p=some (.tup [.int (Ir k),.int k,v])):
  Ly X H (upd H'' l<|.lst<|ts.map (λe=>V.ref e.p)++ [.ref p]) l (ts++ [⟨p,k,v⟩]) (L++ [(k,v)]):=by
 have pl:p≠l:=λz=>by rw[z,h.li]at G;cases G
 have I:H p=none:=by
  cases q:H p with
  |none=>rfl
  |some o=>
   by_cases c:p∈X
   .let{_,_,o',O}:=W p c;rw[G]at O;cases O
   .rw[h.sm _ _ c q]at G;cases G
 have h2:=h.same s;refine{λc o n e=>?_,by rw[ag,Q9];rfl,λe he=>?_,by rw[Q9,h.eq];rfl}
 .rw[ac λz=>by rw[z,U]at e;cases e];exact h2.sm c o n e
 .rcases Q4.mp he with he|he
  .have q:=h2.tu e he;exact{by rw[ac λz=>by rw[z,h2.li]at q;cases q.1];exact q.1,q.2}
  .rw[Qa.mp he];exact{by rwa[ac pl],I}
def Ly.freeze{o':HO}(h:Ly [] H H' l ts L)(hb:H b=some o)(bl:b≠l):Ly [b] H (upd H' b o') l ts L:=
 {λc o n e=>by rw[ac λz=>n (by rw[z];exact Q6)];exact h.sm c o (by simp) e,by rw[ac bl.symm];exact h.li,
  λe he=>{by rw[ac λz=>by have:=(h.tu e he).2;rw[z,hb]at this;cases this];exact(h.tu e he).1,(h.tu e he).2},h.eq}
def Ly.thaw(h:Ly [b] H H' l ts L)(hb:H b=some o)(bl:b≠l):Ly [] H (upd H' b o) l ts L:=by
 refine{λc o' _ e=>?_,by rw[ac bl.symm];exact h.li,λe he=>{by rw[ac λz=>by have:=(h.tu e he).2;rw[z,hb]at this;cases this];exact(h.tu e he).1,(h.tu e he).2},h.eq};by_cases z:c=b
 .rwa[z,ag,<-hb,<-z]
 .rw[ac z];exact h.sm c o' (by simpa using z) e
end
def lO(K:Jc)(t:IT):Sp:=λvs H Q _=>∃(a:G')(p:Int)(F:Li)(st:IE),vs=[.ref a,.int p]/\JB K t H a F st/\0<=p/\p<65536/\st.kv.length<4096/\
 ∀(H':Hp)(F':Li)(l:G')(ts:List Tp),JB K t H' a F' st->Fr F F' H H'->¬F' l->H' l=some (.lst<|ts.map λe=>V.ref e.p)->(∀e∈ts,H' e.p=some (.tup [.int (Ir e.k),.int e.k,e.v])/\¬F' e.p)->
  (∀k v,(k,v)∈ts.map Tp.kv↔(k,v)∈st.kv/\k%65536%st.low=tz p%st.low)->((ts.map Tp.kv).map (·.1)).Nodup->Q (.ref l) H'
def FO{d:Jv}(hb:Iv t H a st d)(sz:IN st):∃xs,H d.tb=some (.lst xs)/\xs.length=(dL st d).length/\(dL st d).length<=2/\
  ∀(i:Nat)(x:V),xs[i]?=some x->∃R:Rw,x= .ref R.r/\(dL st d)[i]?=some R/\IJ H R.r R.A R.C R.s/\R.s<=256/\∀(j:Nat)(kv:Ll),R.C[j]?=some kv->kv.length<=st.kv.length:=by
 have pw:=br sz.pw;have z:=hb.tbl;have r1:=hb.row1;unfold dL;cases e:st.nxt with
 |none=>
  rw[e]at z;refine{_,z,M,by simp,λi x hx=>?_};cases i with
  |zero=>cases hx;exact{_,M,M,hb.row0,pw.2,λj kv h=>hb.short0 sz h}
  |succ j=>simp at hx
 |some m=>
  rw[e]at z r1;refine{_,z,M,by simp,λi x hx=>?_};cases i with
  |zero=>cases hx;exact{_,M,M,hb.row0,pw.2,λj kv h=>hb.short0 sz h}
  |succ j=>
   cases j with
   |zero=>cases hx;exact{_,M,M,r1,(br (sz.nx m e).1).2,λj kv h=>hb.short1 sz e h}
   |succ j=>simp at hx
def CI{RR:List Rw}{f:Rw->List (Int×V)}{R:Rw}(e:RR[i]?=some R):(RR.take<|i+1).flatMap f=(RR.take i).flatMap f++f R:=by
 rw[Qt,e,List.flatMap_append];simp
def yB{f:Nat->List (Int×V)}{x:Nat}:(List.range<|x+1).flatMap f=(List.range x).flatMap f++f x:=by
 rw[List.range_succ,List.flatMap_append];simp
def zS{kv:Ll}{p:Int×V}(e:kv[i]?=some p):kv.take (i+1)=kv.take i++ [p]:=by
 rw[Qt,e];rfl
def mh:C5 P w K mg base IL 3 t.gi t.dE [eH,"place"] (lO K t):=by
 refine T.zI.okl lT λs H vs Q E hr h _=>?_;intro X;let{a,p,F,st,rfl,hA,p0,p1,b1,q}:=h;refine ah (IR 2<|az (uL M) {_} T.wm oQ (aa (hX AS T.ax T.tN (jK T) hr.mo T.tT .nil ar) af))
   (ah (IR 3<|bn af)
   (cv (λx=>(l7 Kw M (dA<|ay AS M) (L9 4)
    x)) ?_))
 refine rq (λx=>(l7 Kw M (Ab {_} T.mG (aa (aE (qV T) hr.mo {_} T.Aq T.u0.kp T.AO .nil ar (aa IC<|aa IG af))<|aa (az au {_} T.bq aZ (aa JF af))<|aa IG af)) (L9 5)
    x)) ?_
 refine rq (λx=>(yX (l7 Kw M (wL<|BP Zw Xd PySem.F.type_dict_items wS<|aJ aL JF Jw<|λ_ _=>M) (qS M<|cJ (L9 6)<|cJ (L9 7) mT)
    x))) ?_
 refine aA (aN<|cZ Qq Z0 Z1 c6 IU<|aa (bj<|aa (aE (wO T) hr.mo {_} T.Gw T.yJ.kp T.G4 .nil ar (aa LP af))<|aa LP<|aa pv7 af) af) ?_
 intros
 refine aA (aD IU) ?_
 intros
 have z:IN st:=let⟨_,_,_,_,_,z⟩:=hA;z
 let{s4,s5}:=br (gK z);let{dx,fs,hi,hm}:=hA.ins;refine{_,M,a,dx,fs,M,hi,hm _ ∅,a,F,st,M,hA,λH1 F1 lr sA fr b2 oF a3=>{lr,st.rows,M,Dv.of a3,?_,λM' hM a4=>?_}}
 .unfold IE.rows;cases st.nxt<;>simp
 have eM:=Cj hM a4;subst eM;have sB:=sA;let{d,hb,hF,hn,nd,_}:=sB;let{a5,ho}:=hb.obj;let{xs,ht,lx,l2,look}:=FO hb z;have g0:0<=tz p%st.low:=Qf _ ();have g1:tz p%st.low<st.low:=Qe _ ();have U:st.low>0:=();refine{Qh _,λl nl=>?_};have y0:Ly [] H1 (upd H1 l<|.lst []) l [] []:={λc o _ e=>ak nl _ _ e,ag,(λe he=>by cases he),M};generalize upd H1 l (.lst [])=H2 at y0⊢;generalize hs:tz p%st.low=I at g0 g1 q;refine{_,M,a,_,a5,_,_,M,y0.sm _ _ (by simp) ho,T.ax,T.aM,gc,d.tb,M,{_,Dv.of<|y0.sm _ _ (by simp) ht},uC (K:=K) (a:=d.tb) (xs:=xs) (λi B H'=>∃(v4 v5 W Y:Me)(ts:List Tp),B=[some (.ref a),some (.int p),some (.int st.low),some (.ref l),v4,v5,W,Y]/\Ly [] H1 H' l ts (((dL st d).take i).flatMap<|DY I st.low)/\ts.length<=8192*i)
  {_,_,_,_,[],M,y0,by simp} (λi B H' _ w=>by let{_,_,_,_,_,_,c,_}:=w;exact Dv.of<|c.sm _ _ (by simp) ht) (λi x B H' hx w=>?_) (λB H' w=>?_)}
 .let{v4,v5,W,Y,ts,G,c,lt}:=w;subst G;let{R,rfl,hR,ro,ap,a6}:=look i x hx;have hr:=c.sm _ _ (by simp) ro.lst;have iL:=(Q2.mp hx).1;have lA:((R.A.map V.ref).length:Int)=R.s:=by rw[Q0];exact ro.la
  have rl:=oq z (Q1 hR);have a0:∀y:Nat,y<mC I R.s st.low->y<2:=λy hy=>by
   have:=(pX U).mp hy;refine Nat.lt_of_not_le λy2=>?_;have:(2:Int)*st.low<=(y:Int)*st.low:=XW () ();lia
  have b3:mC I R.s st.low<=2:=by
   by_cases c0:mC I R.s st.low=0
   .lia
   .have:=a0 (mC I R.s st.low-1) ();lia
  refine{_,M,_,M,p,_,M,p0,U,_,M,R.r,_,M,.inl<|Dv.of hr,_,M,_,_,_,M,?_,?_}
  .rw[hs,lA];exact{(),(),(),(),(),()}
  rw[hs,lA];generalize a9:((dL st d).take i).flatMap (DY I st.low)=L0 at c;refine xg (n:=mC I R.s st.low) (λx B H'=>∃(v5 W Y:Me)(ts:List Tp),B=[some (.ref a),some (.int p),some (.int st.low),some (.ref l),some (.ref R.r),v5,W,Y]/\Ly [] H1 H' l ts (L0++(List.range x).flatMap (kR R.C I st.low))/\ts.length<=8192*i+4096*x)
   {_,_,_,ts,M,by simpa using c,()} (λx B H' hx w=>?_) (λB H' w=>?_)
  .let{v5,W,Y,ts,G,c,lt}:=w;subst G;have b4:=(pX U).mp hx;have x2:=a0 x hx;have xm:0<=(x:Int)*st.low:=X8 () ();have la:=ro.la;have lc:=ro.lc;have eb:R.A[(I+(x:Int)*st.low).toNat]?=some (R.A[(I+(x:Int)*st.low).toNat]'()):=Q3 ();have ek:R.C[(I+(x:Int)*st.low).toNat]?=some (R.C[(I+(x:Int)*st.low).toNat]'()):=Q3 ();generalize R.A[(I+(x:Int)*st.low).toNat]'()=b at eb;generalize R.C[(I+(x:Int)*st.low).toNat]'()=kv at ek;have O:=ro.cell _ _ _ eb ek;have b5:=a6 _ _ ek;have Z:=c.sm _ _ (by simp) O;have ab:=c.sm _ _ (by simp) ro.lst;have bl:b≠l:=λz=>by rw[z,nl]at O;cases O
   refine{b,aO kv,Z,_,M,_,M,R.r,_,_,_,M,M,Dv.of ab,rD () eb,.inr<|.inr<|.inl {M,.inl {_,Z}},b,aO kv,M,M,Z,λvw nv=>?_};have am:upd H' vw (LV vw b) b=some (.dK<|aO kv):=by rwa[ac (aj Z nv)]
   refine{vw,b,aO kv,M,ag,am,λob=>?_};have cF:=(c.same<|ak (o:=LV vw b) nv).freeze (o':= .frz ob<|.dK<|aO kv) O bl;generalize an:L0++(List.range x).flatMap (kR R.C I st.low)=L1 at cF;refine rO (λy B H''=>∃(W Y:Me)(ts:List Tp),B=[some (.ref a),some (.int p),some (.int st.low),some (.ref l),some (.ref R.r),some (.int<|I+(x:Int)*st.low),W,Y]/\Ly [b] H1 H'' l ts (L1++kv.take y)/\H'' b=some (.frz ob<|.dK<|aO kv)/\ts.length<=8192*i+4096*x+y)
    {_,_,ts,M,by simpa using cF,ag,()} (λy B H'' _ w=>by let{_,_,_,_,_,hf,_}:=w;exact hf) (λy k v p' B H'' ei w np=>?_) (λB H'' w=>?_)
   .let{W,Y,ts,G,c,hf,lt}:=w;subst G;let{n,rfl,en}:=ux ei;have yl:=(Q2.mp en).1;refine{p',_,M,JE.of ag,M,_,_,M,_,_,M,M,?_};have c3:=c.same (ak (o:= .tup [kV (Sum.inl n),v]) np);have a1:=ak (o:= .tup [kV (Sum.inl n),v]) np _ _ hf;generalize upd H'' p' (.tup [kV (Sum.inl n),v])=H3 at c3 a1⊢;refine{_,M,.inl {M,_,Dv.of c3.li},_,M,n,M,_,M,_,M,(by show 3<=sizeLine;decide),λp2 a2=>?_};have s4:IA H3 (upd H3 p2<|.tup [.int (tz<|n%65536),kV (Sum.inl n),v]):=ak a2;have e4:upd H3 p2 (.tup [.int (tz<|n%65536),kV (Sum.inl n),v]) p2=some (.tup [.int (Ir n),.int n,v]):=ag;generalize upd H3 p2 (.tup [.int (tz<|n%65536),kV (Sum.inl n),v])=H4 at s4 e4⊢;refine{l,_,_,M,M,s4 _ _ c3.li,a8 (by rw[Q0];lia),?_};refine{_,_,ts++ [⟨p2,n,v⟩],M,?_,?_,?_}
    .rw[zS en,<-Qp];exact c3.add s4 a2 nl (λc hc=>by rw[Qa.mp hc];exact{_,O,_,a1}) e4
    .rw[ac bl];exact s4 _ _ a1
    .rw[Q8,Zo];lia
   .let{W,Y,ts,G,c,hf,lt}:=w;subst G;rw[c8,QF]at c;rw[c8]at lt;refine{ob,hf,_,_,_,ts,M,?_,()};rw[yB,<-Qp,show kR R.C I st.low x=kv by unfold kR;rw[Qm,ek];rfl];rw[an];exact c.thaw O bl
  .let{v5,W,Y,ts,G,c,lt}:=w;subst G;exact{_,_,_,_,ts,M,by rw[CI hR,a9];exact c,()}
 .let{v4,v5,W,Y,ts,G,c,lt}:=w;subst G;rw[lx,QF]at c;have e:=c.eq;have sm:IA H1 H':=λb o e=>c.sm b o (by simp) e;refine{_,M,q H' F1 l ts (sA.same sm) (fr.trans<|Fr.of_same sm) (sA.out nl) c.li (λe he=>{(c.tu e he).1,sA.out (c.tu e he).2}) (λk v=>?_) ?_}
  .rw[e];exact El hb z nd g0 g1 k v
  .rw[e];exact Aj hb z g0
def vo{S p:Int}{a b:Nat}(R:Row S a b)(G:0<=p)(h1:p<65536)(hS:S<=65536):k%65536%S=tz p%S↔Ir k/(65536/S)=p/(65536/S):=by
 have I:=R.wpos';have z:=vc R G h1;have k0:0<=k%65536:=Qf _ (_);have O:k%65536<65536:=Qe _ (_);have e2:=vc R (p:=Ir k) (nZ _) (EY _);rw[show tz (Ir k)=k%65536 from yR k0 O]at e2;have U:=R.mod0 (k%65536);have Y:=R.mod1 (k%65536);have W:=R.mod0 (tz p);have Z:=R.mod1 (tz p);constructor
 .intro e;rw[e,z]at e2;have:=Int.eq_of_mul_eq_mul_right (QW I) e2;lia
 .intro e;rw[e,<-z]at e2;exact FL U () W () ()
def Gg(k:Int):0<=Ir k/\Ir k<65536:={nZ _,EY _}
def vA{f:α->β}:∀{ts:List α}{l:List β},l.Perm (ts.map f)->∃us:List α,us.Perm ts/\us.map f=l:=by
 intro ts l h;generalize e:ts.map f=m at h
 induction h generalizing ts with
 |nil=>exact{[],by rw[List.map_eq_nil_iff.mp e],M}
 |cons x _ I=>
  cases ts with
  |nil=>cases e
  |cons y ts=>
   rw[Qs]at e;injection e with e1 e2;let{us,h1,h2}:=I e2;exact{y::us,h1.cons y,by rw[Qs,h2,e1]}
 |swap x y l=>
  cases ts with
  |nil=>cases e
  |cons a ts=>
   cases ts with
   |nil=>cases e
   |cons b ts=>
    rw[Qs,Qs]at e;injection e with e1 e2;injection e2 with e2 e3;exact{b::a::ts,List.Perm.swap a b ts,by rw[Qs,Qs,e1,e2,e3]}
 |trans _ _ z G=>
  let{us,h1,h2}:=G e;let{O,U,W}:=z h2;exact{O,U.trans h1,W}
def ou(x y:Int×V):Prop:=Ir x.1<Ir y.1\/(Ir x.1=Ir y.1/\x.1<y.1)
def qh(K:Jc)(t:IT):Sp:=λvs H Q _=>∃(a:G')(lo hi:Int)(F:Li)(st:IE),vs=[.ref a,.int lo,.int hi]/\JB K t H a F st/\st.kv.length<4096/\(∀p∈st.kv,∃i:Int,p.2= .int i)/\
 ∀(H':Hp)(F':Li)(l:G')(ts:List Tp),JB K t H' a F' st->Fr F F' H H'->¬F' l->(¬F l->H l=none)->H' l=some (.lst<|ts.map λe=>V.ref e.p)->(∀e∈ts,H' e.p=some (.tup [.int e.k,e.v])/\¬F' e.p)->
  (ts.map Tp.kv).Pairwise ou->(∀k v,(k,v)∈ts.map Tp.kv↔(k,v)∈st.kv/\lo<=Ir k/\Ir k<hi)->Q (.ref l) H'
def zq{x W q:Int}(h:0<W):x/W=q↔q*W<=x/\x<(q+1)*W:=by
 constructor
 .rintro rfl;exact{Int.ediv_mul_le x<|QW h,X2 x h}
 .rintro ⟨h1,h2⟩;have a:=(Int.le_ediv_iff_mul_le h).mpr h1;have b:=(Int.ediv_lt_iff_lt_mul h).mpr h2;lia
def ky3(H:Hp)(b:G'):List Int:=match H b with
 |some (.tup [.int i,.int j,.int m])=> [i,j,m]
 |_=> []
def yu{i j:Int}(h:H b=some (.tup [.int i,.int j,.int m])):ky3 H b=[i,j,m]:=by
 unfold ky3;rw[h]
def none_of(s:IA H H2)(n:H2 p=none):H p=none:=by
 cases e:H p with
 |none=>rfl
 |some o=>rw[s _ _ e]at n;cases n
def nu(f:Fr F F' H H')(n:¬F b)(e:H' b=none):H b=none:=by
 cases q:H b with
 |none=>rfl
 |some o=>rw[(f _ _ n q).1]at e;cases e
def Fr.upd_new(f:Fr F F' H H')(n:¬F b->H b=none):Fr F F' H (upd H' b o):=λc u G e=>{by rw[ac λz=>by rw[z]at G e;rw[n G]at e;cases e];exact(f c u G e).1,(f c u G e).2}
def BC{n:Nat}(z:(ts.map λe=>V.ref e.p)[n]?=some v):∃e:Tp,v= .ref e.p/\ts[n]?=some e:=by
 rw[Ql]at z;cases G:ts[n]? with
 |none=>rw[G]at z;cases z
 |some e=>rw[G]at z;cases z;exact⟨e,M,M⟩
structure LH(K:Jc)(t:IT)(H H':Hp)(a l:G')(F F':Li)(st:IE)(ts:List Tp)(b0 c:Int):Prop where
 sl:JB K t H' a F' st
 fr:Fr F F' H H'
 ol:¬F' l
 li:H' l=some (.lst<|ts.map λe=>V.ref e.p)
 tu:∀e∈ts,H' e.p=some (.tup [.int (Ir e.k),.int e.k,e.v])/\¬F' e.p
 me:∀k v,(k,v)∈ts.map Tp.kv↔(k,v)∈st.kv/\b0<=Ir k/\Ir k<c
 nd:((ts.map Tp.kv).map (·.1)).Nodup
section
variable{H1:Hp}{l l1:G'}{F1:Li}{ts1:List Tp}{b0 c:Int}
def LH.len(h:LH K t H H' a l F F' st ts b0 c):ts.length<=st.kv.length:=by
 have:=eh h.nd (S:=st.kv.map (·.1)) λx hx=>by
  let{p,hp,rfl}:=Qj.mp hx;exact QK ((h.me p.1 p.2).mp hp).1
 simpa using this
def LH.move(h:LH K t H H' a l F F' st ts b0 c)(s1:JB K t H1 a F1 st)(z:Fr F' F1 H' H1):LH K t H H1 a l F F1 st ts b0 c:=
 {s1,h.fr.trans z,(z _ _ h.ol h.li).2,(z _ _ h.ol h.li).1,λe he=>z _ _ (h.tu e he).2 (h.tu e he).1,h.me,h.nd}
def LH.step{r W:Int}(h:LH K t H H' a l F F' st ts b0 (r/W*W))(nl:H l=none)(W0:0<W)(hb:b0<=r/W*W)(s1:JB K t H1 a F1 st)(Y:Fr F' F1 H' H1)(u1:∀e∈ts1,H1 e.p=some (.tup [.int (Ir e.k),.int e.k,e.v])/\¬F1 e.p)
  (m1:∀k v,(k,v)∈ts1.map Tp.kv↔(k,v)∈st.kv/\Ir k/W=r/W) (n1:((ts1.map Tp.kv).map (·.1)).Nodup):
  LH K t H (upd H1 l<|.lst<|ts.map (λe=>V.ref e.p)++ts1.map (λe=>V.ref e.p)) a l F F1 st (ts++ts1) b0 ((r/W+1)*W):=by
 let{l1,G}:=Y _ _ h.ol h.li;have e1:(r/W+1)*W=r/W*W+W:=by rw[Int.add_mul,Int.one_mul]
 have I:∀{p:G'}{xs:Lf},H1 p=some (.tup xs)->p≠l:=λ{p xs} e z=>by rw[z,l1]at e;cases e
 refine{s1.upd G,λb o n e=>?_,G,by rw[ag,Q9],λe he=>?_,λk v=>?_,?_}
 .let{g1,U}:=(h.fr.trans Y) b o n e;exact{by rwa[ac λz=>by rw[z,nl]at e;cases e],U}
 .rcases Q4.mp he with he|he
  .let{g1,U}:=h.tu e he;let{O,Z}:=Y _ _ U g1;exact{by rwa[ac (I O)],Z}
  .let{O,Z}:=u1 e he;exact{by rwa[ac (I O)],Z}
 .rw[Q9,Q4,h.me,m1,zq W0,e1];constructor
  .rintro (⟨x,y,z⟩|⟨x,y,z⟩)
   .exact{x,y,()}
   .exact{x,(),z}
  .rintro ⟨x,y,z⟩;by_cases d:Ir k<r/W*W
   .exact .inl ⟨x,y,d⟩
   .exact .inr {x,(),z}
 .rw[Q9,Q9];refine List.nodup_append.mpr {h.nd,n1,λx hx y hy e=>?_};let{p,hp,rfl}:=Qj.mp hx;let{q,hq,rfl}:=Qj.mp hy;have g1:=(h.me p.1 p.2).mp hp;have U:=(zq W0).mp ((m1 q.1 q.2).mp hq).2;rw[e]at g1;lia
end
def Hv{fs:List Tp}(up:us.Perm fs)(z:∀e∈fs,∃i:Int,H e.p=some (.tup [.int (Ir e.k),.int e.k,.int i]))(G:(fs.map (·.k)).Nodup)(pw:(us.map (·.p)).Pairwise (λa b=>HT.lexLt (ky3 H b) (ky3 H a)=false)):(us.map Tp.kv).Pairwise ou:=by
 have I:us.Pairwise (λe f=>e.k≠f.k):=(up.pairwise_iff<|λh=>h.symm).mpr (QS.mp G);refine QS.mpr<|((QS.mp pw).and I).imp_of_mem λ{e f} he hf h=>?_;let{i,te}:=z e (up.mem_iff.mp he);let{j,O}:=z f (up.mem_iff.mp hf);let{h1,h2}:=h;rw[yu te,yu O,HT.lexLt_cons,HT.lexLt_cons]at h1;show Ir e.k<Ir f.k\/(Ir e.k=Ir f.k/\e.k<f.k);by_cases c1:Ir f.k=Ir e.k
 .rw[Kd c1,Kc (Ne.symm h2)]at h1;have:=Ky h1;lia
 .rw[Kc c1]at h1;have:=Ky h1;lia
def qY:C5 P w K mg base IL 4 t.lB t.gN [eH,"low","high"] (qh K t):=by
 let{a4,O}:=T.g_PLACES;refine T.Dx.okl qB λs H vs Q E hr h _=>?_;intro X;let{a,lo,hi,F,st,rfl,hA,an,hint,q}:=h;refine ah (IR 3<|bn af)
   (ah (IR 4<|az (uM M) {_} T.Hj CT (aa IC<|aa ae af))
   (ah (IR 5<|az (kK M) {_} T.wm oQ (aa IG<|aa (bV (v:= .int 65536) {_} O {_,M}) af))
   (cv (λx=>(jC Kw (aq d9 JF Jw<|aw _)
    x)) ?_)))
 refine ah (aN<|cZ Qq ZH ZI kF IU<|aa (aR AS T.ax T.za (mh T) hr.mo T.zC .nil ar<|aa JF af) af)
   (aA (IR 4<|aR AS T.ax T.tM (jJ T) hr.mo T.tS .nil ar<|aa JF af) ?_)
 intros
 refine ah (IR 6<|az tQ {_} T.Bc uO (aa (jG M (IF.of (M':=["one"]) (N:=[eH,"low","high","found","reached",nX,"inside"]) (N':=[eH,"low","high","found","reached",nX,"inside"]) (dsc:=ai cI) M M ∅) (dA IU) (λ_ _ _ _ _=>(BF uq d9 IG (aJ (m7 K M) AS ae<|λ_ _=>M) IU))<|λ_ _ _ _ _=>AS) af))
   (aA (aD<|kE M (IF.of (M':=["one"]) (N:=[eH,"low","high","found","reached",nX,"inside"]) (N':=[eH,"low","high","found","reached",nX,"inside"]) (dsc:=ai cI) M M ∅) (dA LP)<|λ_ _ _ _ _=>(bj<|aa (aJ (m7 K M) AS ae<|λ_ _=>M)<|aa (aJ (m7 K M) AS ae<|λ_ _=>M) af)) ?_)
 intros
 have z:IN st:=let⟨_,_,_,_,_,z⟩:=hA;z
 let{s4,s5}:=br (gK z);let{x,y,R}:=vt (gK z);have W0:=R.wpos';have a3:∀{p k:Int},0<=p->p<65536->(k%65536%st.low=tz p%st.low↔Ir k/(65536/st.low)=p/(65536/st.low)):=λh0 h1=>vo R h0 h1 ();refine{Qh _,λl nl=>?_};refine{_,M,_,_,M,_,M,_,_,M,?_};have r1:0<=(if(0:Int)>lo then 0 else lo)/\lo<=(if(0:Int)>lo then 0 else lo)/\((if(0:Int)>lo then 0 else lo)=0\/(if(0:Int)>lo then 0 else lo)=lo):=by split<;>lia
 have r2:(if(65536:Int)<hi then 65536 else hi)<=65536/\((if(65536:Int)<hi then 65536 else hi)=65536\/(if(65536:Int)<hi then 65536 else hi)=hi):=by split<;>lia
 dsimp only;generalize (if(0:Int)>lo then 0 else lo)=r0 at r1⊢;generalize (if(65536:Int)<hi then 65536 else hi)=e0 at r2⊢;generalize eW:65536/st.low=W at W0 a3;have I0:LH K t H (upd H l<|.lst []) a l F F st [] (r0/W*W) (r0/W*W):={hA.new nl,Fr.of_same<|ak nl,hA.out nl,ag,(λe he=>by cases he),(λk v=>{λh=>by(cases h),λh=>()}),Zl};generalize upd H l (.lst [])=H1 at I0⊢;refine{λm B H'=>∃(r:Int)(F':Li)(ts:List Tp),m=(e0-r).toNat/\B=[some (.ref a),some (.int lo),some (.int hi),some (.ref l),some (.int r),some (.int e0),none]/\LH K t H H' a l F F' st ts (r0/W*W) (r/W*W)/\r0<=r/\(r=r0\/r/W*W=r),{_,r0,F,[],M,M,I0,ZD _,.inl M},λm B H' w=>?_};let{r,F',ts,rfl,ap,I,rr,rm}:=w;subst ap;refine{_,M,_,M,_,_,M,M,_,M,bC (λc=>?_)<|λc=>?_}
 .have c:=Kj c;let{dx,fs,a9,hm}:=I.sl.ins;refine{λab H2=>∃(r':Int)(F2:Li)(ts2:List Tp),r<r'/\ab=[some (.ref a),some (.int lo),some (.int hi),some (.ref l),some (.int r'),some (.int e0),none]/\LH K t H H2 a l F F2 st ts2 (r0/W*W) (r'/W*W)/\r'/W*W=r',λab H2 w=>?_,?_}
  .let{r',F2,ts2,lt,e,I2,g}:=w;exact{_,(),r',F2,ts2,M,e,I2,(),.inr g}
  refine{_,M,.inl {M,_,Dv.of I.li},_,M,a,dx,fs,M,a9,hm _ ∅,_,M,a,r,F',st,M,I.sl,(),(),an,λH2 F2 l1 ts1 s2 f2 o2 e2 u2 m2 n2=>?_};have b2:r0/W*W<=r/W*W:=XW (Int.ediv_le_ediv W0 rr) ();have I2:=I.step nl W0 b2 s2 f2 u2 (λk v=>by rw[m2,a3 () ()]) n2;have ln:=I2.len;rw[Q8]at ln;refine{l,l1,_,_,M,M,(f2 _ _ I.ol I.li).1,e2,by rw[Q0,Q0];exact QV<|a8 (),?_};generalize upd H2 l (.lst<|ts.map (λe=>V.ref e.p)++ts1.map (λe=>V.ref e.p))=H3 at I2⊢;let{b3,b4,a5,b5}:=I2.sl.ins;refine{_,M,a,b3,b4,M,a5,b5 _ ∅,_,M,a,r,F2,st,M,I2.sl,(),(),λH4 F4 s4 f4=>?_};rw[eW];have ed:(r/W+1)*W/W*W=(r/W+1)*W:=by rw[Int.mul_ediv_cancel _ (QW W0)]
  exact{(r/W+1)*W,F4,ts++ts1,X2 r W0,M,by rw[ed];exact I2.move s4 f4,ed}
 .have c:¬r<e0:=λy=>c (Km y);have hl:=I.li;have ln:=I.len;refine{_,M,l,M,{_,Dv.of hl},λD hD=>?_};refine fX (K:=K) (a:=l) (xs:=ts.map λe=>V.ref e.p) (λn ys H3=>H3=upd H' D (.lst ys)/\ys=((ts.take n).filter λe=>decide (lo<=Ir e.k)&&decide (Ir e.k<hi)).map (λe=>V.ref e.p)) ⟨M,M⟩
   (λn ys H3 _ w=>Dv.of<|by rwa[w.1,ac (aj hl hD)]) (λn v ys H3 hv w U=>?_) (λys H3 w U=>?_)
  .let{e1,e2}:=w;have hn:=(Q2.mp hv).1;let{e,rfl,Y}:=BC hv;have te:=(I.tu e<|Q1 Y).1;have b6:H3 e.p=some (.tup [.int (Ir e.k),.int e.k,e.v]):=by rwa[e1,ac (aj te hD)]
   have yl:ys.length<=ts.length:=by
    rw[e2,Q0];have h1:=Qn (λe:Tp=>decide (lo<=Ir e.k)&&decide (Ir e.k<hi)) (ts.take n);have h2:(ts.take n).length<=ts.length:=by rw[Qd];lia
    lia
   refine{_,M,_,M,e.p,_,_,_,M,M,JE.of b6,M,_,_,M,M,_,M,?_};by_cases c1:lo<=Ir e.k
   .refine ji c1 {_,M,_,_,M,M,_,M,?_};by_cases c2:Ir e.k<hi
    .refine ji c2 {_,M,IW.mk hn U (a8 ()) {by rw[e1,dR],?_}};rw[e2,Qt,Y,Qx,Q9];simp[c1,c2]
    .refine bf c2<|JJ.mk hn U {e1,?_};rw[e2,Qt,Y,Qx];simp[c1,c2]
   .refine bf c1 {_,M,db<|JJ.mk hn U {e1,?_}};rw[e2,Qt,Y,Qx];simp[c1]
  .let{e1,e2}:=w;rw[Q0,QF]at e2;have s3:IA H' H3:=by rw[e1];exact ak hD
   have Z:(ts.filter λe=>decide (lo<=Ir e.k)&&decide (Ir e.k<hi)).Sublist ts:=List.filter_sublist;have fm:∀e,e∈(ts.filter λe=>decide (lo<=Ir e.k)&&decide (Ir e.k<hi))↔e∈ts/\lo<=Ir e.k/\Ir e.k<hi:=λe=>by
    rw[QA,QM,Kq,Kq]
   generalize (ts.filter λe=>decide (lo<=Ir e.k)&&decide (Ir e.k<hi))=fs at e2 Z fm;have am:∀e∈fs,(e.k,e.v)∈st.kv:=λe he=>((I.me e.k e.v).mp<|QK (f:=Tp.kv) ((fm e).mp he).1).1;have t3:∀e∈fs,∃i:Int,e.v= .int i/\H3 e.p=some (.tup [.int (Ir e.k),.int e.k,.int i]):=λe he=>by
    let{i,ei}:=hint _ (am e he);have te:=s3 _ _ (I.tu e ((fm e).mp he).1).1;have ei:e.v= .int i:=ei;rw[ei]at te;exact⟨i,ei,te⟩
   refine{D,fs.map (·.p),ky3 H3,M,Dv.of (by rw[U,e2,QR];rfl),λb hb=>?_,λl2 bs b9 pm pw=>?_}
   .let{e,he,rfl}:=Qj.mp hb;let{i,_,te}:=t3 e he;exact{_,_,_,te,yu te}
   let{us,up,ue}:=vA pm;subst ue;have um:∀e,e∈us↔e∈fs:=λe=>up.mem_iff;have nk:(fs.map (·.k)).Nodup:=by
    have h0:=I.nd;rw[QR]at h0;exact h0.sublist<|Z.map _
   have a1:=Hv up (λe he=>(t3 e he).imp λ_ h=>h.2) nk pw;have a6:∀k v,(k,v)∈us.map Tp.kv↔(k,v)∈st.kv/\lo<=Ir k/\Ir k<hi:=λk v=>by
    constructor
    .intro h;let{e,he,Y}:=Qj.mp h;cases Y;have he:=(um e).mp he;exact{am e he,((fm e).mp he).2}
    .rintro ⟨h1,h2,h3⟩;have pb:=Gg k;have b1:=Int.ediv_mul_le r0 (QW W0);have h4:(k,v)∈ts.map Tp.kv:=(I.me k v).mpr {h1,(),()};let{e,he,Y}:=Qj.mp h4;cases Y;exact Qj.mpr {e,(um e).mpr<|(fm e).mpr ⟨he,h2,h3⟩,M}
   have ul:us.length<=ts.length:=by rw[up.length_eq];exact Z.length_le
   have e8:upd H3 l2 (.lst ((us.map (·.p)).map V.ref)) l2=some (.lst<|us.map λe=>V.ref e.p):=by rw[ag,QR];rfl
   have s8:IA H' (upd H3 l2 (.lst ((us.map (·.p)).map V.ref))):=s3.trans (ak b9);have t8:∀e∈us,upd H3 l2 (.lst ((us.map (·.p)).map V.ref)) e.p=some (.tup [.int (Ir e.k),.int e.k,e.v]):=λe he=>s8 _ _ (I.tu e ((fm e).mp<|(um e).mp he).1).1;generalize upd H3 l2 (.lst ((us.map (·.p)).map V.ref))=H8 at e8 s8 t8⊢;refine{_,M,l2,M,{_,Dv.of e8},λD2 a2=>?_};refine oP (K:=K) (a:=l2) (xs:=us.map λe=>V.ref e.p) (λn ys H9=>IA H8 H9/\∃ws:List Tp,ys=ws.map (λe=>V.ref e.p)/\ws.map Tp.kv=(us.take n).map Tp.kv/\∀e∈ws,e.p≠D2/\H8 e.p=none/\H9 e.p=some (.tup [.int e.k,e.v]))
    {ak a2,[],M,M,λe he=>by cases he} (λn ys H9 _ w=>Dv.of<|w.1 _ _ e8) (λn v ys H9 hv w G=>?_) (λys H9 w G=>?_)
   .let{s9,ws,ey,ek,ew}:=w;have hn:=(Q2.mp hv).1;let{e,rfl,Y}:=BC hv;have te:=s9 _ _ (t8 e<|Q1 Y);refine{_,M,e.p,_,_,_,M,M,JE.of te,M,_,M,e.p,_,_,_,M,M,JE.of te,M,(by show 2<=sizeLine;decide),λp2 a0=>?_};have pd:p2≠D2:=λz=>by rw[z,G]at a0;cases a0
    have wl:ws.length<=us.length:=by
     have:=Ks List.length ek;rw[Q0,Q0,Qd]at this;lia
    refine IW.mk hn (by rwa[ac pd.symm]) (a8<|by rw[ey,Q0];lia) {bJ (s9.trans<|ak a0) a2,ws++ [⟨p2,e.k,e.v⟩],by rw[ey,Q9];rfl,?_,λf hf=>?_}
    .rw[Q9,ek,Qt,Y,Q9];rfl
    .rcases Q4.mp hf with hf|hf
     .let{g1,g2,g3}:=ew f hf;exact{g1,g2,by rw[ac g1];exact ak a0 _ _ g3}
     .rw[Qa.mp hf];exact{pd,none_of s9 a0,by rw[ac pd];exact ag}
   .let{s9,ws,ey,ek,ew}:=w;rw[Q0,QF]at ek;have sm:=s8.trans s9;refine q H9 F' D2 ws (I.sl.same sm) (I.fr.trans<|Fr.of_same sm) (I.sl.out<|none_of s8 a2) (λnF=>nu (I.fr.trans<|Fr.of_same s8) nF a2) (by rw[G,ey]) (λe he=>?_) (by rwa[ek]) (by rwa[ek]);let{_,g2,g3}:=ew e he;exact{g3,I.sl.out<|none_of s8 g2}
def dX(e:A[j]?=some c):L4 (A.map V.ref) (j:Int)=some (.ref c):=by
 refine p7 ?_;rw[Ql,e];rfl
def zF(z:x≠[])(e:x[x.length-1]?=some m):L4 (x.map V.int) (-1)=some (.int m):=by
 have hl:=Z5.mpr z;unfold L4 LA;rw[Q0,Kc (_),Kd ()];show(x.map V.int)[((-1:Int)+(x.length:Int)).toNat]?=_;have:((-1:Int)+(x.length:Int)).toNat=x.length-1:=();rw[this,Ql,e];rfl
def zj(h:i<A.length):LA (A.map V.ref).length (i:Int)=some i:=by
 unfold LA;rw[Kd (),Kd (by rw[Q0];lia)];rfl
theorem mr:∀(A:Lu)(i:Nat),(A.map V.ref).eraseIdx i=(A.eraseIdx i).map V.ref
 | [],_=>rfl
 |_::_,0=>rfl
 |a::r,i+1=>by
  show V.ref a::(r.map V.ref).eraseIdx i=V.ref a::(r.eraseIdx i).map V.ref;rw[mr r i]
theorem uE:∀(ls:Mc)(i:Nat)(y:Lh),(ls.set i y).eraseIdx i=ls.eraseIdx i
 | [],_,_=>rfl
 |_::_,0,_=>rfl
 |x::r,i+1,y=>by
  show x::(r.set i y).eraseIdx i=x::r.eraseIdx i;rw[uE r i y]
def FD(a:G')(k:Int)(ls:Mc)(H:Hp):Nat->St->Hp->Prop:=λm B H'=>∃(lo hi:Nat)(v4:Me),m=hi-lo/\H'=H/\B=[some (.ref a),some (.int k),some (.int (lo:Int)),some (.int (hi:Int)),v4]/\lo<=hi/\hi<=ls.length/\
 (∀(j:Nat)(x:Lh),j<lo->ls[j]?=some x->∀y∈x,y<k)/\∀(j:Nat)(x:Lh),hi<=j->ls[j]?=some x->∃y∈x,k<=y
def lP(t:IT):Sp:=λvs H Q _=>∃(a:G')(k:Int)(L:G')(A:Lu)(ls:Mc),vs=[.ref a,.int k]/\JN t H a L A ls/\(∀l∈ls,l≠[])/\bQ ls.flatten/\∀i:Nat,Iy ls k i->Q (.int (i:Int)) H
def bu:C5 P w K mg base IL 1 t.gj t.dF [eH,eR] (lP t):=by
 refine T.zJ.okl lU λs H vs Q E hr h _=>?_;intro X;let{a,k,L,A,ls,rfl,hb,Z,up,q}:=h;refine ah (IR 2 ae)
   (ah (IR 3<|az au {_} T.bq aZ (aa (ay AS M) af))
   (cv (λx=>(jC Kw (aq d9 IG IU<|aw _)
    x)) ?_))
 refine ah (IR 4<|al aK (al aX IG IU) ae)
   (aA (aT (aq d9 (aJ aL (aJ aL (ay AS M) JF<|λ_ _=>M) (BJ xQ ae)<|λ_ _=>M) IC<|aw _)
    (aB<|IR 2<|al aX JF ae)
    (aB<|IR 3 JF)) ?_)
 intros
 refine aA (aD IG) ?_
 intros
 let{dx,ho}:=hb.obj;have lA:((A.map V.ref).length:Int)=(ls.length:Int):=by rw[Q0,hb.len]
 refine{_,M,a,_,dx,_,_,M,ho,T.aC,T.am,bY,L,_,M,.inl<|Dv.of hb.lst,?_};dsimp only;rw[lA];refine{FD a k ls H,{_,0,ls.length,none,M,M,M,Qh _,Q5 _,λj x h=>Kh h (),λj x h e=>?_},?_}
 .have:=(Q2.mp e).1;lia
 rintro m B H' ⟨lo,hi,v4,rfl,rfl,rfl,h1,h2,h3,h4⟩;refine{_,M,_,M,_,_,M,M,_,M,bC (λc=>?_)<|λc=>?_}
 .have c:lo<hi:=by have:=Kj c;lia
  refine{λU H''=>∃m',m'<hi-lo/\FD a k ls H' m' U H'',λ_ _ h=>h,?_};refine{_,M,_,M,_,_,M,M,_,_,M,M,{(_),(_)},?_};obtain⟨G,em,m1,m2⟩:∃G:Nat,((lo:Int)+(hi:Int))/2=(G:Int)/\lo<=G/\G<hi:={(lo+hi)/2,(),(),()};dsimp only;rw[em];have hm:G<ls.length:=();have ex:ls[G]?=some ls[G]:=Q3 hm;let{b,eb,W}:=hb.at ex;have I:=Z _ (Zk hm);let{g,eg,Y,O}:=Co (DZ up ex) I;refine{_,M,a,_,dx,_,_,M,ho,T.aC,T.am,bY,_,M,L,_,_,_,M,M,Dv.of hb.lst,dX eb,_,M,b,_,_,_,M,M,Dv.of W,zF I eg,_,M,_,_,M,M,_,M,bC (λc2=>?_)<|λc2=>?_}
  .have c2:=Kj c2;refine{_,M,_,_,M,M,hi-(G+1),(),G+1,hi,_,M,M,M,(),h2,λj x hj e y hy=>?_,h4};rcases(show j<G\/j=G by lia)with h|h
   .have:=uh up e ex h y hy g Y;lia
   .subst h;rw[ex]at e;cases e;have:=O y hy;lia
  .have c2:¬g<k:=λz=>c2 (Km z);refine{_,M,G-lo,(),lo,G,_,M,M,M,(),(),h3,λj x hj e=>?_};rcases(show j=G\/G<j by lia)with h|h
   .subst h;rw[ex]at e;cases e;exact{g,Y,()}
   .let{y,hy}:=List.exists_mem_of_ne_nil x (Z x<|Q1 e);have:=uh up ex e h g Y y hy;exact{y,hy,()}
 .have c:¬lo<hi:=λz=>c (Km ());have:lo=hi:=();subst this;exact{_,M,q lo {h2,h3,λx e=>h4 lo x (Q5 _) e}}
theorem xf{k:Int}:∀{x:Lh},inV (.int k) (x.map V.int)=decide (k∈x)
 | []=>rfl
 |a::r=>by
  have G:=xf (k:=k) (x:=r);unfold inV at G⊢;rw[Qs,ZX,G];have:LK (.int a) (.int k)=decide (k=a):=by
   show(a==k)=_;by_cases c:a=k
   .subst c;simp
   .have c':¬k=a:=λz=>c z.symm;simp[c,c']
  rw[this];by_cases c:k=a
  .simp[c]
  .simp[c]
def AF:(x.map V.int).all nB=true:=by
 rw[List.all_map];exact QN.mpr λ_ _=>rfl
def jM:C5 P w K mg base IL 2 t.lH t.gU [eH,eR] (qo K t):=by
 refine T.DE.okl qH λs H vs Q E Z h _=>?_;intro X;let{a,k,F,ks,rfl,I,q}:=h;refine ah (IR 2<|aR AS T.aC T.bX (bu T) Z.mo T.b6 .nil ar<|aa IC af)
   (aA (aD<|l9 (cq d9 IG (az au {_} T.bq aZ (aa (ay AS M) af))<|aw _)<|jE<|cq Ag IC (aJ aL (ay AS M) IG<|λ_ _=>M) M) ?_)
 intros
 let{dx,fs,hi,hm}:=I.ins;have q:=q H F I Fr.refl;let{L,A,ls,hb,ok,U,hF}:=I;let{G,W}:=hb.obj;have lA:((A.map V.ref).length:Int)=(ls.length:Int):=by rw[Q0,hb.len]
 refine{_,M,a,dx,fs,M,hi,hm _ ∅,_,M,a,k,L,A,ls,M,hb,ok.ne,ok.up,λi Y=>?_};refine{_,M,_,M,a,_,G,_,_,M,W,T.aC,T.am,bY,L,_,M,.inl<|Dv.of hb.lst,_,_,M,M,_,M,bC (λc=>?_)<|λc=>?_}
 .have c:=Kj c;have hi:i<ls.length:=();have ex:ls[i]?=some ls[i]:=Q3 hi;let{b,eb,O}:=hb.at ex;refine{_,M,_,M,a,_,G,_,_,M,W,T.aC,T.am,bY,_,M,L,_,_,_,M,M,Dv.of hb.lst,dX eb,b,_,M,.inl<|Dv.of O,M,AF,?_};show Q (.bl<|inV (.int k)<|ls[i].map V.int) H;rw[xf];have:k∈ls[i]↔k∈ks:=by
   rw[<-U,Y.mem ok];constructor
   .exact λz=>{_,ex,z}
   .rintro ⟨x,e,z⟩;rw[ex]at e;cases e;exact z
  rw[decide_eq_decide.mpr this];exact q
 .have c:¬(i:Int)<((A.map V.ref).length:Int):=λz=>c (Km z);have:k∉ks:=λz=>by
   rw[<-U,Y.mem ok]at z;let{x,e,_}:=z;have:=(Q2.mp e).1;lia
  rw[Kr this]at q;exact q
def pQ:C5 P w K mg base IL 1 t.kr t.fW [eH] (pD K t):=by
 refine T.Da.okl pJ λs H vs Q E W h _=>?_;intro X;let{a,dx,rfl,ha,hd,q}:=h;refine{_,(aB<|bT AS (bn af) M)
  ,?_}
 refine{Qh _,λL G=>{_,M,a,_,dx,[],M,(by rwa[ac (aj ha G)]),T.aC,T.am,(by show 0<1000;decide),?_}};have U:=aj ha G;refine q _ (JZ a L []) {L,[],[],{⟨dx,ag⟩,by rw[ac U.symm];exact ag,M,(λj b l e=>by simp at e),(λi j b e=>by simp at e),(λz=>by cases z)},IZ.nil,M,λb=>Iff.rfl} λb o n w=>?_;have I:b≠a:=λy=>n (.inl y);have O:b≠L:=aj w G;refine{by rwa[ac I,ac O],λy=>?_};rcases y with y|y|y
 .exact I y
 .exact O y
 .cases y
def jp(t:IT):Sp:=λvs H Q _=>∃(a L:G')(A:Lu)(ls:Mc)(i:Nat)(x:Lh),vs=[.ref a,.int (i:Int)]/\JN t H a L A ls/\ls[i]?=some x/\x.length=9/\ls.length<5000/\
 ∀H' A',JN t H' a L A' ((ls.set i<|x.take 4).take (i+1)++x.drop 4::(ls.set i<|x.take 4).drop (i+1))->Fr (JZ a L A) (JZ a L A') H H'->Q .non H'
def jL:C5 P w K mg base IL 1 t.eT t.cE [eH,sf] (jp t):=by
 refine T.xK.okl js λs H vs Q E hr h _=>?_;intro X;let{a,L,A,ls,i,x,rfl,hb,ex,lx,ll,q}:=h;refine ah (IR 2<|aJ aL (ay AS M) IC<|λ_ _=>M)
   (ah (IR 3<|al aK (az au {_} T.bq aZ (aa IG af)) ae)
   (ah (qQ (hV kA IG mS<|iO IU)<|yg (ay AS M) IC qw)
   (aA (aN<|cZ Qq PySem.F.slot_list_insert PySem.F.type_list_insert uu (ay AS M)<|aa (al aX IC ae)<|aa (hV kA IG (iO IU) mS) af) ?_)))
 intros
 let{dx,ho}:=hb.obj;let{c,ec,hc}:=hb.at ex;have ax:i<A.length:=(Q2.mp ec).1;have Z:((x.map V.int).length:Int)=9:=by rw[Q0,lx];rfl
 refine{_,M,a,_,dx,_,_,M,ho,T.aC,T.am,bY,_,M,L,_,_,_,M,M,Dv.of hb.lst,dX ec,?_};refine{_,M,c,_,M,.inl<|Dv.of hc,_,_,M,M,{(_),(_)},?_};dsimp only;rw[Z];have a0:nG (x.map V.int) none (some<|9/2)=(x.take 4).map V.int:=by
  unfold nG;rw[Q0,lx];show((x.map V.int).drop 0).take (4-0)=_;rw[Zv,ZJ]
 have a1:nG (x.map V.int) (some<|9/2) none=(x.drop 4).map V.int:=by
  unfold nG;rw[Q0,lx];show((x.map V.int).drop 4).take (9-4)=_;rw[XB,QC (by rw[QL,Q0,lx];exact Q5 _)]
 refine{_,M,_,M,_,M,c,_,M,Dv.of hc,λG O=>?_};rw[a0];have s1:IA H (upd H G<|.lst<|(x.take 4).map V.int):=ak O;have hb1:=hb.same s1;have a2:upd H G (.lst<|(x.take 4).map V.int) G=some (.lst<|(x.take 4).map V.int):=ag;have b1:=hb.out O;have a3:=s1 _ _ ho;have a4:=s1 _ _ hc;have a5:=s1 _ _ hb.lst;generalize upd H G (.lst<|(x.take 4).map V.int)=H1 at s1 hb1 a2 a3 a4 a5⊢;refine{_,M,a,_,dx,_,_,M,a3,T.aC,T.am,bY,_,M,L,_,_,_,M,M,a5,zj ax,?_};have es:(A.map V.ref).set i (V.ref G)=(A.set i G).map V.ref:=by rw[List.map_set]
 rw[es];have I:=hb1.swap ec ex a2 b1;have cL:c≠L:=λz=>hb.nL (z▸Q1 ec);have a6:upd H1 L (.lst<|(A.set i G).map V.ref) c=some (.lst<|x.map V.int):=by rwa[ac cL]
 let{b2,a9}:=I.obj;have U:=I.lst;have f2:Fr (JZ a L A) (JZ a L<|A.set i G) H (upd H1 L<|.lst<|(A.set i G).map V.ref):=λb o n w=>by
  have w1:=s1 _ _ w;refine{by rwa[ac (λy=>n<|.inr<|.inl y)],λy=>?_};rcases y with y|y|y
  .exact n<|.inl y
  .exact n<|.inr (.inl y)
  .rcases List.mem_or_eq_of_mem_set y with y|y
   .exact n<|.inr (.inr y)
   .rw[y,O]at w;cases w
 generalize upd H1 L (.lst<|(A.set i G).map V.ref)=H2 at I a6 a9 U f2⊢;refine{_,M,a,_,b2,_,_,M,a9,T.aC,T.am,bY,.inl {M,_,Dv.of U},_,M,_,_,M,M,_,M,_,M,_,M,c,_,M,Dv.of a6,λY W=>?_};rw[a1];have s3:IA H2 (upd H2 Y<|.lst<|(x.drop 4).map V.int):=ak W;have ab:=I.same s3;have an:upd H2 Y (.lst<|(x.drop 4).map V.int) Y=some (.lst<|(x.drop 4).map V.int):=ag;have b3:=I.out W;have ap:=s3 _ _ U;generalize upd H2 Y (.lst<|(x.drop 4).map V.int)=H3 at s3 ab an ap⊢;have lS:(A.set i G).length=A.length:=QH;refine{L,_,_,_,M,M,ap,(),(by rw[Q0,lS];lia),(by rw[Q0,lS,hb.len];exact a8 ()),?_};have ei:((i:Int)+1).toNat=i+1:=();have b4:=ab.insert (i:=i+1) (by rw[lS];lia) an b3;rw[ei];have em:((A.set i G).map V.ref).take (i+1)++V.ref Y::((A.set i G).map V.ref).drop (i+1)=((A.set i G).take (i+1)++Y::(A.set i G).drop (i+1)).map V.ref:=by
  rw[Q9,Qs,ZJ,XB]
 rw[em];refine q _ _ b4<|f2.trans (λb o n w=>?_);have w3:=s3 _ _ w;refine{by rwa[ac (λy=>n<|.inr<|.inl y)],λy=>?_};rcases y with y|y|y
 .exact n<|.inl y
 .exact n<|.inr (.inl y)
 .rcases Q4.mp y with y|y
  .exact n<|.inr (.inr<|Zd y)
  .rcases Q7.mp y with y|y
   .rw[y,W]at w;cases w
   .exact n<|.inr (.inr<|X1 y)
def JN.insM(h:JN t H a L A ls):∃dx fs,H a=some (.ins t.a9 dx fs)/\∀m,m≠(kj:Str)->fs.lookup m=none:=by
 let{dx,z}:=h.obj;exact{dx,_,z,λm G=>Fo G}
def rf:C5 P w K mg base IL 3 t.lI t.gW [eH,eR] (qp K t):=by
 let{I,G}:=T.g_MOST_IN_LEAF;refine T.DF.okl qI λs H vs Q E hr h _=>?_;intro X;let{a,k,F,ks,rfl,hA,hl,q1,q2}:=h;refine ah (aT (cT<|aR AS T.aC T.tO (jM T) hr.mo T.tU .nil ar<|aa IC af)
    (aB iN)
    aF)
   (cv (λx=>aT (aq bH (az au {_} T.bq aZ (aa (ay AS M) af)) ae<|aw _) x aF) ?_)
 refine ah (aN<|cZ Qq Z0 Z1 c6 (ay AS M)<|aa (bn<|aa IC af) af)
   (aA mR ?_)
 intros
 refine ah (IR 2<|az (kK M) {_} T.wm oQ (aa (aR AS T.aC T.bX (bu T) hr.mo T.b6 .nil ar<|aa IC af)<|aa (al fI (az au {_} T.bq aZ (aa (ay AS M) af)) ae) af))
   (ah (IR 3<|aJ aL (ay AS M) IG<|λ_ _=>M)
   (ah (aN<|cZ Qq PySem.F.slot_list_insert PySem.F.type_list_insert uu IU<|aa (az au {_} T.bq aZ (aa (jG M (IF.of (M':=["one"]) (N:=[eH,eR,sf,"leaf"]) (N':=[eH,eR,sf,"leaf"]) (dsc:=ai dU) M M ∅) (dA IU) (λ_ _ _ _ _=>(aq d9 AS IG<|aw _))<|λ_ _ _ _ _=>AS) af))<|aa IC af)
   (aA (aT (aq qT (az au {_} T.bq aZ (aa IU af)) (bV (v:= .int 8) {_} G {_,M})<|aw _)
    (aB<|aN<|aR AS T.aC T.xE (jL T) hr.mo T.xI .nil ar<|aa IG af)
    aF) ?_)))
 intros
 let{dx,fs,hi,hm}:=hA.ins;refine{_,M,a,dx,fs,M,hi,hm _ ∅,_,M,a,k,F,ks,M,hA,λH0 F0 a5 a0=>?_};by_cases ck:k∈ks
 .rw[Km ck];refine{_,M,cK ?_};exact(q2 ck).elim
 rw[Kr ck];refine{_,M,db ?_};have q:=q1 ck;let{L,A,ls,hb,ok,ef,hF}:=a5;let{O,ho}:=hb.obj;have lA:((A.map V.ref).length:Int)=(ls.length:Int):=by rw[Q0,hb.len]
 have sh:=ok.short;rw[ef]at sh;have fr:Fr F (JZ a L A) H H0:=λb o n e=>{(a0 b o n e).1,λy=>(a0 b o n e).2<|(hF b).mpr y};have nk:k∉ls.flatten:=by rwa[ef]
 by_cases ce:ls=[]
 .subst ce;have eA:A=[]:=List.length_eq_zero_iff.mp hb.len;subst eA;refine{_,M,a,_,O,_,_,M,ho,T.aC,T.am,bY,L,_,M,.inl<|Dv.of hb.lst,M,_,M,jT M ?_};refine{_,M,a,_,O,_,_,M,ho,T.aC,T.am,bY,.inl {M,_,Dv.of hb.lst},_,M,(by show 1<=sizeLine;decide),λn nn=>?_};have s1:IA H0 (upd H0 n<|.lst [.int k]):=ak nn;have hb1:=hb.same s1;have a6:upd H0 n (.lst [.int k]) n=some (.lst<|([k]:Lh).map V.int):=ag;have nF:=hb.out nn;have a9:=s1 _ _ hb.lst;refine{L,_,_,M,M,a9,bR (by show 0<=1000;decide),?_};have ab:=hb1.insert (i:=0) (Qh _) a6 nF;have an:IZ [[k]]:={(λl hl=>by rw[Qa.mp hl];simp),(λl hl=>by rw[Qa.mp hl];simp),(λi x y e1 e2=>by simp at e2),by show bQ [k];exact Zf _ _};refine q _ (JZ a L [n]) [k] {L,[n],[[k]],ab,an,M,λb=>Iff.rfl} (λz=>?_)<|fr.trans λb o n' w=>?_
  .rw[<-ef];simp
  .have w1:=s1 _ _ w;refine{by rwa[ac (λy=>n'<|.inr<|.inl y)],λy=>?_};rcases y with y|y|y
   .exact n'<|.inl y
   .exact n'<|.inr (.inl y)
   .rw[Qa.mp y,nn]at w;cases w
 .have bo:=Z5.mpr ce;refine{_,M,a,_,O,_,_,M,ho,T.aC,T.am,bY,L,_,M,.inl<|Dv.of hb.lst,M,_,M,bf (λw=>?_) ?_}
  .have:=V.int.inj w;lia
  let{ap,ax,b1,b2}:=hb.insM;refine{_,M,a,ap,ax,M,b1,b2 _ ∅,_,M,a,k,L,A,ls,M,hb,ok.ne,ok.up,λi li=>?_};refine{_,M,a,_,O,_,_,M,ho,T.aC,T.am,bY,L,_,M,.inl<|Dv.of hb.lst,_,_,M,M,_,_,M,?_};let{x,ad}:=li.add ok ce;have em:(if((A.map V.ref).length:Int)-1<(i:Int)then((A.map V.ref).length:Int)-1 else(i:Int))=((min i (ls.length-1):Nat):Int):=by
   rw[lA];split<;>lia
  dsimp only;rw[em];generalize min i (ls.length-1)=j at ad⊢;let{c,ec,hc}:=hb.at ad.at_;have jl:j<ls.length:=(Q2.mp ad.at_).1;have x8:=ok.le x (Q1 ad.at_);refine{_,M,a,_,O,_,_,M,ho,T.aC,T.am,bY,_,M,L,_,_,_,M,M,Dv.of hb.lst,dX ec,?_};refine{_,M,.inl {M,_,Dv.of hc},_,M,c,M,{_,Dv.of hc},λD hD=>?_};refine fX (K:=K) (a:=c) (xs:=x.map V.int) (λn ys H3=>H3=upd H0 D (.lst ys)/\ys=((x.take n).filter<|λz=>decide (z<k)).map V.int) ⟨M,M⟩ (λn ys H3 _ w=>Dv.of<|by rwa[w.1,ac (aj hc hD)]) (λn v ys H3 Z w U=>?_)<|λys H3 w U=>?_
  .let{e1,e2}:=w;obtain⟨g,rfl,eg⟩:∃g:Int,v= .int g/\x[n]?=some g:=by
    rw[Ql]at Z;cases e:x[n]? with
    |none=>rw[e]at Z;cases Z
    |some g=>rw[e]at Z;cases Z;exact⟨g,M,M⟩
   have hn:n<(x.map V.int).length:=(Q2.mp Z).1;refine{_,M,_,M,_,_,M,M,_,M,?_};have fl:ys.length<=8:=by
    rw[e2,Q0];have h1:=Qn (λz=>decide (z<k)) (x.take n);have h2:(x.take n).length<=x.length:=by rw[Qd];lia
    lia
   by_cases cg:g<k
   .refine ji cg {_,M,IW.mk hn U (bR ()) {by rw[e1,dR],?_}};rw[e2,Qt,eg,Qx,Q9];simp[cg]
   .refine bf cg<|JJ.mk hn U {e1,?_};rw[e2,Qt,eg,Qx];simp[cg]
  .let{e1,e2}:=w;rw[Q0,QF]at e2;have s3:IA H0 H3:=by rw[e1];exact ak hD
   have b3:=hb.same s3;have b4:=s3 _ _ hc;have yl:(ys.length:Int)=((x.filter<|λz=>decide (z<k)).length:Int):=by rw[e2,Q0]
   have bp:=Qn (λz=>decide (z<k)) x;refine{D,_,M,.inl<|Dv.of U,_,M,c,_,_,_,M,M,b4,(),(by rw[Q0];lia),(by rw[Q0];exact bR ()),?_};have ei:(x.map V.int).take (ys.length:Int).toNat++V.int k::(x.map V.int).drop (ys.length:Int).toNat=(eB x k).map V.int:=by
    rw[yl,QQ];unfold eB;rw[Q9,Qs,ZJ,XB]
   dsimp only;rw[ei];have W:=b3.write (y:=eB x k) ec ad.at_;have il:=Cu (l:=x) (k:=k);let{a1,Y}:=ad.set ok nk;have cF:JZ a L A c:= .inr (.inr<|Q1 ec);have f4:Fr (JZ a L A) (JZ a L A) H0 (upd H3 c<|.lst<|(eB x k).map V.int):=λb o n w=>{by rw[ac (λy=>n<|by rwa[y])];exact s3 _ _ w,n};have a2:upd H3 c (.lst<|(eB x k).map V.int) c=some (.lst<|(eB x k).map V.int):=ag;generalize upd H3 c (.lst<|(eB x k).map V.int)=H4 at W f4 a2⊢;refine{_,M,c,_,M,.inl<|Dv.of a2,_,_,M,M,_,M,?_};have ll:((eB x k).map V.int).length=x.length+1:=by rw[Q0,il]
   by_cases c9:x.length=8
   .refine ji (by rw[ll];lia) ?_;let{b5,b9,ba,bb}:=W.insM;have e5:(ls.set j<|eB x k)[j]?=some (eB x k):=by rw[Qw,Kd M,Kd jl]
    refine{_,M,a,b5,b9,M,ba,bb _ ∅,_,M,a,L,A,_,j,_,M,W,e5,(),by rw[QH];lia,λH6 A6 a3 f6=>?_};have er:(ls.set j<|eB x k).set j ((eB x k).take 4)=ls.set j ((eB x k).take 4):=List.set_set _;rw[er]at a3;have be:bQ (ls.set j<|(eB x k).take 4++(eB x k).drop 4).flatten:=by rwa[QJ]
    let{bh,a4}:=ok.parted ad.at_ (a:=(eB x k).take 4) (b:=(eB x k).drop 4) (by rw[Qd];lia) (by rw[QL];lia) be;rw[QJ]at a4;refine q H6 _ _ {L,A6,_,a3,bh,M,λb=>Iff.rfl} (λz=>?_)<|fr.trans (f4.trans f6);rw[a4,Y,ef]
   .refine bf (by rw[ll];lia) ?_;have bl:=ok.grown ad.at_ (y:=eB x k) () () a1;exact q H4 _ _ {L,A,_,W,bl,M,λb=>Iff.rfl} (λz=>by rw[Y,ef])<|fr.trans f4
def jf(t:IT):Sp:=λvs H Q _=>∃(a L:G')(A:Lu)(ls:Mc)(i:Int),vs=[.ref a,.int i]/\JN t H a L A ls/\-1<=i/\i<(ls.length:Int)/\(∀l∈ls,l.length<=8)/\ls.length<5000/\
 ∀H' A' ls',JN t H' a L A' ls'->ls'=(if 0<=i then lf ls i.toNat else ls)->Fr (JZ a L A) (JZ a L A') H H'->Q .non H'
def Cd{n:G'}(h:b∈A.set i n):b∈A\/b=n:=List.mem_or_eq_of_mem_set h
def jh:C5 P w K mg base IL 1 t.eC t.cm [eH,sf] (jf t):=by
 let{I,z}:=T.g_LEAST_IN_TWO;refine T.xD.okl jg λs H vs Q E hr h _=>?_;intro X;let{a,L,A,ls,i,rfl,hb,i0,i1,l8,ll,q}:=h;refine ah (aT (PW.pt<|qP (aq d9 IC ae<|aw _)<|l6<|aq bH (al aX IC ae) (az au {_} T.bq aZ (aa (ay AS M) af))<|aw _)
    (aB mR)
    aF)
   (ah (IR 2<|al Gr (aJ aL (ay AS M) IC<|λ_ _=>M)<|aJ aL (ay AS M) (al aX IC ae)<|λ_ _=>M)
   (rq (λx=>aT (aq d9 (az au {_} T.bq aZ (aa IG af)) (bV (v:= .int 5) {_} z {_,M})<|aw _) x aF) ?_))
 refine ah (qQ IG<|yg (ay AS M) IC qw)
   (aA (aN<|cZ Qq PySem.F.slot_list_pop PySem.F.type_list_pop wR (ay AS M)<|aa (al aX IC ae) af) ?_)
 intros
 let{dx,ho}:=hb.obj;have lA:((A.map V.ref).length:Int)=(ls.length:Int):=by rw[Q0,hb.len]
 by_cases c0:i<0
 .refine{_,M,_,_,M,M,_,M,ji c0 ?_};exact cK<|q H A ls hb (by rw[Kc ()]) Fr.refl
 refine{_,M,_,_,M,M,_,M,bf c0 ?_};let{n,rfl}:=Ze (show 0<=i by lia);have en:((n:Int)).toNat=n:=QQ n;rw[Kd (),en]at q;refine{_,M,_,_,M,M,_,M,a,_,dx,_,_,M,ho,T.aC,T.am,bY,L,_,M,.inl<|Dv.of hb.lst,M,_,M,?_};by_cases c1:n+1=ls.length
 .refine jT (Ks V.int<|by rw[lA];lia) ?_;exact q H A ls hb (rK ()).symm Fr.refl
 refine bf (λw=>c1<|by have:=V.int.inj w;rw[lA]at this;lia) ?_;have hn:n<ls.length:=();have U:n+1<ls.length:=();have ex:ls[n]?=some ls[n]:=Q3 hn;have ey:ls[n+1]?=some ls[n+1]:=Q3 U;have x8:=l8 _ (Zk hn);have y8:=l8 _ (Zk U);generalize ls[n]=x at ex x8;generalize ls[n+1]=y at ey y8;let{c,ec,hc}:=hb.at ex;let{d,ed,hd}:=hb.at ey;have a9:(n:Int)+1=((n+1:Nat):Int):=M;refine{_,M,a,_,dx,_,_,M,ho,T.aC,T.am,bY,_,M,L,_,_,_,M,M,Dv.of hb.lst,dX ec,_,M,a,_,dx,_,_,M,ho,T.aC,T.am,bY,_,M,_,_,M,M,L,_,_,_,M,M,Dv.of hb.lst,dX ed,c,d,_,_,M,M,hc,hd,QV<|bR (by rw[Q0,Q0];lia),λG W=>?_};rw[<-Q9];have s1:IA H (upd H G<|.lst<|(x++y).map V.int):=ak W;have hb1:=hb.same s1;have Y:upd H G (.lst<|(x++y).map V.int) G=some (.lst<|(x++y).map V.int):=ag;have nF:=hb.out W;have a0:=s1 _ _ ho;have a1:=s1 _ _ hb.lst;generalize upd H G (.lst<|(x++y).map V.int)=H1 at s1 hb1 Y a0 a1⊢;refine{_,M,G,_,M,.inl<|Dv.of Y,_,_,M,M,_,M,?_};have a2:(((x++y).map V.int).length:Int)=(x.length:Int)+(y.length:Int):=by rw[Q0,Q8];rfl
 rw[xc ex ey]at q;by_cases c5:x.length+y.length<5
 .refine ji (by rw[a2];lia) ?_;rw[Kd c5]at q;have nA:n<A.length:=by rwa[hb.len]
  refine{_,M,_,M,a,_,dx,_,_,M,a0,T.aC,T.am,bY,_,M,L,_,_,_,M,M,a1,zj nA,?_};have es:(A.map V.ref).set n (V.ref G)=(A.set n G).map V.ref:=by rw[List.map_set]
  rw[es];have O:=hb1.swap ec ex Y nF;let{a4,a3}:=O.obj;have Z:=O.lst;have f2:Fr (JZ a L A) (JZ a L<|A.set n G) H (upd H1 L<|.lst<|(A.set n G).map V.ref):=λb o n' w=>by
   have w1:=s1 _ _ w;refine{by rwa[ac (λy=>n'<|.inr<|.inl y)],λy=>?_};rcases y with y|y|y
   .exact n'<|.inl y
   .exact n'<|.inr (.inl y)
   .rcases Cd y with y|y
    .exact n'<|.inr (.inr y)
    .rw[y,W]at w;cases w
  generalize upd H1 L (.lst<|(A.set n G).map V.ref)=H2 at O a3 Z f2⊢;have lS:((A.set n G).map V.ref).length=ls.length:=by rw[Q0,QH,hb.len]
  have a5:n+1<(A.set n G).length:=by rwa[QH,hb.len]
  have sx:seqIndex? ((n:Int)+1) ((A.set n G).map V.ref).length=some (n+1):=by
   have:=seqIndex_of (k:=(n:Int)+1) (n:=((A.set n G).map V.ref).length) () (by rw[lS];lia);rw[this];congr 1
  refine{_,M,a,_,a4,_,_,M,a3,T.aC,T.am,bY,.inl {M,_,Dv.of Z},_,M,_,_,M,M,L,_,_,n+1,_,M,M,Z,(),(),sx,(by rw[Ql,Q3 a5];rfl),?_};have a6:=O.erase (i:=n+1);have em:((A.set n G).map V.ref).eraseIdx (n+1)=((A.set n G).eraseIdx<|n+1).map V.ref:=mr _ _;rw[em];refine q _ _ _ a6 M<|f2.trans λb o n' w=>?_;refine{by rwa[ac (λy=>n'<|.inr<|.inl y)],λy=>?_};rcases y with y|y|y
  .exact n'<|.inl y
  .exact n'<|.inr (.inl y)
  .exact n'<|.inr (.inr<|Zb y)
 .refine bf (by rw[a2];lia) ?_;rw[Kc c5]at q;exact q H1 A ls hb1 M<|Fr.of_same s1
def mj:C5 P w K mg base IL 3 t.gl t.dH [eH,eR] (lR K t):=by
 refine T.zL.okl lV λs H vs Q E hr h _=>?_;intro X;let{a,k,F,ks,rfl,hA,hl,q1,q2}:=h;refine ah (aT (ot<|cT<|aR AS T.aC T.tO (jM T) hr.mo T.tU .nil ar<|aa IC af)
    (aB iN)
    aF)
   (ah (IR 2<|aR AS T.aC T.bX (bu T) hr.mo T.b6 .nil ar<|aa IC af)
   (ah (aN<|cZ Qq PySem.F.slot_list_remove PySem.F.type_list_remove An (aJ aL (ay AS M) IG<|λ_ _=>M)<|aa IC af)
   (cv (λx=>aT (aq bH (az au {_} T.bq aZ (aa (aJ aL (ay AS M) IG<|λ_ _=>M) af)) ae<|aw _) x aF) ?_)))
 refine ah (aN<|cZ Qq PySem.F.slot_list_pop PySem.F.type_list_pop wR (ay AS M)<|aa IG af)
   (aA mR ?_)
 intros
 refine ah (aN<|aR AS T.aC T.jQ (jh T) hr.mo T.j9 .nil ar<|aa IG af)
   (aA (aN<|aR AS T.aC T.jQ (jh T) hr.mo T.j9 .nil ar<|aa (al fI IG ae) af) ?_)
 intros
 let{dx,fs,hi,hm}:=hA.ins;refine{_,M,a,dx,fs,M,hi,hm _ ∅,_,M,a,k,F,ks,M,hA,λH0 F0 a5 a0=>?_};by_cases ck:k∈ks
 case neg=>
  rw[Kr ck];refine{_,M,cK ?_};exact(q2 ck).elim
 rw[Km ck];refine{_,M,db ?_};have q:=q1 ck;let{L,A,ls,hb,ok,ef,hF}:=a5;let{a6,ho}:=hb.obj;have sh:=ok.short;rw[ef]at sh;have fr:Fr F (JZ a L A) H H0:=λb o n e=>{(a0 b o n e).1,λy=>(a0 b o n e).2<|(hF b).mpr y};let{a9,ab,an,ap}:=hb.insM;refine{_,M,a,a9,ab,M,an,ap _ ∅,_,M,a,k,L,A,ls,M,hb,ok.ne,ok.up,λi li=>?_};let{x,ex,hx}:=(li.mem ok).mp (by rwa[ef]);let{c,ec,hc}:=hb.at ex;have il:i<ls.length:=(Q2.mp ex).1;have bp:i<A.length:=by rwa[hb.len]
 refine{_,M,a,_,a6,_,_,M,ho,T.aC,T.am,bY,_,M,L,_,_,_,M,M,Dv.of hb.lst,dX ec,.inl {M,_,Dv.of hc},_,M,c,x,k,M,M,hc,hx,?_};have hb1:=hb.write (y:=x.erase k) ec ex;let{up1,G}:=ok.gone ex hx;have cF:JZ a L A c:= .inr (.inr<|Q1 ec);have f1:Fr (JZ a L A) (JZ a L A) H0 (upd H0 c<|.lst<|(x.erase k).map V.int):=λb o n w=>{by rwa[ac (λy=>n<|by rw[y];exact cF)],n};have a1:upd H0 c (.lst<|(x.erase k).map V.int) c=some (.lst<|(x.erase k).map V.int):=ag;let{a2,W}:=hb1.obj;have O:=hb1.lst;generalize upd H0 c (.lst<|(x.erase k).map V.int)=H1 at hb1 f1 a1 W O⊢;have le:=List.length_erase_of_mem hx;refine{_,M,a,_,a2,_,_,M,W,T.aC,T.am,bY,_,M,L,_,_,_,M,M,Dv.of O,dX ec,c,_,M,.inl<|Dv.of a1,M,_,M,?_};have px:=List.length_pos_of_mem hx;by_cases c0:x.length=1
 .refine jT (Ks V.int<|by rw[Q0,le,c0];rfl) ?_;have en:x.erase k=[]:=List.length_eq_zero_iff.mp ();rw[en]at up1 G hb1;have sx:seqIndex? (i:Int) (A.map V.ref).length=some i:=by
   have:=seqIndex_of (k:=(i:Int)) (n:=(A.map V.ref).length) () (by rw[Q0];lia);rw[this,QQ]
  refine{_,M,a,_,a2,_,_,M,W,T.aC,T.am,bY,.inl {M,_,Dv.of O},_,M,L,_,_,i,_,M,M,O,(),(),sx,(by rw[Ql,ec];rfl),?_};have I:=hb1.erase (i:=i);have e2:(ls.set i ([]:Lh)).eraseIdx i=ls.eraseIdx i:=uE _ _ _;rw[e2]at I;rw[mr];let{ax,b1}:=ok.out ex c0 up1;refine q _ _ _ {L,_,_,I,ax,M,λb=>Iff.rfl} (λz=>by rw[b1,G,ef])<|(fr.trans f1).trans λb o n w=>?_;refine{by rwa[ac (λy=>n<|.inr<|.inl y)],λy=>?_};rcases y with y|y|y
  .exact n<|.inl y
  .exact n<|.inr (.inl y)
  .exact n<|.inr (.inr<|Zb y)
 .refine bf (λw=>c0<|by have:=V.int.inj w;rw[Q0,le]at this;lia) ?_;have ny:x.erase k≠[]:=Zq ();have w1:=ok.shrunk ex ny () up1;let{b2,b3,b4,b5}:=hb1.insM;have Y:(ls.set i<|x.erase k).length=ls.length:=QH;refine{_,M,a,b2,b3,M,b4,b5 _ ∅,_,M,a,L,A,_,(i:Int),M,hb1,(),by rw[Y];lia,w1.le,by rw[Y];lia,λH2 A2 U I e2 f2=>?_};rw[Kd (),QQ]at e2;let{w2,a3}:=w1.join (i:=i) (λj h=>h);rw[<-e2]at w2 a3;have l2:i<=U.length/\U.length<=ls.length:=by
   have:=Az (ls:=ls.set i<|x.erase k) (i:=i);rw[<-e2,Y]at this;lia
  let{b9,ba,bb,be}:=I.insM;refine{_,M,a,b9,ba,M,bb,be _ ∅,_,M,_,_,M,M,a,L,A2,U,(i:Int)-1,M,I,(),(),w2.le,(),λH3 A3 Z bh e3 f3=>?_};have fin:IZ Z/\Z.flatten=U.flatten:=by
   by_cases ci:i=0
   .subst ci;rw[Kc ()]at e3;subst e3;exact{w2.ok λj h=>(),M}
   .have ei:((i:Int)-1).toNat=i-1:=();rw[Kd (),ei]at e3;let{w3,a4}:=w2.join (i:=i-1) (λj h=>());rw[<-e3]at w3 a4;exact{w3.ok λj h=>(),a4}
  let{bl,bo}:=fin;refine q H3 _ _ {L,A3,Z,bh,bl,M,λb=>Iff.rfl} (λz=>by rw[bo,a3,G,ef])<|((fr.trans f1).trans f2).trans f3
def FE(a l:G')(k n:Int)(ls:Mc)(H:Hp):Nat->St->Hp->Prop:=λm B H'=>∃(i:Nat),m=ls.length-i/\IA H H'/\H l=none/\B=[some (.ref a),some (.int k),some (.int n),some (.ref l),some (.int (i:Int))]/\i<=ls.length/\H' l=some (.lst<|(((ls.take i).flatten).filter λz=>decide (k<=z)).map V.int)
def oH(e:ls[i]?=some x):(ls.take<|i+1).flatten=(ls.take i).flatten++x:=by
 rw[Qt,e,Zh];simp
def nz(ls:Mc)(i:Nat):ls.flatten=(ls.take i).flatten++(ls.drop i).flatten:=by rw[<-Zh,QJ]
def mi:C5 P w K mg base IL 2 t.gk t.dG [eH,eR,ua] (lQ K t):=by
 refine T.zK.okl JC λs H vs Q E hr h _=>?_;intro X;let{a,k,n,F,ks,rfl,hA,hl,n0,q}:=h;refine ah (IR 3<|bn af)
   (ah (IR 4<|aR AS T.aC T.bX (bu T) hr.mo T.b6 .nil ar<|aa IC af)
   (cv (λx=>(jC Kw (PW.pt<|fH (aq d9 JF (az au {_} T.bq aZ (aa (ay AS M) af))<|aw _)<|dW<|aq d9 (az au {_} T.bq aZ (aa IU af)) IG<|aw _)
    x)) ?_))
 refine ah (aN<|cZ Qq ZH ZI kF IU<|aa (jG M (IF.of (M':=["one"]) (N:=[eH,eR,ua,"told",sf]) (N':=[eH,eR,ua,"told",sf]) (dsc:=ai bU) M M ∅) (dA<|aJ aL (ay AS M) JF<|λ_ _=>M) (λ_ _ _ _ _=>(aq ur AS IG<|aw _))<|λ_ _ _ _ _=>AS) af)
   (aA (yf (i:=4) JC.nd M (Or.inl M) ae Ct) ?_)
 intros
 refine aA (aD<|hV kA IU mS<|iO IG) ?_
 intros
 let{L,A,ls,hb,ok,ef,hF}:=hA;refine{Qh _,λl W=>?_};have s0:IA H (upd H l<|.lst []):=ak W;have e0:upd H l (.lst []) l=some (.lst<|([]:Lh).map V.int):=ag;have O:=hb.same s0;generalize upd H l (.lst [])=H0 at s0 e0 O⊢;let{a2,a3,a4,a5}:=O.insM;refine{_,M,a,a2,a3,M,a4,a5 _ ∅,_,M,a,k,L,A,ls,M,O,ok.ne,ok.up,λi0 li=>?_};have f0:((ls.take i0).flatten).filter (λz=>decide (k<=z))=[]:=ZA.mpr λz hz=>by
  have:=AE ok li z hz;simpa using this
 have lA:((A.map V.ref).length:Int)=(ls.length:Int):=by rw[Q0,hb.len]
 refine{FE a l k n ls H,{_,i0,M,s0,W,M,li.le,by rwa[f0]},?_};rintro m B H' ⟨i,rfl,s1,_,rfl,il,Y⟩;have hb1:=hb.same s1;let{Z,a0}:=hb1.obj;have fin:∀(done:((((ls.take i).flatten).filter λz=>decide (k<=z)).take n.toNat)=(ks.filter λz=>decide (k<=z)).take n.toNat),∀p,H' p=none->Q (.ref p) (upd H' p<|.lst<|nG ((((ls.take i).flatten).filter λz=>decide (k<=z)).map V.int) none<|some n):=λdone p np=>by
  refine q _ p (s1.trans<|ak np) ?_ ?_
  .cases e:H p with
   |none=>rfl
   |some o=>rw[s1 _ _ e]at np;cases np
  .rw[ag,rS n0,<-ZJ,done]
 refine{_,M,_,M,a,_,Z,_,_,M,a0,T.aC,T.am,bY,L,_,M,.inl<|Dv.of hb1.lst,_,_,M,M,_,M,?_};by_cases c:i<ls.length
 .refine ji (by rw[lA];lia) ?_;refine{_,M,l,_,M,.inl<|Dv.of Y,_,M,_,_,M,M,_,M,?_};by_cases c2:((((((ls.take i).flatten).filter λz=>decide (k<=z)).map V.int).length:Nat):Int)<n
  .refine ji c2 ?_;refine{λa6 H''=>∃m',m'<ls.length-i/\FE a l k n ls H m' a6 H'',λ_ _ h=>h,?_};have ex:ls[i]?=some ls[i]:=Q3 c;let{b,eb,G}:=hb1.at ex;have lb:l≠b:=λz=>by
    let{b',a1,h'}:=hb.at ex;rw[eb]at a1;cases a1;rw[<-z,W]at h';cases h'
   have ab:=Qn (λz=>decide (k<=z)) (ls.take i).flatten;have a9:(ls.take i).flatten.length+ls[i].length<=ks.length:=by
    rw[<-ef,nz ls (i+1),oH ex,Q8,Q8];lia
   refine{_,M,.inl {M,_,Dv.of Y},_,M,a,_,Z,_,_,M,a0,T.aC,T.am,bY,_,M,L,_,_,_,M,M,Dv.of hb1.lst,dX eb,b,M,{_,Dv.of G},λD hD=>?_};generalize ls[i]=x at ex G a9⊢;refine fX (K:=K) (a:=b) (xs:=x.map V.int) (λm ys H3=>H3=upd H' D (.lst ys)/\ys=((x.take m).filter<|λz=>decide (k<=z)).map V.int) ⟨M,M⟩ (λm ys H3 _ w=>Dv.of<|by rwa[w.1,ac (aj G hD)]) (λm v ys H3 U w I=>?_)<|λys H3 w I=>?_
   .let{w1,w2}:=w;obtain⟨g,rfl,eg⟩:∃g:Int,v= .int g/\x[m]?=some g:=by
     rw[Ql]at U;cases e:x[m]? with
     |none=>rw[e]at U;cases U
     |some g=>rw[e]at U;cases U;exact⟨g,M,M⟩
    have hn:m<(x.map V.int).length:=(Q2.mp U).1;refine{_,M,_,M,_,_,M,M,_,M,?_};have fl:ys.length<=100000:=by
     rw[w2,Q0];have h1:=Qn (λz=>decide (k<=z)) (x.take m);have h2:(x.take m).length<=x.length:=by rw[Qd];lia
     lia
    by_cases cg:k<=g
    .refine ji cg {_,M,IW.mk hn I (a8 fl) {by rw[w1,dR],?_}};rw[w2,Qt,eg,Qx,Q9];simp[cg]
    .refine bf cg<|JJ.mk hn I {w1,?_};rw[w2,Qt,eg,Qx];simp[cg]
   .let{w1,w2}:=w;rw[Q0,QF]at w2;have s3:IA H' H3:=by rw[w1];exact ak hD
    have e3:=s3 _ _ Y;have an:=Qn (λz=>decide (k<=z)) x;have hsz:((((ls.take i).flatten).filter λz=>decide (k<=z)).map V.int).length+ys.length<=sizeLine:=by
     rw[w2,Q0,Q0];exact QV<|a8 ()
    refine{l,D,_,_,M,M,e3,I,hsz,?_};have hE:(((ls.take i).flatten).filter λz=>decide (k<=z)).map V.int++ys=(((ls.take<|i+1).flatten).filter λz=>decide (k<=z)).map V.int:=by
     rw[w2,oH ex,Qx,Q9]
    rw[hE];refine{_,M,_,_,M,M,_,?_,i+1,M,?_,W,M,c,ag}
    .lia
    .exact bJ (s1.trans s3) W
  .refine bf c2 ?_;refine{_,M,_,M,_,M,l,_,M,Dv.of Y,fin ?_};have:ks.filter (λz=>decide (k<=z))=((ls.take i).flatten).filter (λz=>decide (k<=z))++((ls.drop i).flatten).filter (λz=>decide (k<=z)):=by rw[<-ef,nz ls i,Qx]
   rw[this,XY];rw[Q0]at c2;lia
 .refine bf (by rw[lA];lia) ?_;have ei:i=ls.length:=();subst ei;refine{_,M,_,M,_,M,l,_,M,Dv.of Y,fin ?_};rw[QF,ef]
def WDn(a l:G')(k:Mi)(n:Int)(ls:Mc)(H:Hp):Nat->St->Hp->Prop:=λm B H'=>IA H H'/\H l=none/\m<=ls.length/\B=[some (.ref a),some (vDn k),some (.int n),some (.ref l),some (.int<|(m:Int)-1)]/\H' l=some (.lst<|(((ls.drop m).flatten).reverse.filter<|da k).map V.int)
def Ev{c:Prop}[Decidable c]{D:nW}{A:Prop}(Pv:Ml)(main:∀z H',Pv z H'->D.nx z H')(G:c->(∀z H',Pv z H'->D.nx z H')->A)(I:Pv B H):if c then A else wx D B H:=bC (λh=>G h main) (λ_=>main _ _ I)
def AG(e:ls[i]?=some x):((ls.drop i).flatten).reverse=((ls.drop<|i+1).flatten).reverse++x.reverse:=by
 let{h,e}:=Q2.mp e;rw[Z7 h,e,Zg,List.reverse_append]
def AH(ok:IZ ls)(G:Iy ls k i0):((ls.drop<|i0+1).flatten).reverse.filter (da<|some k)=[]:=ZA.mpr λz hz=>by
 have:=G.behind ok z (Zj.mp hz);simp only[da,Kq];lia
def CN{len:Nat}:(if((len:Int)-1<(i0:Int))then((len:Int)-1)else(i0:Int))=((min (i0+1) len:Nat):Int)-1:=by
 split<;>lia
def AI(ok:IZ ls)(z:Iy ls k i0):((ls.drop<|min (i0+1) ls.length).flatten).reverse.filter (da<|some k)=[]:=by
 rcases Nat.le_total (i0+1) ls.length with c|c
 .rw[Xl c];exact AH ok z
 .rw[Nat.min_eq_right c,List.drop_length];rfl
def jN:C5 P w K mg base IL 2 t.eU t.cG [eH,eR,ua] (jq K t):=by
 refine T.xL.okl Ix λs H vs Q E hr h _=>?_;intro X;let{a,k,n,F,ks,rfl,hA,hl,n0,q}:=h;refine ah (IR 3<|bn af)
   (ah (IR 4<|al fI (az au {_} T.bq aZ (aa (ay AS M) af)) ae)
   (cv (λx=>aT (aq Ec IC cy<|aw _) x aF) ?_))
 refine aA (IR 4<|az (kK M) {_} T.wm oQ (aa (aR AS T.aC T.bX (bu T) hr.mo T.b6 .nil ar<|aa IC af)<|aa JF af)) ?_
 intros
 refine cv (λx=>(jC Kw (PW.pt<|fH (aq ur JF ae<|aw _)<|dW<|aq d9 (az au {_} T.bq aZ (aa IU af)) IG<|aw _)
    x)) ?_
 refine ah (aN<|cZ Qq ZH ZI kF IU<|aa (jG M (IF.of (M':=["one"]) (N:=[eH,eR,ua,"told",sf]) (N':=[eH,eR,ua,"told",sf]) (dsc:=ai bI) M M ∅) (Gi {_} T.FJ (aa (aJ aL (ay AS M) JF<|λ_ _=>M) af)) (λ_ _ _ _ _=>(PW.pt<|qP (aq jH IG cy<|aw _)<|l6<|aq uq AS IG<|aw _))<|λ_ _ _ _ _=>AS) af)
   (aA (yf (i:=4) Ix.nd M (Or.inl M) ae GL) ?_)
 intros
 refine aA (aD<|hV kA IU mS<|iO IG) ?_
 intros
 let{L,A,ls,hb,ok,ef,hF}:=hA;refine{Qh _,λl Y=>?_};have s0:IA H (upd H l<|.lst []):=ak Y;have e0:upd H l (.lst []) l=some (.lst<|([]:Lh).map V.int):=ag;have z:=hb.same s0;generalize upd H l (.lst [])=H0 at s0 e0 z⊢;let{a1,a2}:=z.obj;have lA:((A.map V.ref).length:Int)=(ls.length:Int):=by rw[Q0,hb.len]
 refine{_,M,a,_,a1,_,_,M,a2,T.aC,T.am,bY,L,_,M,.inl<|Dv.of z.lst,_,_,M,M,?_};rw[lA];refine{_,M,M,_,M,Ev (λG H'=>∃m,WDn a l k n ls H m G H') (λG H' wW=>?main) (λc key=>?A) {ls.length,s0,Y,Q5 _,M,by rwa[List.drop_length]}}
 case A=>
  cases k with
  |none=>exact Kh c (_)
  |some k=>
   let{a3,a4,a5,a6}:=z.insM;refine{_,M,a,a3,a4,M,a5,a6 _ ∅,_,M,a,k,L,A,ls,M,z,ok.ne,ok.up,λi0 li=>?_};refine{_,M,_,_,M,?_};dsimp only;rw[CN];exact key _ _ {min (i0+1) ls.length,s0,Y,Nat.min_le_right _ _,M,by rwa[AI ok li]}
 case main=>
  let{m0,w0}:=wW;refine{WDn a l k n ls H,⟨m0,w0⟩,?_};rintro m B H' ⟨s1,_,ml,rfl,Z⟩;have hb1:=hb.same s1;let{a9,ab}:=hb1.obj;have fin:∀(done:((((ls.drop m).flatten).reverse.filter<|da k).take n.toNat)=(ks.reverse.filter<|da k).take n.toNat),∀p,H' p=none->Q (.ref p) (upd H' p<|.lst<|nG ((((ls.drop m).flatten).reverse.filter<|da k).map V.int) none<|some n):=λdone p np=>by
   refine q _ p (s1.trans<|ak np) ?_ ?_
   .cases e:H p with
    |none=>rfl
    |some o=>rw[s1 _ _ e]at np;cases np
   .rw[ag,rS n0,<-ZJ,done]
  refine{_,M,_,_,M,M,_,M,?_};cases m with
  |zero=>
   refine bf (_) ?_;refine{_,M,_,M,_,M,l,_,M,Dv.of Z,fin ?_};rw[Zv,ef]
  |succ i=>
   have im:((i+1:Nat):Int)-1=(i:Int):=();rw[im];refine ji () ?_;refine{_,M,l,_,M,.inl<|Dv.of Z,_,M,_,_,M,M,_,M,?_};by_cases c2:((((((ls.drop<|i+1).flatten).reverse.filter<|da k).map V.int).length:Nat):Int)<n
   .refine ji c2 ?_;refine{λG H''=>∃m',m'<i+1/\WDn a l k n ls H m' G H'',λ_ _ h=>h,?_};have ex:ls[i]?=some ls[i]:=Q3 ml;let{b,eb,I}:=hb1.at ex;have ax:=Qn (da k) ((ls.drop<|i+1).flatten).reverse;have an:((ls.drop<|i+1).flatten).reverse.length+ls[i].length<=ks.length:=by
     rw[<-ef,nz ls (i+1),oH ex,Q8,Q8,Z6];lia
    refine{_,M,.inl {M,_,Dv.of Z},_,M,a,_,a9,_,_,M,ab,T.aC,T.am,bY,_,M,L,_,_,_,M,M,Dv.of hb1.lst,dX eb,b,_,M,Dv.of I,λD hD=>?_};generalize ls[i]=x at ex I an⊢;refine AL (K:=K) (a:=b) (xs:=x.map V.int) (λm ys H3=>H3=upd H' D (.lst ys)/\ys=((x.reverse.take m).filter<|da k).map V.int) ⟨M,M⟩ (λm ys H3 _ w=>Dv.of<|by rw[w.1,ac (aj I hD)];exact I) (λm v ys H3 W w O=>?_)<|λys H3 w O=>?_
    .let{w1,w2}:=w;obtain⟨g,rfl,eg⟩:∃g:Int,v= .int g/\x.reverse[m]?=some g:=by
      rw[<-List.map_reverse,Ql]at W;cases e:x.reverse[m]? with
      |none=>rw[e]at W;cases W
      |some g=>rw[e]at W;cases W;exact⟨g,M,M⟩
     have hn:m<(x.map V.int).length:=by
      have:=(Q2.mp W).1;rwa [Z6]at this
     have fl:ys.length<=100000:=by
      rw[w2,Q0];have h1:=Qn (da k) (x.reverse.take m);have h2:(x.reverse.take m).length<=x.reverse.length:=by rw[Qd];lia
      rw[Z6]at h2;lia
     have a0:da k g=true->IW (x.map V.int).length m ys D (λm ys H3=>H3=upd H' D (.lst ys)/\ys=((x.reverse.take m).filter<|da k).map V.int) (.int g) H3:=λU=>by
      refine IW.mk hn O (a8 fl) {by rw[w1,dR],?_};rw[w2,Qt,eg,Qx,Q9];simp[U]
     have no:da k g=false->JJ (x.map V.int).length m ys D (λm ys H3=>H3=upd H' D (.lst ys)/\ys=((x.reverse.take m).filter<|da k).map V.int) H3:=λU=>by
      refine JJ.mk hn O {w1,?_};rw[w2,Qt,eg,Qx];simp[U]
     refine{_,M,M,_,M,?_};cases k with
     |none=>exact cK<|cK {_,M,a0 M}
     |some k=>
      refine db {_,M,_,M,_,_,M,M,_,M,?_};by_cases U:g<=k
      .exact ji U {_,M,a0<|Km U}
      .exact bf U<|no (Kr U)
    .let{w1,w2}:=w;rw[Q0,show x.length=x.reverse.length from Z6.symm,QF]at w2;have s3:IA H' H3:=by rw[w1];exact ak hD
     have e3:=s3 _ _ Z;have ap:=Qn (da k) x.reverse;have hsz:((((ls.drop<|i+1).flatten).reverse.filter<|da k).map V.int).length+ys.length<=sizeLine:=by
      rw[w2,Q0,Q0];rw[Z6]at ap;exact QV<|a8 ()
     refine{l,D,_,_,M,M,e3,O,hsz,?_};have hE:(((ls.drop<|i+1).flatten).reverse.filter<|da k).map V.int++ys=(((ls.drop i).flatten).reverse.filter<|da k).map V.int:=by
      rw[w2,AG ex,Qx,Q9]
     rw[hE];refine{_,M,_,_,M,M,i,ZE _,bJ (s1.trans s3) Y,Y,QV ml,M,ag}
   .refine bf c2 ?_;refine{_,M,_,M,_,M,l,_,M,Dv.of Z,fin ?_};have:ks.reverse.filter (da k)=((ls.drop<|i+1).flatten).reverse.filter (da k)++((ls.take<|i+1).flatten).reverse.filter (da k):=by rw[<-ef,nz ls (i+1),List.reverse_append,Qx]
    rw[this,XY];rw[Q0]at c2;lia
def qe:(0:Int)<10^(39:Int).toNat:=by decide
theorem wI:∀{a b:Lh},bQ a->bQ b->(∀z,z∈a↔z∈b)->a=b
 | [],[],_,_,_=>rfl
 | [],y::r,_,_,h=>by have:=(h y).mpr Q6;cases this
 |x::r,[],_,_,h=>by have:=(h x).mp Q6;cases this
 |x::r,y::r',ha,hb,h=>by
  let{I,U}:=Za.mp ha;let{O,W}:=Za.mp hb;have G:x=y:=by
   rcases Q7.mp ((h x).mp Q6)with e|e
   .exact e
   .rcases Q7.mp ((h y).mpr Q6)with e2|e2
    .exact e2.symm
    .have h1:=O x e;have h2:=I y e2;lia
  subst G;rw[wI U W λz=>?_];constructor
  .intro hz;rcases Q7.mp ((h z).mp<|Qc _ hz)with e|e
   .have:=I z hz;lia
   .exact e
  .intro hz;rcases Q7.mp ((h z).mpr<|Qc _ hz)with e|e
   .have:=O z hz;lia
   .exact e
def JW.rise(h:JW K t H a F ks):bQ ks:=by
 let{_,_,ls,_,ok,z,_}:=h;rw[<-z];exact ok.up
def CQ(ms:Lh)(lo hi:Mi):∃cs:List Int,nG (ms.map V.int) lo hi=cs.map V.int/\cs.Sublist ms:=by
 refine{(ms.drop<|HT.sIx (ms.map V.int).length 0 lo).take<|HT.sIx (ms.map V.int).length (ms.map V.int).length hi-HT.sIx (ms.map V.int).length 0 lo,?_,?_}
 .unfold nG;rw[ZJ,XB]
 .exact(ZO _ _).trans<|List.drop_sublist _ _
def wP:C5 P w K mg base IL 1 t.r6 t.mw ["thing"] wA:=by
 refine T.yK.okl wG λs H vs Q E z h _=>?_;intro X;let{x,rfl,hx,k}:=h;refine{_,(aB<|aD<|l9 (az o0 {_} T.eV cN (aa AS<|aa (yZ (v:= .ty "int") {_} T.Ip G2 M) af))<|jE<|Gk<|az o0 {_} T.eV cN (aa AS<|aa (yZ (v:= .ty "bool") {_} T.Il ED M) af))
  ,?_}
 cases x with
 |int i=>
  refine{_,M,_,_,_,_,M,Iw.int _,GC,true,M,cK ?_};exact{_,M,_,_,_,_,M,Iw.int _,GD,_,M,k}
 |bl c=>
  refine{_,M,_,_,_,_,M,Iw.bl _,GE,true,M,cK ?_};exact{_,M,_,_,_,_,M,Iw.bl _,GF,_,M,k}
 |str c=>exact{_,M,_,_,_,_,M,Iw.str _,GA,false,M,db k}
 |non=>exact{_,M,_,_,_,_,M,Iw.non,GB,false,M,db k}
 |_=>exact hx.elim
def mf:C5 P w K mg base IL 2 t.uY t.oO ["thing","low"] x5:=by
 refine T.fg.okl yd λs H vs Q E z h _=>?_;intro X;let{x,lo,rfl,hx,k}:=h;refine{_,(aB<|aD<|l9 (aE (wP T) z.mo {_} T.Gx T.yK.kp T.G5 .nil ar (aa AS af))<|jE<|cq ur AS IC<|aw _)
  ,?_}
 cases x with
 |int i=>exact{_,M,_,M,hx,true,M,cK {_,M,_,M,_,_,M,M,k}}
 |bl c=>exact{_,M,_,M,hx,false,M,db k}
 |str c=>exact{_,M,_,M,hx,false,M,db k}
 |non=>exact{_,M,_,M,hx,false,M,db k}
 |_=>exact hx.elim
def yh:C5 P w K mg base IL 1 t.uU t.oJ ["bound"] xW:=by
 refine T.uZ.okl x9 λs H vs Q E z h _=>?_;intro X;let{x,rfl,hx,k}:=h;refine{_,(aB<|aD<|BL (aq jH AS cy<|aw _) jD<|Af vU {_} T.Io G1 (aa AS af))
  ,?_}
 rcases hx with rfl|⟨i,rfl,hi⟩
 .exact{_,M,M,_,M,cK k}
 .exact{_,M,M,_,M,db {_,M,i,M,hi,k}}
def fJ:C5 P w K mg base IL 1 t.g7 t.gL [eH,"kind",sf,nX] (fu K):=by
 refine T.g8.okl qz λs H vs Q E O h _=>?_;intro X;let{p,C,dx,kd,a,e,rfl,hp,cl,n0,G,I,k}:=h;refine ah (bT AS IC M)
   (ah (bT AS IG M)
   (aA (bT AS IU M) ?_))
 intros
 refine{_,M,_,M,p,C,dx,[],M,hp,cl,n0,(by show 0<1000;decide),_,M,_,M,p,C,dx,_,M,ag,cl,G,(by show 1<1000;decide),_,M,_,M,p,C,dx,_,M,ag,cl,I,?_,?_}
 .have h1:=jA (f:=sf) (v:=a) (bF "kind" (.str kd) []);have h2:=jA (f:="kind") (v:= .str kd) [];have U:([]:L').length=0:=M;lia
 rw[dR,dR];refine k _ _ (λb o q z=>by rw[ac z];exact q) ag {?_,?_,?_,?_,?_}
 .rw[aV,Kc ∅,aV,Kc ∅,aV,Kd M]
 .rw[aV,Kc ∅,aV,Kd M]
 .rw[aV,Kd M]
 .rw[aV,Kc ∅,aV,Kc ∅,aV,Kc ∅];rfl
 .rw[aV,Kc ∅,aV,Kc ∅,aV,Kc ∅];rfl
def tkN(T:Txt K mg t){kd:Int}(h:kd=0\/kd=1\/kd=2):Jk K (LR t kd)/\IB K (LR t kd) "kind"/\IB K (LR t kd) sf/\IB K (LR t kd) nX:=by
 rcases h with rfl|rfl|rfl
 .exact⟨T.cn,T.pR,T.k4,T.cc⟩
 .exact⟨T.iu,T.yk,T.mX,T.ie⟩
 .exact⟨T.cr,T.vI,T.fK,T.gf⟩
def Eu{kd:Int}(h:kd=0\/kd=1\/kd=2):(LO kd).length<=5:=by
 rcases h with rfl|rfl|rfl<;>decide+kernel
def pP:C5 P w K mg base IL 2 t.cp t.fV [eH] (bN t):=by
 refine T.C9.okl pI λs H vs Q E I h _=>?_;intro X;let{p,dx,kd,fs,a,e,rfl,hp,z,G,W,Y,q}:=h;refine{_,(aB<|aD<|cZ PySem.F.plainAttrs_str PySem.F.slot_str_join PySem.F.type_str_join Eh jD<|aa (bn<|aa (ay AS M)<|aa (aE (yh T) I.mo {_} T.Ap T.uZ.kp T.AN .nil ar (aa (ay AS M) af))<|aa (aE (yh T) I.mo {_} T.Ap T.uZ.kp T.AN .nil ar (aa (ay AS M) af)) af) af)
  ,?_}
 let{cl,n0,Z,n2}:=tkN T G.kd;let{O,U}:=Jm.few G W Y;have kl:=Eu G.kd;refine{M,_,M,p,_,dx,fs,_,M,hp,cl,n0,z.ki,_,M,p,_,dx,fs,_,M,hp,cl,Z,z.at_,a,M,O.1,_,M,p,_,dx,fs,_,M,hp,cl,n2,z.end_,e,M,U.1,(by show 3<=sizeLine;decide),λl nl=>?_};refine{" ",l,[LO kd,wr a,wr e],M,M,Dv.of ag,∅,?_,q _<|ak nl};have:=O.2;have:=U.2;simp only[Qs,XG,List.sum_cons,List.sum_nil,Qr,List.length_nil];lia
def kH{x:V}(h:isF lo x=true):∃i,x= .int i/\lo<=i:=by
 cases x with
 |int i=>exact{i,M,Kj h}
 |_=>cases h
def hZ:C5 P w K mg base IL 3 t.je t.bP [eH,sf,nX] (n8 t):=by
 let{G,z}:=T.g_PLACES;have a0:=JI.nd;refine T.Bb.ok JI (λvs H Q E h=>?_)<|λa1 A outer s H vs Q E U h=>?_
 .let{p,dx,a,e,rfl,_}:=h;rfl
 .let{p,dx,a,e,rfl,hp,sa,se,k1,k2}:=h;refine ah (aT (ot<|PW.pt<|fH (cT<|aE (mf T) U.mo {_} T.ig T.fg.kp T.iw .nil ar (aa IC<|aa ae af))<|fH (cT<|aE (mf T) U.mo {_} T.ig T.fg.kp T.iw .nil ar (aa IG<|aa IC af))<|dW<|aq uq IG (bV (v:= .int 65536) {_} z {_,M})<|aw _)
   (aB iN)
   aF)
     (aA (aN<|vC {_} T.wZ T.kZ T.g8.kp (fJ T) U.mo T.lu .nil ar (aa AS<|aa jD<|aa IC<|aa IG af)) ?_)
  intros
  refine{_,M,a,0,M,sa,_,M,bC (λc=>?_)<|λc=>?_}
  .let{i,rfl,i0}:=kH c;refine{_,M,_,M,e,i,M,se,_,M,bC (λc=>?_)<|λc=>?_}
   .let{j,rfl,ij}:=kH c;refine{_,M,_,_,M,M,_,M,?_};by_cases I:j<=65536
    .rw[Km I];exact db {_,M,_,M,_,M,p,_,dx,_,.int i,.int j,M,hp,T.cn,T.pR,T.k4,T.cc,λH' fs k h f=>k1 ⟨i,j,M,M,i0,ij,I⟩ H' fs k h f}
    .rw[Kr I];exact cK<|(k2 λzz=>by let{Y,Z,O,e2,_,_,h}:=zz;cases e2;exact I h)
   .exact cK<|(k2 λW=>by let{Y,Z,O,e2,_,h,_}:=W;exact c<|by cases O;rw[e2];exact Km h)
  .exact cK<|(k2 λW=>by let{Y,Z,O,_,h,_}:=W;exact c<|by rw[O];exact Km h)
def oU:C5 P w K mg base IL 3 t.sd t.fS [eH,sf,nX] (wC t):=by
 have W:=JX.nd;refine T.He.ok JX (λvs H Q E h=>?_)<|λY A outer s H vs Q E G h=>?_
 .let{p,dx,a,e,rfl,_}:=h;rfl
 .let{p,dx,a,e,rfl,hp,Z,se,k1,k2}:=h;refine ah (aT (ot<|PW.pt<|fH (cT<|aE (mf T) G.mo {_} T.ig T.fg.kp T.iw .nil ar (aa IC<|aa ae af))<|dW<|PW.pt<|qP (aq jH IG cy<|aw _)<|l6<|cT<|aE (mf T) G.mo {_} T.ig T.fg.kp T.iw .nil ar (aa IG<|aa IC af))
   (aB iN)
   aF)
     (aA (aN<|vC {_} T.wZ T.kZ T.g8.kp (fJ T) G.mo T.lu .nil ar (aa AS<|aa jD<|aa IC<|aa IG af)) ?_)
  intros
  refine{_,M,a,0,M,Z,_,M,bC (λc=>?_)<|λc=>?_}
  .let{i,rfl,i0}:=kH c;have fin:Jo (.int i) e->fu K [.ref p,.str "up",.int i,e] H (λ_ H'=>Q .non H') E0:=λok=>{p,_,dx,"up",.int i,e,M,hp,T.iu,T.yk,T.mX,T.ie,λH' fs k h f=>k1 ok H' fs k h f};by_cases z:e= .non
   .exact{_,M,M,_,M,jT z<|db {_,M,_,M,_,M,fin {i,M,i0,.inl z}}}
   .refine{_,M,M,_,M,bf z {_,M,_,M,e,i,M,se,_,M,?_}};cases I:isF i e with
    |true=>
     let{j,rfl,ij}:=kH I;exact db {_,M,_,M,_,M,fin {i,M,i0,.inr ⟨j,M,ij⟩}}
    |false=>
     refine cK<|(k2 λO=>?_);let{i',U,_,e2}:=O;cases U;rcases e2 with e2|⟨j',e2,h⟩
     .exact z e2
     .rw[e2]at I;exact Ky I h
  .exact cK<|(k2 λO=>by let{i',U,h,_}:=O;exact c<|by rw[U];exact Km h)
def kY:C5 P w K mg base IL 3 t.nU t.dI [eH,sf,nX] (sN t):=by
 have Y:=JP.nd;refine T.EV.ok JP (λvs H Q E h=>?_)<|λZ A outer s H vs Q E G h=>?_
 .let{p,dx,a,e,rfl,_}:=h;rfl
 .let{p,dx,a,e,rfl,hp,sa,se,k1,k2}:=h;refine ah (aT (ot<|PW.pt<|fH (cT<|aE (mf T) G.mo {_} T.ig T.fg.kp T.iw .nil ar (aa IG<|aa ae af))<|dW<|PW.pt<|qP (aq jH IC cy<|aw _)<|l6<|cT<|aE (mf T) G.mo {_} T.ig T.fg.kp T.iw .nil ar (aa IC<|aa IG af))
   (aB iN)
   aF)
     (aA (aN<|vC {_} T.wZ T.kZ T.g8.kp (fJ T) G.mo T.lu .nil ar (aa AS<|aa jD<|aa IC<|aa IG af)) ?_)
  intros
  refine{_,M,e,0,M,se,_,M,bC (λc=>?_)<|λc=>?_}
  .let{j,rfl,W}:=kH c;have fin:Jn a (.int j)->fu K [.ref p,.str "down",a,.int j] H (λ_ H'=>Q .non H') E0:=λok=>{p,_,dx,"down",a,.int j,M,hp,T.cr,T.vI,T.fK,T.gf,λH' fs k h f=>k1 ok H' fs k h f};by_cases z:a= .non
   .exact{_,M,M,_,M,jT z<|db {_,M,_,M,_,M,fin {j,M,W,.inl z}}}
   .refine{_,M,M,_,M,bf z {_,M,_,M,a,j,M,sa,_,M,?_}};cases I:isF j a with
    |true=>
     let{i,rfl,ij}:=kH I;exact db {_,M,_,M,_,M,fin {j,M,W,.inr ⟨i,M,ij⟩}}
    |false=>
     refine cK<|(k2 λO=>?_);let{j',U,_,e2}:=O;cases U;rcases e2 with e2|⟨i',e2,h⟩
     .exact z e2
     .rw[e2]at I;exact Ky I h
  .exact cK<|(k2 λO=>by let{j',U,h,_}:=O;exact c<|by rw[U];exact Km h)
def vH:C5 P w K mg base IL 1 t.pq t.j3 [eH,eR] (eX t):=by
 refine T.FH.okl vn λs H vs Q E I h _=>?_;intro X;let{p,dx,fs,a,e,k,rfl,hp,G,{i,rfl,i0,he},O,q}:=h;refine{_,(aB<|aD<|l9 (cq uq (ay AS M) IC<|aw _)<|jE<|Ff (cq jH (ay AS M) cy<|aw _)<|jE<|cq d9 IC (ay AS M)<|aw _)
  ,?_}
 have q:=q H (IA.refl H);rcases he with rfl|⟨j,rfl,U⟩
 .have q:Q (.bl<|decide (i<=k)) H:=q;refine{_,M,p,_,dx,fs,_,M,hp,T.iu,T.mX,G.at_,_,M,_,_,M,M,_,M,bC (λc=>{_,M,p,_,dx,fs,_,M,hp,T.iu,T.ie,G.end_,M,_,M,jT M ?_})<|λc=>?_}
  .rw[c]at q;exact q
  .rw[ZU.mpr c]at q;exact q
 .have q:Q (.bl<|decide (i<=k)&&decide (k<j)) H:=q;refine{_,M,p,_,dx,fs,_,M,hp,T.iu,T.mX,G.at_,_,M,_,_,M,M,_,M,bC (λc=>{_,M,p,_,dx,fs,_,M,hp,T.iu,T.ie,G.end_,M,_,M,bf (λz=>by cases z) {_,M,_,M,p,_,dx,fs,_,M,hp,T.iu,T.ie,G.end_,_,_,M,M,?_}})<|λc=>?_}
  .rw[c,Bool.true_and]at q;exact q
  .rw[ZU.mpr c,Xr]at q;exact q
def rn:C5 P w K mg base IL 1 t.lM t.g6 [eH,eR] (dg t):=by
 refine T.DJ.okl qM λs H vs Q E I h _=>?_;intro X;let{p,dx,fs,a,e,k,rfl,hp,G,{j,rfl,O,ha},U,q}:=h;refine{_,(aB<|aD<|l9 (cq uq (ay AS M) IC<|aw _)<|jE<|Ff (cq jH (ay AS M) cy<|aw _)<|jE<|cq uq IC (ay AS M)<|aw _)
  ,?_}
 have q:=q H (IA.refl H);rcases ha with rfl|⟨i,rfl,W⟩
 .have q:Q (.bl<|decide (j<=k)) H:=q;refine{_,M,p,_,dx,fs,_,M,hp,T.cr,T.gf,G.end_,_,M,_,_,M,M,_,M,bC (λc=>{_,M,p,_,dx,fs,_,M,hp,T.cr,T.fK,G.at_,M,_,M,jT M ?_})<|λc=>?_}
  .rw[c]at q;exact q
  .rw[ZU.mpr c]at q;exact q
 .have q:Q (.bl<|decide (j<=k)&&decide (k<=i)) H:=q;refine{_,M,p,_,dx,fs,_,M,hp,T.cr,T.gf,G.end_,_,M,_,_,M,M,_,M,bC (λc=>{_,M,p,_,dx,fs,_,M,hp,T.cr,T.fK,G.at_,M,_,M,bf (λz=>by cases z) {_,M,_,M,p,_,dx,fs,_,M,hp,T.cr,T.fK,G.at_,_,_,M,M,?_}})<|λc=>?_}
  .rw[c,Bool.true_and]at q;exact q
  .rw[ZU.mpr c,Xr]at q;exact q
set_option genInjectivity false in
structure LC where
 p:Addr
 mo:Int
 v:V
structure LD(t:IT)(H:Hp)(m l:G')(es:List LC):Prop where
 ob:∃dx,H m=some (.ins t.d6 dx [("made",.ref l)])
 li:H l=some (.lst<|es.map λe=>V.ref e.p)
 tu:∀e∈es,H e.p=some (.tup [.int e.mo,e.v])
def LD.keep{m l:G'}{es:List LC}(h:LD t H m l es)(z:H' m=H m)(e2:H' l=H l)(G:∀b xs,H b=some (.tup xs)->H' b=some (.tup xs)):LD t H' m l es:={h.ob.imp λ_ e=>z.trans e,e2.trans h.li,λe he=>G _ _<|h.tu e he}
def qm(t:IT):Sp:=λvs H Q _=>∃(a dx:G'),vs=[.ref a]/\H a=some (.ins t.d6 dx [])/\∀(H':Hp)(l:G'),LD t H' a l []->H l=none->(∀b o,b≠a->H b=some o->H' b=some o)->Q .non H'
def re:C5 P w K mg base IL 1 t.lG t.gT [eH] (qm t):=by
 refine T.DD.okl qG λs H vs Q E I h _=>?_;intro X;let{a,dx,rfl,ha,q}:=h;refine{_,(aB<|bT AS (bn af) M)
  ,?_}
 refine{Qh _,λl z=>{_,M,a,_,dx,[],M,(by rwa[ac (aj ha z)]),T.xt,T.tJ,(by show 0<1000;decide),?_}};have G:a≠l:=aj ha z;exact q _ l {⟨dx,ag⟩,by rw[ac G.symm];exact ag,λe he=>by cases he} z λb o n e=>by rwa[ac n,ac (aj e z)]
def ql(t:IT):Sp:=λvs H Q _=>∃(m l:G')(es:List LC)(mo:Int)(v:V),vs=[.ref m,.int mo,v]/\LD t H m l es/\es.length<100000/\
 ∀(H':Hp)(p:G'),LD t H' m l (es++ [⟨p,mo,v⟩])->H p=none->(∀b o,b≠l->H b=some o->H' b=some o)->Q .non H'
def rc:C5 P w K mg base IL 1 t.lF t.gR [eH,"moment",oS] (ql t):=by
 refine T.DB.okl qF λs H vs Q E U h _=>?_;intro X;let{m,l,es,mo,v,rfl,M',le,q}:=h;refine{_,(aB<|aN<|cZ Qq Z0 Z1 c6 (ay AS M)<|aa (bj<|aa IC<|aa IG af) af)
  ,?_}
 let{dx,I}:=M'.ob;refine{_,M,m,_,dx,_,_,M,I,T.xt,T.tJ,M,.inl {M,_,Dv.of M'.li},_,M,_,M,(by show 2<=sizeLine;decide),λp G=>?_};have s1:=ak (o:= .tup [.int mo,v]) G;have pl:p≠l:=λz=>by rw[z,M'.li]at G;cases G
 have O:m≠l:=λz=>by have:=M'.li;rw[<-z,I]at this;cases this
 refine{l,_,_,M,M,s1 _ _ M'.li,a8 (by rw[Q0];lia),?_};refine q _ p {{dx,by rw[ac O];exact s1 _ _ I},by rw[ag,Q9];rfl,λe he=>?_} G λb o n e=>by rw[ac n];exact s1 _ _ e
 rcases Q4.mp he with he|he
 .have te:=s1 _ _ (M'.tu e he);rwa[ac (λz=>by rw[z,s1 _ _ M'.li]at te;cases te)]
 .rw[Qa.mp he];rw[ac pl];exact ag
def JB.notup(h:JB K t H a F st)(e:H b=some (.tup xs)):¬F b:=λhb=>by
 let{d,h1,h2,_}:=h;let{dx,O}:=h1.obj;have G:∀o,H b=some o->(∀ys,o≠ .tup ys)->False:=λo q n=>by rw[e]at q;exact n _ (Kf q).symm
 rcases(h2 b).mp hb with rfl|rfl|rfl|hb|⟨hs,rfl⟩|hb
 .exact G _ O<|λ_ z=>by cases z
 .exact G _ h1.tbl<|λ_ z=>by cases z
 .exact G _ h1.row0.lst<|λ_ z=>by cases z
 .let{_,_,_,_,q}:=h1.row0.has hb;exact G _ q<|λ_ z=>by cases z
 .have r1:=h1.row1;cases I:st.nxt with
  |none=>rw[I]at hs;cases hs
  |some m=>rw[I]at r1;exact G _ r1.lst<|λ_ z=>by cases z
 .have r1:=h1.row1;cases I:st.nxt with
  |none=>rw[I]at r1;rw[r1.1]at hb;cases hb
  |some m=>
   rw[I]at r1;let{_,_,_,_,q}:=r1.has hb;exact G _ q<|λ_ z=>by cases z
def JW.notup(h:JW K t H a F ks)(e:H b=some (.tup xs)):¬F b:=λhb=>by
 let{L,A,ls,h1,_,_,h2}:=h;let{dx,I}:=h1.obj;have G:∀o,H b=some o->(∀ys,o≠ .tup ys)->False:=λo q n=>by rw[e]at q;exact n _ (Kf q).symm
 rcases(h2 b).mp hb with rfl|rfl|hb
 .exact G _ I<|λ_ z=>by cases z
 .exact G _ h1.lst<|λ_ z=>by cases z
 .let{_,_,_,_,q}:=h1.has hb;exact G _ q<|λ_ z=>by cases z
set_option genInjectivity false in
structure Pk where
 k:Int
 m:Addr
 l:Addr
 es:List LC
set_option genInjectivity false in
structure JH where
 now:Int
 fl:Int
 ma:Int
 st:IE
 ks:List Int
 di:List (Addr×List V)
 pa:List Pk
 ho:List (Int×V)
noncomputable def dB:List Pk->Int->List LC
 | [],_=> []
 |e::r,k=>if e.k=k then e.es else dB r k
noncomputable def Jq(pa:List Pk):List (Int×V):=pa.map λe=>(e.k,V.ref e.m)
def Jl(now fl:Int)(s l w:G')(mk:Int)(p h:G'):List (Str×V):=[("now",.int now),("floor",.int fl),("slots",.ref s),(kj,.ref l),("written",.ref w),("marks",.int mk),("past",.ref p),("holders",.ref h)]
def NoH(m:Str):Prop:=m≠("now":Str)/\m≠("floor":Str)/\m≠("slots":Str)/\m≠(kj:Str)/\m≠("written":Str)/\m≠("marks":Str)/\m≠("past":Str)/\m≠("holders":Str)
instance {m:Str}:Decidable (NoH m):=by unfold NoH;infer_instance
section
variable{now now' fl mk mk':Int}{s l w h:G'}{m:Str}
def pY:(Jl now fl s l w mk p h).lookup ("now":Str)=some (.int now):=eY
def GS:(Jl now fl s l w mk p h).lookup ("floor":Str)=some (.int fl):=by unfold Jl;rw[bx ∅,eY]
def rM:(Jl now fl s l w mk p h).lookup ("slots":Str)=some (.ref s):=by unfold Jl;rw[bx ∅,bx ∅,eY]
def yz:(Jl now fl s l w mk p h).lookup (kj:Str)=some (.ref l):=by unfold Jl;rw[bx ∅,bx ∅,bx ∅,eY]
def GQ:(Jl now fl s l w mk p h).lookup ("written":Str)=some (.ref w):=by unfold Jl;rw[bx ∅,bx ∅,bx ∅,bx ∅,eY]
def GR:(Jl now fl s l w mk p h).lookup ("past":Str)=some (.ref p):=by unfold Jl;rw[bx ∅,bx ∅,bx ∅,bx ∅,bx ∅,bx ∅,eY]
def Cv(n:NoH m):(Jl now fl s l w mk p h).lookup m=none:=by
 let{h1,h2,z,G,I,O,U,W}:=n;unfold Jl;rw[bx h1,bx h2,bx z,bx G,bx I,bx O,bx U,bx W];rfl
def D7:bF ("now":Str) (.int now') (Jl now fl s l w mk p h)=Jl now' fl s l w mk p h:=by unfold Jl;rw[bF,Kd M]
def Ex:(Jl now fl s l w mk p h).length<1000:=by show 8<1000;decide
end
def Ow(a w p h:G')(pa:List Pk):Addr->Prop:=λb=>b=a\/b=w\/b=p\/b=h\/∃e∈pa,b=e.m\/b=e.l
structure JV(t:IT)(H:Hp)(a s l w p h:G')(x:JH):Prop where
 ob:∃dx,H a=some (.ins t.a6 dx<|Jl x.now x.fl s l w x.ma p h)
 wr:H w=some (.lst<|x.di.map λe=>V.ref e.1)
 dr:∀e∈x.di,H e.1=some (.tup e.2)
 pa:H p=some (.dK<|aO<|Jq x.pa)
 ho:H h=some (.dK<|aO x.ho)
 mx:∀e∈x.pa,LD t H e.m e.l e.es
 ph:p≠h
 wl:∀e∈x.pa,e.l≠w
 kd:(x.pa.map (·.k)).Nodup
 md:(x.pa.map (·.m)).Nodup
 ld:(x.pa.map (·.l)).Nodup
def cP{t u:TS}{D:nW}(M':Ml)(h1:∀nx,(∀z H',M' z H'->nx z H')->t {D with nx:=nx} B H)(h2:∀z H',M' z H'->u D z H'):xU t u D B H:=h1 (u D) h2
def Av:oY (aO kvs)=(kvs.map (·.1)).map V.int:=by
 unfold oY aO;rw[QR,QR];rfl
def eZ(s:IA H H2)(n:H2 p=none):H p=none:=by
 cases e:H p with
 |none=>rfl
 |some o=>rw[s _ _ e]at n;cases n
def BY{f:α->β}{l:List α}(n:(l.map f).Nodup){x y:α}(hx:x∈l)(hy:y∈l)(e:f x=f y):x=y:=by
 induction l with
 |nil=>cases hx
 |cons z r I=>
  let{G,O}:=QP.mp n;rcases Q7.mp hx with rfl|hx'<;>rcases Q7.mp hy with rfl|hy'
  .rfl
  .exact Kh (Qj.mpr ⟨y,hy',e.symm⟩) G
  .exact Kh (Qj.mpr ⟨x,hx',e⟩) G
  .exact I O hx' hy'
section
variable{s l w h q:G'}{x:JH}{pa:List Pk}{y:LC}
def JV.dom(A:JV t H a s l w p h x)(hb:Ow a w p h x.pa b):∃o,H b=some o/\∀ys,o≠ .tup ys:=by
 let{dx,G}:=A.ob;rcases hb with rfl|rfl|rfl|rfl|⟨e,he,rfl|rfl⟩
 .exact{_,G,λ_ z=>by cases z}
 .exact{_,A.wr,λ_ z=>by cases z}
 .exact{_,A.pa,λ_ z=>by cases z}
 .exact{_,A.ho,λ_ z=>by cases z}
 .let{O,I}:=(A.mx e he).ob;exact{_,I,λ_ z=>by cases z}
 .exact{_,(A.mx e he).li,λ_ z=>by cases z}
def JV.keep(A:JV t H a s l w p h x)(g:∀b,Ow a w p h x.pa b->H' b=H b)(z:∀b xs,H b=some (.tup xs)->H' b=some (.tup xs)):JV t H' a s l w p h x:=
 {A.ob.imp λ_ e=>(g a<|.inl M).trans e,(g w<|.inr<|.inl M).trans A.wr,λe he=>z _ _<|A.dr e he,(g p<|.inr<|.inr<|.inl M).trans A.pa,(g h<|.inr<|.inr<|.inr<|.inl M).trans A.ho,
  λe he=>(A.mx e he).keep (g _<|.inr<|.inr<|.inr<|.inr {e,he,.inl M}) (g _<|.inr<|.inr<|.inr<|.inr {e,he,.inr M}) z,A.ph,A.wl,A.kd,A.md,A.ld}
def JV.same(A:JV t H a s l w p h x)(m:IA H H'):JV t H' a s l w p h x:=A.keep (λb hb=>by
 let{o,e,_}:=A.dom hb;rw[e];exact m _ _ e) λb xs e=>m _ _ e
def JV.set(A:JV t H a s l w p h x){now mk:Int}{fl:Int}:JV t (upd H a<|.ins t.a6 dx<|Jl now fl s l w mk p h) a s l w p h {x with now:=now,fl:=fl,ma:=mk}:=by
 let{O,G}:=A.ob;have n:∀{b:G'}{o:HO},H b=some o->(∀c d fs,o= .ins c d fs->fs.length=1)->b≠a:=λe i z=>by
  rw[z,G]at e;have:=i _ _ _ (Kf e).symm;cases this
 have nt:∀{b:G'}{o:HO},H b=some o->(∀c d fs,o≠ .ins c d fs)->b≠a:=λe i=>n e λc d fs z=>Kh z (i c d fs);refine{⟨dx,ag⟩,by rw[ac (nt A.wr λ_ _ _ z=>by cases z)];exact A.wr,λe he=>by rw[ac (nt (A.dr e he) λ_ _ _ z=>by cases z)];exact A.dr e he,by rw[ac (nt A.pa λ_ _ _ z=>by cases z)];exact A.pa,
  by rw[ac (nt A.ho λ_ _ _ z=>by cases z)];exact A.ho,λe he=>?_,A.ph,A.wl,A.kd,A.md,A.ld}
 have M':=A.mx e he;let{U,I}:=M'.ob;exact M'.keep (ac<|n I λ_ _ _ z=>by cases z;rfl) (ac<|nt M'.li λ_ _ _ z=>by cases z) λb xs e=>by rwa[ac (nt e λ_ _ _ z=>by cases z)]
def JV.row(A:JV t H a s l w p h x)(G:H r=some (.tup xs)):JV t (upd H w<|.lst<|x.di.map (λe=>V.ref e.1)++ [.ref r]) a s l w p h {x with di:=x.di++ [(r,xs)]}:=by
 let{O,I}:=A.ob;have nt:∀{b:G'}{o:HO},H b=some o->(∀ys,o≠ .lst ys)->b≠w:=λe i z=>by
  rw[z,A.wr]at e;exact i _ (Kf e).symm
 refine{{O,by rw[ac (nt I λ_ z=>by cases z)];exact I},by rw[ag,Q9];rfl,λe he=>?_,by rw[ac (nt A.pa λ_ z=>by cases z)];exact A.pa,by rw[ac (nt A.ho λ_ z=>by cases z)];exact A.ho,λe he=>?_,A.ph,A.wl,A.kd,A.md,A.ld}
 .rcases Q4.mp he with he|he
  .rw[ac (nt (A.dr e he) λ_ z=>by cases z)];exact A.dr e he
  .rwa[Qa.mp he,ac (nt G λ_ z=>by cases z)]
 .have M':=A.mx e he;let{W,U}:=M'.ob;exact M'.keep (ac<|nt U λ_ z=>by cases z) (ac<|A.wl e he) λb xs e=>by rwa[ac (nt e λ_ z=>by cases z)]
noncomputable def KW(pa:List Pk)(k:Int)(y:LC):List Pk:=pa.map λe=>if e.k=k then{e with es:=e.es++ [y]}else e
def uo{f:Pk->β}(hf:∀e es,f {e with es:=es}=f e):(KW pa k y).map f=pa.map f:=by
 unfold KW;rw[QR];refine Zu λe _=>?_;show f (if e.k=k then _ else e)=_;split
 .exact hf _ _
 .rfl
set_option tactic.hygienic true in
def vD{e:Pk}(h:e∈KW pa k y):∃g∈pa,e.k=g.k/\e.m=g.m/\e.l=g.l/\((g.k=k/\e.es=g.es++ [y])\/(g.k≠k/\e.es=g.es)):=by
 let{g,z,rfl}:=Qj.mp h;refine{g,z,?_};split
 .rename_i c;exact{M,M,M,.inl ⟨c,M⟩}
 .rename_i c;exact{M,M,M,.inr ⟨c,M⟩}
def Go(hb:Ow a w p h (KW pa k y) b):Ow a w p h pa b:=by
 rcases hb with z|z|z|z|⟨e,he,z⟩
 .exact .inl z
 .exact .inr<|.inl z
 .exact .inr<|.inr (.inl z)
 .exact .inr<|.inr (.inr<|.inl z)
 .let{g,G,_,e2,I,_}:=vD he;rw[e2,I]at z;exact .inr<|.inr (.inr<|.inr ⟨g,G,z⟩)
def JV.noted(A:JV t H a s l w p h x){e:Pk}(he:e∈x.pa)(Y:e.k=k)(M':LD t H' e.m e.l (e.es++ [y]))(U:∀b o,b≠e.l->H b=some o->H' b=some o):JV t H' a s l w p h {x with pa:=KW x.pa k y}:=by
 let{dy,ho}:=A.ob;have hl:=(A.mx e he).li;have nt:∀{b:G'}{o:HO},H b=some o->(∀ys,o≠ .lst ys)->H' b=some o:=λe i=>U _ _ (λz=>by
  rw[z,hl]at e;exact i _ (Kf e).symm) e
 refine{{dy,nt ho<|λ_ z=>by cases z},U _ _ (A.wl e he).symm A.wr,λe he=>nt (A.dr e he) (λ_ z=>by cases z),?_,nt A.ho (λ_ z=>by cases z),λf hf=>?_,A.ph,λf hf=>?_,?_,?_,?_}
 .show H' p=some (.dK<|aO<|Jq<|KW x.pa k y);unfold Jq;rw[uo λ_ _=>rfl];exact nt A.pa λ_ z=>by cases z
 .obtain⟨g,G,e1,e2,I,⟨c,W⟩|⟨c,W⟩⟩:=vD hf
  .have:g=e:=BY A.kd G he (c.trans Y.symm);subst this;rw[e2,I,W];exact M'
  .have O:=A.mx g G;let{dm,Z}:=O.ob;rw[e2,I,W];exact O.keep ((nt Z λ_ z=>by cases z).trans Z.symm) ((U _ _ (λz=>c<|by rwa[BY A.ld G he z]) O.li).trans O.li.symm) λb xs e=>nt e λ_ z=>by cases z
 .let{g,G,_,_,I,_}:=vD hf;rw[I];exact A.wl g G
 .show((KW x.pa k y).map (·.k)).Nodup;rw[uo λ_ _=>rfl];exact A.kd
 .show((KW x.pa k y).map (·.m)).Nodup;rw[uo λ_ _=>rfl];exact A.md
 .show((KW x.pa k y).map (·.l)).Nodup;rw[uo λ_ _=>rfl];exact A.ld
def y3(pa:List Pk)(k:Int):(aI (Jq pa) k=none/\k∉pa.map (·.k))\/∃e∈pa,e.k=k/\aI (Jq pa) k=some (.ref e.m)/\dB pa k=e.es:=by
 induction pa with
 |nil=>exact .inl {jn,λz=>by cases z}
 |cons e r O=>
  show(aI ((e.k,V.ref e.m)::Jq r) k=none/\_)\/∃g∈e::r,g.k=k/\aI ((e.k,V.ref e.m)::Jq r) k=_/\(if e.k=k then e.es else dB r k)=_;by_cases c:e.k=k
  .exact .inr {e,Q6,c,a7 c,Kd c}
  .rw[aW c,Kc c];rcases O with⟨G,I⟩|⟨g,U,G,I,W⟩
   .refine .inl {G,λz=>?_};rw[Qs]at z;rcases Q7.mp z with z|z
    .exact c z.symm
    .exact I z
   .exact .inr {g,Qc _ U,G,I,W}
theorem uv:∀{pa:List Pk},k∉pa.map (·.k)->dB pa k=[]
 | [],_=>rfl
 |e::r,n=>by
  rw[Qs]at n;show(if e.k=k then e.es else dB r k)=[];rw[Kc λz=>n (by rw[z];exact Q6)];exact uv λz=>n (Qc _ z)
theorem mZ{j:Int}:∀{pa:List Pk},k∈pa.map (·.k)->dB (KW pa k y) j=if j=k then dB pa k++ [y]else dB pa j
 |e::r,n=>by
  show(if(if e.k=k then{e with es:=e.es++ [y]}else e:Pk).k=j then(if e.k=k then{e with es:=e.es++ [y]}else e:Pk).es else dB (KW r k y) j)=if j=k then(if e.k=k then e.es else dB r k)++ [y]else(if e.k=j then e.es else dB r j)
  by_cases c:e.k=k
  .rw[Kd c,Kd c];show(if e.k=j then e.es++ [y]else dB (KW r k y) j)=_;by_cases d:j=k
   .rw[Kd d,Kd (c.trans d.symm)]
   .rw[Kc d,Kc λz=>d (z.symm.trans c),Kc λz=>d (z.symm.trans c)];by_cases m:k∈r.map (·.k)
    .rw[mZ m,Kc d]
    .have:KW r k y=r:=by
      unfold KW
      conv=>rhs;rw[<-List.map_id r]
      refine Zu λg G=>Kc λz=>m ?_;rw[<-z];exact Qj.mpr ⟨g,G,M⟩
     rw[this]
  .rw[Kc c,Kc c];have m:k∈r.map (·.k):=by
    rw[Qs]at n;rcases Q7.mp n with z|z
    .exact Kh z.symm c
    .exact z
   rw[mZ m];by_cases d:j=k
   .rw[Kd d,Kd d,Kc λz=>c (z.trans d)]
   .rw[Kc d,Kc d]
theorem rA{e:Pk}{j:Int}:∀{pa:List Pk},e.k∉pa.map (·.k)->dB (pa++ [e]) j=if j=e.k then e.es else dB pa j
 | [],_=>by
  show(if e.k=j then e.es else[])=if j=e.k then e.es else[]
  by_cases c:e.k=j
  .rw[Kd c,Kd c.symm]
  .rw[Kc c,Kc (Ne.symm c)]
 |g::r,n=>by
  rw[Qs]at n;show(if g.k=j then g.es else dB (r++ [e]) j)=if j=e.k then e.es else(if g.k=j then g.es else dB r j)
  rw[rA λz=>n (Qc _ z)];by_cases c:g.k=j
  .rw[Kd c,Kd c,Kc λz=>n (by rw[<-z,<-c];exact Q6)]
  .rw[Kc c,Kc c]
def JV.newk(A:JV t H a s l w p h x){m g:G'}(Z:k∉x.pa.map (·.k))(M':LD t H m g [])(n1:¬Ow a w p h x.pa m)(O:¬Ow a w p h x.pa g):JV t (upd H p<|.dK<|aO<|Jq x.pa++ [(k,.ref m)]) a s l w p h {x with pa:=x.pa++ [⟨k,m,g,[]⟩]}:=by
 let{dy,U}:=A.ob;have nt:∀{b:G'}{o:HO},H b=some o->(∀ys,o≠ .dK ys)->b≠p:=λe i z=>by
  rw[z,A.pa]at e;exact i _ (Kf e).symm
 have W:∀{m' Y:G'}{es:List LC}{o:HO},LD t H m' Y es->LD t (upd H p o) m' Y es:=λM'=>by
  let{dm,hm}:=M'.ob;exact M'.keep (ac<|nt hm λ_ z=>by cases z) (ac<|nt M'.li λ_ z=>by cases z) λb xs e=>by rwa[ac (nt e λ_ z=>by cases z)]
 refine{{dy,by rwa[ac (nt U λ_ z=>by cases z)]},by rw[ac (nt A.wr λ_ z=>by cases z)];exact A.wr,λe he=>by rw[ac (nt (A.dr e he) λ_ z=>by cases z)];exact A.dr e he,?_,by rw[ac A.ph.symm];exact A.ho,λe he=>?_,A.ph,λe he=>?_,?_,?_,?_}
 .rw[ag];show _=some (HO.dK<|aO<|Jq<|x.pa++ [{k,m,g,[]}]);unfold Jq;rw[Q9];rfl
 .rcases Q4.mp he with he|he
  .exact W<|A.mx e he
  .rw[Qa.mp he];exact W M'
 .rcases Q4.mp he with he|he
  .exact A.wl e he
  .rw[Qa.mp he];exact λz=>O (.inr<|.inl z)
 all_goals
  rw[Q9];refine List.nodup_append.mpr {?_,by simp,λu hu v G z=>?_}
 .exact A.kd
 .cases Qa.mp G;rw[z]at hu;exact Z hu
 .exact A.md
 .cases Qa.mp G;let{e,he,I}:=Qj.mp hu;exact n1<|.inr (.inr<|.inr<|.inr {e,he,.inl<|z.symm.trans I.symm})
 .exact A.ld
 .cases Qa.mp G;let{e,he,I}:=Qj.mp hu;exact O<|.inr (.inr<|.inr<|.inr {e,he,.inr<|z.symm.trans I.symm})
end
structure sj(pa pa':List Pk)(k:Int)(y:LC):Prop where
 of:∀j,dB pa' j=if j=k then dB pa k++ [y]else dB pa j
 ky:pa'.map (·.k)=if k∈pa.map (·.k)then pa.map (·.k)else pa.map (·.k)++ [k]
structure Jp(K:Jc)(t:IT)(H:Hp)(a s l w p h:G')(Fs Fl:Li)(x:JH):Prop where
 o:JV t H a s l w p h x
 sl:JB K t H s Fs x.st
 lv:JW K t H l Fl x.ks
 a1:∀b,Fs b->¬Fl b
 a2:∀b,Ow a w p h x.pa b->¬Fs b
 a3:∀b,Ow a w p h x.pa b->¬Fl b
def Ju(a w p h:G')(Fs Fl:Li)(pa:List Pk):Addr->Prop:=λb=>Fs b\/Fl b\/Ow a w p h pa b
section
variable{s l w h:G'}{Fs Fs' Fl Fl':Li}{x:JH}
def Jp.slots(Jb:Jp K t H a s l w p h Fs Fl x)(S:JB K t H' s Fs' st)(f:Fr Fs Fs' H H'):Jp K t H' a s l w p h Fs' Fl {x with st:=st}/\Fr (Ju a w p h Fs Fl x.pa) (Ju a w p h Fs' Fl x.pa) H H':=by
 have G:∀b,Fl b->H' b=H b/\¬Fs' b:=λb hb=>by
  let{o,e}:=Jb.lv.dom hb;have:=f b o (λz=>Jb.a1 b z hb) e;exact{this.1.trans e.symm,this.2}
 have k2:∀b,Ow a w p h x.pa b->H' b=H b/\¬Fs' b:=λb hb=>by
  let{o,e,_}:=Jb.o.dom hb;have:=f b o (Jb.a2 b hb) e;exact{this.1.trans e.symm,this.2}
 have O:=Jb.o.keep (H':=H') (λb hb=>(k2 b hb).1) λb xs e=>(f b _ (Jb.sl.notup e) e).1;exact{{⟨O.ob,O.wr,O.dr,O.pa,O.ho,O.mx,O.ph,O.wl,O.kd,O.md,O.ld⟩,S,Jb.lv.frame λb hb=>(G b hb).1,λb h1 h2=>(G b h2).2 h1,λb hb=>(k2 b hb).2,Jb.a3},λb o n e=>{(f b o (λz=>n<|.inl z) e).1,λz=>z.elim (f b o (λz=>n<|.inl z) e).2 λz=>n<|.inr z}}
def Jp.leaves(Jb:Jp K t H a s l w p h Fs Fl x)(S:JW K t H' l Fl' ks)(f:Fr Fl Fl' H H'):Jp K t H' a s l w p h Fs Fl' {x with ks:=ks}/\Fr (Ju a w p h Fs Fl x.pa) (Ju a w p h Fs Fl' x.pa) H H':=by
 have G:∀b,Fs b->H' b=H b/\¬Fl' b:=λb hb=>by
  let{o,e}:=Jb.sl.dom hb;have:=f b o (Jb.a1 b hb) e;exact{this.1.trans e.symm,this.2}
 have k2:∀b,Ow a w p h x.pa b->H' b=H b/\¬Fl' b:=λb hb=>by
  let{o,e,_}:=Jb.o.dom hb;have:=f b o (Jb.a3 b hb) e;exact{this.1.trans e.symm,this.2}
 have O:=Jb.o.keep (H':=H') (λb hb=>(k2 b hb).1) λb xs e=>(f b _ (Jb.lv.notup e) e).1;exact{{⟨O.ob,O.wr,O.dr,O.pa,O.ho,O.mx,O.ph,O.wl,O.kd,O.md,O.ld⟩,Jb.sl.frame λb hb=>(G b hb).1,S,λb h1=>(G b h1).2,Jb.a2,λb hb=>(k2 b hb).2},λb o n e=>{(f b o (λz=>n<|.inr<|.inl z) e).1,λz=>z.elim (λz=>n<|.inl z) λz=>z.elim (f b o (λz=>n<|.inr<|.inl z) e).2 λz=>n<|.inr (.inr z)}}
def Jp.own(Jb:Jp K t H a s l w p h Fs Fl x)(O:JV t H' a s l w p h x')(I:x'.st=x.st)(e2:x'.ks=x.ks)(f:Fr (Ow a w p h x.pa) (Ow a w p h x'.pa) H H'):Jp K t H' a s l w p h Fs Fl x'/\Fr (Ju a w p h Fs Fl x.pa) (Ju a w p h Fs Fl x'.pa) H H':=by
 have G:∀b,Fs b->H' b=H b/\¬Ow a w p h x'.pa b:=λb hb=>by
  let{o,e}:=Jb.sl.dom hb;have:=f b o (λz=>Jb.a2 b z hb) e;exact{this.1.trans e.symm,this.2}
 have k2:∀b,Fl b->H' b=H b/\¬Ow a w p h x'.pa b:=λb hb=>by
  let{o,e}:=Jb.lv.dom hb;have:=f b o (λz=>Jb.a3 b z hb) e;exact{this.1.trans e.symm,this.2}
 exact{{O,by rw[I];exact Jb.sl.frame λb hb=>(G b hb).1,by rw[e2];exact Jb.lv.frame λb hb=>(k2 b hb).1,Jb.a1,λb h1 h2=>(G b h2).2 h1,λb h1 h2=>(k2 b h2).2 h1},λb o n e=>{(f b o (λz=>n<|.inr<|.inr z) e).1,λz=>z.elim (λz=>n<|.inl z) λz=>z.elim (λz=>n<|.inr<|.inl z) (f b o (λz=>n<|.inr<|.inr z) e).2}}
def Jp.dom(Jb:Jp K t H a s l w p h Fs Fl x)(hb:Ju a w p h Fs Fl x.pa b):∃o,H b=some o/\∀ys,o≠ .tup ys:=by
 have G:∀F:Addr->Prop,F b->(∀xs,H b=some (.tup xs)->¬F b)->∀o,H b=some o->∃o,H b=some o/\∀ys,o≠ .tup ys:=λF I n o e=>{o,e,λys z=>n ys (by rw[e,z]) I};rcases hb with hb|hb|hb
 .let{o,e}:=Jb.sl.dom hb;exact G Fs hb (λxs e=>Jb.sl.notup e) o e
 .let{o,e}:=Jb.lv.dom hb;exact G Fl hb (λxs e=>Jb.lv.notup e) o e
 .exact Jb.o.dom hb
def Jp.keep(Jb:Jp K t H a s l w p h Fs Fl x)(g:∀b,Ju a w p h Fs Fl x.pa b->H' b=H b)(z:∀b xs,H b=some (.tup xs)->H' b=some (.tup xs)):Jp K t H' a s l w p h Fs Fl x:=
 {Jb.o.keep (λb hb=>g b<|.inr<|.inr hb) z,Jb.sl.frame λb hb=>g b<|.inl hb,Jb.lv.frame λb hb=>g b<|.inr<|.inl hb,Jb.a1,Jb.a2,Jb.a3}
end
structure Iz(x:JH):Prop where
 ks:∀z,z∈x.ks↔(aI x.st.kv z).isSome=true
 n0:0<=x.now
 m0:0<=x.ma
 dl:(x.di.length:Int)=x.now+x.ma
 pl:(x.pa.length:Int)<=x.now
 el:∀j,((dB x.pa j).length:Int)<=x.now
 sl:(x.st.kv.length:Int)<=x.now
 hn:(x.ho.map (·.1)).Nodup
 hv:∀p∈x.ho,x.fl<=p.1/\p.1<=x.now/\∃n:Int,p.2= .int n/\0<n
 fb:0<=x.fl/\x.fl<=x.now
 up:∀j,(dB x.pa j).Pairwise (λa b=>a.mo<b.mo)/\∀y∈dB x.pa j,y.mo<=x.now
def JD(K:Jc)(t:IT)(H:Hp)(a:G')(F:Li)(x:JH):Prop:=∃s l w p h Fs Fl,Jp K t H a s l w p h Fs Fl x/\Iz x/\∀b,F b↔Ju a w p h Fs Fl x.pa b
section
variable{q:G'}{x:JH}
def JD.ins(A:JD K t H a F x):∃dx fs,H a=some (.ins t.a6 dx fs)/\(∀m,NoH m->fs.lookup m=none)/\fs.lookup ("now":Str)=some (.int x.now)/\fs.lookup ("floor":Str)=some (.int x.fl):=by
 let{s,l,w,p,h,Fs,Fl,Jb,_}:=A;let{dx,e}:=Jb.o.ob;exact{dx,_,e,λm z=>Cv z,pY,GS}
def JD.ok(A:JD K t H a F x):Iz x:=by
 let{s,l,w,p,h,Fs,Fl,Jb,O,_}:=A;exact O
def JD.dom(A:JD K t H a F x)(hb:F b):∃o,H b=some o/\∀ys,o≠ .tup ys:=by
 let{s,l,w,p,h,Fs,Fl,Jb,_,g}:=A;exact Jb.dom<|(g b).mp hb
def JD.out(A:JD K t H a F x)(e:H b=none):¬F b:=λz=>by
 let{o,q,_}:=A.dom z;rw[q]at e;cases e
def JD.keep(A:JD K t H a F x)(g:∀b,F b->H' b=H b)(z:∀b xs,H b=some (.tup xs)->H' b=some (.tup xs)):JD K t H' a F x:=by
 let{s,l,w,p,h,Fs,Fl,Jb,O,f}:=A;exact{s,l,w,p,h,Fs,Fl,Jb.keep (λb hb=>g b<|(f b).mpr hb) z,O,f}
def JD.same(A:JD K t H a F x)(m:IA H H'):JD K t H' a F x:=A.keep (λb hb=>by
 let{o,e,_}:=A.dom hb;rw[e];exact m _ _ e) λb xs e=>m _ _ e
def JD.upd(A:JD K t H a F x)(n:¬F q)(nt:∀xs,H q≠some (.tup xs)):JD K t (L2.upd H q o) a F x:=A.keep (λb hb=>ac λz=>n<|z▸hb) λb xs e=>by rwa[ac λz=>nt xs (by rw[<-z];exact e)]
end
def qt(t:IT):Sp:=λvs H Q _=>∃(a s l w p h r:G')(k:Int)(x:JH)(v:V)(xs:Lf),vs=[.ref a,.ref r,v]/\JV t H a s l w p h x/\H r=some (.tup xs)/\L4 xs 1=some (.int k)/\x.di.length<50000/\x.pa.length<50000/\(dB x.pa k).length<50000/\
 ∀(H':Hp)(pa':List Pk)(q:G'),JV t H' a s l w p h {x with now:=x.now+1,di:=x.di++ [(r,xs)],pa:=pa'}->sj x.pa pa' k {q,x.now+1,v}->Fr (Ow a w p h x.pa) (Ow a w p h pa') H H'->Q (.int<|x.now+1) H'
def jO:C5 P w K mg base IL 3 t.lL t.gZ [eH,"row",oS] (qt t):=by
 refine T.DI.okl qL λs H vs Q E hr h _=>?_;intro X;let{a,s,l,wr,p,h,r,k,x,v,xs,rfl,A,ht,hk,l1,l2,l3,q}:=h;refine ah (IR 3<|aJ bz IC ae<|λ_ _=>M)
   (ah (kC AS ae yx)
   (ah (aN<|cZ Qq Z0 Z1 c6 (ay AS M)<|aa IC af)
   (ah (aN<|aR (cZ Zw K0 PySem.F.type_dict_setdefault Am (ay AS M)<|aa IU<|aa (mU T.HJ (re T) hr.mo {_} T.HM T.Dp .nil ar) af) T.xt T.Dd (rc T) hr.mo T.Do .nil ar<|aa (ay AS M)<|aa IG af)
   (aA (aD<|ay AS M) ?_))))
 intros
 let{dx,ho}:=A.ob;refine{_,M,r,_,_,_,M,M,JE.of ht,hk,?_};refine{_,M,a,_,dx,_,_,M,ho,T.aU,T.iP,pY,_,_,M,M,dx,_,ho,Ex,?_};rw[D7];have A1:=A.set (now:=x.now+1) (mk:=x.ma) (fl:=x.fl) (dx:=dx);have o1:∀b o,b≠a->H b=some o->upd H a (.ins t.a6 dx<|Jl (x.now+1) x.fl s l wr x.ma p h) b=some o:=λb o n e=>by rwa[ac n]
 have ra:r≠a:=λz=>by rw[z,ho]at ht;cases ht
 have O:=o1 _ _ ra ht;generalize upd H a (.ins t.a6 dx<|Jl (x.now+1) x.fl s l wr x.ma p h)=H1 at A1 o1 O⊢;let{a3,a0}:=A1.ob;refine{_,M,a,_,a3,_,_,M,a0,T.aU,T.oA,GQ,.inl {M,_,Dv.of A1.wr},_,M,wr,_,_,M,M,A1.wr,a8 (by rw[Q0];show x.di.length<=_;lia),?_};have U:=A1.row O;have o2:∀b o,¬Ow a wr p h x.pa b->H b=some o->upd H1 wr (.lst<|x.di.map (λe=>V.ref e.1)++ [.ref r]) b=some o:=λb o n e=>by rw[ac λz=>n (.inr<|.inl z)];exact o1 _ _ (λz=>n<|.inl z) e
 generalize upd H1 wr (.lst<|x.di.map (λe=>V.ref e.1)++ [.ref r])=H2 at U o2⊢;let{a4,a1}:=U.ob;refine{_,M,a,_,a4,_,_,M,a1,T.aU,T.tK,GR,.inr<|.inr<|.inl {M,.inl {_,U.pa}},_,M,λm dm nm nd a5=>{m,dm,M,ag,λH4 g M4 ng o4=>{M,?_}}};have s3:IA H2 (upd (upd H2 dm<|.own m) m<|.ins t.d6 dm []):=bJ (ak nd) nm;have s4:IA H2 H4:=λb o e=>o4 b o (λz=>by rw[z,nm]at e;cases e) (s3 b o e);have W:=eZ s3 ng;have A4:=U.same s4;have om:¬Ow a wr p h x.pa m:=λz=>by let{o,e,_}:=U.dom z;rw[nm]at e;cases e
 have og:¬Ow a wr p h x.pa g:=λz=>by let{o,e,_}:=U.dom z;rw[W]at e;cases e
 have Z:∀b o,¬Ow a wr p h x.pa b->H b=some o->H4 b=some o/\b≠m/\b≠g:=λb o n e=>{s4 _ _<|o2 b o n e,λz=>(by have:=o2 b o n e;rw[z,nm]at this;cases this),λz=>(by have:=o2 b o n e;rw[z,W]at this;cases this)};clear s3 s4 o4 o2 o1 A1 U a1 a0 ho A ng nm nd a5 W O ht;refine{p,_,Sum.inl k,.ref m,M,M,A4.pa,(by rw[c8];exact a8<|by show(Jq x.pa).length<=_;unfold Jq;rw[Q0];lia),λu hu=>?A,λY=>?Jb}
 case' A=>
  have hu:aI (aO<|Jq x.pa) (Sum.inl k:Key)=some u:=hu;rw[IP]at hu;obtain⟨e,he,I,ev,em⟩:∃e∈x.pa,e.k=k/\aI (Jq x.pa) k=some (.ref e.m)/\dB x.pa k=e.es:=by
   rcases y3 x.pa k with⟨z,_⟩|z
   .rw[z]at hu;cases hu
   .exact z
  rw[ev]at hu;cases hu;obtain⟨G,A5,he,N,f5⟩:∃G,JV t H4 a s l wr p h {x with now:=x.now+1,di:=x.di++ [(r,xs)],pa:=G}/\e∈G/\(∀y,sj x.pa (KW G k y) k y)/\Fr (Ow a wr p h x.pa) (Ow a wr p h G) H H4:=
   {x.pa,A4,he,λy=>{λj=>mZ<|Qj.mpr ⟨e,he,I⟩,by rw[uo λ_ _=>M,Kd (Qj.mpr ⟨e,he,I⟩)]},λb o n e=>{(Z b o n e).1,n}}
  have le:e.es.length<50000:=by rwa[<-em]
  clear A4 em ev Z
 case' Jb=>
  have Y:aI (aO<|Jq x.pa) (Sum.inl k:Key)=none:=Y;rw[IP]at Y;have nk:k∉x.pa.map (·.k):=by
   rcases y3 x.pa k with⟨_,z⟩|⟨e,_,_,z,_⟩
   .exact z
   .rw[z]at Y;cases Y
  have ep:bg (aO<|Jq x.pa) (Sum.inl k:Key) (.ref m)=aO (Jq x.pa++ [(k,.ref m)]):=by
   rw[ii];unfold bg;rw[b7,Y];rfl
  rw[ep];obtain⟨e,ee,I,le⟩:∃e:Pk,e={k,m,g,[]}/\e.k=k/\e.es.length<50000:={_,M,M,by show 0<50000;decide};obtain⟨G,A5,he,N,f5⟩:∃G,JV t (upd H4 p<|.dK<|aO<|Jq x.pa++ [(k,.ref m)]) a s l wr p h {x with now:=x.now+1,di:=x.di++ [(r,xs)],pa:=G}/\e∈G/\(∀y,sj x.pa (KW G k y) k y)/\Fr (Ow a wr p h x.pa) (Ow a wr p h G) H (upd H4 p<|.dK<|aO<|Jq x.pa++ [(k,.ref m)]):=by
   refine{x.pa++ [e],ee▸A4.newk nk M4 om og,Qv _ Q6,λy=>{λj=>?_,?_},λb o n eb=>{?_,λz=>?_}}
   .have a2:e.k∉x.pa.map (·.k):=by rwa[I]
    rw[mZ (by rw[Q9];exact Qv _<|Qa.mpr I.symm),rA a2,rA a2,Kd I.symm,uv nk,ee];by_cases c:j=k
    .rw[Kd c,Kd c]
    .rw[Kc c,Kc c,Kc c]
   .rw[uo λ_ _=>M,Kc nk,Q9,<-I];rfl
   .rw[ac λz=>n (.inr<|.inr<|.inl z)];exact(Z b o n eb).1
   .rcases z with z|z|z|z|⟨e',a9,z⟩
    .exact n<|.inl z
    .exact n<|.inr (.inl z)
    .exact n<|.inr (.inr<|.inl z)
    .exact n<|.inr (.inr<|.inr<|.inl z)
    .rcases Q4.mp a9 with y|y
     .exact n<|.inr (.inr<|.inr<|.inr ⟨e',y,z⟩)
     .rw[Qa.mp y,ee]at z;exact z.elim (Z b o n eb).2.1 (Z b o n eb).2.2
  have em:V.ref m=V.ref e.m:=by rw[ee]
  clear A4 M4 Z om og Y nk ep;generalize upd H4 p (.dK<|aO<|Jq x.pa++ [(k,.ref m)])=H5 at A5 f5⊢;rw[em]
 all_goals
  have M5:=A5.mx e he;let{dy,hm}:=M5.ob;let{ab,am}:=A5.ob;refine{e.m,dy,_,M,hm,bx ∅,_,M,a,_,ab,_,_,M,am,T.aU,T.iP,pY,_,M,e.m,e.l,e.es,_,v,M,M5,(),λH6 y M6 ny o6=>?_};have A6:=A5.noted he I M6 o6;let{an,ap}:=A6.ob;refine{_,M,a,_,an,_,_,M,ap,T.aU,T.iP,pY,q _ _ y A6 (N _)<|f5.trans λb o n eb=>{o6 b o (λz=>n<|.inr<|.inr<|.inr<|.inr {e,he,.inr z}) eb,λz=>n<|Go z}}
def JH.new:JH:={0,0,0,IE.new,[],[],[],[]}
def JH.new_ok:Iz JH.new:={λz=>{(λy=>by cases y),(λy=>by cases y)},(_),(_),M,(_),λ_=>by show((0:Nat):Int)<=0;decide,(_),Zl,(λ_ z=>by cases z),(_),λ_=>{Kx,(λy z=>by cases z)}}
def jV{f:Str}{nx:Hp->Prop}(k:∀H',H' a=some (.ins C dx<|bF f v fs)->(∀b,b≠a->H' b=H b)->nx H'):nx (upd H a<|.ins C dx<|bF f v fs):=k _ ag λ_ n=>ac n
def w9{n m:Nat}(h:Nat.ble (n+1) m=true):n<m:=Nat.le_of_ble_eq_true h
def qq(K:Jc)(t:IT):Sp:=λvs H Q _=>∃(a dx:G'),vs=[.ref a]/\H a=some (.ins t.a6 dx [])/\∀H' F,JD K t H' a F JH.new->Fr (λb=>b=a) F H H'->Q .non H'
def rh:C5 P w K mg base IL 4 t.lJ t.gX [eH] (qq K t):=by
 refine T.DG.okl qJ λs H vs Q E hr h _=>?_;intro X;let{a,dx,rfl,ha,q}:=h;refine ah (bT AS ae M)
   (ah (bT AS ae M)
   (ah (bT AS (mU T.HI (qZ T) hr.mo {_} T.HL T.Dm .nil ar) M)
   (ah (bT AS (mU T.Hg (pQ T) hr.mo {_} T.Hh T.C3 .nil ar) M)
   (ah (bT AS (bn af) M)
   (ah (bT AS ae M)
   (ah (bT AS jF M)
   (aA (bT AS jF M) ?_)))))))
 intros
 refine{_,M,a,_,dx,[],M,ha,T.aU,T.iP,w9 (by kernel_rfl),jV λH1 h1 o1=>?_};refine{_,M,a,_,dx,_,M,h1,T.aU,T.B0,w9 (by kernel_rfl),jV λH2 h2 o2=>?_};refine λs ds ns I a0=>{s,ds,M,ag,by rw[ac a0];exact ag,λH3 Fs S3 f3=>{M,?_}};have k3:∀b o,H2 b=some o->H3 b=some o/\¬Fs b:=λb o e=>f3 b o (λz=>z.elim (λz=>by rw[z,ns]at e;cases e) λz=>by rw[z,I]at e;cases e) (bJ (ak I) ns _ _ e);let{h3,na}:=k3 _ _ h2;refine{_,M,a,_,dx,_,M,h3,T.aU,T.b9,w9 (by kernel_rfl),jV λH4 h4 o4=>?_};have S4:=S3.frame (H':=H4) λb hb=>o4 b λz=>na (z▸hb);refine λl dl nl U a1=>{l,dl,M,ag,by rw[ac a1];exact ag,λH5 Fl L5 f5=>{M,?_}};have k5:∀b o,H4 b=some o->H5 b=some o/\¬Fl b:=λb o e=>f5 b o (λz=>z.elim (λz=>by rw[z,nl]at e;cases e) λz=>by rw[z,U]at e;cases e) (bJ (ak U) nl _ _ e);let{h5,nb}:=k5 _ _ h4;refine{_,M,a,_,dx,_,M,h5,T.aU,T.eG,w9 (by kernel_rfl),jV λG h6 o6=>?_};have L6:=L5.frame (H':=G) λb hb=>o6 b λz=>nb (z▸hb);have S6:=(S4.same λb o e=>(k5 b o e).1).frame (H':=G) λb hb=>o6 b λz=>na (z▸hb);have ap:∀b,Fs b->¬Fl b:=λb hb=>by
  let{o,e}:=S4.dom hb;exact(k5 b o e).2
 have k6:∀b o,b≠a->H b=some o->G b=some o/\¬Fs b/\¬Fl b:=λb o n e=>by
  let{e3,n3}:=k3 b o (by rwa[o2 b n,o1 b n]);let{e5,n5}:=k5 b o (by rwa[o4 b n]);exact{by rwa[o6 b n],n3,n5}
 clear f3 k3 f5 k5 S4 L5 S3 ns I a0 nl U a1 h1 h2 h3 h4 h5 o1 o2 o4 o6;refine{Qh _,λwr nw=>{_,M,a,_,dx,_,M,ak nw _ _ h6,T.aU,T.oA,w9 (by kernel_rfl),jV λH7 h7 o7=>?_}};refine{_,M,a,_,dx,_,M,h7,T.aU,T.BZ,w9 (by kernel_rfl),jV λH8 h8 o8=>?_};refine λp np=>{_,M,a,_,dx,_,M,ak np _ _ h8,T.aU,T.tK,w9 (by kernel_rfl),jV λH9 h9 o9=>?_};refine λh nh=>{_,M,a,_,dx,_,M,ak nh _ _ h9,T.aU,T.Al,w9 (by kernel_rfl),jV λa2 a4 a3=>?_};have kk:∀{A Jb:Hp}{q:G'}{u:HO},A q=none->(∀b,b≠a->Jb b=upd A q u b)->∀b o,b≠a->A b=some o->Jb b=some o:=λnq e b o n h=>by rwa[e b n,ac (aj h nq)]
 have wa:=(aj h6 nw).symm;have pa':=(aj h8 np).symm;have W:=(aj h9 nh).symm;have e8:∀b o,b≠a->G b=some o->H8 b=some o:=λb o n e=>by rw[o8 b n];exact kk nw o7 b o n e
 have e9:=kk np o9;have Y:=kk nh a3;have w8:H8 wr=some (.lst []):=by rw[o8 _ wa,o7 _ wa];exact ag
 have p9:H9 p=some (.dK []):=by rw[o9 _ pa'];exact ag
 have Z:∀b o,b≠a->G b=some o->a2 b=some o:=λb o n e=>Y b o n (e9 b o n<|e8 b o n e);have O:JV t a2 a s l wr p h JH.new:={{dx,a4.trans<|by kernel_rfl},Y _ _ wa<|e9 _ _ wa w8,(λe he=>by cases he),Y _ _ pa' p9,by rw[a3 _ W];exact ag,(λe he=>by cases he),aj p9 nh,(λe he=>by cases he),Zl,Zl,Zl};have fresh:∀b,(b=wr\/b=p\/b=h)->G b=none:=λb hb=>by
  cases e:G b with
  |none=>rfl
  |some o=>
   rcases hb with rfl|rfl|rfl
   .rw[nw]at e;cases e
   .rw[e8 _ _ pa' e]at np;cases np
   .rw[e9 _ _ W (e8 _ _ W e)]at nh;cases nh
 have ow:∀b,Ow a wr p h [] b->b=a\/G b=none:=λb hb=>by
  rcases hb with z|z|z|z|⟨e,he,_⟩
  .exact .inl z
  .exact .inr<|fresh b (.inl z)
  .exact .inr<|fresh b (.inr<|.inl z)
  .exact .inr<|fresh b (.inr<|.inr z)
  .cases he
 refine q _ (Ju a wr p h Fs Fl []) {s,l,wr,p,h,Fs,Fl,{O,S6.frame λb hb=>?_,L6.frame λb hb=>?_,ap,λb hb z=>?_,λb hb z=>?_},JH.new_ok,λ_=>Iff.rfl} λb o n e=>?_
 .let{o,e}:=S6.dom hb;rw[e];exact Z b o (λz=>na<|z▸hb) e
 .let{o,e}:=L6.dom hb;rw[e];exact Z b o (λz=>nb<|z▸hb) e
 .rcases ow b hb with y|y
  .exact na<|y▸z
  .exact S6.out y z
 .rcases ow b hb with y|y
  .exact nb<|y▸z
  .exact L6.out y z
 .let{c1,c2,c3}:=k6 b o n e;refine{Z b o n c1,λz=>?_};rcases z with z|z|z
  .exact c2 z
  .exact c3 z
  .rcases ow b z with y|y
   .exact n y
   .rw[c1]at y;cases y
def JD.klen{x:JH}(A:JD K t H a F x):(x.ks.length:Int)<=x.now:=by
 let{s,l,w,p,h,Fs,Fl,Jb,O,_}:=A;let{L,A,ls,_,ok,e,_}:=Jb.lv;have G:x.ks.Nodup:=by
  rw[<-e];exact List.Pairwise.imp (λh z=>()) ok.up
 have:=eh (S:=x.st.kv.map (·.1)) G λz hz=>mem_keys.mpr ((O.ks z).mp hz);rw[Q0]at this;have:=O.sl;lia
def Iz.noted{x:JH}{y:LC}(O:Iz x)(N:sj x.pa pa' k y):(pa'.length:Int)<=x.now+1/\∀j,((dB pa' j).length:Int)<=x.now+1:=by
 constructor
 .have h1:=O.pl;have h2:=Ks List.length N.ky;rw[Q0]at h2;split at h2
  .rw[Q0]at h2;lia
  .rw[Q8,Q0,Zo]at h2;lia
 .intro j;rw[N.of];split
  .have:=O.el k;rw[Q8,Zo];lia
  .have:=O.el j;lia
def Iz.hv1{x:JH}(O:Iz x):∀p∈x.ho,x.fl<=p.1/\p.1<=x.now+1/\∃n:Int,p.2= .int n/\0<n:=λp hp=>{(O.hv p hp).1,by have:=(O.hv p hp).2.1;lia,(O.hv p hp).2.2}
def Iz.fb1{x:JH}(O:Iz x):0<=x.fl/\x.fl<=x.now+1:={O.fb.1,by have:=O.fb.2;lia}
def Iz.up1{x:JH}{y:LC}(O:Iz x)(N:sj x.pa pa' k y)(e:y.mo=x.now+1):∀j,(dB pa' j).Pairwise (λa b=>a.mo<b.mo)/\∀z∈dB pa' j,z.mo<=x.now+1:=λj=>by
 rw[N.of];let{I,G}:=O.up k;split
 .refine{Qk.mpr {I,Zf _ _,λa ha b hb=>?_},λz hz=>?_}
  .rw[Qa.mp hb,e];have:=G a ha;lia
  .rcases Q4.mp hz with hz|hz
   .have:=G z hz;lia
   .rw[Qa.mp hz,e];exact ZD _
 .let{U,W}:=O.up j;exact{U,λz hz=>by have:=W z hz;lia}
def sL(K:Jc)(t:IT):Sp:=λvs H Q _=>∃(a:G')(k i:Int)(F:Li)(x:JH),vs=[.ref a,.int k,.int i]/\JD K t H a F x/\0<=k/\x.now+x.ma<4000/\
 ∀(H':Hp)(F':Li)(ks':Lh)(r q:G')(pa':List Pk),JD K t H' a F' {x with now:=x.now+1,st:=x.st.put k (.int i),ks:=ks',di:=x.di++ [(r,[.str "put",.int k,.int i])],pa:=pa'}->sj x.pa pa' k {q,x.now+1,.int i}->Fr F F' H H'->Q (.int<|x.now+1) H'
set_option tactic.hygienic true in
def tH:C5 P w K mg base IL 5 t.nS t.i6 [eH,eR,oS] (sL K t):=by
 refine T.ET.okl sY λs H vs Q E hr h _=>?_;intro X;let{a,k,i,F,x,rfl,A,k0,l1,q}:=h;refine ah (aT (ot<|cT<|aR (ay AS M) T.ax T.vK (kX T) hr.mo T.vZ .nil ar<|aa IC af)
    (aB<|aN<|aR (ay AS M) T.aC T.De (rf T) hr.mo T.Dq .nil ar<|aa IC af)
    aF)
   (ah (aN<|aR (ay AS M) T.ax T.Em (tF T) hr.mo T.EH .nil ar<|aa IC<|aa IG af)
   (aA (aD<|aR AS T.aU T.tP (jO T) hr.mo T.tV .nil ar<|aa (bj<|aa jD<|aa IC<|aa IG af)<|aa IG af) ?_))
 intros
 have kl:=A.klen;let{s,l,wr,p,h,Fs,Fl,Jb,O,g}:=A;have n0:=O.n0;have m0:=O.m0;have sl:=O.sl;let{dx,ho}:=Jb.o.ob;let{ds,fs,hs,hm}:=Jb.sl.ins
 (try dsimp only)
 refine cP (λB H2=>∃(U G:Li)(I:Lh),B=[some (.ref a),some (.int k),some (.int i)]/\Jp K t H2 a s l wr p h U G {x with ks:=I}/\(∀z,z∈I↔z=k\/z∈x.ks)/\Fr (Ju a wr p h Fs Fl x.pa) (Ju a wr p h U G x.pa) H H2) (λnx go=>?_)<|λB H2 w=>?_
 .refine{_,M,a,_,dx,_,_,M,ho,T.aU,T.b9,rM,s,ds,fs,M,hs,hm _ ∅,_,M,s,k,Fs,x.st,M,Jb.sl,k0,λH1 Z S1 f1=>?_};let{B1,g1}:=Jb.slots S1 f1;let{a0,a1}:=B1.o.ob;let{dl,fl,hl,a2}:=B1.lv.ins;cases ev:(aI x.st.kv k).isSome with
  |true=>
   refine{_,M,bC (λc=>?_)<|λ_=>?_}
   .cases c
   .exact go _ _ {Z,Fl,x.ks,M,B1,λz=>{.inr,λy=>y.elim (λy=>by rw[y];exact(O.ks k).mpr ev) id},g1}
  |false=>
   have nk:k∉x.ks:=λz=>by have:=(O.ks k).mp z;rw[ev]at this;cases this
   refine{_,M,bC (λ_=>?_)<|λc=>?_}
   .refine{_,M,a,_,a0,_,_,M,a1,T.aU,T.eG,yz,l,dl,fl,M,hl,a2 _ ∅,_,M,l,k,Fl,x.ks,M,B1.lv,(),λ_ H2 G I L2 mem f2=>?_,λz=>Kh z nk};let{Y,g2}:=B1.leaves L2 f2;exact go _ _ {Z,G,I,M,Y,mem,g1.trans g2}
   .exact Kh M c
 .let{U,G,I,rfl,Y,mem,g2}:=w;let{a3,a4}:=Y.o.ob;let{a5,a6,a9,ab}:=Y.sl.ins;refine{_,M,a,_,a3,_,_,M,a4,T.aU,T.b9,rM,s,a5,a6,M,a9,ab _ ∅,_,M,_,M,s,k,i,U,x.st,M,Y.sl,k0,(),λH3 W S3 f3=>?_};let{B3,g3}:=Y.slots S3 f3;let{am,an}:=B3.o.ob;refine{_,M,a,am,_,M,an,Cv ∅,_,M,_,M,(by show 3<=sizeLine;decide),λr nr=>?_};have s4:=ak (o:= .tup [.str "put",.int k,.int i]) nr;have ht:upd H3 r (.tup [.str "put",.int k,.int i]) r=some (.tup [.str "put",.int k,.int i]):=ag;have B4:Jp K t (upd H3 r<|.tup [.str "put",.int k,.int i]) a s l wr p h W G _:=B3.keep (λb hb=>by
   let{o,e,_}:=B3.dom hb;rw[e];exact s4 _ _ e) λb xs e=>s4 _ _ e
  have g4:=(g2.trans g3).trans (Fr.of_same s4);generalize upd H3 r (.tup [.str "put",.int k,.int i])=H4 at B4 ht g4⊢;have dl:=O.dl;have pl:=O.pl;have el:=O.el k;refine{_,M,a,s,l,wr,p,h,r,k,_,.int i,_,M,B4.o,ht,M,by show x.di.length<50000;lia,by show x.pa.length<50000;lia,by show(dB x.pa k).length<50000;lia,λH5 pa' y O5 N f5=>?_};let{B5,g5}:=B4.own O5 M M f5;let{N1,N2}:=O.noted N;have ek:(x.st.put k<|.int i).kv=bg x.st.kv k (.int i):=IE.three_kv;refine q H5 (Ju a wr p h W G pa') I r y pa' {s,l,wr,p,h,W,G,B5,{λz=>?_,by show 0<=x.now+1;lia,m0,?_,N1,N2,?_,O.hn,O.hv1,O.fb1,O.up1 N M},λ_=>Iff.rfl} N ?_
  .show z∈I↔(aI (x.st.put k<|.int i).kv z).isSome=true;rw[mem,ek,<-mem_keys,m6,O.ks];split
   .rename_i c
    rw[mem_keys];exact{λy=>y.elim (λy=>y▸c) id,.inr}
   .rw[Q4,Qa,mem_keys];exact{λy=>y.elim .inr .inl,λy=>y.elim .inr .inl}
  .show((x.di++ [(r,_)]).length:Int)=x.now+1+x.ma;rw[Q8,Zo];lia
  .show((x.st.put k<|.int i).kv.length:Int)<=x.now+1;rw[ek];have:=cf x.st.kv k (.int i);lia
  .exact λb o n e=>(g4.trans g5) b o (λz=>n<|(g b).mpr z) e
def qr(K:Jc)(t:IT):Sp:=λvs H Q E=>∃(a:G')(k:Int)(F:Li)(x:JH),vs=[.ref a,.int k]/\JD K t H a F x/\0<=k/\x.now+x.ma<4000/\
 ((aI x.st.kv k).isSome=true->∀(H':Hp)(F':Li)(ks':Lh)(r q:G')(pa':List Pk),JD K t H' a F' {x with now:=x.now+1,st:=x.st.drop k,ks:=ks',di:=x.di++ [(r,[.str "drop",.int k])],pa:=pa'}->sj x.pa pa' k {q,x.now+1,.non}->Fr F F' H H'->Q (.int<|x.now+1) H')/\
 (aI x.st.kv k=none->False)
def rj:C5 P w K mg base IL 6 t.lK t.gY [eH,eR] (qr K t):=by
 refine T.DH.okl qK λs H vs Q E Y h _=>?_;intro X;let{a,k,F,x,rfl,A,k0,l1,q,qx}:=h;refine ah (aN<|aR (ay AS M) T.ax T.Dc (q9 T) Y.mo T.Dn .nil ar<|aa IC af)
   (ah (aN<|aR (ay AS M) T.aC T.zc (mj T) Y.mo T.zE .nil ar<|aa IC af)
   (aA (aD<|aR AS T.aU T.tP (jO T) Y.mo T.tV .nil ar<|aa (bj<|aa jD<|aa IC af)<|aa cy af) ?_))
 intros
 have kl:=A.klen;let{s,l,wr,p,h,Fs,Fl,Jb,O,g}:=A;have n0:=O.n0;have m0:=O.m0;have sl:=O.sl;let{dx,ho}:=Jb.o.ob;let{ds,fs,hs,hm}:=Jb.sl.ins
 (try dsimp only)
 refine{_,M,a,_,dx,_,_,M,ho,T.aU,T.b9,rM,s,ds,fs,M,hs,hm _ ∅,_,M,s,k,Fs,x.st,M,Jb.sl,k0,λev=>{(),λH1 G S1 f1=>?_},λhn=>(qx hn).elim}
 .let{W,g1}:=Jb.slots S1 f1;let{Z,a0}:=W.o.ob;let{dl,fl,hl,a1}:=W.lv.ins;refine{_,M,a,_,Z,_,_,M,a0,T.aU,T.eG,yz,l,dl,fl,M,hl,a1 _ ∅,_,M,l,k,Fl,x.ks,M,W.lv,(),λ_ H2 I U L2 mem f2=>?_,λz=>Kh ((O.ks k).mpr ev) z};let{B3,g3}:=W.leaves L2 f2;let{a2,a3}:=B3.o.ob;refine{_,M,a,a2,_,M,a3,Cv ∅,_,M,(by show 2<=sizeLine;decide),λr nr=>?_};have s4:=ak (o:= .tup [.str "drop",.int k]) nr;have ht:upd H2 r (.tup [.str "drop",.int k]) r=some (.tup [.str "drop",.int k]):=ag;have B4:Jp K t (upd H2 r<|.tup [.str "drop",.int k]) a s l wr p h G I _:=B3.keep (λb hb=>by
   let{o,e,_}:=B3.dom hb;rw[e];exact s4 _ _ e) λb xs e=>s4 _ _ e
  have g4:=(g1.trans g3).trans (Fr.of_same s4);generalize upd H2 r (.tup [.str "drop",.int k])=H4 at B4 ht g4⊢;have dl:=O.dl;have pl:=O.pl;have el:=O.el k;refine{a,s,l,wr,p,h,r,k,_,.non,_,M,B4.o,ht,M,by show x.di.length<50000;lia,by show x.pa.length<50000;lia,by show(dB x.pa k).length<50000;lia,λH5 pa' y O5 N f5=>?_};let{B5,g5}:=B4.own O5 M M f5;let{N1,N2}:=O.noted N;have ek:(x.st.drop k).kv=bB x.st.kv k:=IE.three_kv;refine q ev H5 (Ju a wr p h G I pa') U r y pa' {s,l,wr,p,h,G,I,B5,{λz=>?_,by show 0<=x.now+1;lia,m0,?_,N1,N2,?_,O.hn,O.hv1,O.fb1,O.up1 N M},λ_=>Iff.rfl} N ?_
  .show z∈U↔(aI (x.st.drop k).kv z).isSome=true;rw[mem,ek,dM,O.ks];by_cases c:z=k
   .rw[Kd c];exact{λy=>Kh c y.1,λy=>by cases y}
   .rw[Kc c];exact{λy=>y.2,λy=>⟨c,y⟩}
  .show((x.di++ [(r,_)]).length:Int)=x.now+1+x.ma;rw[Q8,Zo];lia
  .show((x.st.drop k).kv.length:Int)<=x.now+1;rw[ek];have:(bB x.st.kv k).length<=x.st.kv.length:=Qn _ _;lia
  .exact λb o n e=>(g4.trans g5) b o (λz=>n<|(g b).mpr z) e
def L8(t:IT)(H:Hp)(p:G')(up:Bool)(a e:V):Prop:=∃dx fs,H p=some (.ins (if up=true then t.cY else t.bG) dx fs)/\wb (if up=true then "up" else "down") fs a e/\if up=true then Jo a e else Jn a e
def oV(up:Bool)(a:V)(ks:Lh):List Int:=match up,a with
 |true,.int i=>ks.filter λz=>decide (i<=z)
 |false,.int i=>ks.reverse.filter (da<|some i)
 |_,_=>ks.reverse.filter (da none)
def vd(K:Jc)(t:IT):Sp:=λvs H Q _=>∃(l p:G')(n:Int)(up:Bool)(a e:V)(F:Li)(ks:Lh),vs=[.ref l,.ref p,.int n]/\JW K t H l F ks/\L8 t H p up a e/\ks.length<4096/\0<=n/\
 ∀(H':Hp)(r:G'),IA H H'->H r=none->H' r=some (.lst<|((oV up a ks).take n.toNat).map V.int)->Q (.ref r) H'
def vF:C5 P w K mg base IL 3 t.pe t.jX [kj,ir,ua] (vd K t):=by
 refine T.xA.okl vj λs H vs Q E z h _=>?_;intro X;let{l,p,n,up,a,e,F,ks,rfl,L,O,l1,n0,q}:=h;refine cv (λx=>aT (cT<|az (i8 K M) {_} T.eV cN (aa IC<|aa (bV (v:= .ref t.cY) {_} T.B9 M) af)) x aF) ?_;refine aA (aD<|aR AS T.aC T.zb (mi T) z.mo T.zD .nil ar<|aa (ay IC M)<|aa IG af) ?_
 intros
 refine aA (aD<|aR AS T.aC T.xF (jN T) z.mo T.xJ .nil ar<|aa (ay IC M)<|aa IG af) ?_
 intros
 let{dx,fs,hp,G,ok}:=O;let{dl,fl,hl,I}:=L.ins;cases up with
 |true=>
  have hp:H p=some (.ins t.cY dx fs):=hp;let{i,rfl,i0,_}:=(show Jo a e from ok);exact{_,M,_,_,_,_,M,Iw.ins hp T.iu T.jj.1 T.jj.2 T.jj.3 T.jj.4,T.Cr,_,M,cK {_,M,l,dl,fl,M,hl,I _ ∅,_,M,p,_,dx,fs,_,M,hp,T.iu,T.mX,G.at_,_,M,l,i,n,F,ks,M,L,l1,n0,q}}
 |false=>
  have hp:H p=some (.ins t.bG dx fs):=hp;let{j,rfl,U,ha}:=(show Jn a e from ok);refine{_,M,_,_,_,_,M,Iw.ins hp T.cr T.de.1 T.de.2 T.de.3 T.de.4,T.yv,_,M,db {_,M,l,dl,fl,M,hl,I _ ∅,_,M,p,_,dx,fs,_,M,hp,T.cr,T.fK,G.at_,_,M,?_}};rcases ha with rfl|⟨i,rfl,_⟩
  .exact⟨l,none,n,F,ks,M,L,l1,n0,q⟩
  .exact{l,some i,n,F,ks,M,L,l1,n0,q}
def pz(t:IT):Sp:=λvs H Q _=>∃(p:G')(up:Bool)(a e:V)(k:Int),vs=[.ref p,.int k]/\L8 t H p up a e/\(if up=true then Jo (.int<|k+1) e else Jn (.int<|k-1) e)/\
 ∀(H':Hp)(r:G'),IA H H'->H r=none->L8 t H' r up (.int<|if up=true then k+1 else k-1) e->Q (.ref r) H'
def pK:C5 P w K mg base IL 5 t.kf t.fN [ir,eR] (pz t):=by
 refine T.sr.okl pE λs H vs Q E hr h _=>?_;intro X;let{p,up,a,e,k,rfl,TK,G,q}:=h;refine cv (λx=>aT (cT<|az (i8 K M) {_} T.eV cN (aa AS<|aa (bV (v:= .ref t.cY) {_} T.B9 M) af)) x aF) ?_;refine aA (aD<|kD T.HH (oU T) hr.mo {_} T.B9 T.yG .nil ar (aa (al aX IC ae)<|aa (ay AS M) af)) ?_
 intros
 refine aA (aD<|kD T.Ei (kY T) hr.mo {_} T.Ej T.v8 .nil ar (aa (al fI IC ae)<|aa (ay AS M) af)) ?_
 intros
 let{dx,fs,hp,tf,ok}:=TK;have kp:∀{H1 H':Hp}{r:G'},IA H H1->H r=none->Jg r H1 H'->IA H H':=λs n k b o e=>k b o (s b o e) λz=>by rw[z,n]at e;cases e
 cases up with
 |true=>
  have hp:H p=some (.ins t.cY dx fs):=hp;have G:Jo (.int<|k+1) e:=G;have Y:Sc e:=by
   obtain⟨_,_,_,he|⟨j,he,_⟩⟩:=G
   .rw[he];exact Ku
   .rw[he];exact T0 _
  refine{_,M,_,_,_,_,M,Iw.ins hp T.iu T.jj.1 T.jj.2 T.jj.3 T.jj.4,T.Cr,_,M,cK {_,M,_,_,M,M,_,M,p,_,dx,fs,_,M,hp,T.iu,T.ie,tf.end_,λr W I Z a0=>{r,W,_,_,M,ag,T0 _,Y,λ_ H' fs' O h' U=>{M,?_},λz=>Kh G z}}};exact q H' r (kp (bJ (ak Z) I) I O) I ⟨W,fs',h',U,G⟩
 |false=>
  have hp:H p=some (.ins t.bG dx fs):=hp;have G:Jn (.int<|k-1) e:=G;have Y:Sc e:=by
   let{_,he,_}:=G;rw[he];exact T0 _
  refine{_,M,_,_,_,_,M,Iw.ins hp T.cr T.de.1 T.de.2 T.de.3 T.de.4,T.yv,_,M,db {_,M,_,_,M,M,_,M,p,_,dx,fs,_,M,hp,T.cr,T.gf,tf.end_,λr W I Z a0=>{r,W,_,_,M,ag,T0 _,Y,λ_ H' fs' O h' U=>{M,?_},λz=>Kh G z}}};exact q H' r (kp (bJ (ak Z) I) I O) I ⟨W,fs',h',U,G⟩
def hK(up:Bool):V->V->Int->Bool:=if up=true then hU else hD
def bE(up:Bool)(a e:V)(ks:Lh):List Int:=(if up=true then ks else ks.reverse).filter (hK up a e)
theorem gb{α:Type}{h:α->Bool}:∀{xs:List α}{n:Nat},xs.Pairwise (λx y=>h y=true->h x=true)->(xs.take n).filter h=(xs.filter h).take n
 | [],n,_=>by rw[XC,List.filter_nil,XC]
 |x::r,0,_=>rfl
 |x::r,n+1,w=>by
  let{w1,w2}:=Za.mp w;rw[XA];by_cases c:h x=true
  .rw[List.filter_cons_of_pos c,List.filter_cons_of_pos c,XA,gb w2]
  .have z:r.filter h=[]:=ZA.mpr λy hy G=>c (w1 y hy G);rw[List.filter_cons_of_neg c,List.filter_cons_of_neg c,gb w2,z,XC,XC]
def Ak{a e:V}{n:Nat}(ok:if up=true then Jo a e else Jn a e)(r:bQ ks):((oV up a ks).take n).filter (hK up a e)=(bE up a e ks).take n:=by
 cases up with
 |true=>
  let{i,rfl,i0,he}:=(show Jo a e from ok);have q:∀z,hU (.int i) e z=true->decide (i<=z)=true:=λz hz=>by
   rcases he with rfl|⟨j,rfl,_⟩
   .exact hz
   .exact(QE.mp hz).1
  show((ks.filter λz=>decide (i<=z)).take n).filter (hU (.int i) e)=(ks.filter<|hU (.int i) e).take n;rw[gb,List.filter_filter]
  .congr 1;refine XR λz _=>?_;cases c:hU (.int i) e z with
   |true=>rw[q z c];rfl
   |false=>rfl
  .have I:(ks.filter λz=>decide (i<=z)).Pairwise (· < ·):=List.Pairwise.filter _ r;refine List.Pairwise.imp_of_mem (λ{x y} hx hy lt G=>?_) I;have hx:=(QA.mp hx).2;rcases he with rfl|⟨j,rfl,_⟩
   .exact hx
   .refine QE.mpr {hx,Km ?_};have:=Kj (QE.mp G).2;lia
 |false=>
  let{j,rfl,Y,ha}:=(show Jn a e from ok);have U:ks.reverse.Pairwise (λx y=>y<x):=Xp.mpr r;obtain⟨k,W,O⟩:∃k,oV false a ks=ks.reverse.filter (da k)/\∀z,hD a (.int j) z=(decide (j<=z)&&da k z):=by
   rcases ha with rfl|⟨i,rfl,_⟩
   .exact{none,M,λz=>(Bool.and_true _).symm}
   .exact{some i,M,λz=>M}
  rw[W];show((ks.reverse.filter<|da k).take n).filter (hD a<|.int j)=(ks.reverse.filter<|hD a<|.int j).take n;rw[gb,List.filter_filter]
  .congr 1;refine XR λz _=>?_;rw[O];cases da k z<;>cases decide (j<=z)<;>rfl
  .have I:(ks.reverse.filter<|da k).Pairwise (λx y=>y<x):=List.Pairwise.filter _ U;refine List.Pairwise.imp_of_mem (λ{x y} hx hy lt G=>?_) I;have hx:=(QA.mp hx).2;rw[O]at G⊢;refine QE.mpr {Km ?_,hx};have:=Kj (QE.mp G).1;lia
def Ah{a e:V}{k':Int}(ok:if up=true then Jo a e else Jn a e)(r:bQ ks)(h:(bE up a e ks)[i]?=some k)(h':(bE up a e ks)[i+1]?=some k'):if up=true then Jo (.int<|k+1) e else Jn (.int<|k-1) e:=by
 let{hi,G}:=Q2.mp h;let{hi',z}:=Q2.mp h';have m:=(QA.mp (G▸Zk hi:k∈bE up a e ks)).2;have m':=(QA.mp (z▸Zk hi':k'∈bE up a e ks)).2;cases up with
 |true=>
  let{i,rfl,i0,he}:=(show Jo a e from ok);have lt:k<k':=by
   have:=(Z8.mp<|List.Pairwise.filter (hU (.int i) e) r) _ _ hi hi' (ZE _);rwa[<-G,<-z]
  have m:hU (.int i) e k=true:=m;have m':hU (.int i) e k'=true:=m';rcases he with rfl|⟨j,rfl,_⟩
  .have:=Kj m;exact{k+1,M,(),.inl M}
  .have:=Kj (QE.mp m).1;have:=Kj (QE.mp m').2;exact{k+1,M,(),.inr {j,M,()}}
 |false=>
  let{j,rfl,I,ha}:=(show Jn a e from ok);have O:ks.reverse.Pairwise (λx y=>y<x):=Xp.mpr r;have lt:k'<k:=by
   have:=(Z8.mp<|List.Pairwise.filter (hD a<|.int j) O) _ _ hi hi' (ZE _);rwa[<-G,<-z]
  have m':hD a (.int j) k'=true:=m';have:j<=k':=by
   rcases ha with rfl|⟨i,rfl,_⟩
   .exact Kj m'
   .exact Kj (QE.mp m').1
  exact{j,M,I,.inr {k-1,M,()}}
def NxK(t:IT)(H H':Hp)(p:G')(up:Bool)(e:V)(hs:Lh)(m:Nat)(v:V):Prop:=if hs.length<=m then v= .non else if m=0 then v= .ref p else ∃(q:G')(k:Int),hs[m-1]?=some k/\v= .ref q/\H q=none/\L8 t H' q up (.int<|if up=true then k+1 else k-1) e
def zl{xs:Lh}{x:V}(h:(xs.map V.int)[i]?=some x):∃k:Int,x= .int k/\xs[i]?=some k:=by
 rw[Ql]at h;cases e:xs[i]? with
 |none=>rw[e]at h;cases h
 |some k=>rw[e]at h;cases h;exact⟨k,M,M⟩
def uD{P:Ma}{xs:Lh}(e:xs[i]?=some k):(xs.take<|i+1).filter P=(xs.take i).filter P++(if P k=true then[k]else[]):=by
 rw[Qt,e,Qx];by_cases c:P k=true
 .rw[Kd c];simp[c]
 .rw[Kc c];simp[c]
def CJ(P:Ma)(xs:Lh)(i:Nat):((xs.take i).filter P).length<=xs.length:=by
 have h1:=Qn P (xs.take i);have h2:(xs.take i).length<=xs.length:=by rw[Qd];lia
 lia
def L8.same{a e:V}(h:L8 t H p up a e)(s:IA H H'):L8 t H' p up a e:=by
 let{dx,fs,hp,r}:=h;exact{dx,fs,s _ _ hp,r}
def L8.ok{a e:V}(h:L8 t H p up a e):if up=true then Jo a e else Jn a e:=by
 let{dx,fs,hp,z,ok}:=h;exact ok
def BW{a:V}{z:Int}(h:z∈oV up a ks):z∈ks:=by
 unfold oV at h;split at h
 .exact(QA.mp h).1
 .exact Zj.mp (QA.mp h).1
 .exact Zj.mp (QA.mp h).1
def BX{a:V}:(oV up a ks).length<=ks.length:=by
 unfold oV;split
 .exact Qn _ _
 .exact Qu (Qn _ _)<|Z2 Z6
 .exact Qu (Qn _ _)<|Z2 Z6
def dHK:DOr (D1 t.cY<|eX t) (D1 t.bG<|dg t) (if up=true then t.cY else t.bG) (if up=true then eX t else dg t):=by
 cases up
 .exact .inr ⟨M,M⟩
 .exact .inl ⟨M,M⟩
def Ew{a e:V}{E:XK}(h:H p=some (.ins (if up=true then t.cY else t.bG) dx fs))(f:wb (if up=true then "up" else "down") fs a e)(ok:if up=true then Jo a e else Jn a e)(z:0<=k)
  (q:∀H',IA H H'->Q (.bl<|hK up a e k) H'):(if up=true then eX t else dg t) [.ref p,.int k] H Q E:=by
 cases up
 .exact⟨p,dx,fs,a,e,k,M,h,f,ok,z,q⟩
 .exact⟨p,dx,fs,a,e,k,M,h,f,ok,z,q⟩
def pA(K:Jc)(t:IT):Sp:=λvs H Q _=>∃(l p:G')(n:Int)(up:Bool)(a e:V)(F:Li)(ks:Lh),vs=[.ref l,.ref p,.int n]/\JW K t H l F ks/\L8 t H p up a e/\ks.length<4096/\(∀k∈ks,0<=k)/\
 ∀(H':Hp)(r g:G')(v:V),IA H H'->H r=none->H g=none->H' r=some (.tup [.ref g,v])->H' g=some (.lst<|((bE up a e ks).take n.toNat).map V.int)->NxK t H H' p up e (bE up a e ks) n.toNat v->Q (.ref r) H'
def pM:C5 P w K mg base IL 6 t.kh t.fP [kj,ir,mu] (pA K t):=by
 refine T.su.okl JK λs H vs Q E hr h _=>?_;intro X;let{l,p,n,up,a,e,F,ks,rfl,L,TK,l1,k0,q}:=h;refine ah (IR 3<|az (uM M) {_} T.Hj CT (aa IG<|aa ae af))
   (ah (BG (i:=4) M (IF.of (M':=[eR]) (N:=[kj,ir,mu,ua,"held","page"]) (N':=[kj,ir,mu,ua,"held","page"]) (dsc:=ai dj) M M ∅) (dA<|aE (vF T) hr.mo {_} T.Fm T.xA.kp T.Fy .nil ar (aa AS<|aa IC<|aa (al aX IU ae) af)) (λ_ _ _ _ _=>(cT<|BK (kk:=1) (vS (jW T.iu T.Fk (vH T) T.FA (_))<|jW T.cr T.Dh (rn T) T.Dt (_)) hr.mo IG<|aa AS af)) (λ_ _ _ _ _=>AS) JK.nd M M)
   (ah (IR 5<|hV kA JF mS<|iO IU)
   (ah (aT (aq bH (az au {_} T.bq aZ (aa JF af)) (az au {_} T.bq aZ (aa Jw af))<|aw _)
    (aB<|aD<|bj<|aa Jw<|aa cy af)
    aF)
   (ah (aT (aq bH (az au {_} T.bq aZ (aa Jw af)) ae<|aw _)
    (aB<|aD<|bj<|aa Jw<|aa IC af)
    aF)
   (aA (aD<|bj<|aa Jw<|aa (aE (pK T) hr.mo {_} T.Cf T.sr.kp T.CW .nil ar (aa IC<|aa (aJ aL Jw (BJ xQ ae)<|λ_ _=>M) af)) af) ?_)))))
 intros
 have RK:=L.rise;refine{_,M,n,0,M,?_};obtain⟨m,em⟩:∃m:Nat,n.toNat=m:={_,M};have e0:(if(0:Int)>n then(0:Int)else n)=(m:Int):=by
  rw[<-em];split<;>lia
 rw[e0];rw[em]at q;have ok:=TK.ok;refine{_,M,_,M,_,M,_,_,M,M,l,p,(m:Int)+1,up,a,e,F,ks,M,L,TK,l1,(),λH1 g1 s1 a3 h1=>?_};rw[show((m:Int)+1).toNat=m+1 by lia]at h1;obtain⟨ns,U⟩:∃ns,(oV up a ks).take (m+1)=ns:={_,M};have fl:=Ak (n:=m+1) ok RK;rw[U]at h1 fl;have nl:ns.length<=4096:=by
  rw[<-U];have h1:=BX (up:=up) (a:=a) (ks:=ks);rw[Qd];lia
 have n0:∀z∈ns,0<=z:=λz hz=>k0 z (BW<|Zd<|U▸hz);refine{g1,M,{_,Dv.of h1},λD hD=>?_};refine fX (K:=K) (a:=g1) (xs:=ns.map V.int) (λi ys H2=>IA H1 H2/\ys=((ns.take i).filter<|hK up a e).map V.int) {ak hD,M} (λi ys H2 _ w=>Dv.of<|w.1 _ _ h1) (λi x ys H2 hx w G=>?_)<|λys H2 w G=>?_
 .let{s2,ey}:=w;have hi:i<(ns.map V.int).length:=(Q2.mp hx).1;let{g,rfl,eg}:=zl hx;let{dx,fs,hp,tf,_}:=TK.same (s1.trans s2);have a4:=CJ (hK up a e) ns i;refine{_,M,p,_,dx,fs,_,M,hp,tf.ho,dHK,_,M,Ew hp tf ok (n0 g<|Q1 eg) λH3 s3=>{_,M,?_}};by_cases c:hK up a e g=true
  .rw[c];refine cK {_,M,IW.mk hi (s3 _ _ G) (a8<|by rw[ey,Q0];lia) {bJ (s2.trans s3) hD,?_}};rw[ey,uD eg,Kd c,Q9];rfl
  .rw[ZU.mpr c];refine db<|JJ.mk hi (s3 _ _ G) {s2.trans s3,?_};rw[ey,uD eg,Kc c,ZL]
 let{s2,ey}:=w;rw[ey,Q0,QF,fl]at G;clear ey h1 U fl nl n0;have W:=s1.trans s2;obtain⟨hs,Y⟩:∃hs,bE up a e ks=hs:={_,M};rw[Y]at G q;refine{_,M,_,M,(m:Int),M,D,_,M,Dv.of G,λg ng=>?_};rw[rS (XD m),<-ZJ,show((m:Int)).toNat=m by lia,List.take_take,Xl (Zx m)];have Z:H g=none:=eZ W ng;have O:upd H2 g (.lst<|(hs.take m).map V.int) g=some (.lst<|(hs.take m).map V.int):=ag;have a0:upd H2 g (.lst<|(hs.take m).map V.int) D=some (.lst<|(hs.take<|m+1).map V.int):=by rwa[ac (aj G ng)]
 have s3:=W.trans (ak (o:= .lst<|(hs.take m).map V.int) ng);generalize upd H2 g (.lst<|(hs.take m).map V.int)=H3 at O a0 s3⊢;clear G ng s2 W s1 hD;refine{_,M,D,_,M,.inl<|Dv.of a0,_,M,g,_,M,.inl<|Dv.of O,M,_,M,?_};by_cases c:hs.length<=m
 .refine jT ?_ {_,M,(by show 2<=sizeLine;decide),λr I=>?_}
  .rw[QC (),QC c]
  .refine q _ r g .non (s3.trans<|ak I) (eZ s3 I) Z ag (by rwa[ac (aj O I)]) ?_;unfold NxK;rw[Kd c]
 refine bf ?_ ?_
 .intro z;have z:=V.int.inj z;rw[Q0,Q0,Qd,Qd]at z;lia
 refine{_,M,g,_,M,.inl<|Dv.of O,M,_,M,?_};by_cases d:m=0
 .refine jT ?_ {_,M,_,M,(by show 2<=sizeLine;decide),λr I=>?_}
  .rw[d];rfl
  .refine q _ r g (.ref p) (s3.trans<|ak I) (eZ s3 I) Z ag (by rwa[ac (aj O I)]) ?_;unfold NxK;rw[Kc c,Kd d]
 refine bf ?_ ?_
 .intro z;have z:=V.int.inj z;rw[Q0,Qd]at z;lia
 obtain⟨k,ek⟩:∃k,hs[m-1]?=some k:={_,Q3 ()};obtain⟨k',a1⟩:∃k',hs[m-1+1]?=some k':={_,Q3 ()};have ob:=Ah ok RK (Y▸ek) (Y▸a1);refine{_,M,_,M,_,M,_,M,g,_,_,.int k,M,M,Dv.of O,?_,p,up,a,e,k,M,TK.same s3,ob,λH4 b s4 nb a2=>{(by show 2<=sizeLine;decide),λr I=>?_}}
 .refine zF (λz=>?_) ?_
  .have:=Ks List.length z;rw[Qd]at this;have:([]:Lh).length=0:=M;lia
  .rwa[Qd,Xl (),Xc ()]
 refine q _ r g (.ref b) ((s3.trans s4).trans<|ak I) (eZ (s3.trans s4) I) Z ag (by rw[ac (aj (s4 _ _ O) I)];exact s4 _ _ O) ?_;unfold NxK;rw[Kc c,Kc d];exact{b,k,ek,M,eZ s3 nb,a2.same<|ak I}
def sM(K:Jc)(t:IT):Sp:=λvs H Q _=>∃(a:G')(k:Int)(v:V)(F:Li)(x:JH),vs=[.ref a,.int k]/\JD K t H a F x/\0<=k/\aI x.st.kv k=some v/\∀H' F',JD K t H' a F' x->Fr F F' H H'->Q v H'
def tI:C5 P w K mg base IL 5 t.nT t.i7 [eH,eR] (sM K t):=by
 refine T.EU.okl sZ λs H vs Q E W h _=>?_;intro X;let{a,k,v,F,x,rfl,A,k0,U,q}:=h;refine{_,(aB<|aD<|aR (ay AS M) T.ax T.En (tG T) W.mo T.EI .nil ar<|aa IC af)
  ,?_}
 let{s,l,wr,p,h,Fs,Fl,Jb,O,g}:=A;let{dx,Y}:=Jb.o.ob;let{ds,fs,hs,Z}:=Jb.sl.ins;refine{_,M,a,_,dx,_,_,M,Y,T.aU,T.b9,rM,s,ds,fs,M,hs,Z _ ∅,_,M,s,k,Fs,x.st,M,Jb.sl,k0,λv' G H1 I S1 f1=>?_,λz=>by rw[U]at z;cases z};rw[U]at G;cases G;let{B1,g1}:=Jb.slots S1 f1;exact q H1 (Ju a wr p h I Fl x.pa) {s,l,wr,p,h,I,Fl,B1,O,λ_=>Iff.rfl} λb o n e=>g1 b o (λz=>n<|(g b).mpr z) e
def NxH(t:IT)(H H':Hp)(F':Li)(p:G')(up:Bool)(e:V)(hs:Lh)(m:Nat)(v:V):Prop:=if hs.length<=m then v= .non else if m=0 then v= .ref p else ∃(q:G')(k:Int),hs[m-1]?=some k/\v= .ref q/\H q=none/\¬F' q/\L8 t H' q up (.int<|if up=true then k+1 else k-1) e
def F9(K:Jc)(t:IT)(more:Lf):Sp:=λvs H Q _=>∃(a p:G')(n:Int)(up:Bool)(av e:V)(F:Li)(x:JH),vs=[.ref a,.ref p,.int n]++more/\JD K t H a F x/\L8 t H p up av e/\¬F p/\x.ks.length<4096/\(∀k∈x.ks,0<=k)/\
 ∀(H':Hp)(F':Li)(r g:G')(v:V)(ts:List Tp),JD K t H' a F' x->Fr F F' H H'->PgA H H' F F' r g v ts->ts.map (·.k)=(bE up av e x.ks).take n.toNat->(∀e∈ts,aI x.st.kv e.k=some e.v)->NxH t H H' F' p up e (bE up av e x.ks) n.toNat v->Q (.ref r) H'
def jc(K:Jc)(t:IT):Sp:=F9 K t []
def JD.lvs{x:JH}(A:JD K t H a F x):∃(dx:G')(fs:L')(l:G')(Fl:Li),H a=some (.ins t.a6 dx fs)/\fs.lookup (kj:Str)=some (.ref l)/\JW K t H l Fl x.ks:=by
 let{s,l,wr,p,h,Fs,Fl,Jb,O,g}:=A;let{dx,z}:=Jb.o.ob;exact{dx,_,l,Fl,z,yz,Jb.lv}
def Cz{a e:V}{z:Int}(h:z∈bE up a e ks):z∈ks:=by
 have h:=(QA.mp h).1;cases up
 .exact Zj.mp h
 .exact h
def CA{a e:V}:(bE up a e ks).length<=ks.length:=by
 refine Qu (Qn _ _) ?_;cases up
 .exact Z2 Z6
 .exact Q5 _
def pL:C5 P w K mg base IL 7 t.kg t.fO [u4,ir,mu] (jc K t):=by
 refine T.ss.okl pF λs H vs Q E hr h _=>?_;intro X;let{a,p,n,up,av,e,F,x,rfl,A,TK,np,l1,k0,q}:=h;refine ah (IR 3<|aE (pM T) hr.mo {_} T.Ch T.su.kp T.CZ .nil ar (aa (ay AS M)<|aa IC<|aa IG af))
   (aA (aD<|bj<|aa (kE M (IF.of (M':=[eR]) (N:=[u4,ir,mu,"page"]) (N':=[u4,ir,mu,"page"]) (dsc:=ai dh) M M ∅) (dA<|aJ bz IU ae<|λ_ _=>M)<|λ_ _ _ _ _=>(bj<|aa AS<|aa (aR IC T.aU T.Ep (tI T) hr.mo T.EK .nil ar<|aa AS af) af))<|aa (aJ bz IU ae<|λ_ _=>M) af) ?_)
 intros
 let{dx,fs,l,Fl,ho,hl,L}:=A.lvs;refine{_,M,a,_,dx,fs,_,M,ho,T.aU,T.eG,hl,_,M,_,M,l,p,n,up,av,e,Fl,x.ks,M,L,TK,l1,k0,λH1 r1 g1 v s1 a3 a4 a0 U nx=>?_};have A1:=A.same s1;have f1:Fr F F H H1:=Fr.of_same s1;clear TK;obtain⟨pk,W⟩:∃pk,(bE up av e x.ks).take n.toNat=pk:={_,M};have pm:∀z∈pk,z∈x.ks:=λz hz=>Cz (Zd<|W▸hz);have pl:pk.length<=4096:=by
  have:=CA (up:=up) (a:=av) (e:=e) (ks:=x.ks);rw[<-W,Qd];lia
 rw[W]at U q;refine{_,M,r1,_,_,_,M,M,JE.of a0,M,g1,M,{_,Dv.of U},λD hD=>?_};refine oP (K:=K) (a:=g1) (xs:=pk.map V.int) (λi ys H2=>∃(G:Li)(ts:List Tp),JD K t H2 a G x/\Fr F G H1 H2/\¬G D/\ys=ts.map (λe=>V.ref e.p)/\ts.map (·.k)=pk.take i/\∀e∈ts,H2 e.p=some (.tup [.int e.k,e.v])/\¬G e.p/\aI x.st.kv e.k=some e.v) {F,[],A1.same<|ak hD,Fr.of_same<|ak hD,A1.out hD,M,M,λe he=>Kh he Z4} (λi ys H2 _ w=>?_) (λi y ys H2 hy w I=>?_)<|λys H2 w I=>?_
 .let{G,ts,A2,O,_}:=w;exact Dv.of (O _ _ (A.out a4) U).1
 .let{G,ts,A2,O,nD,ey,Y,tu}:=w;have hi:i<(pk.map V.int).length:=(Q2.mp hy).1;let{k,rfl,hk}:=zl hy;have km:=pm k (Q1 hk);let{v2,a1}:=Xb.mp ((A1.ok.ks k).mp km);let{d2,a5,a6,a9,_}:=A2.ins;refine{_,M,_,M,a,d2,a5,M,a6,a9 _ ∅,_,M,a,k,v2,G,x,M,A2,k0 k km,a1,λH3 F3 A3 f3=>{(by show 2<=sizeLine;decide),λb nb=>?_}};let{ab,a2}:=f3 _ _ nD I;have sb:IA H3 (upd H3 b<|.tup [.int k,v2]):=ak nb;have hb:upd H3 b (.tup [.int k,v2]) b=some (.tup [.int k,v2]):=ag;generalize upd H3 b (.tup [.int k,v2])=H4 at sb hb⊢;have A4:=A3.same sb;have am:=A3.out nb;have f4:Fr F F3 H1 H4:=O.trans (f3.trans<|Fr.of_same sb);have Z:=sb _ _ ab;have tl:ts.length<=4096:=by
   have:=Ks List.length Y;rw[Q0,Qd]at this;lia
  refine IW.mk hi Z (a8<|by rw[ey,Q0];lia) {F3,ts++ [⟨b,k,v2⟩],A4.upd a2 (λxs z=>by rw[Z]at z;cases z),λc o n e=>{by rw[ac (aj e hD)];exact(f4 c o n e).1,(f4 c o n e).2},a2,by rw[ey,Q9];rfl,by rw[Q9,Y,Qt,hk];rfl,λe he=>?_};have key:H4 e.p=some (.tup [.int e.k,e.v])/\¬F3 e.p/\aI x.st.kv e.k=some e.v:=by
   rcases Q4.mp he with he|he
   .let{t1,t2,t3}:=tu e he;let{t4,t5}:=f3 _ _ t2 t1;exact{sb _ _ t4,t5,t3}
   .rw[Qa.mp he];exact⟨hb,am,a1⟩
  refine{?_,key.2};rw[ac (λz=>by rw[z,Z]at key;cases key.1)];exact key.1
 let{G,ts,A2,O,nD,ey,Y,tu}:=w;rw[ey]at I;rw[Q0,QF]at Y;have an:=O _ _ (A.out a3) a0;refine{_,M,r1,_,_,_,M,M,JE.of an.1,M,(by show 2<=sizeLine;decide),λr nr=>?_};have s3:IA H2 (upd H2 r<|.tup [.ref D,v]):=ak nr;have hr:upd H2 r (.tup [.ref D,v]) r=some (.tup [.ref D,v]):=ag;have nF:=A2.out nr;generalize upd H2 r (.tup [.ref D,v])=H3 at s3 hr⊢;have f3:Fr F G H H3:=f1.trans (O.trans<|Fr.of_same s3);refine q H3 G r D v ts (A2.same s3) f3 {hr,s3 _ _ I,λe he=>{s3 _ _ (tu e he).1,(tu e he).2.1},{λz=>?_,nF},{λ_=>eZ s1 hD,nD}} Y (λe he=>(tu e he).2.2) ?_
 .cases eo:H r with
  |none=>rfl
  |some o=>rw[((f1.trans O) _ _ z eo).1]at nr;cases nr
 .unfold NxK at nx;unfold NxH;by_cases c:(bE up av e x.ks).length<=n.toNat
  .rw[Kd c]at nx⊢;exact nx
  .rw[Kc c]at nx⊢;by_cases d:n.toNat=0
   .rw[Kd d]at nx⊢;exact nx
   .rw[Kc d]at nx⊢;let{b,k,Y,ev,nb,dy,fy,hy,ry}:=nx;let{h2,n2}:=O _ _ (A.out nb) hy;exact{b,k,Y,ev,nb,n2,dy,fy,s3 _ _ h2,ry}
noncomputable def sC(W j r:Int):Int:=if j<(r/W+1)*W then j else(r/W+1)*W
def aS(W j i:Int):Nat->Int
 |0=>i
 |n+1=>sC W j (aS W j i n)
def Bs{W j r:Int}(z:0<W)(h:r<j):r<sC W j r/\sC W j r<=j:=by
 have:=X2 r z;unfold sC;split<;>lia
theorem mQ{W j i:Int}(G:0<W)(h:i<=j):∀n:Nat,(∀x<n,aS W j i x<j)->i<=aS W j i n/\aS W j i n<=j/\(0<n->sC W j i<=aS W j i n)
 |0,_=>{ZD _,h,λz=>Kh z (_)}
 |n+1,w=>by
  let{a,b,c}:=mQ G h n λx hx=>w x ();let{d,e}:=Bs G (w n ());refine{show i<=sC W j (aS W j i n) by lia,e,λ_=>?_};cases n with
  |zero=>exact ZD _
  |succ m=>exact Int.le_trans (c ()) (XJ d)
structure KY(st:IE)(lo hi:Int)(ps:Ll):Prop where
 so:ps.Pairwise ou
 me:∀k v,(k,v)∈ps↔(k,v)∈st.kv/\lo<=Ir k/\Ir k<hi
def KY.app(h:KY st lo m ps)(g:KY st m hi qs)(l1:lo<=m)(G:m<=hi):KY st lo hi (ps++qs):=by
 refine{Qk.mpr {h.so,g.so,λx hx y hy=> .inl ?_},λk v=>?_}
 .have a:=((h.me x.1 x.2).mp hx).2;have b:=((g.me y.1 y.2).mp hy).2;lia
 .rw[Q4,h.me,g.me];constructor
  .rintro (⟨x,y,z⟩|⟨x,y,z⟩)
   .exact{x,y,()}
   .exact{x,(),z}
  .rintro ⟨x,y,z⟩;by_cases d:Ir k<m
   .exact .inl ⟨x,y,d⟩
   .exact .inr {x,(),z}
def KY.uniq(h:KY st lo hi ps)(g:KY st lo hi qs):ps=qs:=by
 have G:∀{l:Ll},l.Pairwise ou->l.Nodup:=λw=>w.imp λ{a b} z e=>by
  rw[e]at z;unfold ou at z;lia
 refine List.Perm.eq_of_pairwise (λx y _ _ h1 h2=>?_) h.so g.so<|(List.perm_ext_iff_of_nodup (G h.so)<|G g.so).mpr λx=>(h.me x.1 x.2).trans (g.me x.1 x.2).symm;unfold ou at h1 h2;lia
def KY.len(h:KY st lo hi ps):ps.length<=st.kv.length:=by
 refine eh (h.so.imp λ{a b} z e=>?_) λx hx=>((h.me x.1 x.2).mp hx).1;rw[e]at z;unfold ou at z;lia
structure LX(st:IE)(i j n:Int)(m:Nat)(ps:Ll):Prop where
 rw:KY st i (aS (65536/st.low) j i m) ps
 go:∀x<m,aS (65536/st.low) j i x<j
 le:∀x,0<x->x<m->∀qs,KY st i (aS (65536/st.low) j i x) qs->(qs.length:Int)<n/\(x:Int)<4*n
 st:aS (65536/st.low) j i m=j\/(0<m/\(n<=ps.length\/4*n<=m))
def La(t:IT)(H:Hp)(p:G')(i j:Int):Prop:=∃(dx:G')(fs:L'),H p=some (.ins t.aQ dx fs)/\wb "slots" fs (.int i) (.int j)/\0<=i/\i<=j/\j<=65536
def La.fr{i j:Int}(h:La t H p i j)(n:¬F p)(f:Fr F F' H H'):La t H' p i j/\¬F' p:=by
 let{dx,fs,hp,r}:=h;exact{{dx,fs,(f _ _ n hp).1,r},(f _ _ n hp).2}
def LW(t:IT)(H H':Hp)(F F':Li)(r j:Int)(v:V):Prop:=if r=j then v= .non else ∃q:Addr,v= .ref q/\(¬F q->H q=none)/\¬F' q/\La t H' q r j
def n6(K:Jc)(t:IT):Sp:=λvs H Q _=>∃(a p:G')(n i j:Int)(F:Li)(st:IE),vs=[.ref a,.ref p,.int n]/\JB K t H a F st/\La t H p i j/\¬F p/\1<=n/\n<=1000/\st.kv.length<4096/\(∀p∈st.kv,∃i:Int,p.2= .int i)/\
 ∀(H':Hp)(F':Li)(r g:G')(v:V)(ts:List Tp)(m:Nat),JB K t H' a F' st->Fr F F' H H'->PgA H H' F F' r g v ts->LX st i j n m (ts.map Tp.kv)->LW t H H' F F' (aS (65536/st.low) j i m) j v->Q (.ref r) H'
structure LN(K:Jc)(t:IT)(H H':Hp)(a p l:G')(F F':Li)(st:IE)(i j:Int)(m:Nat)(ts:List Tp):Prop where
 sl:JB K t H' a F' st
 fr:Fr F F' H H'
 tk:La t H' p i j
 np:¬F' p
 ol:¬F' l
 li:H' l=some (.lst<|ts.map λe=>V.ref e.p)
 tu:∀e∈ts,H' e.p=some (.tup [.int e.k,e.v])/\¬F' e.p
 rw:KY st i (aS (65536/st.low) j i m) (ts.map Tp.kv)
 go:∀x<m,aS (65536/st.low) j i x<j
def LN.move{H1:Hp}{l:G'}{F1:Li}{i j:Int}{m:Nat}(h:LN K t H H' a p l F F' st i j m ts)(s1:JB K t H1 a F1 st)(z:Fr F' F1 H' H1):LN K t H H1 a p l F F1 st i j m ts:=
 {s1,h.fr.trans z,(h.tk.fr h.np z).1,(h.tk.fr h.np z).2,(z _ _ h.ol h.li).2,(z _ _ h.ol h.li).1,λe he=>z _ _ (h.tu e he).2 (h.tu e he).1,h.rw,h.go}
def oy:C5 P w K mg base IL 5 t.jd t.eJ ["slots",ir,mu] (n6 K t):=by
 let{I,G}:=T.g_STRETCHES_A_KEY;refine T.pU.okl JG λs H vs Q E hr h _=>?_;intro X;let{a,p,n,i,j,F,st,rfl,hA,TK,np,n1,n2,l4,iv,q}:=h;refine ah (IR 3<|bn af)
   (ah (IR 4<|ay IC M)
   (ah (IR 5 ae)
   (cv (λx=>(jC Kw (aq d9 JF (ay IC M)<|aw _)
    x)) ?_)))
 refine ah (IR 6<|az (kK M) {_} T.wm oQ (aa (aR AS T.ax T.tM (jJ T) hr.mo T.tS .nil ar<|aa JF af)<|aa (ay IC M) af))
   (ah (aN<|cZ Qq ZH ZI kF IU<|aa (aR AS T.ax T.Db (qY T) hr.mo T.Dl .nil ar<|aa JF<|aa LP af) af)
   (ah (IR 4 LP)
   (ah (yf (i:=5) JG.nd M (Or.inl M) ae Ct)
   (aA (aT (PW.pt<|qP (aq ur (az au {_} T.bq aZ (aa IU af)) IG<|aw _)<|l6<|aq ur Jw (al cU (bV (v:= .int 4) {_} G {_,M}) IG)<|aw _)
    (aB BI)
    aF) ?_))))
 intros
 refine ah (aT (aq bH JF (ay IC M)<|aw _)
    (aB<|aD<|bj<|aa IU<|aa cy af)
    aF)
   (aA (aD<|bj<|aa IU<|aa (kD T.yo (hZ T) hr.mo {_} T.rB T.pT .nil ar (aa JF<|aa (ay IC M) af)) af) ?_)
 intros
 have z:IN st:=let⟨_,_,_,_,_,z⟩:=hA;z
 let{s4,W}:=br (gK z);let{_,_,R}:=vt (gK z);have W0:=R.wpos';let{dx,fs,hp,Y,i0,ij,j1}:=id TK;refine{Qh _,λl Z=>?_};have W1:LN K t H (upd H l<|.lst []) a p l F F st i j 0 []:={hA.new Z,Fr.of_same<|ak Z,{dx,fs,by rwa[ac (aj hp Z)],Y,i0,ij,j1},np,hA.out Z,ag,(λe he=>by cases he),{Kx,λk v=>{λh=>by(cases h),λh=>by have:=h.2;simp only[aS]at this;lia}},λx hx=>Kh hx<|XZ x};refine{_,M,p,_,dx,fs,_,M,by rwa[ac (aj hp Z)],T.cn,T.k4,Y.at_,?_}
 (try dsimp only)
 generalize upd H l (.lst [])=H1 at W1⊢;clear hp Y dx fs;show xU (Bo _ _) _ _ _ H1;refine cP (λB H'=>∃(F':Li)(m:Nat)(ts:List Tp)(U:Me),B=[some (.ref a),some (.ref p),some (.int n),some (.ref l),some (.int<|aS (65536/st.low) j i m),some (.int m),U]/\LN K t H H' a p l F F' st i j m ts/\LX st i j n m (ts.map Tp.kv)) (λnx go=>?_)<|λB H2 w=>?_
 .refine{λmm B H'=>∃(F':Li)(m:Nat)(ts:List Tp)(U:Me),mm=(j-aS (65536/st.low) j i m).toNat/\B=[some (.ref a),some (.ref p),some (.int n),some (.ref l),some (.int<|aS (65536/st.low) j i m),some (.int m),U]/\LN K t H H' a p l F F' st i j m ts/\(∀x,0<x->x<=m->∀qs,KY st i (aS (65536/st.low) j i x) qs->(qs.length:Int)<n/\(x:Int)<4*n),{_,F,0,[],none,M,M,W1,λx x0 xm=>Kh x0 ()},λmm B H' w=>?_};let{F',m,ts,U,rfl,a5,w,lt}:=w;subst a5;let{dx,fs,hp,Y,_}:=id w.tk;let{r0,r1,_}:=mQ W0 ij m w.go;refine{_,M,_,M,p,_,dx,fs,_,M,hp,T.cn,T.cc,Y.end_,_,_,M,M,_,M,bC (λc=>?_)<|λc=>?_}
  .have c:=Kj c;let{r2,r3}:=Bs W0 c;refine{λa1 H2=>∃(F2:Li)(ts2:List Tp)(U:Me),a1=[some (.ref a),some (.ref p),some (.int n),some (.ref l),some (.int<|aS (65536/st.low) j i<|m+1),some (.int (m+1:Nat)),U]/\LN K t H H2 a p l F F2 st i j (m+1) ts2/\(ts2.length:Int)<n/\((m+1:Nat):Int)<4*n,λa1 H2 g=>?_,?_}
   .let{F2,ts2,U,e,w2,b1,b2}:=g;refine{_,?_,F2,m+1,ts2,U,M,e,w2,λx x0 xm qs hq=>?_}
    .show(j-sC (65536/st.low) j (aS (65536/st.low) j i m)).toNat<_;lia
    .rcases XE xm with xm|rfl
     .exact lt x x0 () qs hq
     .rw[hq.uniq w2.rw,Q0];exact⟨b1,b2⟩
   let{a6,a9,ab,am}:=w.sl.ins;refine{_,M,a,a6,a9,M,ab,am _ ∅,_,M,a,_,F',st,M,w.sl,(),(),λH2 F2 s2 f2=>?_};have w2:=w.move s2 f2;let{an,ap,b3,b4,_}:=id w2.tk;refine{_,M,p,_,an,ap,_,M,b3,T.cn,T.cc,b4.end_,_,_,M,?_}
   (try dsimp only)
   change jU 6 (V.int<|aS (65536/st.low) j i<|m+1) _ _ _;let{b5,b6,b9,ba}:=w2.sl.ins;refine{_,M,.inl {M,_,Dv.of w2.li},_,M,a,b5,b6,M,b9,ba _ ∅,_,M,_,M,a,_,_,F2,st,M,w2.sl,l4,iv,λH3 F3 l1 ts1 s3 f3 o3 n3 e3 u3 bb be=>?_};have O:=w2.move s3 f3;have a0:KY st i (aS (65536/st.low) j i<|m+1) ((ts++ts1).map Tp.kv):=by
    rw[Q9];exact O.rw.app ⟨bb,be⟩ r0<|XJ r2
   have ln:=a0.len;rw[Q0,Q8]at ln;have a2:∀{p:G'}{xs:Lf},H3 p=some (.tup xs)->p≠l:=λ{p xs} e z=>by rw[z,O.li]at e;cases e
   have w4:LN K t H (upd H3 l<|.lst<|ts.map (λe=>V.ref e.p)++ts1.map (λe=>V.ref e.p)) a p l F F3 st i j (m+1) (ts++ts1):=by
    refine{O.sl.upd O.ol,O.fr.upd_new λ_=>Z,?_,O.np,O.ol,by rw[ag,Q9],λe he=>?_,a0,λx hx=>?_}
    .let{dx,fs,hp,r}:=O.tk;exact{dx,fs,by rwa[ac λz=>by rw[z,O.li]at hp;cases hp],r}
    .rcases Q4.mp he with he|he
     .exact{by rw[ac (a2 (O.tu e he).1)];exact(O.tu e he).1,(O.tu e he).2}
     .exact{by rw[ac (a2 (u3 e he).1)];exact(u3 e he).1,(u3 e he).2}
    .rcases XE (Nat.le_of_lt_succ hx)with hx|rfl
     .exact w.go x hx
     .exact c
   refine{l,l1,_,_,M,M,O.li,e3,by rw[Q0,Q0];exact QV<|a8 (),?_}
   (try dsimp only)
   generalize upd H3 l (.lst<|ts.map (λe=>V.ref e.p)++ts1.map (λe=>V.ref e.p))=H4 at w4⊢;have pg:(n<=((ts++ts1).length:Int)\/4*n<=((m+1:Nat):Int))->LX st i j n (m+1) ((ts++ts1).map Tp.kv):=λo=>{a0,w4.go,λx x0 xm=>lt x x0 (),.inr {Nat.succ_pos m,by rw[Q0];exact o}};refine{_,M,_,M,_,_,M,M,?_}
   (try dsimp only)
   have em:((m:Int)+1)=((m+1:Nat):Int):=();rw[em];refine{_,M,l,_,M,.inl<|Dv.of w4.li,_,M,_,_,M,M,_,M,bC (λc1=>?_)<|λc1=>?_}
   .have c1:=Kj c1;rw[Q0]at c1;exact cK<|go _ _ {F3,m+1,ts++ts1,_,M,w4,pg<|.inl c1}
   refine{_,M,_,M,_,_,M,M,.inl {(_),(_)},_,_,M,M,_,M,bC (λc2=>?_)<|λc2=>?_}
   .exact go _ _ {F3,m+1,ts++ts1,_,M,w4,pg<|.inr (Kj c2)}
   .have c1:¬n<=(((ts++ts1).map λe=>V.ref e.p).length:Int):=λy=>c1 (Km y);have c2:¬4*n<=((m+1:Nat):Int):=λy=>c2 (Km y);rw[Q0]at c1;exact{F3,ts++ts1,_,M,w4,(),()}
  .have c:¬aS (65536/st.low) j i m<j:=λy=>c (Km y);exact go _ _ {F',m,ts,U,M,w,w.rw,w.go,λx x0 xm=>lt x x0 (),.inl ()}
 let{F2,m,ts,U,rfl,w,pg}:=w;let{r0,r1,_}:=mQ W0 ij m w.go;let{dx,fs,hp,Y,_}:=id w.tk;refine{_,M,_,M,p,_,dx,fs,_,M,hp,T.cn,T.cc,Y.end_,M,_,M,bC (λc=>?_)<|λc=>?_}
 .have c:aS (65536/st.low) j i m=j:=V.int.inj (Kj c);refine{_,M,(by show 2<=sizeLine;decide),λr nr=>?_};have W:=ak (o:= .tup [.ref l,.non]) nr;refine q _ F2 r l .non ts m (w.sl.new nr) (w.fr.trans<|Fr.of_same W) {ag,W _ _ w.li,λe he=>{W _ _ (w.tu e he).1,(w.tu e he).2},{λnF=>nu w.fr nF nr,w.sl.out nr},{λ_=>Z,w.ol}} pg ?_;unfold LW;rw[Kd c]
 .have c:¬aS (65536/st.low) j i m=j:=λz=>c (Km<|by rw[z]);have ok:okS (.int<|aS (65536/st.low) j i m) (.int j):={_,_,M,M,(),(),j1};refine{_,M,_,M,_,M,p,_,dx,fs,_,M,hp,T.cn,T.cc,Y.end_,λx dr nx nd bl=>?_};refine{x,dr,_,_,M,ag,T0 _,T0 _,λ_ H' fs' a3 h' bh=>{M,(by show 2<=sizeLine;decide),λr nr=>?_},λz=>Kh ok z};have W:IA H2 (upd H' r<|.tup [.ref l,.ref x]):=(n9 nx nd a3).trans (ak nr);have a4:H2 r=none:=eZ (n9 nx nd a3) nr;have xr:x≠r:=λz=>by rw[z,nr]at h';cases h'
  refine q _ F2 r l (.ref x) ts m (w.sl.same W) (w.fr.trans<|Fr.of_same W) {ag,W _ _ w.li,λe he=>{W _ _ (w.tu e he).1,(w.tu e he).2},{λnF=>nu w.fr nF a4,w.sl.out a4},{λ_=>Z,w.ol}} pg ?_;unfold LW;rw[Kc c];exact{x,M,λnF=>nu w.fr nF nx,w.sl.out nx,dr,fs',by rwa[ac xr],bh,(),(),j1}
def Jp.newb{s l w h:G'}{Fs Fs' Fl:Li}{x:JH}(Jb:Jp K t H a s l w p h Fs Fl x)(n:¬Fs b->H b=none)(n':¬Fs' b):¬Ju a w p h Fs' Fl x.pa b:=λz=>by
 rcases z with z|z|z
 .exact n' z
 .let{o,e}:=Jb.lv.dom z;rw[n λy=>Jb.a1 b y z]at e;cases e
 .let{o,e,_}:=Jb.o.dom z;rw[n (Jb.a2 b z)]at e;cases e
noncomputable def KU:V->Int
 | .int i=>i|_=>0
def L7(st:IE)(ks:Lh)(kd n:Int)(av e:V)(ps:Ll)(r:Me):Prop:=
 (kd=0/\∃m,LX st (KU av) (KU e) n m ps/\r=if aS (65536/st.low) (KU e) (KU av) m=KU e then none else some (.int<|aS (65536/st.low) (KU e) (KU av) m))\/
 ∃up:Bool,kd=(if up=true then 1 else 2)/\ps.map (·.1)=(bE up av e ks).take n.toNat/\(∀p∈ps,aI st.kv p.1=some p.2)/\r=if(bE up av e ks).length<=n.toNat then none else((bE up av e ks)[n.toNat-1]?).map λk=> .int (if up=true then k+1 else k-1)
def By{i r:Int}(h:KY st i r ps)(h':KY st i r qs):ps=qs:=by
 have as:∀a b,ou a b->¬ou b a:=λa b x y=>by
  unfold ou at x y;lia
 have sub:∀{l m:Ll},l.Pairwise ou->m.Pairwise ou->(∀x,x∈l↔x∈m)->l=m:=by
  intro l
  induction l with
  |nil=>
   intro m _ _ h;cases m with
   |nil=>rfl
   |cons b m=>exact Kh ((h b).mpr Q6) Z4
  |cons a l O=>
   intro m h1 h2 h;cases m with
   |nil=>exact Kh ((h a).mp Q6) Z4
   |cons b m=>
    let{G,q1}:=Za.mp h1;let{p2,q2}:=Za.mp h2;have e:a=b:=by
     rcases Q7.mp ((h a).mp Q6)with c|c
     .exact c
     .rcases Q7.mp ((h b).mpr Q6)with c2|c2
      .exact c2.symm
      .exact Kh (G b c2)<|as _ _ (p2 a c)
    subst e;have I:∀{x:Int×V},¬ou x x:=λ{x} y=>as x x y y;rw[O q1 q2 λx=>{λhx=>((Q7.mp<|(h x).mp<|Qc _ hx).resolve_left λz=>I<|z▸G x hx),λhx=>((Q7.mp<|(h x).mpr<|Qc _ hx).resolve_left λz=>I<|z▸p2 x hx)}]
 exact sub h.so h'.so λx=>(h.me x.1 x.2).trans (h'.me x.1 x.2).symm
def L7.uniq{kd:Int}{e:V}{r r':Me}(h:L7 st ks kd n av e ps r)(h':L7 st ks kd n av e qs r'):ps=qs/\r=r':=by
 rcases h with⟨k0,m,g,U⟩|⟨up,W,e1,v1,U⟩<;>rcases h' with⟨Y,m',g',O⟩|⟨up',I,Z,a0,O⟩
 .have lt:∀{m m':Nat}{ps qs:Ll},LX st (KU av) (KU e) n m ps->LX st (KU av) (KU e) n m' qs->¬m<m':=λ{m m' ps qs} g g' l=>by
   have h1:=g'.go m l;rcases g.st with z|⟨z,y⟩
   .lia
   .have:=g'.le m z l ps g.rw;lia
  have em:m=m':=by
   have h1:=lt g g';have h2:=lt g' g;lia
  subst em;exact{By g.rw g'.rw,U.trans O.symm}
 .rw[k0]at I;cases up'<;>cases I
 .rw[Y]at W;cases up<;>cases W
 .have eu:up=up':=by
   rw[W]at I;cases up<;>cases up'<;>first|rfl|cases I
  subst eu;refine{?_,U.trans O.symm};have ek:=e1.trans Z.symm;refine List.ext_getElem? λj=>?_;have G:=Ks (λl:List Int=>l[j]?) ek;rw[Ql,Ql]at G;cases c1:ps[j]? with
  |none=>rw[c1]at G;cases c2:qs[j]? with
   |none=>rfl
   |some y=>rw[c2]at G;cases G
  |some x=>
   rw[c1]at G;cases c2:qs[j]? with
   |none=>rw[c2]at G;cases G
   |some y=>
    rw[c2]at G;have G:x.1=y.1:=Kf G;have h1:=v1 x (Q1 c1);have h2:=a0 y (Q1 c2);rw[G,h2]at h1;rw[show x=y from Prod.ext G (Kf h1).symm]
structure JS(t:IT)(H':Hp)(F':Li)(st:IE)(kd n:Int)(av e v:V)(ts:List Tp)(a':V)(R:Ma):Prop where
 rest:(v= .non/\R=λ_=>false)\/∃q:Addr,v= .ref q/\JO t H' q kd a' e/\Jm kd a' e/\¬F' q/\R=hN kd a' e/\(kd=0->KU av<=KU a')
 less:∀k,0<=k->R k=true->hN kd av e k=true
 nd:(ts.map (·.k)).Nodup
 me:∀k v,(k,v)∈ts.map Tp.kv↔(k,v)∈st.kv/\hN kd av e k=true/\R k=false
 tell:∀ks,bQ ks->(∀z,z∈ks↔(aI st.kv z).isSome=true)->L7 st ks kd n av e (ts.map Tp.kv) (if v= .non then none else some a')
 far:v= .non\/n<=ts.length\/(kd=0/\KU av/(65536/st.low)+4*n<=KU a'/(65536/st.low))
theorem ui{W j i:Int}(z:0<W):∀m:Nat,(∀x≤m,aS W j i x≠j)->aS W j i m/W=i/W+m
 |0,_=>(Int.add_zero _).symm
 |m+1,h=>by
  have G:=ui z m λx hx=>h x ();have e:aS W j i (m+1)=(aS W j i m/W+1)*W:=by
   have:=h (m+1) (Q5 _);show sC W j (aS W j i m)=_;change sC W j (aS W j i m)≠j at this;unfold sC at this⊢;split
   .rw[Kd (by assumption)]at this;exact Kh M this
   .rfl
  rw[e,Int.mul_ediv_cancel _ (QW z),G];lia
def vQ{i j:Int}:hN 0 (.int i) (.int j) k=true↔i<=Ir k/\Ir k<j:=by
 show(decide (i<=tz (k%65536))&&decide (tz (k%65536)<j))=true↔_;rw[QM,Kq,Kq];exact Iff.rfl
def yH{i j:Int}{m:Nat}(G:0<65536/st.low)(i0:0<=i)(U:i<=j)(g:LX st i j n m (ts.map Tp.kv))(x:LW t H H' F F' (aS (65536/st.low) j i m) j v):∃a' R,JS t H' F' st 0 n (.int i) (.int j) v ts a' R:=by
 let{r1,r2,_}:=mQ G U m g.go;have I:(ts.map (·.k)).Nodup:=by
  refine QS.mpr<|(QS.mp g.rw.so).imp λ{a b} h e=>?_;have h:Ir a.k<Ir b.k\/(Ir a.k=Ir b.k/\a.k<b.k):=h;rw[e]at h;lia
 unfold LW at x;by_cases ej:aS (65536/st.low) j i m=j
 .rw[Kd ej]at x;refine{.non,λ_=>false,.inl ⟨x,M⟩,λk _ h=>Kh h Qg,I,λk v=>?_,(λks _ _=> .inl {M,m,g,by rw[Kd x];exact(Kd ej).symm}),.inl x};rw[g.rw.me,ej,vQ];exact{λh=>⟨h.1,h.2,M⟩,λh=>⟨h.1,h.2.1⟩}
 .rw[Kc ej]at x;let{q,O,_,W,dx,fs,hq,Y,Z,q1,q2}:=x;refine{_,hN 0 (.int<|aS (65536/st.low) j i m)<|.int j,.inr {q,O,⟨dx,fs,hq,Y⟩,.inl {M,_,_,M,M,Z,q1,q2},W,M,λ_=>r1},λk _ h=>?_,I,λk v=>?_,(λks _ _=> .inl {M,m,g,by rw[Kc λz=>by rw[O]at z;cases z];exact(Kc ej).symm}),?_}
  .rw[vQ]at h⊢;lia
  .rw[g.rw.me,vQ,<-Bool.not_eq_true,vQ];constructor
   .rintro ⟨h1,h2,h3⟩;exact{h1,{h2,()},()}
   .rintro ⟨h1,⟨h2,h3⟩,h4⟩;exact{h1,h2,()}
  .rcases g.st with z|⟨_,z|z⟩
   .exact Kh z ej
   .rw[Q0]at z;exact .inr<|.inl z
   .refine .inr<|.inr {M,?_};have ne:∀x≤m,aS (65536/st.low) j i x≠j:=λx hx=>by
     rcases XE hx with h|rfl
     .have:=g.go x h;lia
     .exact ej
    show i/(65536/st.low)+4*n<=aS (65536/st.low) j i m/(65536/st.low);rw[ui G m ne];lia
def tj(up:Bool)(x y:Int):Prop:=if up=true then x<y else y<x
def Cy{a e:V}(r:bQ ks):(bE up a e ks).Pairwise (tj up):=by
 unfold bE tj;cases up
 .exact List.Pairwise.filter _<|Xp.mpr r
 .exact List.Pairwise.filter _ r
def Jf{a e:V}{z:Int}:z∈bE up a e ks↔z∈ks/\hK up a e z=true:=by
 unfold bE;rw[QA];cases up
 .rw[Kc Qg,Zj]
 .rw[Kd M]
def Bl{m:Nat}{z:Int}(r:l.Pairwise (tj up))(h:l[m-1]?=some k)(I:1<=m):z∈l.take m↔z∈l/\(z=k\/tj up z k):=by
 have w:=Z8.mp r;let{hk,G}:=Q2.mp h;have as:∀{x y:Int},tj up x y->¬(y=x\/tj up y x):=λ{x y} h1 h2=>by
  unfold tj at h1 h2;cases up
  .rw[Kc Qg]at h1 h2;lia
  .rw[Kd M]at h1 h2;lia
 constructor
 .intro hz;let{i,hi,e}:=QB hz;rw[Qd]at hi;rw[ZS]at e;refine{Zd hz,?_};rcases Nat.lt_or_ge i (m-1)with c|c
  .have:=w i (m-1) () hk c;rw[e,G]at this;exact .inr this
  .have:i=m-1:=();subst this;exact .inl<|e.symm.trans G
 .rintro ⟨hz,o⟩;let{i,hi,rfl}:=QB hz;rcases Nat.lt_or_ge i m with c|c
  .exact List.mem_take_iff_getElem.mpr {i,(),M}
  .have:=w (m-1) i hk hi ();rw[G]at this;exact Kh o<|as this
def FN{a e:V}(h:L8 t H p up a e):JO t H p (if up=true then 1 else 2) a e/\Jm (if up=true then 1 else 2) a e:=by
 let{dx,fs,hp,z,ok}:=h;cases up
 .exact{⟨dx,fs,hp,z⟩,.inr<|.inr ⟨M,ok⟩}
 .exact{⟨dx,fs,hp,z⟩,.inr<|.inl ⟨M,ok⟩}
def GU:hN (if up=true then 1 else 2)=hK up:=by cases up<;>rfl
def rX{a e:V}{z:Int}(ok:if up=true then Jo a e else Jn a e)(hk:hK up a e k=true):hK up (.int<|if up=true then k+1 else k-1) e z=true↔hK up a e z=true/\¬(z=k\/tj up z k):=by
 unfold tj;cases up with
 |true=>
  rw[Kd M,Kd M];let{i,rfl,i0,he}:=(show Jo a e from ok);rcases he with rfl|⟨j,rfl,_⟩
  .have h1:=Kj (show decide (i<=k)=true from hk);show decide (k+1<=z)=true↔decide (i<=z)=true/\_;rw[Kq,Kq];lia
  .have h1:=Kj (QE.mp<|show(decide (i<=k)&&decide (k<j))=true from hk).1;show(decide (k+1<=z)&&decide (z<j))=true↔(decide (i<=z)&&decide (z<j))=true/\_;rw[QM,QM,Kq,Kq,Kq];lia
 |false=>
  rw[Kc Qg,Kc Qg];let{j,rfl,G,ha}:=(show Jn a e from ok);rcases ha with rfl|⟨i,rfl,_⟩
  .show(decide (j<=z)&&decide (z<=k-1))=true↔decide (j<=z)=true/\_;rw[QM,Kq,Kq];lia
  .have h1:=Kj (QE.mp<|show(decide (j<=k)&&decide (k<=i))=true from hk).2;show(decide (j<=z)&&decide (z<=k-1))=true↔(decide (j<=z)&&decide (z<=i))=true/\_;rw[QM,QM,Kq,Kq,Kq];lia
def AR{e:V}(nd:(st.kv.map (·.1)).Nodup)(r:bQ ks)(mk:∀z,z∈ks↔(aI st.kv z).isSome=true)(n1:1<=n)(ok:if up=true then Jo av e else Jn av e)
  (W:ts.map (·.k)=(bE up av e ks).take n.toNat) (Y:∀e∈ts,aI st.kv e.k=some e.v) (x:NxH t H H' F' p up e (bE up av e ks) n.toNat v):∃a' R,JS t H' F' st (if up=true then 1 else 2) n av e v ts a' R:=by
 have ho:=Cy (up:=up) (a:=av) (e:=e) r;have I:(ts.map (·.k)).Nodup:=by
  rw[W];refine(ho.sublist<|ZO _ _).imp λ{a b} h e=>?_;unfold tj at h;rw[e]at h;split at h<;>lia
 have me:∀(k:Int)(v:V),(k,v)∈ts.map Tp.kv↔(k,v)∈st.kv/\k∈(bE up av e ks).take n.toNat:=λk v=>by
  rw[<-W,Qj,Qj];constructor
  .rintro ⟨d,hd,h1⟩;have h2:d.k=k:=Ks Prod.fst h1;have O:d.v=v:=Ks Prod.snd h1;have:=jP (Y d hd);rw[h2,O]at this;exact⟨this,d,hd,h2⟩
  .rintro ⟨h1,d,hd,rfl⟩;have:=Y d hd;rw[d8 nd h1]at this;exact{d,hd,by unfold Tp.kv;rw[Kf this]}
 have ik:∀{k:Int}{v:V},(k,v)∈st.kv->k∈ks:=λh=>(mk _).mpr (by rw[d8 nd h];rfl);have tl:∀{r:Me},(r=if(bE up av e ks).length<=n.toNat then none else((bE up av e ks)[n.toNat-1]?).map λk=> .int<|if up=true then k+1 else k-1)->∀G,bQ G->(∀z,z∈G↔(aI st.kv z).isSome=true)->L7 st G (if up=true then 1 else 2) n av e (ts.map Tp.kv) r:=λ{q} hq G r' mk'=>by
  have e1:G=ks:=wI r' r λz=>(mk' z).trans (mk z).symm;subst e1;refine .inr {up,M,by rwa[QR],λp hp=>?_,hq};let{d,hd,rfl}:=Qj.mp hp;exact Y d hd
 unfold NxH at x;split at x
 .refine{.non,λ_=>false,.inl ⟨x,M⟩,λk _ h=>Kh h Qg,I,λk v=>?_,tl (by rw[Kd x,Kd (by assumption)]),.inl x};rw[me,QC (by assumption),Jf,GU];exact{λh=>⟨h.1,h.2.2,M⟩,λh=>{h.1,ik h.1,h.2.1}}
 .rw[Kc ()]at x;let{q,k0,Z,U,_,nq,TQ}:=x;have hk:=(Jf.mp<|Q1 Z).2;let{t1,t2}:=FN TQ;refine{_,hN (if up=true then 1 else 2) (.int<|if up=true then k0+1 else k0-1) e,.inr {q,U,t1,t2,nq,M,λz=>by cases up<;>cases z},λk _ h=>?_,I,λk v=>?_,tl (by rw[Kc (show ¬v= .non from λz=>by rw[U]at z;cases z),Kc (show ¬(bE up av e ks).length<=n.toNat by assumption),Z];rfl),.inr<|.inl ?_}
  .rw[GU]at h⊢;exact((rX ok hk).mp h).1
  .rw[me,Bl ho Z (),Jf,GU,<-Bool.not_eq_true,rX ok hk];constructor
   .rintro ⟨h1,⟨_,h2⟩,O⟩;exact{h1,h2,λz=>z.2 O}
   .rintro ⟨h1,h2,O⟩;exact{h1,{ik h1,h2},Classical.byContradiction λz=>O ⟨h2,z⟩}
  .have:=Ks List.length W;rw[Q0,Qd]at this;lia
structure Sv(P:Ln)(w:Lp)(K:Jc)(mg:Lr)(base:Heap)(f:G')(Ft:Li)(I:List (Int×V)->Hp->Prop)(G:Int×V->Bool):Prop where
 fn:∃fd ps spL,C5 P w K mg base IL 3 f fd ps spL/\Binds K fd ps []/\∀ds H(k j:Int)(Q:VK),I ds H->ds.length<=5000->(∀H',I (ds++ [(k,.int j)]) H'->(∀b o,¬Ft b->H b=some o->H' b=some o)->Q (.bl<|G (k,.int j)) H')->spL [.int k,.int j] H Q E0
 ob:∀ds H,I ds H->∃(o:Obj)(d:Lw),H f=some (xo f o)/\o.data=Data.func d
 st:∀ds H H',I ds H->(∀b o,(Ft b\/∃xs,o= .tup xs)->H b=some o->H' b=some o)->I ds H'
 fo:∀ds H b,I ds H->Ft b->H b≠none
 kd:∀ds H b o,I ds H->Ft b->H b=some o->(∃xs,o= .lst xs)\/∃φ,o= .ext φ
def Sv.nt{O:Li}{I:List (Int×V)->Hp->Prop}{G:Int×V->Bool}(S:Sv P w K mg base f O I G)(ds:Ll)(H:Hp)(b:G')(xs:Lf)(i:I ds H)(h:O b):H b≠some (.tup xs):=λe=>by
 rcases S.kd _ _ _ _ i h e with⟨_,z⟩|⟨_,z⟩<;>cases z
def F7(P:Ln)(w:Lp)(K:Jc)(mg:Lr)(base:Heap)(t:IT):Sp:=λvs H Q _=>∃(a p:G')(n kd:Int)(av e:V)(F:Li)(x:JH)(sv:V),vs=[.ref a,.ref p,.int n,sv]/\JD K t H a F x/\JO t H p kd av e/\Jm kd av e/\¬F p/\1<=n/\n<=1000/\x.st.kv.length<4096/\x.ks.length<4096/\(∀k∈x.ks,0<=k)/\(∀p∈x.st.kv,∃i:Int,p.2= .int i)/\
 ((sv= .non/\∀(H':Hp)(F':Li)(r g:G')(v:V)(ts:List Tp)(a':V)(R:Ma),JD K t H' a F' x->Fr F F' H H'->PgA H H' F F' r g v ts->JS t H' F' x.st kd n av e v ts a' R->Q (.ref r) H')\/
   ∃(f:G')(Ft:Li)(I:List (Int×V)->Hp->Prop)(G:Int×V->Bool),sv= .ref f/\Sv P w K mg base f Ft I G/\I [] H/\(∀b,Ft b->¬F b)/\
    ∀(H':Hp)(F':Li)(r g:G')(v:V)(ts:List Tp)(a':V)(R:Ma),JD K t H' a F' x->(∀b o,¬F b->¬Ft b->H b=some o->H' b=some o/\¬F' b)->(∀b,Ft b->¬F' b)->
     H' r=some (.tup [.ref g,v])->H' g=some (.lst<|(ts.filter λe=>G e.kv).map λe=>V.ref e.p)->(∀e∈ts,H' e.p=some (.tup [.int e.k,e.v])/\¬F' e.p)->¬F' r/\¬F' g->JS t H' F' x.st kd n av e v ts a' R->I (ts.map Tp.kv) H'->Q (.ref r) H')
def Gv:C5 P w K mg base IL 8 t.FC t.uJ [u4,ir,mu,"sieve"] (F7 P w K mg base t):=by
 have ba:=LJ.nd;refine T.xB.ok LJ (λvs H Q E h=>?_)<|λbb A outer s H vs Q E hr h=>?_
 .let{a,p,n,kd,av,e,F,x,sv,rfl,_}:=h;rfl
 .let{a,p,n,kd,av,e,F,x,sv,rfl,A,TK,on,np,n1,n2,l4,lk,k0,iv,q0}:=h;refine HG (λx y=>aT (cT<|az (i8 K M) {_} T.eV cN (aa IC<|aa (bV (v:= .ref t.aQ) {_} T.rB M) af)) x y) ?_;refine aA (IR 4<|aE (oy T) hr.mo {_} T.AZ T.pU.kp T.Ba .nil ar (aa (ay AS M)<|aa IC<|aa IG af)) ?_
  intros
  refine aA (IR 4<|aE (pL T) hr.mo {_} T.Cg T.ss.kp T.CY .nil ar (aa AS<|aa IC<|aa IG af)) ?_
  intros
  refine ah (aT (aq jH IU cy<|aw _)
   (aB<|aD JF)
   aF)
     (aA (aD<|bj<|aa (jG M (IF.of (M':=["row"]) (N:=[u4,ir,mu,"sieve","page"]) (N':=[u4,ir,mu,"sieve","page"]) (dsc:=ai yU) M M ∅) (dA<|aJ bz JF ae<|λ_ _=>M) (λ_ _ _ _ _=>(cT<|BO P w K mg base 3 M M M M M hr.mo JF<|aa (aJ (m7 K M) AS ae<|λ_ _=>M)<|aa (aJ (m7 K M) AS ae<|λ_ _=>M) af))<|λ_ _ _ _ _=>AS)<|aa (aJ bz JF ae<|λ_ _=>M) af) ?_)
  intros
  refine cP (λB H1=>∃(F1:Li)(r g:G')(v:V)(ts:List Tp)(a':V)(R:Ma),B=[some (.ref a),some (.ref p),some (.int n),some sv,some (.ref r)]/\JD K t H1 a F1 x/\Fr F F1 H H1/\PgA H H1 F F1 r g v ts/\JS t H1 F1 x.st kd n av e v ts a' R) (λnx go=>?_)<|λB H1 w=>?_
  .let{dx,fs,hp,tf}:=id TK;have nd:(x.st.kv.map (·.1)).Nodup:=by
    let{s,l,wr,p,h,Fs,Fl,Jb,O,g}:=A;let{_,_,_,_,nd,_}:=Jb.sl;exact nd
   have ri:bQ x.ks:=by
    let{_,_,_,_,_,_,L}:=A.lvs;exact L.rise
   have Y:∀(up:Bool){Q':VK}{E':XK},kd=(if up=true then 1 else 2)->(∀(H':Hp)(F':Li)(r g:G')(v:V)(ts:List Tp)(a':V)(R:Ma),JD K t H' a F' x->Fr F F' H H'->PgA H H' F F' r g v ts->JS t H' F' x.st kd n av e v ts a' R->Q' (.ref r) H')->jc K t [.ref a,.ref p,.int n] H Q' E':=λup Q' E' eu hQ=>by
    have ok:if up=true then Jo av e else Jn av e:=by
     subst eu;cases up
     .exact on.d
     .exact on.u
    refine{a,p,n,up,av,e,F,x,M,A,{dx,fs,?_,?_,ok},np,lk,k0,λH' F' r g v ts Z f' pg ek ev nx=>?_}
    .subst eu;cases up<;>exact hp
    .subst eu;cases up<;>exact tf
    .let{a',R,U}:=AR nd ri A.ok.ks n1 ok ek ev nx;rw[<-eu]at U;exact hQ H' F' r g v ts a' R Z f' pg U
   rcases on.kd with rfl|rfl|rfl
   .have hp:H p=some (.ins t.aQ dx fs):=hp;let{i,j,rfl,rfl,i0,ij,j1}:=on.s;let{s,l,wr,pp,h,Fs,Fl,Jb,O,g}:=A;let{a9,ho}:=Jb.o.ob;have W0:0<65536/x.st.low:=by
     have z:IN x.st:=let⟨_,_,_,_,_,z⟩:=Jb.sl;z
     let{_,_,R}:=vt (gK z);exact R.wpos'
    refine{_,M,_,_,_,_,M,Iw.ins hp T.cn T.lN.1 T.lN.2 T.lN.3 T.lN.4,T.yw,_,M,cK {_,M,a,_,a9,_,_,M,ho,T.aU,T.b9,rM,_,M,_,M,s,p,n,i,j,Fs,x.st,M,Jb.sl,⟨dx,fs,hp,tf,i0,ij,j1⟩,λz=>np<|(g p).mpr<|.inl z,n1,n2,l4,iv,λH' Fs' r gg v ts m S' f' pg ps nx=>?_}};let{B1,g1}:=Jb.slots S' f';have up:∀{b:G'},¬F b->¬Fs b:=λn z=>n ((g _).mpr<|.inl z);have Z:JD K t H' a (Ju a wr pp h Fs' Fl x.pa) x:={s,l,wr,pp,h,Fs',Fl,B1,O,λ_=>Iff.rfl};have ab:LW t H H' F (Ju a wr pp h Fs' Fl x.pa) (aS (65536/x.st.low) j i m) j v:=by
     unfold LW at nx⊢;split
     .rw[Kd (by assumption)]at nx;exact nx
     .rw[Kc (by assumption)]at nx;let{y,e1,e2,e3,e4}:=nx;exact{y,e1,λn=>e2<|up n,Jb.newb e2 e3,e4}
    let{a',R,U}:=yH W0 i0 ij ps ab;refine go _ H' {_,r,gg,v,ts,a',R,M,Z,λb o n e=>g1 b o (λz=>n<|(g b).mpr z) e,{pg.tu,pg.li,λe he=>{(pg.rw e he).1,λz=>?_},{λn=>pg.nr.1<|up n,Jb.newb pg.nr.1 pg.nr.2},λn=>pg.ng.1<|up n,Jb.newb pg.ng.1 pg.ng.2},U};let{o,e',n}:=Z.dom z;rw[(pg.rw e he).1]at e';exact n _ (Kf e').symm
   .have hp:H p=some (.ins t.cY dx fs):=hp;refine{_,M,_,_,_,_,M,Iw.ins hp T.iu T.jj.1 T.jj.2 T.jj.3 T.jj.4,T.Dj,_,M,db {_,M,_,M,_,M,Y true M λH' F' r g v ts a' R Z f' pg U=>go _ _ ⟨F',r,g,v,ts,a',R,M,Z,f',pg,U⟩}}
   .have hp:H p=some (.ins t.bG dx fs):=hp;refine{_,M,_,_,_,_,M,Iw.ins hp T.cr T.de.1 T.de.2 T.de.3 T.de.4,T.A7,_,M,db {_,M,_,M,_,M,Y false M λH' F' r g v ts a' R Z f' pg U=>go _ _ ⟨F',r,g,v,ts,a',R,M,Z,f',pg,U⟩}}
  .let{F1,r1,g1,v,ts,a',R,rfl,A1,f1,pg,U}:=w;rcases q0 with⟨rfl,q⟩|⟨f,Ft,I,G,rfl,S,I0,nF,q⟩
   .exact{_,M,M,_,M,jT M {_,M,q _ _ _ _ _ _ _ _ A1 f1 pg U}}
   refine{_,M,M,_,M,bf (λz=>by cases z) ?_};unfold wx
   (try dsimp only)
   have tu:∀e∈ts,H1 e.p=some (.tup [.int e.k,e.v]):=λe he=>(pg.rw e he).1;have am:∀b xs,H b=some (.tup xs)->¬F b:=λb xs hb z=>by
    let{o,e',n}:=A.dom z;rw[hb]at e';exact n _ (Kf e').symm
   have I1:I [] H1:=S.st _ _ _ I0 λb o h e=>by
    rcases h with h|⟨xs,rfl⟩
    .exact(f1 b o (nF b h) e).1
    .exact(f1 b _ (am b xs e) e).1
   have a0:∀b,Ft b->¬F1 b:=λb h=>by
    cases e:H b with
    |none=>exact Kh e<|S.fo _ _ b I0 h
    |some o=>exact(f1 b o (nF b h) e).2
   have a3:∀e∈ts,¬Ft e.p:=λe he h=>S.nt _ _ _ _ I1 h (tu e he);have an:¬Ft r1:=λh=>S.nt _ _ _ _ I1 h pg.tu;have ap:¬Ft g1:=λh=>S.fo _ _ _ I0 h (pg.ng.1<|nF _ h);have ax:(x.st.kv.map (·.1)).Nodup:=by
    let{s,l,wr,p,h,Fs,Fl,Jb,O,g}:=A;let{_,_,_,_,nd,_}:=Jb.sl;exact nd
   have b1:∀e∈ts,0<=e.k/\∃j:Int,e.v= .int j:=λe he=>by
    have hm:=((U.me e.k e.v).mp<|QK (f:=Tp.kv) he).1;exact{k0 _<|(A.ok.ks e.k).mpr (by rw[d8 ax hm];rfl),iv _ hm}
   have be:ts.length<=4096:=by
    have hs:∀z∈ts.map (·.k),z∈x.st.kv.map (·.1):=λz hz=>by
     let{e,he,rfl}:=Qj.mp hz;exact QK (f:=Prod.fst) ((U.me e.k e.v).mp<|QK (f:=Tp.kv) he).1
    have:=eh U.nd hs;rw[Q0,Q0]at this;lia
   have b2:∀i e,ts[i]?=some e->(ts.take<|i+1).map Tp.kv=(ts.take i).map Tp.kv++ [e.kv]/\(ts.take<|i+1).filter (λe=>G e.kv)=(ts.take i).filter (λe=>G e.kv)++(if G e.kv=true then[e]else[]):=λi e h=>by
    rw[List.take_succ,h];refine{by simp,?_};rw[Qx];congr 1;cases c:G e.kv<;>simp[c]
   refine{_,M,r1,_,_,_,M,M,JE.of pg.tu,M,g1,M,{_,Dv.of pg.li},λD hD=>?_};have b3:¬F1 D:=A1.out hD;have a4:∀b,Ft b->b≠D:=λb h z=>by subst z;exact S.fo _ _ _ I1 h hD
   refine fX (K:=K) (a:=g1) (xs:=ts.map λe=>V.ref e.p) (λi ys H2=>I ((ts.take i).map Tp.kv) H2/\(∀b o,¬Ft b->H1 b=some o->H2 b=some o)/\ys=((ts.take i).filter λe=>G e.kv).map λe=>V.ref e.p)
    {S.st _ _ _ I1 λb o h e=>ak hD _ _ e,λb o _ e=>ak hD _ _ e,M} (λi ys H2 _ w=>Dv.of<|w.2.1 _ _ ap pg.li) (λi y ys H2 hy w a1=>?_) (λys H2 w a1=>?_)
   .let{I2,kp,ey}:=w;have hi:i<(ts.map λe=>V.ref e.p).length:=(Q2.mp hy).1;rw[Ql]at hy;let{e0,he,rfl}:=QI.mp hy;have hm:=Q1 he;let{z0,j,ej}:=b1 e0 hm;have hp:=kp _ _ (a3 e0 hm) (tu e0 hm);let{p1,p2}:=b2 i e0 he;let{fd,ps,b4,FF,hb,b5}:=S.fn;refine{_,M,f,fd,ps,b4,M,FF,hb,_,M,_,_,_,_,M,M,JE.of hp,M,_,M,_,_,_,_,M,M,JE.of hp,M,S.ob _ _ I2,?_};rw[ZL,ej];refine b5 _ _ _ _ _ I2 (by rw[Q0,Qd];lia) λH3 I3 k3=>{_,M,?_};have a5:e0.kv=(e0.k,.int j):=by unfold Tp.kv;rw[ej]
    have a2:=k3 D _ (λh=>a4 _ h M) a1;have a6:∀b o,¬Ft b->H1 b=some o->H3 b=some o:=λb o n e=>k3 b o n (kp b o n e);rw[<-a5,<-p1]at I3;have yl:ys.length<=4096:=by
     rw[ey,Q0];have:=Qn (λe:Tp=>G e.kv) (ts.take i);rw[Qd]at this;lia
    rw[<-a5];cases c:G e0.kv with
    |true=>
     rw[c]at p2;refine cK {_,M,IW.mk hi a2 (a8 ()) {S.st _ _ _ I3 λb o h e=>?_,λb o n e=>?_,?_}}
     .rcases h with h|⟨xs,rfl⟩
      .rwa[ac (a4 b h)]
      .rwa[ac λz=>by rw[z,a2]at e;cases e]
     .rw[ac (aj e hD)];exact a6 b o n e
     .rw[ey,p2,Q9];rfl
    |false=>
     rw[c]at p2;refine db<|JJ.mk hi a2 {I3,a6,?_};rw[ey,p2];simp
   .let{I2,kp,ey}:=w;rw[Q0,QF]at I2 ey;have b6:=kp _ _ an pg.tu;refine{_,M,r1,_,_,_,M,M,JE.of b6,M,(by show 2<=sizeLine;decide),λb nb=>?_};have sb:IA H2 (upd H2 b<|.tup [.ref D,v]):=ak nb;have hb:upd H2 b (.tup [.ref D,v]) b=some (.tup [.ref D,v]):=ag;generalize upd H2 b (.tup [.ref D,v])=H4 at sb hb⊢;have W:∀b o,¬Ft b->H1 b=some o->H4 b=some o:=λb o n e=>sb _ _ (kp b o n e);have A4:JD K t H4 a F1 x:=A1.keep (λb h=>by
     let{o,e,_}:=A1.dom h;rw[e];exact W b o (λz=>a0 b z h) e) λb xs e=>W b _ (λz=>S.nt _ _ _ _ I1 z e) e
    refine q H4 F1 b D v ts a' R A4 (λc o n1 n2 e=>?_) a0 hb (by rw[sb _ _ a1,ey]) (λe he=>{W _ _ (a3 e he)<|tu e he,(pg.rw e he).2}) {(λz=>by let{o,e,_}:=A1.dom z;have h:=kp b o (λy=>a0 b y z) e;rw[nb]at h;cases h),b3} {?_,U.less,U.nd,U.me,U.tell,U.far}<|S.st _ _ _ I2 λc o _ e=>sb _ _ e
    .exact{W c o n2 (f1 c o n1 e).1,(f1 c o n1 e).2}
    .rcases U.rest with y|⟨q',h1,⟨dq,fq,hq,tq⟩,h3⟩
     .exact .inl y
     .exact .inr {q',h1,{dq,fq,W _ _ (λz=>(by rcases S.kd _ _ _ _ I1 z hq with⟨_,z⟩|⟨_,z⟩<;>cases z)) hq,tq},h3}
def pC(K:Jc):Sp:=λvs H Q _=>∃(a:G')(ns:Lh)(k:Int),vs=[.ref a,.int k]/\Dv K H a (ns.map V.int)/\0<=k/\Q (.int<|ns.getD k.toNat 0) H
def pO:C5 P w K mg base IL 1 t.kq t.fR [lq,vb] (pC K):=by
 refine T.f9.okl pH λs H vs Q E I h _=>?_;intro X;let{a,ns,i,rfl,hS,G,k}:=h;refine ah (aT (aq d9 IC (az au {_} T.bq aZ (aa AS af))<|aw _)
    (aB<|aD<|aJ aL AS IC<|λ_ _=>M)
    aF)
   (aA (aD ae) ?_)
 intros
 refine{_,M,_,M,a,_,M,.inl hS,_,_,M,M,_,M,?_};refine bC (λc=>?_)<|λc=>?_
 .have c:=Kj c;rw[Q0]at c;exact{_,M,_,M,a,_,_,_,M,M,hS,rV G c,k}
 .have c:¬i<((ns.map V.int).length:Int):=λz=>c (Km z);rw[Q0]at c;rw[CS c]at k;exact k
def sG:Sp:=λvs H Q _=>∃c k:Int,vs=[.int c,.int k]/\∀z:Int,0<=z->z<2147483647->Q (.int z) H
def kW:C5 P w K mg base IL 1 t.nM t.iX [eN,vb] sG:=by
 refine T.nV.okl sS λs H vs Q E z h _=>?_;intro X;let{c,k,rfl,q}:=h;refine ah (IR 2<|al aH (al cU (al aX (al aX AS<|al cU ae IC) ae) ae) ae)
   (aA (aD<|al aH (al cU IG<|al aX (al aK IG ae) ae) ae) ?_)
 intros
 refine{_,M,_,M,_,_,M,M,.inl {(_),(_)},_,_,M,M,_,_,M,M,_,_,M,M,.inr {(_),(_)},_,_,M,M,(by show(0:Int)<2147483647;decide),?_};have a:=Qf ((c+7919*k+1)*48271) (show(2147483647:Int)≠0 by decide);have b:=Qe ((c+7919*k+1)*48271) (show(0:Int)<2147483647 by decide)
 (try dsimp only)
 generalize (c+7919*k+1)*48271%2147483647=n at a b⊢;refine{_,M,_,M,_,_,M,M,{(_),(_)},_,_,M,M,_,_,M,M,.inl {(),()},_,_,M,M,(by show(0:Int)<2147483647;decide),?_};exact q _ (Qf _ (_))<|Qe _ (_)
def E7(kd:Int)(H:Hp)(Q:VK):Prop:=∀(H':Hp)(p:G')(a e:V),IA H H'->H' p=some (.tup [.int kd,a,e])->Jm kd a e->KZ a->KZ e->Q (.ref p) H'
def cH{i:Int}(h:i<10^80):KZ (.int i):=h
def vX:KZ .non:=Ku
def jo:Sp:=λvs H Q _=>∃kd c:Int,vs=[.int kd,.int c]/\0<=kd/\kd<3/\E7 kd H Q
def jI:C5 P w K mg base IL 1 t.eS t.cC ["_law_kind",eN] jo:=by
 refine T.kQ.okl jr λs H vs Q E hr h _=>?_;intro X;let{kd,c,rfl,d0,d3,q}:=h;refine cv (λx=>aT (aq bH AS ae<|aw _) x aF) ?_;refine ah (IR 2<|al aH IC ae)
   (aA (aD<|bj<|aa AS<|aa IG<|aa (al aX IG<|al aH (al aK IC ae)<|al fI ae IG) af) ?_)
 intros
 refine ah (IR 2<|al aH (al aK IC ae)<|al gJ ae ae)
   (ah (IR 3<|al aX IG<|al aH (al wN IC<|al cU ae<|al gJ ae ae)<|al gJ ae ae)
   (ah (aT (PW.pt<|fH (aq bH (al aH IC ae) ae<|aw _)<|dW<|aq bH AS ae<|aw _)
    (aB<|aD<|bj<|aa AS<|aa IG<|aa cy af)
    aF)
   (ah (aT (aq bH (al aH IC ae) ae<|aw _)
    (aB<|aD<|bj<|aa AS<|aa cy<|aa IG af)
    aF)
   (aA (aD<|bj<|aa AS<|aa (aJ aL (bn<|aa IG<|aa IU af) (al fI AS ae)<|λ_ _=>M)<|aa (aJ aL (bn<|aa IU<|aa IG af) (al fI AS ae)<|λ_ _=>M) af) ?_))))
 intros
 refine{_,M,M,_,M,bC (λz=>?_)<|λz=>?_}
 .obtain rfl:kd=0:=V.int.inj (Kj z);have G:=Qf c (show(65537:Int)≠0 by decide);have I:=Qe c (show(0:Int)<65537 by decide);refine{_,M,_,_,M,M,(by show(0:Int)<65537;decide),?_}
  (try dsimp only)
  generalize c%65537=lo at G I⊢;refine{_,M,_,M,_,M,_,M,_,_,M,M,{(_),(_)},_,M,_,_,M,M,_,_,M,M,(by show(0:Int)<65537-lo;lia),_,_,M,M,(by show 3<=sizeLine;decide),λp hp=>?_};have b0:=Qf (c/65537) (show(65537-lo:Int)≠0 by lia);have W:=Qe (c/65537) (show(0:Int)<65537-lo by lia);exact q _ p (.int lo) (.int<|lo+c/65537%(65537-lo)) (ak hp) ag (.inl {M,lo,_,M,M,G,(),()}) (cH ())<|cH ()
 .have dz:kd≠0:=λe=>z (Km<|by rw[e]);have G:=Qf (c/2) (QW qe);have I:=Qe (c/2) qe;have b0:=Qf (c/(2*10^(39:Int).toNat)) (QW qe);have W:=Qe (c/(2*10^(39:Int).toNat)) qe;refine{_,M,_,_,M,M,{(_),(_)},_,_,M,M,{(_),(_),(_)},_,_,M,M,qe,?_}
  (try dsimp only)
  generalize c/2%10^(39:Int).toNat=lo at G I⊢;refine{_,M,_,M,_,_,M,M,{(_),(_),(_)},_,_,M,M,.inl {(_),(_)},_,_,M,M,{(_),(_)},_,_,M,M,{(_),(_),(_)},_,_,M,M,qe,_,_,M,M,?_}
  (try dsimp only)
  generalize c/(2*10^(39:Int).toNat)%10^(39:Int).toNat=hi at b0 W⊢;have Y:(10:Int)^(39:Int).toNat=10^39:=M;rw[Y]at I W;have two:(0:Int)<2:=by decide
  have O:3<=sizeLine:=by decide
  have U:2<=sizeLine:=by decide
  rcases(show kd=1\/kd=2 by lia)with rfl|rfl
  .refine{_,M,_,_,M,M,two,M,_,M,bC (λy=>?_)<|λy=>?_}
   .refine{_,M,M,_,M,jT M {_,M,_,M,O,λp hp=>?_}};exact q _ p (.int lo) .non (ak hp) ag (.inr<|.inl {M,lo,M,G,.inl M}) (cH ()) vX
   .refine{_,M,_,_,M,M,two,M,_,M,bC (λy2=>Kh y2 y)<|λ_=>?_};refine{_,M,_,M,_,M,U,λZ n1=>{_,M,_,_,M,M,Z,_,_,_,M,M,Dv.of ag,M,_,M,_,M,U,λp2 n2=>{_,M,_,_,M,M,p2,_,_,_,M,M,Dv.of ag,M,O,λp3 n3=>?_}}};exact q _ p3 (.int lo) (.int<|lo+hi) (((ak n1).trans<|ak n2).trans<|ak n3) ag (.inr<|.inl {M,lo,M,G,.inr {_,M,()}}) (cH ())<|cH ()
  .refine{_,M,_,_,M,M,two,M,_,M,bC (λy=>?_)<|λy=>?_}
   .refine{_,M,M,_,M,bf (λe=>by cases e) {_,M,_,_,M,M,two,M,_,M,bC (λ_=>{_,M,_,M,O,λp hp=>?_})<|λy2=>Kh y y2}};exact q _ p .non (.int lo) (ak hp) ag (.inr<|.inr {M,lo,M,G,.inl M}) vX<|cH ()
   .refine{_,M,_,_,M,M,two,M,_,M,bC (λy2=>Kh y2 y)<|λ_=>?_};refine{_,M,_,M,_,M,U,λZ n1=>{_,M,_,_,M,M,Z,_,_,_,M,M,Dv.of ag,M,_,M,_,M,U,λp2 n2=>{_,M,_,_,M,M,p2,_,_,_,M,M,Dv.of ag,M,O,λp3 n3=>?_}}};exact q _ p3 (.int<|lo+hi) (.int lo) (((ak n1).trans<|ak n2).trans<|ak n3) ag (.inr<|.inr {M,lo,M,G,.inr {_,M,()}}) (cH ())<|cH ()
def CC(h:i<ks.length):ks.getD i 0∈ks:=by
 rw[Qm,Q3 h];exact Zk h
def pB(K:Jc):Sp:=λvs H Q _=>∃(c:Int)(l:G')(ks:Lh),vs=[.int c,.ref l]/\H l=some (.lst<|ks.map V.int)/\(∀k∈ks,0<=k/\k<10^40)/\E7 (c%3) H Q
def pN:C5 P w K mg base IL 2 t.ko t.fQ [eN,"_law_keys"] (pB K):=by
 refine T.sw.okl pG λs H vs Q E hr h _=>?_;intro X;let{c,l,ks,rfl,hS,kb,q}:=h;refine ah (IR 2<|al aH AS ae)
   (cv (λx=>aT (aq bH (al aH (al aK AS ae) ae) ae<|aw _) x aF) ?_)
 refine aA (aD<|aE (jI T) hr.mo {_} T.xG T.kQ.kp T.xH .nil ar (aa IG<|aa (al aK AS ae) af)) ?_
 intros
 refine ah (IR 3<|aE (kW T) hr.mo {_} T.vL T.nV.kp T.vY .nil ar (aa (al aK AS ae)<|aa ae af))
   (cv (λx=>aT (aq bH IG ae<|aw _) x aF) ?_)
 refine ah (IR 4<|al aH IU ae)
   (ah (IR 5<|al aX JF<|al aH (al aK IU ae)<|al fI ae JF)
   (aA (aD<|bj<|aa IG<|aa (aJ aL (bn<|aa JF<|aa ae af) (al aH IU ae)<|λ_ _=>M)<|aa (aJ aL (bn<|aa Jw<|aa ae af) (al aH (al aK IU ae) ae)<|λ_ _=>M) af) ?_))
 intros
 refine ah (IR 4<|al aH IU ae)
   (cv (λx=>aT (PW.pt<|fH (aq qT (az au {_} T.bq aZ (aa IC af)) ae<|aw _)<|dW<|aq qT (al aH (al aK IU ae) ae) ae<|aw _) x aF) ?_)
 refine aA (IR 4<|al aX (aJ aL IC (al aH (al aK IU ae)<|az au {_} T.bq aZ (aa IC af))<|λ_ _=>M)<|al aH (al aK IU ae) ae) ?_
 intros
 refine ah (IR 5<|al aX JF<|aJ aL (bn<|aa (al aH (al aK IU ae) ae)<|aa (al aH (al aK AS ae)<|al gJ ae ae)<|aa (al aH (al aK IU ae) ae) af) (al aH (al aK IU ae) ae)<|λ_ _=>M)
   (ah (aT (PW.pt<|fH (aq bH (al aH (al aK IU ae) ae) ae<|aw _)<|dW<|aq bH IG ae<|aw _)
    (aB<|aD<|bj<|aa IG<|aa JF<|aa cy af)
    aF)
   (ah (aT (aq bH (al aH (al aK IU ae) ae) ae<|aw _)
    (aB<|aD<|bj<|aa IG<|aa cy<|aa JF af)
    aF)
   (aA (aD<|bj<|aa IG<|aa (aJ aL (bn<|aa JF<|aa Jw af) (al fI IG ae)<|λ_ _=>M)<|aa (aJ aL (bn<|aa Jw<|aa JF af) (al fI IG ae)<|λ_ _=>M) af) ?_)))
 intros
 have d0:=Qf c (show(3:Int)≠0 by decide);have d3:=Qe c (show(0:Int)<3 by decide);have two:(0:Int)<2:=by decide
 have I:3<=sizeLine:=by decide
 have O:2<=sizeLine:=by decide
 refine{_,M,_,_,M,M,(by show(0:Int)<3;decide),?_}
 (try dsimp only)
 generalize c%3=kd at d0 d3 q⊢;refine{_,M,_,_,M,M,{(_),(_)},_,_,M,M,two,M,_,M,bC (λ_=>?_)<|λ_=>?_}
 .exact{_,M,_,M,_,_,M,M,{(_),(_)},kd,_,M,d0,d3,q}
 refine{_,M,_,_,M,M,{(_),(_)},_,_,M,λn n0 n1=>?_};refine{_,M,M,_,M,bC (λz=>?_)<|λz=>?_}
 .obtain rfl:kd=0:=V.int.inj (Kj z);have G:=Qf n (show(65537:Int)≠0 by decide);have U:=Qe n (show(0:Int)<65537 by decide);refine{_,M,_,_,M,M,(by show(0:Int)<65537;decide),?_}
  (try dsimp only)
  generalize n%65537=lo at G U⊢;have b0:=Qf (n/65537) (show(65537-lo:Int)≠0 by lia);have b1:=Qe (n/65537) (show(0:Int)<65537-lo by lia);refine{_,M,_,M,_,_,M,M,{(_),(_)},_,M,_,_,M,M,_,_,M,M,(by show(0:Int)<65537-lo;lia),_,_,M,M,?_}
  (try dsimp only)
  generalize n/65537%(65537-lo)=g at b0 b1⊢;let{x,hx,x0}:=uj (c:=n) (n:=2) (L:=[.int lo,.int 0]) (P:=λm=>0<=m/\m<=lo) {{G,ZD _},{ZD _,G},trivial} M two;let{y,hy,y0}:=uj (c:=n/2) (n:=2) (L:=[.int (lo+g),.int 65536]) (P:=λm=>lo<=m/\m<=65536) {{(),()},{(),()},trivial} M two;refine{_,M,_,M,O,λW a2=>{_,M,_,_,M,M,two,W,_,_,_,M,M,Dv.of ag,hx,_,M,O,λp2 Y=>{_,M,_,_,M,M,{(_),(_)},_,_,M,M,two,p2,_,_,_,M,M,Dv.of ag,hy,I,λZ n3=>?_}}};exact q _ Z (.int x) (.int y) (((ak a2).trans<|ak Y).trans<|ak n3) ag (.inl {M,x,y,M,M,x0.1,(),y0.2}) (cH ())<|cH ()
 .have dz:kd≠0:=λe=>z (Km<|by rw[e]);have G:=Qf n (show(60:Int)≠0 by decide);have U:=Qe n (show(0:Int)<60 by decide);refine{_,M,_,_,M,M,(by show(0:Int)<60;decide),?_}
  (try dsimp only)
  generalize n%60=lo at G U⊢;refine cP (λB H'=>H=H'/\∃lo:Int,B=[some (.int c),some (.ref l),some (.int kd),some (.int n),some (.int lo),none]/\0<=lo/\lo<10^41) (λnx go=>?_)<|λB H' w=>?_
  .refine{_,M,l,_,M,.inl<|Dv.of hS,_,_,M,M,_,M,bC (λz=>?_)<|λz=>?_}
   .have kl:0<ks.length:=by
     have:=Kj z;rw[Q0]at this;lia
    have kl:(0:Int)<(ks.length:Int):=();have z0:=Qf (n/180) (QW kl);have z1:=Qe (n/180) kl;have y0:=Qf (n/72000) (show(2:Int)≠0 by decide);have y1:=Qe (n/72000) (show(0:Int)<2 by decide);refine{_,M,_,_,M,M,{(_),(_)},_,_,M,M,(by show(0:Int)<3;decide),_,_,M,M,_,M,bC (λ_=>?_)<|λ_=>go _ _ {M,lo,M,G,()}};refine{_,M,_,M,_,_,M,M,{(_),(_)},_,M,l,_,M,.inl<|Dv.of hS,_,_,M,M,(by rwa[Q0]),l,_,_,_,M,M,Dv.of hS,(by rw[Q0];exact rV z0 z1),_,M,_,_,M,M,{(_),(_)},_,_,M,M,two,_,_,M,M,go _ _ {M,_,M,?_}};let{b0,b1}:=kb (ks.getD (n/180%ks.length).toNat 0) (CC ());constructor<;>lia
   .exact go _ _ {M,lo,M,G,()}
  clear G U lo;let{rfl,lo,rfl,G,U}:=w;have a3:(0:Int)<10^(38:Int).toNat:=by decide
  have a4:∀z:Int,0<=z%90/\z%90<10^38:=λz=>{Qf _ (_),Int.lt_trans (Qe _ (_)) (_)};have a5:∀z:Int,0<=z%10^(38:Int).toNat/\z%10^(38:Int).toNat<10^38:=λz=>{Qf _ (_),Qe _ (_)};have a6:∀z:Int,0<=z%70000/\z%70000<10^38:=λz=>{Qf _ (_),Int.lt_trans (Qe _ (_)) (_)};let{hi,hh,b0,b1}:=uj (c:=n/216000) (n:=3) (L:=[.int (n/7%90),.int (c/11%10^(38:Int).toNat),.int (n/7%70000)]) (P:=λm=>0<=m/\m<10^38) {a4 _,a5 _,a6 _,trivial} M (_);refine{_,M,_,M,_,_,M,M,{(_),(_)},_,_,M,M,(by show(0:Int)<90;decide),_,M,_,_,M,M,{(_),(_)},_,_,M,M,{(_),(_),(_)},_,_,M,M,a3,_,M,_,_,M,M,{(_),(_)},_,_,M,M,(by show(0:Int)<70000;decide),I,λp hp=>?_};refine{_,M,_,_,M,M,{(_),(_)},_,_,M,M,(by show(0:Int)<3;decide),p,_,_,_,M,M,Dv.of ag,hh,_,_,M,M,?_};have s0:IA H (upd H p<|.lst [.int (n/7%90),.int (c/11%10^(38:Int).toNat),.int (n/7%70000)]):=ak hp
  (try dsimp only)
  generalize upd H p (.lst [.int (n/7%90),.int (c/11%10^(38:Int).toNat),.int (n/7%70000)])=H1 at s0⊢;have q:=λH' p' a e(s:IA H1 H')=>q H' p' a e (s0.trans s);have th:(0:Int)<3:=by decide
  have dv:CDiv n 648000:={(_),(_)};rcases(show kd=1\/kd=2 by lia)with rfl|rfl
  .refine{_,M,_,_,M,M,dv,_,_,M,M,th,M,_,M,bC (λy=>?_)<|λy=>?_}
   .refine{_,M,M,_,M,jT M {_,M,_,M,I,λp hp=>?_}};exact q _ p (.int lo) .non (ak hp) ag (.inr<|.inl {M,lo,M,G,.inl M}) (cH ()) vX
   .refine{_,M,_,_,M,M,dv,_,_,M,M,th,M,_,M,bC (λy2=>Kh y2 y)<|λ_=>?_};refine{_,M,_,M,_,M,O,λW n1=>{_,M,_,_,M,M,W,_,_,_,M,M,Dv.of ag,M,_,M,_,M,O,λp2 Y=>{_,M,_,_,M,M,p2,_,_,_,M,M,Dv.of ag,M,I,λZ n3=>?_}}};exact q _ Z (.int lo) (.int<|lo+hi) (((ak n1).trans<|ak Y).trans<|ak n3) ag (.inr<|.inl {M,lo,M,G,.inr {_,M,()}}) (cH ())<|cH ()
  .refine{_,M,_,_,M,M,dv,_,_,M,M,th,M,_,M,bC (λy=>?_)<|λy=>?_}
   .refine{_,M,M,_,M,bf (λe=>by cases e) {_,M,_,_,M,M,dv,_,_,M,M,th,M,_,M,bC (λ_=>{_,M,_,M,I,λp hp=>?_})<|λy2=>Kh y y2}};exact q _ p .non (.int lo) (ak hp) ag (.inr<|.inr {M,lo,M,G,.inl M}) vX<|cH ()
   .refine{_,M,_,_,M,M,dv,_,_,M,M,th,M,_,M,bC (λy2=>Kh y2 y)<|λ_=>?_};refine{_,M,_,M,_,M,O,λW n1=>{_,M,_,_,M,M,W,_,_,_,M,M,Dv.of ag,M,_,M,_,M,O,λp2 Y=>{_,M,_,_,M,M,p2,_,_,_,M,M,Dv.of ag,M,I,λZ n3=>?_}}};exact q _ Z (.int<|lo+hi) (.int lo) (((ak n1).trans<|ak Y).trans<|ak n3) ag (.inr<|.inr {M,lo,M,G,.inr {_,M,()}}) (cH ())<|cH ()
def ym{N:G'}{kd:Str}{ok:V->V->Prop}{a e:V}{E:XK}(G:ok a e)(I:Sc a)(O:Sc e)(x dx:G')(nx:H x=none)(U:H dx=none)
  (q:∀H' fs,IA H H'->H' x=some (.ins C dx fs)->wb kd fs a e->Q .non H'):yS C N kd ok [.ref x,a,e] (upd (upd H dx<|.own x) x<|.ins C dx []) Q E:=
 {x,dx,a,e,M,ag,I,O,λ_ H' fs k h f=>q H' fs (n9 nx U k) h f,λz=>Kh G z}
def sF(K:Jc)(t:IT):Sp:=λvs H Q _=>∃(n:G')(kd:Int)(a e:V),vs=[.ref n]/\JE K H n [.int kd,a,e]/\Jm kd a e/\∀H' p,IA H H'->H p=none->JO t H' p kd a e->Q (.ref p) H'
def tx:C5 P w K mg base IL 5 t.nK t.iW ["_law_numbers_here"] (sF K t):=by
 refine T.wg.okl sR λs H vs Q E U h _=>?_;intro X;let{n,kd,a,e,rfl,G,I,q}:=h;refine cv (λx=>aT (aq bH (aJ bz AS ae<|λ_ _=>M) ae<|aw _) x aF) ?_;refine aA (aD<|kD T.yo (hZ T) U.mo {_} T.rB T.pT .nil ar (aa (aJ bz AS ae<|λ_ _=>M)<|aa (aJ bz AS ae<|λ_ _=>M) af)) ?_
 intros
 refine cv (λx=>aT (aq bH (aJ bz AS ae<|λ_ _=>M) ae<|aw _) x aF) ?_;refine aA (aD<|kD T.HH (oU T) U.mo {_} T.B9 T.yG .nil ar (aa (aJ bz AS ae<|λ_ _=>M)<|aa (aJ bz AS ae<|λ_ _=>M) af)) ?_
 intros
 refine aA (aD<|kD T.Ei (kY T) U.mo {_} T.Ej T.v8 .nil ar (aa (aJ bz AS ae<|λ_ _=>M)<|aa (aJ bz AS ae<|λ_ _=>M) af)) ?_
 intros
 let{W,Y}:=I.sc;rcases I.kd with rfl|rfl|rfl
 .refine{_,M,n,_,_,_,M,M,G,M,M,_,M,jT M {_,M,n,_,_,_,M,M,G,M,_,M,n,_,_,_,M,M,G,M,λx dx nx O Z=>?_}};exact ym I.s W Y x dx nx O λH' fs s h f=>{M,q H' x s nx ⟨dx,fs,h,f⟩}
 .refine{_,M,n,_,_,_,M,M,G,M,M,_,M,bf (λz=>by cases z) {_,M,n,_,_,_,M,M,G,M,M,_,M,jT M {_,M,n,_,_,_,M,M,G,M,_,M,n,_,_,_,M,M,G,M,λx dx nx O Z=>?_}}};exact ym I.u W Y x dx nx O λH' fs s h f=>{M,q H' x s nx ⟨dx,fs,h,f⟩}
 .refine{_,M,n,_,_,_,M,M,G,M,M,_,M,bf (λz=>by cases z) {_,M,n,_,_,_,M,M,G,M,M,_,M,bf (λz=>by cases z) {_,M,n,_,_,_,M,M,G,M,_,M,n,_,_,_,M,M,G,M,λx dx nx O Z=>?_}}};exact ym I.d W Y x dx nx O λH' fs s h f=>{M,q H' x s nx ⟨dx,fs,h,f⟩}
def t9:(0:Int)<10^(38:Int).toNat:=by decide
def Fi{i:Int}(G:0<=i)(h1:i<=11)(z:0<=m)(I:m<=65536):0<=i*m/\i*m<=720896:={X8 G z,Int.le_trans (Int.mul_le_mul h1 I z (_)) (_)}
def DX(H:Hp)(c n way:Int):St->Hp->Prop:=λB H'=>H=H'/\∃st:Int,B=[some (.int c),some (.int st),some (.int n),some (.int way),none]/\0<=st/\st<=10^38
def wB:Sp:=λvs H Q _=>∃c:Int,vs=[.int c]/\∀(H':Hp)(r:G')(rs:Lh),IA H H'->H r=none->H' r=some (.lst<|rs.map V.int)->rs.length<=12->(∀k∈rs,0<=k/\k<10^39)->Q (.ref r) H'
def wQ:C5 P w K mg base IL 2 t.r9 t.my [eN] wB:=by
 refine T.yL.okl IM λs H vs Q E hr h _=>?_;intro X;let{c,rfl,q}:=h;refine cv (λx=>aT (aq bH (al aH AS ae) ae<|aw _) x aF) ?_;refine ah (gI (i:=1) IM.nd M (Or.inr M)<|al aH (al aK AS ae)<|al gJ ae ae)
   (aA (aD<|kE M (IF.of (M':=[vb]) (N:=[eN,"_law_start",si,"_law_way","_law_step"]) (N':=[eN,"_law_start",si,"_law_way","_law_step"]) (dsc:=ai fz) M M ∅) (hJ {_} T.mG (aa (al aX ae<|al aH (al aK AS ae) ae) af))<|λ_ _ _ _ _=>(al aX IG<|al cU AS<|aJ (Cs K M) (bn<|aa ae<|aa ae<|aa ae<|aa ae<|aa ae af) (al aH (al aK IC ae) ae)<|λ_ _=>M)) ?_)
 intros
 refine ah (IR 2<|aE (kW T) hr.mo {_} T.vL T.nV.kp T.vY .nil ar (aa AS<|aa ae af))
   (ah (IR 3<|al aH IG ae)
   (ah (gI (i:=1) IM.nd M (Or.inr M)<|al aH (al aK IG ae) ae)
   (ah (aT (aq bH IU ae<|aw _)
    (aB<|gI (i:=1) IM.nd M (Or.inr M)<|al aH (al aK AS ae)<|al gJ ae ae)
    aF)
   (ah (aT (aq bH IU ae<|aw _)
    (aB<|gI (i:=1) IM.nd M (Or.inr M)<|al cU ae<|al aH (al aK IG ae) ae)
    aF)
   (cv (λx=>aT (aq bH IU ae<|aw _) x aF) ?_)))))
 refine aA (gI (i:=1) IM.nd M (Or.inr M)<|al aX (al cU ae<|al aH (al aK IG ae) ae)<|al aH (al aK IG ae) ae) ?_
 intros
 refine ah (aT (aq bH IU ae<|aw _)
    (aB<|gI (i:=1) IM.nd M (Or.inr M)<|al aH (al aK IG ae) ae)
    aF)
   (ah (gI (i:=4) IM.nd M (Or.inr M)<|aJ aL (bn<|aa ae<|aa ae<|aa ae<|aa ae<|aa ae af) (al aH (al aK IG ae) ae)<|λ_ _=>M)
   (aA (aD<|kE M (IF.of (M':=[vb]) (N:=[eN,"_law_start",si,"_law_way","_law_step"]) (N':=[eN,"_law_start",si,"_law_way","_law_step"]) (dsc:=ai fz) M M ∅) (hJ {_} T.mG (aa (al aX ae<|al aH (al aK IG ae) ae) af))<|λ_ _ _ _ _=>(al aX IG<|al cU AS Jw)) ?_))
 intros
 have two:(0:Int)<2:=by decide
 have a2:(10:Int)^(38:Int).toNat=10^38:=M;refine{_,M,_,_,M,M,two,M,_,M,bC (λz=>?_)<|λz=>?_}
 .have G:=Qf (c/120) (QW t9);have s1:=Qe (c/120) t9;refine{_,M,_,_,M,M,{(_),(_)},_,_,M,M,{(_),(_),(_)},_,_,M,M,t9,?_}
  (try dsimp only)
  generalize c/120%10^(38:Int).toNat=st at G s1⊢;rw[a2]at s1;have b0:=Qf (c/2) (show(12:Int)≠0 by decide);have b1:=Qe (c/2) (show(0:Int)<12 by decide);refine{_,M,_,_,M,M,{(_),(_)},_,_,M,M,(by show(0:Int)<12;decide),_,_,M,M,?_}
  (try dsimp only)
  generalize c/2%12=m at b0 b1⊢;refine{1+m,M,(),(),λD hD=>mB (n:=(1+m).toNat) (lo:=0) (λi ys H2=>IA H H2/\∃I:List Int,ys=I.map V.int/\I.length=i/\∀k∈I,0<=k/\k<10^39) {ak hD,[],M,M,λ_ z=>Kh z Z4} (λi ys H2 hi w O=>?_)<|λys H2 w O=>?_}
  .let{W,I,rfl,lr,hb}:=w;let{sp,Y,p0,p1}:=uj (c:=c/24) (n:=5) (L:=[.int 1,.int 3,.int 256,.int 65536,.int 5000]) (P:=λm=>0<=m/\m<=65536) {{(_),(_)},{(_),(_)},{(_),(_)},{(_),(_)},{(_),(_)},trivial} M (_);refine{_,M,_,M,(by show 5<=sizeLine;decide),λp np=>{_,M,_,_,M,M,{(_),(_)},_,_,M,M,(by show(0:Int)<5;decide),p,_,_,_,M,M,Dv.of ag,Y,_,_,M,M,.inr {(),()},_,_,M,M,?_}};have U:=ak (o:= .lst [.int 1,.int 3,.int 256,.int 65536,.int 5000]) np
   (try dsimp only)
   generalize upd H2 p (.lst [.int 1,.int 3,.int 256,.int 65536,.int 5000])=H3 at U⊢;let{x0,x1}:=Fi (i:=0+(i:Int)) () () p0 p1;generalize (0+(i:Int))*sp=x at x0 x1⊢;refine IW.mk hi (U _ _ O) (bR<|by rw[Q0];lia) {bJ (W.trans U) hD,I++ [st+x],by rw[Q9];rfl,by rw[Q8,lr];rfl,λk hk=>?_};rcases Q4.mp hk with hk|hk
   .exact hb k hk
   .rw[Qa.mp hk];constructor<;>lia
  .let{W,I,rfl,lr,hb}:=w;exact q H2 D I W hD O () hb
 clear z;refine{_,M,c,1,M,λn n0 n1=>?_};refine{_,M,_,_,M,M,(by show(0:Int)<5;decide),?_}
 (try dsimp only)
 generalize n%5=way;have G:=Qf (n/5) (show(50:Int)≠0 by decide);have s1:=Qe (n/5) (show(0:Int)<50 by decide);refine{_,M,_,_,M,M,{(_),(_)},_,_,M,M,(by show(0:Int)<50;decide),?_}
 (try dsimp only)
 generalize n/5%50=st at G s1⊢;refine cP (DX H c n way) (λnx go=>?_)<|λZ H1 w=>?_
 .refine{_,M,M,_,M,bC (λz=>?_)<|λz=>go _ _ {M,st,M,G,()}};have a0:=Qf (c/5) (QW t9);have a1:=Qe (c/5) t9;refine{_,M,_,_,M,M,{(_),(_)},_,_,M,M,{(_),(_),(_)},_,_,M,M,t9,go _ _ {M,_,M,a0,?_}};rw[a2]at a1⊢;lia
 clear G s1 st;let{rfl,st,rfl,G,s1}:=w;refine cP (DX H c n way) (λnx go=>?_)<|λZ H1 w=>?_
 .refine{_,M,M,_,M,bC (λz=>?_)<|λz=>go _ _ ⟨M,st,M,G,s1⟩};have a0:=Qf (n/5) (show(40:Int)≠0 by decide);have a1:=Qe (n/5) (show(0:Int)<40 by decide);exact{_,M,_,_,M,M,{(_),(_)},_,_,M,M,(by show(0:Int)<40;decide),_,_,M,M,.inl {(_),(_)},go _ _ {M,_,M,(),()}}
 clear G s1 st;let{rfl,st,rfl,G,s1}:=w;refine cP (DX H c n way) (λnx go=>?_)<|λZ H1 w=>?_
 .refine{_,M,M,_,M,bC (λz=>?_)<|λz=>go _ _ ⟨M,st,M,G,s1⟩};have a0:=Qf (n/5) (show(9:Int)≠0 by decide);have a1:=Qe (n/5) (show(0:Int)<9 by decide);have b0:=Qf (n/45) (show(7:Int)≠0 by decide);have b1:=Qe (n/45) (show(0:Int)<7 by decide);exact{_,M,_,_,M,M,{(_),(_)},_,_,M,M,(by show(0:Int)<9;decide),_,_,M,M,.inl {(_),(_)},_,M,_,_,M,M,{(_),(_)},_,_,M,M,(by show(0:Int)<7;decide),_,_,M,M,go _ _ {M,_,M,(),()}}
 clear G s1 st;let{rfl,st,rfl,G,s1}:=w;refine cP (DX H c n way) (λnx go=>?_)<|λZ H1 w=>?_
 .refine{_,M,M,_,M,bC (λz=>?_)<|λz=>go _ _ ⟨M,st,M,G,s1⟩};have a0:=Qf (n/5) (show(3000:Int)≠0 by decide);have a1:=Qe (n/5) (show(0:Int)<3000 by decide);exact{_,M,_,_,M,M,{(_),(_)},_,_,M,M,(by show(0:Int)<3000;decide),go _ _ {M,_,M,(),()}}
 clear G s1 st;let{rfl,st,rfl,G,s1}:=w;let{sp,Y,p0,p1}:=uj (c:=n/20000) (n:=5) (L:=[.int 1,.int 3,.int 256,.int 65536,.int 5000]) (P:=λm=>0<=m/\m<=65536) {{(_),(_)},{(_),(_)},{(_),(_)},{(_),(_)},{(_),(_)},trivial} M (_);refine{(by show 5<=sizeLine;decide),λp np=>{_,M,_,_,M,M,{(_),(_)},_,_,M,M,(by show(0:Int)<5;decide),p,_,_,_,M,M,Dv.of ag,Y,?_}};have U:=ak (o:= .lst [.int 1,.int 3,.int 256,.int 65536,.int 5000]) np
 (try dsimp only)
 generalize upd H p (.lst [.int 1,.int 3,.int 256,.int 65536,.int 5000])=H3 at U⊢;have b0:=Qf (n/100000) (show(12:Int)≠0 by decide);have b1:=Qe (n/100000) (show(0:Int)<12 by decide);refine{_,M,_,_,M,M,{(_),(_)},_,_,M,M,(by show(0:Int)<12;decide),_,_,M,M,?_}
 (try dsimp only)
 generalize n/100000%12=m at b0 b1⊢;refine{1+m,M,(),(),λD hD=>mB (n:=(1+m).toNat) (lo:=0) (λi ys H2=>IA H3 H2/\∃I:List Int,ys=I.map V.int/\I.length=i/\∀k∈I,0<=k/\k<10^39) {ak hD,[],M,M,λ_ z=>Kh z Z4} (λi ys H2 hi w O=>?_)<|λys H2 w O=>?_}
 .let{W,I,rfl,lr,hb}:=w;let{x0,x1}:=Fi (i:=0+(i:Int)) () () p0 p1;refine{_,M,_,M,_,M,_,_,M,M,.inr {(),()},_,_,M,M,?_}
  (try dsimp only)
  generalize (0+(i:Int))*sp=x at x0 x1⊢;refine IW.mk hi O (bR<|by rw[Q0];lia) {bJ W hD,I++ [st+x],by rw[Q9];rfl,by rw[Q8,lr];rfl,λk hk=>?_};rcases Q4.mp hk with hk|hk
  .exact hb k hk
  .rw[Qa.mp hk];constructor<;>lia
 .let{W,I,rfl,lr,hb}:=w;exact q H2 D I (U.trans W) (eZ U hD) O () hb
def Wh(F:Li)(d:G'):Addr->Prop:=λb=>F b\/b=d
def Fr.wh{d:G'}(f:Fr F F' H H'):Fr (Wh F d) (Wh F' d) H H':=λb o n G=>{(f b o (λz=>n<|.inl z) G).1,λz=>z.elim (f b o (λz=>n<|.inl z) G).2 λz=>n<|.inr z}
def Fr.wd{d:G'}:Fr (Wh F d) (Wh F d) H (upd H d o):=λb o n G=>{by rwa[ac λz=>n (.inr z)],n}
structure Jh(K:Jc)(t:IT)(H:Hp)(a d:G')(F:Li)(x:JH):Prop where
 A:JD K t H a F x
 di:H d=some (.dK<|aO x.st.kv)
 nd:¬F d
 kb:∀k∈x.st.kv.map (·.1),0<=k/\k<10^40
 iv:∀p∈x.st.kv,∃i:Int,p.2= .int i
 le:x.st.kv.length<=301
 ma:x.ma=0
def Gf{kv:Ll}{i:Int}(h:∀p∈kv,∃i:Int,p.2= .int i):∀p∈bg kv k (.int i),∃i:Int,p.2= .int i:=λp hp=>by
 unfold bg at hp;split at hp
 .let{q,hq,rfl}:=Qj.mp hp;by_cases c:q.1=k
  .exact{i,by rw[Kd c]}
  .rw[Kc c];exact h q hq
 .rcases Q4.mp hp with y|y
  .exact h p y
  .rw[Qa.mp y];exact⟨i,M⟩
section
variable{d:G'}{x:JH}{i:Int}
def Jh.fr(Ja:Jh K t H a d F x)(A:JD K t H' a F' x)(f:Fr F F' H H'):Jh K t H' a d F' x:={A,(f _ _ Ja.nd Ja.di).1,(f _ _ Ja.nd Ja.di).2,Ja.kb,Ja.iv,Ja.le,Ja.ma}
def Jh.same(Ja:Jh K t H a d F x)(s:IA H H'):Jh K t H' a d F x:=Ja.fr (Ja.A.same s) (Fr.of_same s)
def Jh.put(Ja:Jh K t H a d F x)(A:JD K t H' a F' x')(f:Fr F F' H H')(e:x'.st=x.st.put k (.int i))(m:x'.ma=x.ma)(k0:0<=k/\k<10^40)(l:x.st.kv.length<=300):Jh K t (L2.upd H' d<|.dK<|aO<|bg x.st.kv k<|.int i) a d F' x':=by
 let{d1,I}:=f _ _ Ja.nd Ja.di;have G:x'.st.kv=bg x.st.kv k (.int i):=by rw[e];exact IE.three_kv
 refine{A.upd I (λxs z=>by rw[d1]at z;cases z),by rw[G];exact ag,I,λz hz=>?_,by rw[G];exact Gf Ja.iv,?_,m.trans Ja.ma}
 .rw[G,m6]at hz;split at hz
  .exact Ja.kb z hz
  .rcases Q4.mp hz with y|y
   .exact Ja.kb z y
   .rwa[Qa.mp y]
 .rw[G];have:=cf x.st.kv k (.int i);lia
def Jh.drop(Ja:Jh K t H a d F x)(A:JD K t H' a F' x')(f:Fr F F' H H')(e:x'.st=x.st.drop k)(m:x'.ma=x.ma):Jh K t (L2.upd H' d<|.dK<|aO<|bB x.st.kv k) a d F' x':=by
 let{d1,I}:=f _ _ Ja.nd Ja.di;have G:x'.st.kv=bB x.st.kv k:=by rw[e];exact IE.three_kv
 have sub:∀p∈bB x.st.kv k,p∈x.st.kv:=λp hp=>(QA.mp hp).1;refine{A.upd I (λxs z=>by rw[d1]at z;cases z),by rw[G];exact ag,I,λz hz=>?_,by rw[G];exact λp hp=>Ja.iv p<|sub p hp,?_,m.trans Ja.ma}
 .rw[G]at hz;let{p,hp,rfl}:=Qj.mp hz;exact Ja.kb _<|Qj.mpr {p,sub p hp,M}
 .rw[G];exact Qu (Qn _ _) Ja.le
end
def vf(K:Jc)(t:IT):Sp:=λvs H Q _=>∃(a d:G')(c:Int)(F:Li)(x:JH),vs=[.ref a,.ref d,.int c]/\Jh K t H a d F x/\x.now<3900/\x.st.kv.length<=300/\
 ∀(H':Hp)(F':Li)(x':JH),Jh K t H' a d F' x'->x'.now<=x.now+12->x'.st.kv.length<=300->Fr (Wh F d) (Wh F' d) H H'->Q .non H'
def vG:C5 P w K mg base IL 7 t.pj t.jZ [lm,u5,eN] (vf K t):=by
 refine T.xC.okl vm λs H vs Q E W h _=>?_;intro X;let{a,d,c,F,x,rfl,Ja,l1,l0,q}:=h;refine ah (IR 3<|aE (wQ T) W.mo {_} T.Gy T.yL.kp T.G6 .nil ar (aa (al aK IG ae) af))
   (rq (λx=>(l7 Kw M (hJ {_} T.mG (aa (az au {_} T.bq aZ (aa IU af)) af)) (L9 4)
    x)) ?_)
 refine Fh (λx y=>aT (aq bH (al aH IG ae) ae<|aw _) x y) ?_;refine rq (λx=>aT (ye<|BR (oZ W) (aJ aL IU JF<|λ_ _=>M) IC) x aF) ?_;refine ah (aN<|aR AS T.aU T.Df (rj T) W.mo T.Ds .nil ar<|aa (aJ aL IU JF<|λ_ _=>M) af)
   (aA (aN<|cZ Zw Xm PySem.F.type_dict_pop y7 IC<|aa (aJ aL IU JF<|λ_ _=>M) af) ?_)
 intros
 refine rq (λx=>aT (aq d9 (az AM {_} T.bq aZ (aa IC af)) ae<|aw _) x aF) ?_;refine ah (IR 5<|al cU (al aH (al aX (al aK IG ae) JF)<|al gJ ae ae)<|aJ aL (bn<|aa ae<|aa (BJ xQ ae) af) (al aH (al aK IG ae) ae)<|λ_ _=>M)
   (cv (λx=>aT (aq bH (al aH (al aK IG ae) ae) ae<|aw _) x aF) ?_)
 refine aA (IR 5<|al fI (al aH (al aX (al wN IG<|al cU ae<|al gJ ae ae) JF)<|al cU ae<|al gJ ae ae)<|al gJ ae ae) ?_
 intros
 refine ah (aN<|aR AS T.aU T.Eo (tH T) W.mo T.EJ .nil ar<|aa (aJ aL IU JF<|λ_ _=>M)<|aa Jw af)
   (aA (vx (oZ W) IC (aJ aL IU JF<|λ_ _=>M) Jw M) ?_)
 intros
 refine{_,M,_,_,M,M,{(_),(_)},_,M,λH1 r rs s1 nr W lr rb=>?_};have J1:=Ja.same s1;have nF:¬F r:=Ja.A.out nr;have a2:r≠d:=aj Ja.di nr|>.symm;refine{_,M,r,_,M,.inl<|Dv.of W,?_};rw[Q0];refine{(rs.length:Int),M,(),(),yA (n:=(rs.length:Int).toNat) (λi B H'=>∃(F':Li)(x':JH)(v4 v5:Me),B=[some (.ref a),some (.ref d),some (.int c),some (.ref r),v4,v5]/\Jh K t H' a d F' x'/\x'.now<=x.now+i/\x'.st.kv.length<=300/\Fr (Wh F d) (Wh F' d) H1 H') {F,x,none,none,M,J1,(),l0,Fr.refl} (λi B H2 hi w=>?_)<|λB H2 w=>?_}
 .let{Z,G,v4,v5,rfl,I,l2,e2,Y}:=w;let{U,a0}:=Y _ _ (λz=>z.elim nF a2) W;have hi':i<rs.length:=();obtain⟨k,ek⟩:∃k,rs[i]?=some k:={_,Q3 hi'};let{k0,k1}:=rb k (Q1 ek);have O:L4 (rs.map V.int) (0+(i:Int))=some (.int k):=by
   rw[Int.zero_add];refine p7 ?_;rw[Ql,ek];rfl
  let{a3,a4,a5,a6,_}:=I.A.ins;have m2:=I.ma;refine{_,M,_,_,M,M,(by show(0:Int)<4;decide),M,_,M,bC (λz=>?_)<|λz=>?_}
  .refine{_,M,_,M,r,_,_,_,M,M,Dv.of U,O,_,M,d,_,M,JT.k (k:=Sum.inl k) I.di,_,M,?_};rw[IP];cases ev:aI G.st.kv k with
   |none=>exact db {Z,G,_,_,M,I,(),e2,Y}
   |some v=>
    refine cK {_,M,a,a3,a4,M,a5,a6 _ ∅,_,M,_,M,r,_,_,_,M,M,Dv.of U,O,a,k,Z,G,M,I.A,k0,(),λ_ H3 F3 b2 r3 q3 b3 A3 N3 f3=>?_,λz=>by rw[ev]at z;cases z};let{d3,n3}:=f3 _ _ I.nd I.di;let{a9,b4}:=f3 _ _ (λz=>a0<|.inl z) U;refine{_,M,.inr<|.inr<|.inl {M,.inl {_,d3}},_,M,_,M,r,_,_,_,M,M,Dv.of a9,O,d,_,Sum.inl k,v,M,M,d3,IP.trans ev,?_};rw[rF];exact{F3,_,_,_,M,I.drop A3 f3 M M,by show G.now+1<=_;lia,by rw[show(G.st.drop k).kv=bB G.st.kv k from IE.three_kv];exact Qu (Qn _ _) e2,(Y.trans f3.wh).trans Fr.wd}
  .refine{_,M,d,_,M,I.di,_,_,M,M,_,M,bC (λy=>?_)<|λy=>{Z,G,_,_,M,I,(),e2,Y}};have y:=Kj y;rw[c8]at y;refine cP (λB H'=>∃v:Int,B=[some (.ref a),some (.ref d),some (.int c),some (.ref r),some (.int<|0+(i:Int)),some (.int v)]/\IA H2 H') (λnx go=>?_)<|λB H3 w=>?_
   .let{sg,ab,g0}:=uj (c:=c/16) (n:=2) (L:=[.int 1,.int (-1)]) (P:=λm=> -2<m/\m<2) {{(_),(_)},{(_),(_)},trivial} M (_);exact{_,M,_,_,M,M,{(_),(_)},_,M,_,_,M,M,_,_,M,M,{(_),(_),(_)},_,_,M,M,qe,_,M,(by show 2<=sizeLine;decide),λp np=>{_,M,_,_,M,M,{(_),(_)},_,_,M,M,(by show(0:Int)<2;decide),p,_,_,_,M,M,Dv.of ag,ab,_,_,M,M,.inr {(),()},go _ _ {_,M,ak np}}}
   let{v,rfl,s3}:=w;refine cP (λB H'=>∃v:Int,B=[some (.ref a),some (.ref d),some (.int c),some (.ref r),some (.int<|0+(i:Int)),some (.int v)]/\IA H2 H') (λnx go=>?_)<|λB H4 w=>?_
   .refine{_,M,_,_,M,M,{(_),(_)},_,_,M,M,(by show(0:Int)<2;decide),M,_,M,bC (λ_=>?_)<|λ_=>go _ _ ⟨v,M,s3⟩};exact{_,M,_,_,M,M,{(_),(_),(_)},_,_,M,M,.inl {(_),(_)},_,_,M,M,{(_),(_)},_,M,_,_,M,M,_,_,M,M,{(_),(_),(_)},_,_,M,M,.inl {(_),(_)},_,_,M,M,(by show(0:Int)<2*10^(39:Int).toNat;decide),_,_,M,M,{(_),(_),(_)},_,_,M,M,go _ _ {_,M,s3}}
   clear s3 v;let{v,rfl,s4}:=w;have J4:=I.same s4;let{am,an,ap,ax,_}:=J4.A.ins;have a1:=s4 _ _ U;refine{_,M,a,am,an,M,ap,ax _ ∅,_,M,_,M,r,_,_,_,M,M,Dv.of a1,O,_,M,a,k,v,Z,G,M,J4.A,k0,(),λH5 F5 b5 r5 q5 b6 A5 N5 f5=>?_};let{d5,n5}:=f5 _ _ J4.nd J4.di;let{b1,b9}:=f5 _ _ (λz=>a0<|.inl z) a1;refine{_,M,_,M,_,M,_,M,r,_,_,_,M,M,Dv.of b1,O,d,_,M,KS.k (k:=Sum.inl k) d5 (by rw[c8];exact a8 ()),?_};rw[ii];exact{F5,_,_,_,M,J4.put A5 f5 M M {k0,()} (),by show G.now+1<=_;lia,by rw[show(G.st.put k<|.int v).kv=bg G.st.kv k (.int v) from IE.three_kv];have:=cf G.st.kv k (.int v);lia,(Y.trans<|(Fr.of_same s4).trans f5.wh).trans Fr.wd}
 .let{Z,G,v4,v5,rfl,I,l2,e2,Y}:=w;exact q H2 Z G I () e2<|(Fr.of_same s1).trans Y
def sH(K:Jc)(t:IT):Sp:=λvs H Q _=>∃(l:G')(cs:Lh),vs=[.ref l]/\H l=some (.lst<|cs.map V.int)/\cs.length<=63/\
 ∀(H':Hp)(r a d:G')(F:Li)(x:JH),H r=none->¬F r->H' r=some (.tup [.ref a,.ref d])->Jh K t H' a d F x->x.now<=12*cs.length->x.st.kv.length<=300->(∀b o,H b=some o->H' b=some o/\¬Wh F d b)->Q (.ref r) H'
def tE:C5 P w K mg base IL 8 t.nN t.iY ["_law_cells"] (sH K t):=by
 refine T.wj.okl sU λs H vs Q E Z h _=>?_;intro X;let{l,cs,rfl,hl,ll,q}:=h;refine ah (IR 1<|mU T.HK (rh T) Z.mo {_} T.HN T.Dr .nil ar)
   (ah (IR 2 jF)
   (cv (λx=>(l7 Kw M (dA AS) (L9 3)
    x)) ?_))
 refine aA (aN<|aE (vG T) Z.mo {_} T.Fn T.xC.kp T.Fz .nil ar (aa IC<|aa IG<|aa IU af)) ?_
 intros
 refine aA (aD<|bj<|aa IC<|aa IG af) ?_
 intros
 refine λa dx na nd a0=>{a,dx,M,ag,λH1 F1 A1 f1=>{M,λd O=>?_}};have o1:∀b o,H b=some o->H1 b=some o/\¬F1 b:=λb o e=>f1 b o (aj e na) (by rwa[ac (aj e na),ac (aj e nd)]);have J2:Jh K t (upd H1 d<|.dK []) a d F1 JH.new:={A1.same<|ak O,ag,A1.out O,(λ_ z=>by cases z),(λ_ z=>by cases z),(_),M};have o2:∀b o,H b=some o->upd H1 d (.dK []) b=some o/\¬Wh F1 d b:=λb o e=>{by rw[ac (aj (o1 b o e).1 O)];exact(o1 b o e).1,λz=>z.elim (o1 b o e).2<|aj (o1 b o e).1 O};show xU _ _ _ _ (upd H1 d<|.dK []);generalize upd H1 d (.dK [])=H2 at J2 o2⊢;refine{_,M,l,M,{_,Dv.of (o2 _ _ hl).1},uC (K:=K) (a:=l) (xs:=cs.map V.int) (λi B H'=>∃(F':Li)(x':JH)(U:Me),B=[some (.ref l),some (.ref a),some (.ref d),U]/\Jh K t H' a d F' x'/\x'.now<=12*i/\x'.st.kv.length<=300/\∀b o,H b=some o->H' b=some o/\¬Wh F' d b) {F1,_,none,M,J2,(_),(_),o2} (λi B H' _ w=>?_) (λi z B H' hz w=>?_)<|λB H' w=>?_}
 .let{F',x',U,rfl,G,Y,W,o'}:=w;exact Dv.of (o' _ _ hl).1
 .let{F',x',U,rfl,G,Y,W,o'}:=w;have hi:=(Q2.mp hz).1;rw[Q0]at hi;let{c,hc,rfl}:=Qj.mp (Q1 hz);exact{_,M,_,M,_,M,a,d,c,F',x',M,G,(),W,λH3 F3 x3 J3 l3 e3 f3=>{F3,x3,_,M,J3,(),e3,λb o e=>f3 b o (o' b o e).2 (o' b o e).1}}
 .let{F',x',U,rfl,G,Y,W,o'}:=w;rw[Q0]at Y;refine{_,M,_,M,(by show 2<=sizeLine;decide),λr I=>?_};refine q _ r a d F' x' ?_ (G.A.out I) ag (G.same<|ak I) () W λb o e=>{by rw[ac (aj (o' b o e).1 I)];exact(o' b o e).1,(o' b o e).2};cases e:H r with
  |none=>rfl
  |some o=>rw[(o' _ _ e).1]at I;cases I
def JD.rise{x:JH}(A:JD K t H a F x):bQ x.ks:=by
 let{_,_,_,_,_,_,L}:=A.lvs;exact L.rise
def BB{kv:Ll}{A Jb:Int->Prop}(iv:∀p∈kv,∃i:Int,p.2= .int i)(me:∀k v,(k,v)∈ts.map Tp.kv↔(k,v)∈kv/\A k/\Jb k)(W:ts.map Tp.kv=ts2.map Tp.kv):(ts.map λe=>V.ref e.p).length=(ts2.map λe=>V.ref e.p).length/\∀{H:Hp},(∀e∈ts,H e.p=some (.tup [.int e.k,e.v]))->(∀e∈ts2,H e.p=some (.tup [.int e.k,e.v]))->∀(j:Nat)(u v:V),(ts.map λe=>V.ref e.p)[j]?=some u->(ts2.map λe=>V.ref e.p)[j]?=some v->Alk K H 4 u v:=by
 refine{by have:=Ks List.length W;simpa using this,λ{H} h1 h2 j u v hu z=>?_};rw[Ql]at hu z;cases G:ts[j]? with
 |none=>rw[G]at hu;cases hu
 |some x=>
  cases I:ts2[j]? with
  |none=>rw[I]at z;cases z
  |some y=>
   rw[G]at hu;rw[I]at z;cases hu;cases z;have Y:=Ks (λl:List (Int×V)=>l[j]?) W;rw[Ql,Ql,G,I]at Y;have Z:x.kv=y.kv:=Kf Y;have e4:x.k=y.k:=Ks Prod.fst Z;have e5:x.v=y.v:=Ks Prod.snd Z;have hx:=Q1 G;let{i,O}:=iv _ ((me x.k x.v).mp<|QK (f:=Tp.kv) hx).1;have O:x.v= .int i:=O;have t1:=h1 x hx;have U:=h2 y (Q1 I);rw[<-e4,<-e5]at U;rw[O]at t1 U;refine .inr {_,_,_,_,M,M,.inr {JE.of t1,JE.of U},M,λj u v hu z=>?_};rcases j with _|_|j
   .cases hu;cases z;exact .inl ⟨Ku,M⟩
   .cases hu;cases z;exact .inl ⟨Ku,M⟩
   .cases hu
def L7.bd{kd:Int}{e:V}(h:L7 st ks kd n av e ps (some a'))(hk:∀k∈ks,k<10^40)(O:Jm kd a' e):KZ a':=by
 rcases h with⟨k0,m,g,G⟩|⟨up,W,Y,Z,G⟩
 .rcases O with⟨_,i,j,rfl,rfl,h1,h2,h3⟩|⟨z,_⟩|⟨z,_⟩
  .show i<10^80;lia
  .lia
  .lia
 .split at G
  .cases G
  .cases c:(bE up av e ks)[n.toNat-1]? with
   |none=>rw[c]at G;cases G
   |some k=>
    rw[c]at G;cases G;have I:=Q1 c;unfold bE at I;have I:=(QA.mp I).1;have U:k<10^40:=hk k (by split at I;exact I;exact Zj.mp I);show(if up=true then k+1 else k-1)<10^80;split<;>lia
def JS.same{kd:Int}{e:V}(U:JS t H F st kd n av e v ts a' R)(s:IA H H'):JS t H' F st kd n av e v ts a' R:=
 ⟨by rcases U.rest with h|h;exact .inl h;let{q,h1,h2,z}:=h;exact .inr {q,h1,h2.same s,z},U.less,U.nd,U.me,U.tell,U.far⟩
def Jh.kl{d:G'}{x:JH}(Ja:Jh K t H a d F x):x.ks.length<=301:=by
 have G:x.ks.Nodup:=Ja.A.rise.imp λh=>Int.ne_of_lt h;have:=eh G (S:=x.st.kv.map (·.1)) λz hz=>mem_keys.mpr ((Ja.A.ok.ks z).mp hz);rw[Q0]at this;exact Qu this Ja.le
def Jh.k0{d:G'}{x:JH}(Ja:Jh K t H a d F x):∀k∈x.ks,0<=k:=λk hk=>(Ja.kb k<|mem_keys.mpr<|(Ja.A.ok.ks k).mp hk).1
def TkO(t:IT)(H:Hp)(v:V)(kd:Int)(a e:V)(R:Ma):Prop:=(v= .non/\R=λ_=>false)\/∃q:Addr,v= .ref q/\JO t H q kd a e/\Jm kd a e/\R=hN kd a e
def TkO.same{kd:Int}{a e:V}(h:TkO t H v kd a e R)(s:IA H H'):TkO t H' v kd a e R:=h.imp id λzz=>by let{q,h1,h2,z}:=zz;exact{q,h1,h2.same s,z}
def sE(t:IT):Sp:=λvs H Q _=>∃(v av e:V)(kd:Int)(R:Ma),vs=[v]/\TkO t H v kd av e R/\(v≠ .non->KZ av/\KZ e)/\∀H',IA H H'->Q (.str<|if v= .non then nX else u8 (LO kd) av e) H'
def tw:C5 P w K mg base IL 3 t.nJ t.iV [ly] (sE t):=by
 refine T.cu.okl sQ λs H vs Q E W h _=>?_;intro X;let{v,av,e,kd,R,rfl,Y,bd,q}:=h;refine ah (aT (aq jH AS cy<|aw _)
    (aB<|aD jD)
    aF)
   (aA (aD<|Ae (kk:=2) (vS (jW T.cn T.Ao (pP T) T.j8 (_))<|vS (jW T.iu T.Fj (pP T) T.j8 (_))<|jW T.cr T.Dg (pP T) T.j8 (_)) W.mo AS) ?_)
 intros
 rcases Y with⟨rfl,rfl⟩|⟨p,rfl,⟨I,fr,G,O⟩,U,rfl⟩
 .exact{_,M,M,_,M,jT M<|q H (IA.refl _)}
 let{Z,be}:=bd λz=>by cases z
 refine{_,M,M,_,M,bf (λz=>by cases z) ?_};exact{_,M,p,_,I,fr,_,M,G,O.wo,dWN U.kd,p,I,kd,fr,av,e,M,G,O,U,Z,be,λH2 s2=>q H2 s2}
def fk:Sp:=λvs H Q _=>∃(l:G')(c k v:Int)(xs:Lf),vs=[.ref l,.int c,.int k,.int v]/\H l=some (.lst xs)/\xs.length<=100000/\
 ∀(H':Hp)(p:G'),H p=none->H' l=some (.lst<|xs++ [.ref p])->H' p=some (.tup [.int k,.int v])->(∀b o,b≠l->H b=some o->H' b=some o)->Q (.bl<|decide (0<(k+v+c/5)%(2+c%5))) H'
def qX:C5 P w K mg base IL 1 t.d7 t.cM [hH,eN,kz,hL] fk:=by
 refine T.tW.okl qy λs H vs Q E W h _=>?_;intro X;let{l,c,k,v,xs,rfl,hl,U,q}:=h;refine ah (aN<|cZ Qq Z0 Z1 c6 AS<|aa (bj<|aa IG<|aa IU af) af)
   (aA (aD<|cq qT (al aH (al aX (al aX IG IU)<|al aK IC ae)<|al aX ae<|al aH IC ae) ae<|aw _) ?_)
 intros
 refine{_,M,.inl {M,_,Dv.of hl},_,M,_,M,(by show 2<=sizeLine;decide),λp I=>?_};have sp:IA H (upd H p<|.tup [.int k,.int v]):=ak I;have hp:upd H p (.tup [.int k,.int v]) p=some (.tup [.int k,.int v]):=ag;have O:p≠l:=λz=>by rw[z,hl]at I;cases I
 have G:=sp _ _ hl;generalize upd H p (.tup [.int k,.int v])=H1 at sp hp G⊢;refine{l,_,_,M,M,G,a8 U,?_};have Y:=Qf c (show(5:Int)≠0 by decide);refine{_,M,_,M,_,_,M,M,_,M,_,_,M,M,{(_),(_)},_,_,M,M,_,M,_,_,M,M,(by show(0:Int)<5;decide),_,_,M,M,_,_,M,M,(by show(0:Int)<2+c%5;lia),_,_,M,M,?_};exact q _ p I ag (by rwa[ac O]) λb o n e=>by rw[ac n];exact sp _ _ e
abbrev vz(q1 q2:Pos):Arguments:={posonlyargs:=[],args:=[{arg:=kz,annotation:=none,pos:=q1},{arg:=hL,annotation:=none,pos:=q2}],vararg:=none,kwonlyargs:=[],kw_defaults:=[],kwarg:=none,defaults:=[]}
def CV{body:Expr}{scope:Scope}{cl:Mm}{z:Lg}:Binds K (W.kla_fn hW qual (vz q1 q2) body scope cl pm z ct) [kz,hL] []:= .all λus hl=>by
 rcases us with _|⟨a,_|⟨b,_|⟨c,r⟩⟩⟩<;>first|rfl|simp at hl
abbrev scS:Scope:={kind:= .function,names:=[(kz,.local),(hL,.local),(hH,.free),(eN,.free),("_law_answer",.globalImplicit)],isGenerator:=false,isCoroutine:=false,more:=[]}
abbrev bdS(p0 p1 p2 p3 p4 p5:Pos):Expr:= .Call (.Name "_law_answer" p0) [.Name hH p1,.Name eN p2,.Name kz p3,.Name hL p4] [] p5
def E6(f c':G')(qual:Str)(ob:Obj)(c1 c2 lc:G')(o1 o2:Obj)(c0:Int):Sp:=λvs H Q _=>∃(k v:Int)(xs:Lf),vs=[.int k,.int v]/\H f=some (xo f ob)/\H c'=some (i9 c' qual)/\H c1=some (xo c1 o1)/\H c2=some (xo c2 o2)/\H lc=some (.lst xs)/\xs.length<=100000/\
 ∀(H':Hp)(p:G'),H p=none->H' lc=some (.lst<|xs++ [.ref p])->H' p=some (.tup [.int k,.int v])->(∀b o,b≠lc->H b=some o->H' b=some o)->Q (.bl<|decide (0<(k+v+c0/5)%(2+c0%5))) H'
def Fp(O:c1≠c2):List.lookup c1 [(c1,o1),(c2,o2)]=some o1/\List.lookup c2 [(c1,o1),(c2,o2)]=some o2/\(∀b o,List.lookup b [(c1,o1),(c2,o2)]=some o->(b=c1/\o=o1)\/(b=c2/\o=o2))/\∀b,b≠c1->b≠c2->List.lookup b [(c1,o1),(c2,o2)]=none:=by
 have U:∀b,b≠c1->b≠c2->List.lookup b [(c1,o1),(c2,o2)]=none:=λb W G=>by
  rw[QX,Kn.mpr W];show List.lookup b [(c2,o2)]=none;rw[QX,Kn.mpr G];rfl
 have I:List.lookup c2 [(c1,o1),(c2,o2)]=some o2:=by
  rw[QX,Kn.mpr (Ne.symm O)];exact ZC
 refine{ZC,I,λb o e=>?_,U};by_cases z:b=c1
 .rw[z,ZC]at e;cases e;exact .inl ⟨z,M⟩
 .by_cases G:b=c2
  .rw[G,I]at e;cases e;exact .inr ⟨G,M⟩
  .rw[U b z G]at e;cases e
def zV(T:Txt K mg t)(G:C5 P w K mg base IL 1 t.d7 t.cM [hH,eN,kz,hL] fk){u1 u2:Lg}{p1 p2 p3 p4 p5:Pos}
  (O:c1≠c2) (d1:o1.data= .cell (some u1)) (r1:RelV (.ref lc) u1) (d2:o2.data= .cell (some u2)) (r2:RelV (.int c0) u2):
  C5 P w K mg base IL 3 f (W.kla_fn hW qual (vz q1 q2) (bdS p0 p1 p2 p3 p4 p5) scS [(eN,c2),(hH,c1)] pm (.ref c') ct) [kz,hL]
   (E6 f c' qual (W.kla_obj hW qual (vz q1 q2) (bdS p0 p1 p2 p3 p4 p5) scS [(eN,c2),(hH,c1)] pm c' ct) c1 c2 lc o1 o2 c0):=by
 refine Cp (fr:=[hH,eN]) {M,M,M,∅,M,∅,∅} (λvs H Q E h=>?_)<|λA outer s H vs Q E hr h=>?_
 .let{k,v,xs,rfl,_}:=h;rfl
 .let{k,v,xs,rfl,hf,hc,h1,h2,hl,lx,q}:=h;have l1:lc≠c1:=λz=>by rw[z,h1]at hl;cases hl
  have l2:lc≠c2:=λz=>by rw[z,h2]at hl;cases hl
  let{U,Y,look,no}:=Fp (o1:=o1) (o2:=o2) O;have Z:∀x c,(x,c)∈[((eN:Str),c2),((hH:Str),c1)]->(x=eN/\c=c2)\/(x=hH/\c=c1):=λx c m=>by
   rcases Q7.mp m with m|m
   .cases m;exact .inl ⟨M,M⟩
   .rcases Q7.mp m with m|m
    .cases m;exact .inr ⟨M,M⟩
    .cases m
  refine{hf,hc,[(c1,o1),(c2,o2)],[.ref lc,.int c0],{λb o e=>?_,λx c e=>?_,λx e=>?_,λx y c I e2=>?_,M,λi x v I e2=>?_},?_}
  .rcases look b o e with⟨rfl,rfl⟩|⟨rfl,rfl⟩
   .exact h1
   .exact h2
  .rcases Z x c (PySem.mem_of_lookup e)with⟨_,rfl⟩|⟨_,rfl⟩
   .exact{o2,_,Y,d2}
   .exact{o1,_,U,d1}
  .have m:=PySem.mem_of_lookup e;simp only[Q7,Prod.mk.injEq,Z4,reduceCtorEq,and_false,and_true,or_false,false_or]at m;rcases m with rfl|rfl
   .exact⟨c1,M⟩
   .exact⟨c2,M⟩
  .rcases Z x c (PySem.mem_of_lookup I)with⟨rfl,y1⟩|⟨rfl,y1⟩<;>rcases Z y c (PySem.mem_of_lookup e2)with⟨rfl,y2⟩|⟨rfl,y2⟩
   .rfl
   .exact Kh (y2.symm.trans y1) O
   .exact Kh (y1.symm.trans y2) O
   .rfl
  .match i,I,e2 with
   |0,I,e2=>
    cases I;cases e2;exact⟨M,c1,o1,u1,M,U,d1,r1⟩
   |1,I,e2=>
    cases I;cases e2;exact⟨M,c2,o2,u2,M,Y,d2,r2⟩
   |i+2,I,e2=>cases I
  .refine{_,aE G hr.mo {_} T.Di T.tW.kp T.Dk .nil ar (aa IG<|aa IU<|aa AS<|aa IC af),?_};refine{_,M,_,M,_,M,_,M,lc,c0,k,v,xs,M,by rwa[dD (no lc l1 l2)],lx,λH' p np a1 hp kp gone=>?_};have pn:∀b o,List.lookup b [(c1,o1),(c2,o2)]=some o->p≠b:=λb o e z=>by
    have:=gone b o e;rw[<-z,hp]at this;cases this
   have a0:List.lookup p [(c1,o1),(c2,o2)]=none:=no p (pn c1 o1 U) (pn c2 o2 Y);rw[dD a0]at np;refine q (shw _ H') p np (by rwa[bL (no lc l1 l2)]) (by rwa[bL a0]) λb o nb e=>?_;cases z:List.lookup b [(c1,o1),(c2,o2)]with
   |none=>
    rw[bL z];exact kp b o nb<|by rwa[dD z]
   |some ob=>
    rw[vh z];rcases look b ob z with⟨rfl,rfl⟩|⟨rfl,rfl⟩
    .rw[h1]at e;exact e
    .rw[h2]at e;exact e
def gS(c0:Int)(p:Int×V):Bool:=decide (0<(p.1+KU p.2+c0/5)%(2+c0%5))
def IS(f c':G')(qual:Str)(ob:Obj)(c1 c2 lc:G')(o1 o2:Obj)(ds:Ll)(H:Hp):Prop:=H f=some (xo f ob)/\H c'=some (i9 c' qual)/\H c1=some (xo c1 o1)/\H c2=some (xo c2 o2)/\
 ∃ts:List Tp,H lc=some (.lst<|ts.map λe=>V.ref e.p)/\ts.map Tp.kv=ds/\∀e∈ts,H e.p=some (.tup [.int e.k,e.v])
def zU(hd:∃d,ob.data=Data.func d)(F:C5 P w K mg base IL 3 f fd [kz,hL] (E6 f c' qual ob c1 c2 lc o1 o2 c0))(Jb:Binds K fd [kz,hL] []):
  Sv P w K mg base f (λb=>b=f\/b=c'\/b=c1\/b=c2\/b=lc) (IS f c' qual ob c1 c2 lc o1 o2) (gS c0):=by
 refine{{fd,_,_,F,Jb,λds H k j Q I ld q=>?_},λds H I=>?_,λds H H' I k=>?_,λds H b I h=>?_,λds H b o I h e=>?_}
 .let{hf,hc,h1,h2,ts,hl,G,O}:=I;have W:∀{b:G'}{Z:Heap->Prop},H b=some (.ext Z)->b≠lc:=λ{b Z} e z=>by rw[z,hl]at e;cases e
  refine{k,j,_,M,hf,hc,h1,h2,hl,by rw[Q0];have:=Ks List.length G;rw[Q0]at this;lia,λH' p np Y hp U=>q H' {U _ _ (W hf) hf,U _ _ (W hc) hc,U _ _ (W h1) h1,U _ _ (W h2) h2,ts++ [{p,k,.int j}],?_,?_,λe he=>?_} λb o n e=>U b o (λz=>n<|by simp[z]) e}
  .rw[Y,Q9];rfl
  .rw[Q9,G];rfl
  .rcases Q4.mp he with he|he
   .exact U _ _ (λz=>by have:=O e he;rw[z,hl]at this;cases this)<|O e he
   .rwa[Qa.mp he]
 .let{d,ed}:=hd;exact⟨ob,d,I.1,ed⟩
 .let{hf,hc,h1,h2,ts,hl,G,O}:=I;exact{k _ _ (.inl<|.inl M) hf,k _ _ (.inl<|.inr<|.inl M) hc,k _ _ (.inl<|.inr<|.inr<|.inl M) h1,k _ _ (.inl<|.inr<|.inr<|.inr<|.inl M) h2,ts,k _ _ (.inl<|.inr<|.inr<|.inr<|.inr M) hl,G,λe he=>k _ _ (.inr {_,M})<|O e he}
 .let{hf,hc,h1,h2,ts,hl,G,O}:=I;intro z;rcases h with rfl|rfl|rfl|rfl|rfl
  .rw[hf]at z;cases z
  .rw[hc]at z;cases z
  .rw[h1]at z;cases z
  .rw[h2]at z;cases z
  .rw[hl]at z;cases z
 .let{hf,hc,h1,h2,ts,hl,G,O}:=I;rcases h with rfl|rfl|rfl|rfl|rfl
  .rw[hf]at e;cases e;exact .inr {_,M}
  .rw[hc]at e;cases e;exact .inr {_,M}
  .rw[h1]at e;cases e;exact .inr {_,M}
  .rw[h2]at e;cases e;exact .inr {_,M}
  .rw[hl]at e;cases e;exact .inl {_,M}
def xV(T:Txt K mg t)(G:C5 P w K mg base IL 1 t.d7 t.cM [hH,eN,kz,hL] fk){I O:Lg}{U p2 Y Z p5:Pos}
  (_:H f=some (xo f<|W.kla_obj hW qual (vz q1 q2) (bdS p0 U p2 Y Z p5) scS [(eN,c2),(hH,c1)] pm c' ct))
  (z:c1≠c2) (d1:o1.data= .cell (some I)) (r1:RelV (.ref lc) I) (d2:o2.data= .cell (some O)) (r2:RelV (.int c0) O):
  Sv P w K mg base f (λb=>b=f\/b=c'\/b=c1\/b=c2\/b=lc) (IS f c' qual (W.kla_obj hW qual (vz q1 q2) (bdS p0 U p2 Y Z p5) scS [(eN,c2),(hH,c1)] pm c' ct) c1 c2 lc o1 o2) (gS c0):=
 zU {_,M} (zV T G z d1 r1 d2 r2) CV
abbrev scC:Scope:={kind:= .function,names:=[(kz,.local),(hL,.local)],isGenerator:=false,isCoroutine:=false,more:=[]}
def E8(f c':G')(qual:Str)(ob:Obj)(b:Bool):Sp:=λvs H Q _=>∃k v:V,vs=[k,v]/\H f=some (xo f ob)/\H c'=some (i9 c' qual)/\Q (.bl b) H
def G0(b:Bool):
  C5 P w K mg base IL 3 f (W.kla_fn hW qual (vz q1 q2) (.Constant (.bool b) n0 p0) scC [] pm (.ref c') ct) [kz,hL] (E8 f c' qual (W.kla_obj hW qual (vz q1 q2) (.Constant (.bool b) n0 p0) scC [] pm c' ct) b):=by
 refine Cp (fr:=[]) {M,M,M,∅,M,∅,∅} (λvs H Q E h=>?_)<|λA outer s H vs Q E z h=>?_
 .let{k,v,rfl,_}:=h;rfl
 .let{k,v,rfl,hf,hc,q}:=h;refine{hf,hc,[],[],Jt.none ∅,_,BQ,λ_=>q}
def GZ{g:Bool}(hd:∃d,ob.data=Data.func d)(F:C5 P w K mg base IL 3 f fd [kz,hL] (E8 f c' qual ob g))(Jb:Binds K fd [kz,hL] []):
  Sv P w K mg base f (λb=>b=f\/b=c') (λ_ H=>H f=some (xo f ob)/\H c'=some (i9 c' qual)) (λ_=>g):=by
 refine{{fd,_,_,F,Jb,λds H k j Q I ld q=>{_,_,M,I.1,I.2,q H I λ_ _ _ e=>e}},λds H I=>?_,λds H H' I k=>{k _ _ (.inl<|.inl M) I.1,k _ _ (.inl<|.inr M) I.2},λds H b I h=>?_,λds H b o I h e=>?_}
 .let{d,G}:=hd;exact⟨ob,d,I.1,G⟩
 .intro z;rcases h with rfl|rfl
  .rw[I.1]at z;cases z
  .rw[I.2]at z;cases z
 .rcases h with rfl|rfl
  .rw[I.1]at e;cases e;exact .inr {_,M}
  .rw[I.2]at e;cases e;exact .inr {_,M}
def zy{b:Bool}(_:H f=some (xo f<|W.kla_obj hW qual (vz q1 q2) (.Constant (.bool b) n0 p0) scC [] pm c' ct)):
  Sv P w K mg base f (λz=>z=f\/z=c') (λ_ H=>H f=some (xo f<|W.kla_obj hW qual (vz q1 q2) (.Constant (.bool b) n0 p0) scC [] pm c' ct)/\H c'=some (i9 c' qual)) (λ_=>b):=GZ {_,M} (G0 b) CV
def Jh.but{d q:G'}{x:JH}(Ja:Jh K t H a d F x)(G:¬F q)(nt:∀xs,H q≠some (.tup xs))(I:d≠q)(k:∀b o,b≠q->H b=some o->H' b=some o):Jh K t H' a d F x:={Ja.A.keep (λb hb=>by
 let{o,e,_}:=Ja.A.dom hb;rw[e];exact k b o (λz=>G<|z▸hb) e) λb xs e=>k b _ (λz=>nt xs<|z▸e) e,k d _ I Ja.di,Ja.nd,Ja.kb,Ja.iv,Ja.le,Ja.ma}
def ug(iv:∀e∈ts,∃i:Int,e.v= .int i)(I:ts.map Tp.kv=ts2.map Tp.kv):(ts.map λe=>V.ref e.p).length=(ts2.map λe=>V.ref e.p).length/\∀{H:Hp},(∀e∈ts,H e.p=some (.tup [.int e.k,e.v]))->(∀e∈ts2,H e.p=some (.tup [.int e.k,e.v]))->∀(j:Nat)(u v:V),(ts.map λe=>V.ref e.p)[j]?=some u->(ts2.map λe=>V.ref e.p)[j]?=some v->Alk K H 4 u v:=by
 refine{by have:=Ks List.length I;simpa using this,λ{H} h1 h2 j u v hu z=>?_};rw[Ql]at hu z;let{x,O,rfl}:=QI.mp hu;let{y,U,rfl}:=QI.mp z;have W:=Ks (λl:List (Int×V)=>l[j]?) I;rw[Ql,Ql,O,U]at W;have Y:x.kv=y.kv:=Kf W;have e4:x.k=y.k:=Ks Prod.fst Y;have e5:x.v=y.v:=Ks Prod.snd Y;have hx:=Q1 O;let{i,ei}:=iv x hx;have Z:=h1 x hx;have G:=h2 y (Q1 U);rw[<-e4,<-e5]at G;rw[ei]at Z G;refine .inr {_,_,_,_,M,M,.inr {JE.of Z,JE.of G},M,λj u v hu z=>?_};rcases j with _|_|j
 .cases hu;cases z;exact .inl ⟨Ku,M⟩
 .cases hu;cases z;exact .inl ⟨Ku,M⟩
 .cases hu
def qc{kd:Int}{e G I O W:V}{ts1:List Tp}{R1 R2:Ma}(r:bQ ks)(mk:∀z,z∈ks↔(aI st.kv z).isSome=true)(U:JS t H F st kd n av e G ts1 O R1)(Y:JS t H' F' st kd n av e I ts2 W R2):
  ts1.map Tp.kv=ts2.map Tp.kv/\((G= .non/\I= .non)\/(G≠ .non/\I≠ .non/\O=W)):=by
 let{h1,h2}:=(U.tell ks r mk).uniq (Y.tell ks r mk);refine{h1,?_};by_cases c1:G= .non<;>by_cases c2:I= .non
 .exact .inl ⟨c1,c2⟩
 .rw[Kd c1,Kc c2]at h2;cases h2
 .rw[Kc c1,Kd c2]at h2;cases h2
 .rw[Kc c1,Kc c2]at h2;exact .inr {c1,c2,Kf h2}
def rY{kd:Int}{e:V}(r:bQ ks)(mk:∀z,z∈ks↔(aI st.kv z).isSome=true)(G:∀k∈ks,k<10^40)(I:KZ e)(U:JS t H F st kd n av e v ts a' R):v≠ .non->KZ a'/\KZ e:=λh=>by
 have h1:=U.tell ks r mk;rw[Kc h]at h1;rcases U.rest with⟨z,_⟩|⟨q,_,_,o,_⟩
 .exact Kh z h
 .exact{h1.bd G o,I}
def p8{kd:Int}{z G I O e:V}(U:(z= .non/\G= .non)\/(z≠ .non/\G≠ .non/\I=O)):(if G= .non then(nX:Str)else u8 (LO kd) O e)=if z= .non then(nX:Str)else u8 (LO kd) I e:=by
 rcases U with⟨h1,h2⟩|⟨h1,h2,W⟩
 .rw[Kd h1,Kd h2]
 .rw[Kc h1,Kc h2,W]
def Mv(lc:G')(F F':Li)(H H':Hp):Prop:=∀b o,¬F b->(∀φ,o≠ .ext φ)->(∀ps,o≠ .tbl ps)->b≠lc->H b=some o->H' b=some o/\¬F' b
def Mv.of(f:Fr F F' H H'):Mv lc F F' H H':=λb o n _ _ _ e=>f b o n e
def Mv.trans{G:Li}(f:Mv lc F F' H H')(g:Mv lc F' G H' H2):Mv lc F G H H2:=λb o n h1 h2 z e=>g b o (f b o n h1 h2 z e).2 h1 h2 z (f b o n h1 h2 z e).1
structure Pg(t:IT)(H:Hp)(F:Li)(st:IE)(kd n:Int)(av e:V)(r g:G')(v:V)(us ts:List Tp)(a':V)(R:Ma):Prop where
 tu:H r=some (.tup [.ref g,v])/\¬F r
 li:H g=some (.lst<|us.map λe=>V.ref e.p)/\¬F g
 rw:∀e∈ts,H e.p=some (.tup [.int e.k,e.v])/\¬F e.p
 U:JS t H F st kd n av e v ts a' R
def Pg.mv{kd:Int}{e:V}{g:G'}(p:Pg t H F st kd n av e r g v us ts a' R)(m:Mv lc F F' H H')(I:g≠lc)(hl:∀o,H lc=some o->(∃xs,o= .lst xs)\/∃ps,o= .tbl ps):Pg t H' F' st kd n av e r g v us ts a' R:=by
 have G:∀{b o},H b=some o->(∀xs,o≠ .lst xs)->(∀ps,o≠ .tbl ps)->b≠lc:=λ{b o} e O W z=>by
  rcases hl o (z▸e)with⟨_,h⟩|⟨_,h⟩
  .exact O _ h
  .exact W _ h
 have tup:∀{b ys},¬F b->H b=some (.tup ys)->H' b=some (.tup ys)/\¬F' b:=λ{b ys} n e=>m b (.tup ys) n (λ_ z=>nomatch z) (λ_ z=>nomatch z) (G e (λ_ z=>nomatch z) λ_ z=>nomatch z) e;refine{tup p.tu.2 p.tu.1,m g (.lst _) p.li.2 (λ_ z=>nomatch z) (λ_ z=>nomatch z) I p.li.1,λe he=>tup (p.rw e he).2 (p.rw e he).1,{?_,p.U.less,p.U.nd,p.U.me,p.U.tell,p.U.far}};refine p.U.rest.imp id λzz=>?_;let{q,h1,{dx,fs,hq,Y},Z,h4,h5}:=zz;have:=m q (.ins _ dx fs) h4 (λ_ z=>nomatch z) (λ_ z=>nomatch z) (G hq (λ_ z=>nomatch z) λ_ z=>nomatch z) hq;exact{q,h1,⟨dx,fs,this.1,Y⟩,Z,this.2,h5}
def Pg.same{kd:Int}{e:V}{g:G'}(p:Pg t H F st kd n av e r g v us ts a' R)(s:IA H H'):Pg t H' F st kd n av e r g v us ts a' R:=
 {{s _ _ p.tu.1,p.tu.2},{s _ _ p.li.1,p.li.2},λe he=>{s _ _ (p.rw e he).1,(p.rw e he).2},p.U.same s}
def Pg.to{kd:Int}{e:V}{g:G'}(p:Pg t H F st kd n av e r g v us ts a' R):TkO t H v kd a' e R:=by
 rcases p.U.rest with h|⟨q,h1,h2,z,I,G,O⟩
 .exact .inl h
 .exact .inr ⟨q,h1,h2,z,G⟩
def Jh.mv{d:G'}{x:JH}(Ja:Jh K t H a d F x)(A:JD K t H' a F' x)(m:Mv lc F F' H H')(hl:∀o,H lc=some o->(∃xs,o= .lst xs)\/∃ps,o= .tbl ps):Jh K t H' a d F' x:=by
 let{h1,h2}:=m d (.dK _) Ja.nd (λ_ z=>nomatch z) (λ_ z=>nomatch z) (λz=>by rcases hl _ (z▸Ja.di)with⟨_,h⟩|⟨_,h⟩<;>cases h) Ja.di;exact⟨A,h1,h2,Ja.kb,Ja.iv,Ja.le,Ja.ma⟩
abbrev s35(sc a d p:G')(c0 n:Int)(lc f g1:G')(v1:V)(r2:G')(r:List (Option V)):St:=some (.ref sc)::some (.ref a)::some (.ref d)::some (.ref p)::some (.int c0)::some (.int n)::some (.ref lc)::some (.ref f)::some (.ref g1)::some v1::some (.ref r2)::r
def Bu(K:Jc)(Pt:G'):Sp:=λvs H Q _=>∃(a:G')(ns:Lh),vs=[.ref a]/\Dv K H a (ns.map V.int)/\ns.length<=63/\H Pt=some (.tbl #[])/\∀H',Q (.bl true) H'
def Gu:C5 P w K mg base IL 9 t.FB t.xn [lq] (Bu K t.bS):=by
 have J0:=tw (P:=P) (w:=w) (base:=base) T;have Y0:=Gv (P:=P) (w:=w) (base:=base) T;refine T.Ij.okm Js λ_ _ _ s H vs Q E hr h _ ei=>?_;intro X;let{sc,ns,rfl,hS,fo,hP,q}:=h;refine ah (qQ (aE (tE T) hr.mo {_} T.Et T.wj.kp T.EG .nil ar (aa (hV kA AS (iO ae)<|iO ae) af))<|qS M<|cJ (L9 1)<|cJ (L9 2) mT)
   (ah (IR 3<|aE (tx T) hr.mo {_} T.Es T.wg.kp T.EF .nil ar (aa (aE (pN T) hr.mo {_} T.Ci T.sw.kp T.C2 .nil ar (aa (aE (pO T) hr.mo {_} T.jR T.f9.kp T.j7 .nil ar (aa AS<|aa ae af))<|aa (az (vV hr.hd) {_} T.Bc uO (aa IG af)) af)) af))
   (ah (gI (i:=4) Js.nd M (Or.inr M)<|aE (pO T) hr.mo {_} T.jR T.f9.kp T.j7 .nil ar (aa AS<|aa ae af))
   (ah (IR 5<|al aX ae<|al aH (aE (pO T) hr.mo {_} T.jR T.f9.kp T.j7 .nil ar (aa AS<|aa ae af)) ae)
   (ah (gI (i:=6) Js.nd M (Or.inr M)<|bn af)
   (ah (IR 7<|vB M Ic T.FI ei)
   (ah (qQ (aE Y0 hr.mo {_} T.zd T.xB.kp T.G8.choose_spec.1 T.G8.choose_spec.2 ar (aa IC<|aa IU<|aa Jw af))<|qS M<|cJ (L9 8)<|cJ (L9 9) mT)
   (ah (IR 10<|BM Y0 hr.mo {_} T.zd T.xB.kp T.Ii .nil [(6,hH),(4,eN)] (aa IC<|aa IU<|aa Jw<|aa pv7 af))
   (ah (aT (PW.pt<|qP (aq (Gq K M hr.u20) LP pv8<|aw _)<|l6<|aq Fg (aE J0 hr.mo {_} T.dC T.cu.kp T.dJ .nil ar (aa (aJ bz pv10 ae<|λ_ _=>M) af)) (aE J0 hr.mo {_} T.dC T.cu.kp T.dJ .nil ar (aa pv9 af))<|aw _)
    (aB<|aD BQ)
    aF)
   (ah (BH (i:=11) M (IF.of (M':=[kz,hL]) (N:=[lq,lm,u5,ly,eN,"_law_many",hH,"_law_strainer","_law_plain","_law_rest","_law_found","_law_due","_law_again","_law_left"]) (N':=[lq,lm,u5,ly,eN,"_law_many",hH,"_law_strainer","_law_plain","_law_rest","_law_found","_law_due","_law_again","_law_left"]) (dsc:=ai yT) M M ∅) (dA pv8) (λS _ _ _ _ _=>Ea (n:=2) K M M<|cJ (S.pg (i:=0) M)<|cJ (S.pg (i:=1) M) mT) (λ_ _ _ _ _=>vv<|(aq qT (al aH (al aX (al aX AS IC)<|al aK LP ae)<|al aX ae<|al aH LP ae) ae<|aw _)) (λ_ _ _ _ _=>(bj<|aa AS<|aa IC af)) Js.nd M M)
   (ah (IR 12<|aE Y0 hr.mo {_} T.zd T.xB.kp T.Ii .nil ar (aa IC<|aa IU<|aa Jw<|aa (vB M Fu T.FI ei) af))
   (ah (aT (PW.pt<|qP (aq (Gp K M hr.u20) (aJ bz pv12 ae<|λ_ _=>M) (bn af)<|aw _)<|l6<|aq Fg (aE J0 hr.mo {_} T.dC T.cu.kp T.dJ .nil ar (aa (aJ bz pv12 ae<|λ_ _=>M) af)) (aE J0 hr.mo {_} T.dC T.cu.kp T.dJ .nil ar (aa pv9 af))<|aw _)
    (aB<|aD BQ)
    aF)
   (ah (IR 8<|aE Y0 hr.mo {_} T.zd T.xB.kp T.G7.choose_spec.1 T.G7.choose_spec.2 ar (aa IC<|aa IU af))
   (ah (IR 13<|BN Y0 hr.mo {_} T.zd T.xB.kp T.Im.choose_spec.2 ar (aa IC<|aa IU af) (D9 (vB M Fu T.FI ei) Gh))
   (aA (aD<|l9 (cq (BS K M hr.u20) (aJ bz pv10 ae<|λ_ _=>M) pv11<|aw _)<|l9 (cq (BS K M hr.u20) (aJ bz pv13 ae<|λ_ _=>M) (aJ bz pv8 ae<|λ_ _=>M)<|aw _)<|jE<|cq bH (aE J0 hr.mo {_} T.dC T.cu.kp T.dJ .nil ar (aa (aJ bz pv13 ae<|λ_ _=>M) af)) (aE J0 hr.mo {_} T.dC T.cu.kp T.dJ .nil ar (aa (aJ bz pv8 ae<|λ_ _=>M) af))<|aw _) ?_))))))))))))))
 intros
 let{cs,fv,sb}:=CQ ns (some 3) (some 43);refine{_,M,_,M,_,M,sc,_,M,hS,λp1 el=>?_};rw[fv];have ic:cs.length<=63:=Qu sb.length_le fo;have cS:=(LI.of (F:=λ_=>False) hS λ_ _ z=>z).new (o:= .lst<|cs.map V.int) el;have h1:upd H p1 (.lst<|cs.map V.int) p1=some (.lst<|cs.map V.int):=ag;have hP:=ak (o:= .lst<|cs.map V.int) el _ _ hP
 (try dsimp only)
 generalize upd H p1 (.lst<|cs.map V.int)=H1 at cS h1 hP⊢;refine{p1,cs,M,h1,ic,λH2 r2 a d F x ie fx fy Ja l2 e2 o2=>?_};have cS:=cS.fr (F':=Wh F d) (H':=H2) λb o _ e=>o2 b o e;let{hP,nP}:=o2 _ _ hP;have em:¬F t.bS:=λz=>nP (.inl z);refine{r2,_,M,JE.of fy,M,_,_,M,_,_,M,M,?_};clear hS h1 o2 el fv sb fy ie fx;obtain⟨c0,ig⟩:∃c:Int,ns.getD (0:Int).toNat 0=c:={_,M};obtain⟨c1,ih⟩:∃c:Int,ns.getD (1:Int).toNat 0=c:={_,M};obtain⟨c2,ij⟩:∃c:Int,ns.getD (2:Int).toNat 0=c:={_,M};refine{_,M,sc,ns,1,M,cS.sq,(_),?_};rw[ih];refine{_,M,d,_,x.st.kv.map (·.1),M,.inl Ja.di,Av,λl ms nl pm pw=>?_};have s3:=ak (o:= .lst<|ms.map V.int) nl;have h3:upd H2 l (.lst<|ms.map V.int) l=some (.lst<|ms.map V.int):=ag
 (try dsimp only)
 generalize upd H2 l (.lst<|ms.map V.int)=H3 at s3 h3⊢;refine{_,l,ms,M,h3,λk hk=>Ja.kb k<|pm.mem_iff.mp hk,?_};intro H4 n av e s4 hn on ba be;obtain⟨kd,ik⟩:∃kd:Int,c1%3=kd:={_,M};rw[ik]at hn on;have d4:=s3.trans s4;have J4:=Ja.same d4;have g0:=cS.fr (Fr.of_same d4);have g6:=d4 _ _ hP;clear s3 s4 h3 nl pm pw cS Ja hP;refine{n,kd,av,e,M,JE.of hn,on,λH5 p s5 np TK=>?_};have J5:=J4.same s5;have d5:¬F p:=J4.A.out np;have d6:=g0.fr (Fr.of_same s5);have eo:=s5 _ _ g6;clear np s5 d4 hn g0 J4 g6;refine{_,M,sc,ns,0,M,d6.sq,(_),?_};rw[ig];refine{_,M,sc,ns,2,M,d6.sq,(_),?_};rw[ij];have m0:=Qf c2 (show(30:Int)≠0 by decide);have m1:=Qe c2 (show(0:Int)<30 by decide);refine{_,_,M,M,(by show(0:Int)<30;decide),_,_,M,M,?_};obtain⟨n,en⟩:∃n:Int,1+c2%30=n:={_,M};rw[en];refine{Qh _,λlc bv=>?_};have im:lc≠t.bS:=λz=>by rw[z,eo]at bv;cases bv
 have s6:=ak (o:= .lst []) bv;have ep:upd H5 lc (.lst []) lc=some (.lst []):=ag;generalize upd H5 lc (.lst [])=H6 at s6 ep⊢;have J6:=J5.same s6;have ip:=d6.fr (Fr.of_same s6);have g7:=TK.same s6;have bl:=s6 _ _ eo;have eq:¬F lc:=J5.A.out bv;clear s6 J5 d6 TK eo;refine{#[],bl,trivial,M,λcl c' g8 pm f bw nf nc c3=>?_};let{er,et,rfl,ga,ge,gf}:=Ie bw;refine vM bl nf nc c3 λH7 gg gi gj k7=>?_;have J7:=J6.but em (λxs z=>by rw[bl]at z;cases z) (λz=>by have:=J6.di;rw[z,bl]at this;cases this) k7;have eu:JO t H7 p kd av e:=by
  let{dq,fq,hq,tq}:=g7;exact{dq,fq,k7 _ _ (λz=>by rw[z,bl]at hq;cases hq) hq,tq}
 have a9:=k7 _ _ im ep;have gk:¬F f:=J6.A.out nf;have gl:¬F c':=J6.A.out nc;clear ip g7 bl ep nf nc k7 J6 bv;refine{_,M,_,M,_,M,a,p,n,kd,av,e,F,x,.non,M,J7.A,eu,on,d5,(),(),by have:=J7.le;lia,by have:=J7.kl;lia,J7.k0,J7.iv,.inl {M,λH8 F8 r1 g1 v1 ts1 a1 R1 A8 f8 ab U1=>{r1,_,M,JE.of ab.tu,M,_,_,M,_,_,M,M,?_}}};have J8:=J7.mv (lc:=lc) A8 (Mv.of f8) λo z=>by rw[a9]at z;cases z;exact .inl {_,M}
 have W:Pg t H8 F8 x.st kd n av e r1 g1 v1 ts1 ts1 a1 R1:={⟨ab.tu,ab.nr.2⟩,⟨ab.li,ab.ng.2⟩,ab.rw,U1};have iq:g1≠lc:=λz=>by have:=ab.ng.1;rw[z]at this;rw[this eq]at a9;cases a9
 obtain⟨ev,c4⟩:JO t H8 p kd av e/\¬F8 p:=by
  let{dq,fq,hq,tq}:=eu;exact{{dq,fq,(f8 _ _ d5 hq).1,tq},(f8 _ _ d5 hq).2}
 let{d7,dd}:=f8 _ _ gk gg;let{ez,de}:=f8 _ _ gl gi;let{c5,gm}:=f8 _ _ em gj;let{c9,df}:=f8 _ _ eq a9;clear gg gi gj a9 eu J7 A8 f8 ab U1 gk gl em eq d5;refine{_,M,_,M,_,M,_,M,?_,λcs gn am=>?_}
 .intro q hq;rcases Q7.mp hq with rfl|hq
  .exact{_,M}
  .rcases Q7.mp hq with rfl|hq
   .exact{_,M}
   .cases hq
 let{d1,o1,u1,w1,d2,o2,u2,w2,rfl,e1,y1,z1,x1,e3,y2,z2,x2}:=Ib gn;obtain rfl:V.ref lc=w1:=Kf (Kf z1);obtain rfl:V.int c0=w2:=Kf (Kf z2);obtain rfl:et=d1:=Kf (ge.symm.trans e1);obtain rfl:er=d2:=Kf (ga.symm.trans e3);let{ca,cb,look,no}:=Fp (o1:=o1) (o2:=o2) gf;have S:Sv P w K mg base f _ _ (gS c0):=xV T (qX T) d7 gf y1 x1 y2 x2;obtain⟨cs2,dm⟩:∃cs2,[(et,o1),(er,o2)]=cs2:={_,M};rw[dm]at am ca cb look no⊢;have sm:=Bw am;clear dm gn ge ga e1 e3 y1 y2 z1 z2 x1 x2;refine{a,p,n,kd,av,e,F8,x,.ref f,M,J8.A.same sm,ev.same sm,on,c4,(),(),by have:=J8.le;lia,by have:=J8.kl;lia,J8.k0,J8.iv,
  .inr {f,_,_,_,M,S,{sm _ _ d7,sm _ _ ez,vh ca,vh cb,[],sm _ _ c9,M,λ_ z=>nomatch z},λb hb=>?_,λH' F' r2 g2 v2 ts2 a2 R2 A9 f0 gq gt gz f1 f2 U9 I9=>?_}}
 .rcases hb with rfl|rfl|rfl|rfl|rfl
  .exact dd
  .exact de
  .exact J8.A.out<|am _ _ ca
  .exact J8.A.out<|am _ _ cb
  .exact df
 let{_,_,i1,i2,h4,iL,eL,tL}:=I9;have hx:∀b o,cs2.lookup b=some o->H' b=some (xo b o):=λb o z=>by
  rcases look b o z with⟨rfl,rfl⟩|⟨rfl,rfl⟩
  .exact i1
  .exact i2
 refine{hx,?_};have nl:∀{b o},H8 b=some o->cs2.lookup b=none:=λ{b o} z=>by
  cases q:cs2.lookup b with
  |none=>rfl
  |some ob=>rw[am b ob q]at z;cases z
 have hd:∀{b o},(∀φ,o≠ .ext φ)->H' b=some o->hid cs2 H' b=some o:=λ{b o} n z=>by
  rwa[dD (y4 hx z n)]
 have ft:∀{b o},H8 b=some o->(∀φ,o≠ .ext φ)->b≠lc->¬(b=f\/b=c'\/b=et\/b=er\/b=lc):=λ{b o} z n3 n4 h=>by
  rcases h with h|h|h|h|h
  .rw[h,d7]at z;cases z;exact n3 _ M
  .rw[h,ez]at z;cases z;exact n3 _ M
  .rw[h,am _ _ ca]at z;cases z
  .rw[h,am _ _ cb]at z;cases z
  .exact n4 h
 have m9:Mv lc F8 F' H8 (hid cs2 H'):=λb o n1 n2 _ n4 z=>by
  let{h1,h2}:=f0 b o n1 (ft z n2 n4) (sm _ _ z);exact{hd n2 h1,h2}
 let{cc,f4}:=f0 _ _ gm (ft c5 (λ_ z=>nomatch z) λz=>by rw[z,c9]at c5;cases c5) (sm _ _ c5);have cc:=hd (o:= .tbl _) (λ_ z=>nomatch z) cc;have f6:JD K t (hid cs2 H') a F' x:=A9.keep (λb hb=>by
  rw[dD];cases q:cs2.lookup b with
  |none=>rfl
  |some ob=>exact Kh hb<|gq b<|by rcases look b ob q with⟨h,_⟩|⟨h,_⟩<;>simp[h]) λb xs z=>hd (λ_ z=>nomatch z) z
 have il:∀o,H8 lc=some o->(∃xs,o= .lst xs)\/∃ps,o= .tbl ps:=λo z=>by rw[c9]at z;cases z;exact .inl {_,M}
 have J9:=J8.mv f6 m9 il;have W:=W.mv m9 iq il;obtain⟨fa,cd⟩:JO t (hid cs2 H') p kd av e/\¬F' p:=by
  let{dq,fq,hq,tq}:=ev;have:=m9 p (.ins _ dq fq) c4 (λ_ z=>nomatch z) (λ_ z=>nomatch z) (λz=>by rw[z,c9]at hq;cases hq) hq;exact{⟨dq,fq,this.1,tq⟩,this.2}
 have O:Pg t (hid cs2 H') F' x.st kd n av e r2 g2 v2 (ts2.filter λe=>gS c0 e.kv) ts2 a2 R2:=
  {{hd (λ_ z=>nomatch z) gt,f2.1},{hd (λ_ z=>nomatch z) gz,f2.2},λe he=>{hd (λ_ z=>nomatch z) (f1 e he).1,(f1 e he).2},{U9.rest.imp id λzz=>by let{q,h1,{dx,fs,hq,tq},h3}:=zz;exact{q,h1,{dx,fs,hd (λ_ z=>nomatch z) hq,tq},h3},U9.less,U9.nd,U9.me,U9.tell,U9.far}}
 have iL:=hd (o:= .lst _) (λ_ z=>nomatch z) iL;have tL:∀e∈h4,hid cs2 H' e.p=some (.tup [.int e.k,e.v]):=λe he=>hd (λ_ z=>nomatch z) (tL e he);generalize hid cs2 H'=H9 at m9 cc f6 J9 W fa O iL tL⊢;clear S sm hx nl hd ft i1 i2 A9 f0 gq gt gz f1 f2 U9 am ca cb look no ev d7 ez c9 c5 c4 dd de df gm J8 m9 f6;have a0:=J9.A.rise;have Y:=J9.A.ok.ks;have kt:∀k∈x.ks,k<10^40:=λk hk=>(J9.kb k<|mem_keys.mpr<|(Y k).mp hk).2;let{h5,h6}:=qc a0 Y W.U O.U;have b1:=rY a0 Y kt be W.U;have b2:=rY a0 Y kt be O.U;let{dp,dr}:=BB (K:=K) J9.iv (ts:=h4) (ts2:=ts1) (A:=λk=>hN kd av e k=true) (Jb:=λk=>R2 k=false) (by rw[eL];exact O.U.me) (eL.trans h5.symm);refine{_,M,_,M,lc,g1,_,_,M,M,.inl {Dv.of iL,Dv.of W.li.1},dp,dr tL λu hu=>(W.rw u hu).1,?_};refine{_,M,db ?_};refine{_,M,r2,_,_,_,M,M,JE.of O.tu.1,M,v2,a2,e,kd,R2,M,O.to,b2,λir b6=>{_,M,v1,a1,e,kd,R1,M,W.to.same b6,b1,λfb Z=>?_}};rw[p8 h6];refine{M,_,M,Fq M ?_};have Z:=b6.trans Z;have bo:=J9.same Z;have W:=W.same Z;have O:=O.same Z;have dt:=Z _ _ cc;have dv:=fa.same Z;clear b6 Z J9 fa cc iL tL eL dp dr h6;unfold wx;dsimp only;refine cP (λB H=>∃(D:G')(us:List Tp),B=s35 sc a d p c0 n lc f g1 v1 r2 [some (.ref D),none,none]/\IA fb H/\H D=some (.lst<|us.map λe=>V.ref e.p)/\¬F' D/\us.map Tp.kv=(ts1.map Tp.kv).filter (gS c0)/\∀e∈us,H e.p=some (.tup [.int e.k,e.v])/\¬F' e.p) (λnx go=>?_)<|λB h7 w=>?_
 .have j8:ts1.length<=301:=by
   have:=eh W.U.nd (S:=x.st.kv.map (·.1)) λz hz=>by
    let{e,he,rfl}:=Qj.mp hz;exact QK (f:=Prod.fst) ((W.U.me e.k e.v).mp<|QK (f:=Tp.kv) he).1
   rw[Q0,Q0]at this;have:=bo.le;lia
  refine{_,M,g1,M,{_,Dv.of W.li.1},λD hD=>?_};refine yD (K:=K) (a:=g1) (xs:=ts1.map λe=>V.ref e.p) (λi τ ys H'=>(∃w0 w1,τ=w0::w1::s35 sc a d p c0 n lc f g1 v1 r2 [none,none,none])/\IA fb H'/\∃ws:List Tp,ys=ws.map (λe=>V.ref e.p)/\ws.map Tp.kv=((ts1.take i).map Tp.kv).filter (gS c0)/\∀e∈ws,e.p≠D/\fb e.p=none/\H' e.p=some (.tup [.int e.k,e.v]))
   {{_,_,M},ak hD,[],M,M,λe he=>by cases he} (λi τ ys H' _ w=>Dv.of<|w.2.1 _ _ W.li.1) (λi y τ ys H' hy w ce=>?_) (λτ ys H' w ce=>?_)
  .let{{w0,w1,rfl},sT,ws,ey,ek,ew}:=w;have hn:=(Q2.mp hy).1;rw[Ql]at hy;let{e0,ee,rfl}:=QI.mp hy;have hm:=Q1 ee;have te:=sT _ _ (W.rw e0 hm).1;let{j,ej}:=bo.iv _ ((W.U.me e0.k e0.v).mp<|QK (f:=Tp.kv) hm).1;have ej:e0.v= .int j:=ej;rw[ej]at te;have m5:=Qf c0 (show(5:Int)≠0 by decide);have st:((ts1.take<|i+1).map Tp.kv).filter (gS c0)=((ts1.take i).map Tp.kv).filter (gS c0)++(if gS c0 e0.kv=true then[e0.kv]else[]):=by
    rw[Qt,ee,Q9,Qx];congr 1;cases c:gS c0 e0.kv<;>simp[c]
   have eg:gS c0 e0.kv=decide (0<(e0.k+j+c0/5)%(2+c0%5)):=by
    unfold gS Tp.kv;rw[ej];rfl
   refine{e0.p,_,M,JE.of te,M,_,_,M,_,_,M,M,?_};refine{_,M,_,M,_,_,M,M,_,M,_,_,M,M,{(_),(_)},_,_,M,M,_,M,_,_,M,M,(by show(0:Int)<5;decide),_,_,M,M,_,_,M,M,(by show(0:Int)<2+c0%5;lia),_,_,M,M,_,M,?_};rw[<-eg];have wl:ws.length<=ts1.length:=by
    have:=Ks List.length ek;have h2:=Qn (gS c0) ((ts1.take i).map Tp.kv);rw[Q0]at this;rw[Q0,Qd]at h2;lia
   cases c:gS c0 e0.kv with
   |true=>
    rw[c,Kd M]at st;refine cK ?_;refine{_,M,_,M,(by show 2<=sizeLine;decide),λp2 cg=>?_};have pd:p2≠D:=λz=>by rw[z,ce]at cg;cases cg
    refine IW.mk hn (by rwa[ac pd.symm]) (a8<|by rw[ey,Q0];lia) {{_,_,M},bJ (sT.trans<|ak cg) hD,ws++ [⟨p2,e0.k,e0.v⟩],by rw[ey,Q9];rfl,?_,λf hf=>?_}
    .rw[Q9,ek,st];rfl
    .rcases Q4.mp hf with hf|hf
     .let{g1,g2,g3}:=ew f hf;exact{g1,g2,by rw[ac g1];exact ak cg _ _ g3}
     .rw[Qa.mp hf];exact{pd,none_of sT cg,by rw[ac pd,ej];exact ag}
   |false=>
    rw[c]at st;exact db {ce,_,(),M,(),{_,_,M},sT,ws,ey,by rw[ek,st];simp,ew}
  .let{_,sT,ws,ey,ek,ew}:=w;rw[Q0,QF]at ek;have oD:=bo.A.out hD;exact go _ _ {D,ws,M,sT,by rw[ce,ey],oD,ek,λe he=>{(ew e he).2.2,bo.A.out (ew e he).2.1}}
 let{D,us,rfl,bp,hD,nD,eD,tD}:=w;have ci:=bo.same bp;have W:=W.same bp;have O:=O.same bp;have G:=bp _ _ dt;have dy:=dv.same bp;clear bp bo dt dv;refine cP (λB H=>∃(F2:Li)(ps:Md)(r3 g3:G')(v3:V)(cj:List Tp)(a3:V)(R3:Ma),B=s35 sc a d p c0 n lc f g1 v1 r2 [some (.ref D),some (.ref r3),none]/\Jh K t H a d F2 x/\JO t H p kd av e/\¬F2 p/\H t.bS=some (.tbl ps)/\¬F2 t.bS/\TriplesOk ps.toList/\codeAmong {534,60,534,93} ps.toList=none/\Pg t H F2 x.st kd n av e r1 g1 v1 ts1 ts1 a1 R1/\Pg t H F2 x.st kd n av e r2 g2 v2 (ts2.filter λe=>gS c0 e.kv) ts2 a2 R2/\
  H D=some (.lst<|us.map λe=>V.ref e.p)/\¬F2 D/\(∀e∈us,H e.p=some (.tup [.int e.k,e.v])/\¬F2 e.p)/\Pg t H F2 x.st kd n av e r3 g3 v3 [] cj a3 R3) (λnx go=>?_)<|λB h8 w=>?_
 .refine{_,M,_,M,_,M,_,G,trivial,M,λcl c' g8 pm f3 bw nf nc c3=>?_};obtain rfl:=Fv bw;refine vM G nf nc c3 λH' hf hc bq k=>?_;have tb:∀{H:Hp}{ps:Md},H t.bS=some (.tbl ps)->∀o,H t.bS=some o->(∃xs,o= .lst xs)\/∃ps,o= .tbl ps:=λ{H ps} h o z=>by rw[h]at z;cases z;exact .inr {_,M}
  have an:∀{g:G'}{xs:Lf},h7 g=some (.lst xs)->g≠t.bS:=λ{g xs} h z=>by rw[z,G]at h;cases h
  have m1:Mv t.bS F' F' h7 H':=λb o n _ _ nb e=>{k b o nb e,n};have J':=ci.but f4 (λxs z=>by rw[G]at z;cases z) (λz=>by have:=ci.di;rw[z,G]at this;cases this) k;have ck:JO t H' p kd av e:=by
   let{dq,fq,hq,tq}:=dy;exact{dq,fq,k _ _ (λz=>by rw[z,G]at hq;cases hq) hq,tq}
  refine{a,p,n,kd,av,e,F',x,.ref f3,M,J'.A,ck,on,cd,(),(),by have:=J'.le;lia,by have:=J'.kl;lia,J'.k0,J'.iv,
   .inr {f3,_,_,_,M,zy hf,⟨hf,hc⟩,λb hb=>?_,λH3 F3 r3 g3 v3 cj a3 R3 A3 fe j9 is h9 iu ha U3 I3=>?_}}
  .rcases hb with rfl|rfl
   .exact ci.A.out nf
   .exact ci.A.out nc
  have ft:∀{b o},H' b=some o->(∀φ,o≠ .ext φ)->¬(b=f3\/b=c'):=λ{b o} z n3 h=>by
   rcases h with h|h
   .rw[h,hf]at z;cases z;exact n3 _ M
   .rw[h,hc]at z;cases z;exact n3 _ M
  have m2:Mv t.bS F' F3 H' H3:=λb o n h1 _ _ e=>fe b o n (ft e h1) e;have M':=m1.trans m2;let{iw,ix}:=fe _ _ f4 (ft bq λ_ z=>nomatch z) bq;have J3:=J'.mv A3 m2 (tb bq);obtain⟨iy,hg⟩:JO t H3 p kd av e/\¬F3 p:=by
   let{dq,fq,hq,tq}:=ck;have:=fe _ _ cd (ft hq λ_ z=>nomatch z) hq;exact{⟨dq,fq,this.1,tq⟩,this.2}
  let{j0,j1}:=M' D (.lst _) nD (λ_ z=>nomatch z) (λ_ z=>nomatch z) (an hD) hD;refine go _ _ {F3,_,r3,g3,v3,cj,a3,R3,M,J3,iy,hg,iw,ix,trivial,M,W.mv M' (an W.li.1)<|tb G,O.mv M' (an O.li.1)<|tb G,j0,j1,λe he=>?_,⟨is,ha.1⟩,{by rw[show(cj.filter λ_=>false)=[] from ZA.mpr λ_ _=>Qg]at h9;exact h9,ha.2},iu,U3};exact M' e.p (.tup _) (tD e he).2 (λ_ z=>nomatch z) (λ_ z=>nomatch z) (λz=>by have:=(tD e he).1;rw[z,G]at this;cases this) (tD e he).1
 let{F2,ps,r3,g3,v3,cj,a3,R3,rfl,dc,dz,a6,e4,e5,ff,fg,W,O,e8,e9,cm,P3}:=w;clear ci dy G hD nD tD f4 cd;have a0:=dc.A.rise;have Y:=dc.A.ok.ks;let{_,hh}:=qc a0 Y W.U P3.U;have b3:=rY a0 Y kt be P3.U;refine{_,M,r3,_,_,_,M,M,JE.of P3.tu.1,M,?_};refine{Qh _,λl0 hj=>?_};have b9:=ak (o:= .lst []) hj;have fi:upd h8 l0 (.lst []) l0=some (.lst []):=ag;generalize upd h8 l0 (.lst [])=ja at b9 fi⊢;refine{g3,l0,[],M,M,Dv.of<|b9 _ _ P3.li.1,Dv.of fi,_,M,db ?_};refine{_,M,r3,_,_,_,M,M,JE.of<|b9 _ _ P3.tu.1,M,v3,a3,e,kd,R3,M,P3.to.same b9,b3,λir b6=>{_,M,v1,a1,e,kd,R1,M,(W.to.same b9).same b6,b1,λhl Z=>?_}};rw[p8 hh];refine{M,_,M,Fq M ?_};have bb:=(b9.trans b6).trans Z;have bh:=dc.same bb;have O:=O.same bb;have ap:=bb _ _ e4;have cn:=dz.same bb;have ea:=bb _ _ e8;have eb:∀e∈us,hl e.p=some (.tup [.int e.k,e.v]):=λe he=>bb _ _ (cm e he).1;have ho:∀e∈us,¬F2 e.p:=λe he=>(cm e he).2;clear b9 b6 Z bb dc e4 dz e8 cm P3 b3 hh W fi hj;unfold wx;dsimp only;refine{_,M,_,M,a,p,10,kd,av,e,F2,x,.non,M,bh.A,cn,on,a6,(),(),by have:=bh.le;lia,by have:=bh.kl;lia,bh.k0,bh.iv,.inl {M,λco F3 r4 g4 v4 hp a4 R4 hs ax bt U4=>?_}};have cp:=bh.mv (lc:=t.bS) hs (Mv.of ax) λo z=>by rw[ap]at z;cases z;exact .inr {_,M}
 have P4:Pg t co F3 x.st kd 10 av e r4 g4 v4 hp hp a4 R4:={⟨bt.tu,bt.nr.2⟩,⟨bt.li,bt.ng.2⟩,bt.rw,U4};have O:=O.mv (Mv.of (lc:=t.bS) ax) (λz=>by have:=O.li.1;rw[z,ap]at this;cases this) λo z=>by rw[ap]at z;cases z;exact .inr {_,M}
 obtain⟨ec,cr⟩:JO t co p kd av e/\¬F3 p:=by
  let{dq,fq,hq,tq}:=cn;exact{{dq,fq,(ax _ _ a6 hq).1,tq},(ax _ _ a6 hq).2}
 let{I,ed}:=ax _ _ e5 ap;let{d0,ef}:=ax _ _ e9 ea;have d3:∀e∈us,co e.p=some (.tup [.int e.k,e.v])/\¬F3 e.p:=λe he=>ax _ _ (ho e he) (eb e he);clear bh cn ap ea eb ho hs ax bt U4 e9 e5 a6;refine{_,M,_,M,_,I,ff,fg,λcl c' g8 pm f5 bw nf nc c3=>?_};obtain rfl:=Fv bw;refine vM I nf nc c3 λH' hf hc bq k=>?_;have tb:∀{H:Hp}{ps:Md},H t.bS=some (.tbl ps)->∀o,H t.bS=some o->(∃xs,o= .lst xs)\/∃ps,o= .tbl ps:=λ{H ps} h o z=>by rw[h]at z;cases z;exact .inr {_,M}
 have an:∀{g:G'}{xs:Lf},co g=some (.lst xs)->g≠t.bS:=λ{g xs} h z=>by rw[z,I]at h;cases h
 have m1:Mv t.bS F3 F3 co H':=λb o n _ _ nb e=>{k b o nb e,n};have J':=cp.but ed (λxs z=>by rw[I]at z;cases z) (λz=>by have:=cp.di;rw[z,I]at this;cases this) k;have ck:JO t H' p kd av e:=by
  let{dq,fq,hq,tq}:=ec;exact{dq,fq,k _ _ (λz=>by rw[z,I]at hq;cases hq) hq,tq}
 refine{a,p,10,kd,av,e,F3,x,.ref f5,M,J'.A,ck,on,cr,(),(),by have:=J'.le;lia,by have:=J'.kl;lia,J'.k0,J'.iv,
  .inr {f5,_,_,_,M,zy hf,⟨hf,hc⟩,λb hb=>?_,λH5 F5 r5 g5 v5 fm a5 R5 A5 ht j2 hv hw i3 fn U5 I5=>?_}}
 .rcases hb with rfl|rfl
  .exact cp.A.out nf
  .exact cp.A.out nc
 have ft:∀{b o},H' b=some o->(∀φ,o≠ .ext φ)->¬(b=f5\/b=c'):=λ{b o} z n3 h=>by
  rcases h with h|h
  .rw[h,hf]at z;cases z;exact n3 _ M
  .rw[h,hc]at z;cases z;exact n3 _ M
 have m2:Mv t.bS F3 F5 H' H5:=λb o n h1 _ _ e=>ht b o n (ft e h1) e;have M':=m1.trans m2;have J5:=J'.mv A5 m2 (tb bq);have j3:=(M' D (.lst _) ef (λ_ z=>nomatch z) (λ_ z=>nomatch z) (an d0) d0).1;have j4:∀e∈us,H5 e.p=some (.tup [.int e.k,e.v]):=λe he=>by
  have h0:=(d3 e he).1;exact(M' e.p (.tup [.int e.k,e.v]) (d3 e he).2 (λ_ z=>nomatch z) (λ_ z=>nomatch z) (λz=>by rw[z,I]at h0;cases h0) h0).1
 have O:=O.mv M' (an O.li.1) (tb I);have P4:=P4.mv M' (an P4.li.1) (tb I);have i4:H5 g5=some (.lst<|fm.map λe=>V.ref e.p):=hw.trans (Ks (λl:List Tp=>some<|HO.lst<|l.map λe=>V.ref e.p)<|List.filter_eq_self.mpr λ_ _=>M);have P5:Pg t H5 F5 x.st kd 10 av e r5 g5 v5 fm fm a5 R5:={⟨hv,fn.1⟩,⟨i4,fn.2⟩,i3,U5};have a0:=J5.A.rise;have Y:=J5.A.ok.ks;let{j5,j6}:=qc a0 Y P4.U P5.U;have b4:=rY a0 Y kt be P4.U;have b5:=rY a0 Y kt be P5.U;have iv:=J5.iv;clear m1 m2 M' J' ck hf hc bq k A5 ht j2 hv hw i4 i3 fn U5 I5 ft cp ec I cr ed d0 d3 ef tb J5 an;have i5:∀{ts:List Tp}{H:Hp}{F:Li}{n:Int}{v a':V}{R:Ma},JS t H F x.st kd n av e v ts a' R->∀e∈ts,∃i:Int,e.v= .int i:=λ{ts H F n v a' R} U e he=>iv _ ((U.me e.k e.v).mp<|QK (f:=Tp.kv) he).1;let{i6,i7}:=ug (K:=K) (ts:=ts2.filter λe=>gS c0 e.kv) (ts2:=us) (λe he=>i5 O.U e (QA.mp he).1) (by rw[eD,h5,List.filter_map];rfl);let{ia,ib}:=ug (K:=K) (i5 P5.U) j5.symm;refine{_,M,r2,_,_,_,M,M,JE.of O.tu.1,M,_,M,g2,D,_,_,M,M,.inl {Dv.of O.li.1,Dv.of j3},i6,i7 (λe he=>(O.rw e (QA.mp he).1).1) j4,?_};refine{_,M,cK ?_};refine{_,M,r5,_,_,_,M,M,JE.of P5.tu.1,M,_,M,r4,_,_,_,M,M,JE.of P4.tu.1,M,g5,g4,_,_,M,M,.inl {Dv.of P5.li.1,Dv.of P4.li.1},ia,ib (λu hu=>(P5.rw u hu).1)<|λu hu=>(P4.rw u hu).1,_,M,cK ?_};refine{_,M,r5,_,_,_,M,M,JE.of P5.tu.1,M,v5,a5,e,kd,R5,M,P5.to,b5,λH6 s6=>{_,M,r4,_,_,_,M,M,JE.of<|s6 _ _ P4.tu.1,M,v4,a4,e,kd,R4,M,P4.to.same s6,b4,λH7 s7=>?_}};rw[p8 j6];refine{M,?_};rw[Km M];exact q _
end
end SW
namespace ZK
open PySem PySem.W SW L2
def fM{P:Params}{x qual:Str}{st:Stmt}{a:G'}{kV G pm z ct:Lg}{I:Lz}(l:(K P).lookup a=some (f<|D x qual st N kV G pm I z ct):=by kernel_rfl)(c:codeIn (K P) z qual=true:=by kernel_rfl)(k:keepIn (K P) (.ref a)=true:=by kernel_rfl):IV (K P) x qual st a (D x qual st N kV G pm I z ct):=GV l c k
def nA{P:Params}{C:G'}{x:Str}(h:findIn (K P) (.ref C) x=some none:=by kernel_rfl):IB (K P) C x:=h
def fT{P:Params}{x qual:Str}{st:Stmt}{a b:G'}{kV G pm z ct:Lg}{I:Lz}(l:(K P).lookup a=some (f<|D x qual st (R b) kV G pm I z ct):=by kernel_rfl)(c:codeIn (K P) z qual=true:=by kernel_rfl)(k:keepIn (K P) (.ref a)=true:=by kernel_rfl):EO (K P) x qual st b a (D x qual st (R b) kV G pm I z ct):=zn l c k
def fU{P:Params}{x qual:Str}{st:Stmt}{a b:G'}{kV G pm z ct:Lg}{I:Lz}(l:(K P).lookup a=some (f<|D x qual st (R b) kV G pm I z ct):=by kernel_rfl)(c:codeIn (K P) z qual=true:=by kernel_rfl)(k:keepIn (K P) (.ref a)=true:=by kernel_rfl):KR (K P) x qual st a (D x qual st (R b) kV G pm I z ct):=(zn l c k).1
def Hc{P:Params}:(K P).lookup 221=some {(T u6),none,.seq #[(.int 0 463),(.int 65536 464)] 0, #[]}:=by kernel_rfl
def Hb{P:Params}:(K P).lookup 248=some {(T u6),none,.seq #[(.int 0 498),N] 0, #[]}:=by kernel_rfl
def Ha{P:Params}:(K P).lookup 275=some {(T u6),none,.seq #[N,(.int 0 532)] 0, #[]}:=by kernel_rfl
def EM{P:Params}:(K P).lookup 295=some {(T u6),none,.seq #[(.int 10 558),N] 0, #[]}:=by kernel_rfl
def cKlaw{P:Params}:zM (K P) 811 809:=λ_ k=>have e:=k 811 (c [(S "law" 1237),(S "law" 1238),(F 1239),(I 518),(I 1),(I 0),(I 0),(I 3),(R 808),(Jb true),(I 181),(R 809),N,N,N,(R 810),(I 1240),(I 518),(F 1241)]) (by kernel_rfl);{_,_,_,_,_,_,_,_,_,e,M,M,M,M,M,M,M,M,(_)}
end ZK
namespace SW
open PySem L2
set_option maxHeartbeats 0
variable{α:Type}{YP:World->Heap->Prop}
def us1{us:List α}(hl:us.length=1):∃z,us=[z]:=by rcases us with _|⟨z,_|⟨y,t⟩⟩<;>first|exact{_,M}|simp at hl
def us2{us:List α}(hl:us.length=2):∃z G,us=[z,G]:=by rcases us with _|⟨z,_|⟨G,_|⟨y,t⟩⟩⟩<;>first|exact{_,_,M}|simp at hl
def us3{us:List α}(hl:us.length=3):∃z G I,us=[z,G,I]:=by rcases us with _|⟨z,_|⟨G,_|⟨I,_|⟨y,t⟩⟩⟩⟩<;>first|exact{_,_,_,M}|simp at hl
def us4{us:List α}(hl:us.length=4):∃z G I O,us=[z,G,I,O]:=by rcases us with _|⟨z,_|⟨G,_|⟨I,_|⟨O,_|⟨y,t⟩⟩⟩⟩⟩<;>first|exact{_,_,_,_,M}|simp at hl
open ZK in
def txt{P:Params}{h:Heap}{mg:Lr}(X:(ZK.K P).In h)(G:h.Ns mainGlobals mg):Txt (ZK.K P) mg ZK.t:=by
 constructor
 case g_BITS=>exact{332,Zt X G<|by kernel_rfl}
 case g_PLACES=>exact{334,Zt X G<|by kernel_rfl}
 case g_STRETCHES_A_KEY=>exact{556,Zt X G<|by kernel_rfl}
 case g_MOST_IN_LEAF=>exact{609,Zt X G<|by kernel_rfl}
 case g_LEAST_IN_TWO=>exact{611,Zt X G<|by kernel_rfl}
 case g_LEAST_SIZE=>exact{785,Zt X G<|by kernel_rfl}
 case g_GREATEST_SIZE=>exact{787,Zt X G<|by kernel_rfl}
 all_goals first
  |exact ZK.fM
  |exact Zt X G<|by kernel_rfl
  |exact{(by kernel_rfl),(by kernel_rfl),(by kernel_rfl)}
  |exact .all λus hl=>by let{_,_,rfl}:=us2 hl;rfl
  |exact ZK.nA
  |exact{(by kernel_rfl),(by kernel_rfl),(by kernel_rfl),(by kernel_rfl)}
  |exact .all λus hl=>by let{_,rfl}:=us1 hl;rfl
  |exact Cq (by kernel_rfl) (by kernel_rfl) (by kernel_rfl)<|λz=>Kh z (_)
  |exact .all λus hl=>by let{_,_,_,rfl}:=us3 hl;rfl
  |exact PySem.W.mg_none_of X G<|by kernel_rfl
  |exact{{_,_,_,_,_,_,_,_,_,_,_,_,_,_,{_}},{[ZK.t.bK],M},(by kernel_rfl),(by kernel_rfl),(by kernel_rfl),(by kernel_rfl)}
  |exact ZK.fU
  |exact .all λus hl=>by let{_,_,_,_,rfl}:=us4 hl;rfl
  |exact Cq (by kernel_rfl) (by kernel_rfl) (by kernel_rfl)<|λ_=>M
  |exact eK (ds:=[]) 3 M (fT (a:=228)) Hc λ_ _ _ _ _ _ us hl=>by let{_,_,_,rfl}:=us3 hl;exact{_,M,M}
  |exact eK (ds:=[]) 3 M (fT (a:=255)) Hb λ_ _ _ _ _ _ us hl=>by let{_,_,_,rfl}:=us3 hl;exact{_,M,M}
  |exact eK (ds:=[]) 3 M (fT (a:=282)) Ha λ_ _ _ _ _ _ us hl=>by let{_,_,_,rfl}:=us3 hl;exact{_,M,M}
  |exact eK (ds:=[]) 4 M (fT (a:=300)) EM λ_ _ _ _ _ _ us hl=>by let{_,_,_,_,rfl}:=us4 hl;exact{_,M,M}
  |exact{_,eK (ds:=[(.int 0 463),(.int 65536 464)]) 1 M (fT (a:=228)) Hc λ_ _ _ _ _ _ us hl=>by let{_,rfl}:=us1 hl;exact{_,M,M},(.cons {_,M}<|.cons {_,M} .nil)}
  |exact{_,eK (ds:=[(.int 0 498),N]) 1 M (fT (a:=255)) Hb λ_ _ _ _ _ _ us hl=>by let{_,rfl}:=us1 hl;exact{_,M,M},(.cons {_,M}<|.cons M .nil)}
  |exact{_,eK (ds:=[(.int 0 532)]) 2 M (fT (a:=282)) Ha λ_ _ _ _ _ _ us hl=>by let{_,_,rfl}:=us2 hl;exact{_,M,M},(.cons {_,M} .nil)}
  |exact{_,eK (ds:=[(.int 10 558),N]) 2 M (fT (a:=300)) EM λ_ _ _ _ _ _ us hl=>by let{_,_,rfl}:=us2 hl;exact{_,M,M},(.cons {_,M}<|.cons M .nil)}
  |exact{_,eK (ds:=[(.int 65536 464)]) 2 M (fT (a:=228)) Hc λ_ _ _ _ _ _ us hl=>by let{_,_,rfl}:=us2 hl;exact{_,M,M},(.cons {_,M} .nil)}
  |exact{_,eK (ds:=[N,(.int 0 532)]) 1 M (fT (a:=282)) Ha λ_ _ _ _ _ _ us hl=>by let{_,rfl}:=us1 hl;exact{_,M,M},(.cons M<|.cons {_,M} .nil)}
  |exact{_,eK (ds:=[N]) 2 M (fT (a:=255)) Hb λ_ _ _ _ _ _ us hl=>by let{_,_,rfl}:=us2 hl;exact{_,M,M},(.cons M .nil)}
  |exact{_,eK (ds:=[N]) 3 M (fT (a:=300)) EM λ_ _ _ _ _ _ us hl=>by let{_,_,_,rfl}:=us3 hl;exact{_,M,M},(.cons M .nil)}
  |exact{_,{_,M},HQ {_,M} M (fT (a:=300)) EM λ_ _ _ _ _ _ _ _ _=>{_,M,M}}
  |exact{{_,_,_,_,_,_,_,_,_,_,_,_,_,_,{_}},{[],M},(by kernel_rfl),(by kernel_rfl),(by kernel_rfl),(by kernel_rfl)}
  |exact{{_,M,ZK.cKlaw},λ_ k=>have e:=k 4 ({(T "module"),(some 0),.plain, #[]}) (by kernel_rfl);{4,_,Zt X G (by kernel_rfl),(_),(_),(_),e,M,M,M}}
def walk{l:PySem.W.OpenLaw}{q:Ln}{loose:Lq}{XP:(Str->Option Value)->Heap->Prop}{d:DefRec}{Pt:G'}{K:Params->Jc}(U:l.most=some 63)(z:d.params.defaults=[])
  (Y:∀(w:World)(h:Heap),YP w h->(K w.params).In h/\h.get? Pt=some (PySem.W.tabObj #[])/\isCodeTable h Pt) (I:∀w:World,(K w.params).lookup Pt=none) (hd:d.name="law")
  (F:∀(w:World)(mg:Str->Option Value)(h:Heap),(K w.params).In h->h.Ns mainGlobals mg->∃t,Txt (K w.params) mg t/\t.bS=Pt):
  PySem.W.WalkO q loose XP YP l.row.toRowW d [] (λf vs=>PySem.call f vs):=by
 refine L2.walk_ofT (n:=63) (k:=9) (x:=lq) (ps:= #[]) (sp:=λw=>Bu (K w.params) Pt) U (_) z {M,(_),(_)} Y I (λw mg fa h Z G O=>?_) λ_ _ a ns hl hO hS=>{a,ns,M,hS,hl,hO.1,λ_=>M};let{t,T,eP}:=F w mg h Z G;subst eP;have e:=O.symm.trans ((Ks mg hd).trans T.Iq);cases e;let{oc,od,kV,a0,pm,an,a1,ct,a2,e1,lk,a3}:=T.Ij.ex;refine{t.xn,λs u=>?_,λbase _ _=>Gu T};rw[e1];exact .of_eq M
end SW
open PySem PySem.W PyProof.Rows
set_option maxRecDepth 100000 in
set_option maxHeartbeats 0 in
theorem PySem.Challenge.cw_staywalk_k35_a_sieve_holds : PySem.Challenge.rw_staywalk_k35_a_sieve.Holds := by
 w_on
 refine holds_law ZK.said λsaid=>?_;refine holds_open (q:=ZK.q) (loose:=ZK.L) (Xt:=λs=>xlAt ZK.q [] s&&recOk (RowW.records<|OpenRow.toRowW<|OpenLaw.row PySem.Challenge.rw_staywalk_k35_a_sieve) s) (XP:=XL ZK.q []) (Yf:=Hook.obs ZK.H) (Ya:=Hook.val ZK.H) (YP:=Hook.says ZK.H) ZK.left (Hook.of ZK.H) (Hook.keeps ZK.H) (λs e=>xl_of s (QE.mp e).1) XL.keeps {_} {_} {_} (λs e=>recFacts_of (QE.mp e).2) {_} (by first|assumption|decide+kernel) ∅ ⟨M,M,M,M,M,∅⟩ ?hw ?hc
 (case hw=>w_witness2)
 exact SW.walk (l:=PySem.Challenge.rw_staywalk_k35_a_sieve) M M (λw h Y=>L2.kT_of (kIn_of Y) (by kernel_rfl)<|ZK.cKlaw (P:=w.params)) (λw=>by kernel_rfl) M λw mg h KX G=>⟨_,SW.txt KX G,M⟩
#print axioms PySem.Challenge.cw_staywalk_k35_a_sieve_holds
