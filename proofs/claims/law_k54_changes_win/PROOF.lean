import PyProof.Rows.All
import PySem.Challenge.RW_staywalk_k54_changes_win
import KE.KFromBytes
import KE.KIntText
import KE.KPairComp
import KE.KSortTup
import KE.KIsAll
import KE.KDictSum
import KE.KRevIter
import KE.KRevSl
import KE.KEqDict
import KE.LcSums
import KE.KDictOf
set_option Elab.async false
set_option linter.all false
set_option maxRecDepth 100000
noncomputable section
local macro_rules | `(()) => `(by lia)
local macro_rules | `((_)) => `(by decide)
local macro_rules | `(∅) => `(by decide+kernel)
local macro_rules | `({_}) => `(by rfl)
abbrev M:=@rfl
set_option genSizeOf false
set_option maxHeartbeats 0
abbrev Q0:=@List.length_map
abbrev Q1:=@List.mem_of_getElem?
abbrev Q2:=@List.getElem?_eq_some_iff
abbrev Q3:=@List.getElem?_eq_getElem
abbrev Q4:=@Nat.le_refl
abbrev Q5:=@List.mem_append
abbrev Q6:=@List.length_take
abbrev Q7:=@List.mem_singleton
abbrev Q8:=@List.length_append
abbrev Q9:=@List.mem_map
abbrev Qa:=@Array.length_toList
abbrev Qb:=@List.mem_cons_self
abbrev Qc:=@Int.emod_lt_of_pos
abbrev Qd:=@List.mem_cons_of_mem
abbrev Qe:=@Bool.false_ne_true
abbrev Qf:=@Int.emod_nonneg
abbrev Qg:=@List.map_append
abbrev Qh:=@List.mem_cons
abbrev Qi:=@List.size_toArray
abbrev Qj:=@Nat.zero_le
abbrev Qk:=@List.getD_eq_getElem?_getD
abbrev Ql:=@List.pairwise_append
abbrev Qm:=@List.append_assoc
abbrev Qn:=@List.getElem?_map
abbrev Qo:=@List.length_cons
abbrev Qp:=@List.length_filter_le
abbrev Qq:=@List.take_add_one
abbrev Qr:=@PySem.F.plainAttrs_list
abbrev Qs:=@List.map_map
abbrev Qt:=@List.map_cons
abbrev Qu:=@List.mem_filter
abbrev Qv:=@List.take_of_length_le
abbrev Qw:=@List.mem_append_right
abbrev Qx:=@Array.getElem?_toList
abbrev Qy:=@Nat.lt_of_lt_of_le
abbrev Qz:=@Nat.le_trans
abbrev QA:=@List.getElem?_set
abbrev QB:=@List.take_length
abbrev QC:=@List.mem_of_mem_take
abbrev QD:=@PySem.F.plainAttrs_dict
abbrev QE:=@List.filter_append
abbrev QF:=@List.getElem_of_mem
abbrev QG:=@List.take_append_of_le_length
abbrev QH:=@List.length_drop
abbrev QI:=@Bool.and_eq_true
abbrev QJ:=@Int.toNat_natCast
abbrev QK:=@Nat.ne_of_lt
abbrev QL:=@Bool.and_eq_true_iff
abbrev QM:=@List.take_append_drop
abbrev QN:=@Array.toList_append
abbrev QO:=@List.length_set
abbrev QP:=@List.pairwise_map
abbrev QQ:=@List.nodup_cons
abbrev QR:=@List.all_eq_true
abbrev QS:=@Nat.max_eq_right
abbrev QT:=@List.getElem?_append_left
abbrev QU:=@Int.ne_of_gt
abbrev QV:=@Bool.eq_false_iff
abbrev QW:=@List.getElem?_append_right
abbrev QX:=@List.pairwise_iff_getElem
abbrev QY:=@List.extract_eq_take_drop
abbrev QZ:=@List.length_singleton
abbrev Z0:=@List.nodup_nil
abbrev Z1:=@List.drop_zero
abbrev Z2:=@PySem.F.slot_list_append
abbrev Z3:=@PySem.F.type_list_append
abbrev Z4:=@Nat.le_of_lt
abbrev Z5:=@PySem.W.kia_one
abbrev Z6:=@Int.eq_ofNat_of_zero_le
abbrev Z7:=@List.not_mem_nil
abbrev Z8:=@List.map_take
abbrev Z9:=@List.map_congr_left
abbrev Za:=@List.length_pos_iff
abbrev Zb:=@List.length_reverse
abbrev Zc:=@List.drop_eq_getElem_cons
abbrev Zd:=@List.pairwise_cons
abbrev Ze:=@List.mem_of_mem_eraseIdx
abbrev Zf:=@Array.toList_extract
abbrev Zg:=@Int.le_refl
abbrev Zh:=@List.pairwise_singleton
abbrev Zi:=@List.flatten_cons
abbrev Zj:=@List.append_nil
abbrev Zk:=@Nat.min_eq_left
abbrev Zl:=@List.flatten_append
abbrev Zm:=@List.mem_map_of_mem
abbrev Zn:=@Option.map_eq_some_iff
abbrev Zo:=@List.drop_eq_nil_of_le
abbrev Zp:=@Nat.le_succ
abbrev Zq:=@List.getElem_mem
abbrev Zr:=@Bool.false_eq_true
abbrev Zs:=@List.length_replicate
abbrev Zt:=@PySem.F.slot_dict_pop
abbrev Zu:=@List.getElem?_eq_none_iff
abbrev Zv:=@List.ne_nil_of_length_pos
abbrev Zw:=@Nat.le_of_eq
abbrev Zx:=@List.getElem_take
abbrev Zy:=@Nat.lt_irrefl
abbrev Zz:=@List.eq_of_mem_replicate
abbrev ZA:=@Nat.lt_succ_self
abbrev ZB:=@Nat.eq_zero_or_pos
abbrev ZC:=@List.getElem?_drop
abbrev ZD:=@List.getElem?_take
abbrev ZE:=@PySem.W.mg_of
abbrev ZF:=@PySem.W.methodCall_KW
abbrev ZG:=@List.getElem_drop
abbrev ZH:=@Nat.le_succ_of_le
abbrev ZI:=@Bool.false_and
abbrev ZJ:=@List.mem_iff_getElem
abbrev ZL:=@List.lookup_cons
abbrev ZM:=@List.mem_flatMap
abbrev ZN:=@List.mem_reverse
abbrev ZO:=@List.filter_sublist
abbrev ZP:=@Option.isSome_iff_exists
abbrev ZQ:=@PySem.F.slot_dict_values
abbrev ZR:=@PySem.F.slot_list_extend
abbrev ZS:=@PySem.F.type_list_extend
abbrev ZT:=@Bool.true_and
abbrev ZU:=@List.find?_cons
abbrev ZV:=@PySem.W.callWith_K
abbrev ZW:=@Nat.pow_succ
abbrev ZX:=@Nat.mul_comm
abbrev ZY:=@Nat.add_zero
abbrev ZZ:=@List.filter_eq_nil_iff
abbrev X0:=@List.foldl_append
abbrev X1:=@List.perm_append_comm
abbrev X2:=@PySem.F.type_dict_pop
abbrev X7:=@List.filter_cons
abbrev X9:=@List.any_cons
abbrev Xa:=@List.map_drop
abbrev Xb:=@Array.toArray_toList
abbrev Xc:=@List.mem_append_left
abbrev Xd:=@Array.push_eq_append
abbrev Xe:=@List.mem_of_mem_drop
abbrev Xf:=@Bool.eq_iff_iff
abbrev Xg:=@List.length_nil
abbrev Xh:=@Int.lt_ediv_add_one_mul_self
abbrev Xi:=@Int.toNat_of_nonneg
abbrev Xj:=@Nat.lt_of_le_of_lt
abbrev Xk:=@Array.perm_iff_toList_perm
abbrev Xl:=@Int.mul_nonneg
abbrev Xm:=@List.take_sublist
abbrev Xn:=@List.getElem?_take_of_lt
abbrev Xo:=@List.sum_cons
abbrev Xp:=@List.take_nil
abbrev Xq:=@PySem.F.type_dict_values
abbrev Xr:=@List.any_eq_true
abbrev Xs:=@PySem.F.slot_dict_items
abbrev Xu:=@List.length_eq_zero_iff
abbrev Xv:=@List.getElem?_cons_succ
abbrev Xw:=@List.getElem?_set_self
abbrev Xx:=@Nat.div_div_eq_div_mul
abbrev Xy:=@Nat.zero_add
abbrev Xz:=@List.drop_of_length_le
abbrev XA:=@Option.map_some
abbrev XB:=@Nat.not_lt_zero
abbrev XC:=@List.getElem?_eq_none
abbrev XD:=@Int.mul_ediv_add_emod
abbrev XE:=@Array.getElem_push_lt
abbrev XF:=@List.pairwise_reverse
abbrev XG:=@List.getElem?_append
abbrev XH:=@List.length_eraseIdx
abbrev XI:=@List.take_take
abbrev XJ:=@List.filterMap_cons
abbrev XM:=@PySem.W.plainGet_of
abbrev XN:=@PySem.W.callWith_K0
abbrev XO:=@List.take_succ_cons
abbrev XQ:=@Int.natCast_nonneg
abbrev XR:=@Nat.lt_or_eq_of_le
abbrev XS:=@Nat.lt_of_le_of_ne
abbrev XT:=@List.eraseIdx_append_of_length_le
abbrev XU:=@Nat.ne_of_gt
abbrev XV:=@List.map_nil
abbrev XW:=@Option.isSome_map
abbrev XX:=@Int.mul_comm
abbrev XY:=@Int.le_of_lt
abbrev XZ:=@Array.toList_push
abbrev V0:=@Nat.lt_succ_of_lt
abbrev V1:=@List.map_id'
abbrev V2:=@List.filter_congr
abbrev V3:=@List.nodup_append
abbrev V4:=@Bool.not_eq_true'
abbrev V5:=@List.eraseIdxIfInBounds_toArray
abbrev V6:=@PySem.W.kat_cons
abbrev V7:=@List.mem_flatten
abbrev V8:=@Nat.min_eq_right
abbrev V9:=@Int.mul_le_mul_of_nonneg_right
abbrev Va:=@Nat.add_mul
abbrev Vb:=@Int.mul_le_mul_of_nonneg_left
abbrev Vc:=@List.of_mem_zip
abbrev Vd:=@List.nil_append
abbrev Ve:=@PySem.F.slot_dict_setdefault
abbrev Vf:=@Int.ediv_nonneg
abbrev Vg:=@PySem.W.kat_yes
abbrev Vh:=@List.mem_range
abbrev Vi:=@Int.fdiv_eq_ediv_of_nonneg
abbrev Vj:=@List.drop_drop
abbrev Vk:=@Array.toList_setIfInBounds
abbrev Vl:=@PySem.W.kat_go
abbrev Vm:=@PySem.W.kat_no
abbrev Vn:=@List.perm_ext_iff_of_nodup
abbrev Vo:=@if_neg
abbrev Vp:=@if_pos
abbrev Vq:=@Option.some.inj
abbrev Vr:=@PySem.Heap.get?_push_of_some
abbrev Vs:=@PyProof.Rows.wpS_bind
abbrev Vt:=@absurd
abbrev Vu:=@PyProof.Rows.wpS_pure
abbrev Vv:=@PySem.wpAny_bind
abbrev Vw:=@of_decide_eq_true
abbrev Vx:=@PySem.Heap.lt_size
abbrev Vy:=@decide_eq_true
abbrev Vz:=@PySem.Heap.get?_push_size
abbrev VA:=@decide_eq_false
abbrev VB:=@beq_iff_eq
abbrev VC:=@PySem.PassesOwn.never
abbrev VD:=@PySem.wpAny_pure
abbrev VE:=@decide_eq_true_eq
abbrev VF:=@beq_eq_false_iff_ne
abbrev VG:=@True.intro
abbrev VH:=@congrArg
abbrev VI:=@PyProof.Rows.wpS_forRange
abbrev VJ:=@List.Pairwise.nil
abbrev VL:=@PySem.wpAny_truthy_bool
abbrev VM:=@of_decide_eq_false
abbrev VN:=@PySem.wpAny_mono
abbrev VO:=@List.Perm.append_right
abbrev VP:=@List.Perm.trans
abbrev VQ:=@PyProof.Rows.wpS_modify
abbrev VR:=@PySem.wpAny_passesOwn
abbrev VS:=@PySem.wpAny_holding
abbrev VT:=@beq_self_eq_true
abbrev VU:=@PySem.Heap.get?_none_of_le
abbrev VV:=@List.Perm.of_eq
abbrev VW:=@PySem.wpAny_Call_Name_kw
abbrev VX:=@List.Perm.append_left
abbrev VY:=@PySem.Heap.get?_update_other
abbrev VZ:=@PySem.call_meetsIn
abbrev W2:=@PyProof.Rows.wpS_mono
abbrev W3:=@PyProof.Rows.wpS_get
abbrev W4:=@PySem.wpAny_rule
abbrev W5:=@Prod.mk.inj
namespace L2
open PySem PySem.Spec PyProof.Rows
noncomputable def aJ (s:Stmt) (j:Nat):Stmt:=match s with
 | .ClassDef _ _ _ body _ _ _ _ _ _ _=>body.getD j (.Pass ⟨0,0,0,0⟩)
 |_=> .Pass ⟨0,0,0,0⟩
noncomputable def iB (s:Stmt):Arguments:=match s with
 | .FunctionDef _ a _ _ _ _ _ _ _ _=>a
 |_=>{posonlyargs:=[],args:=[],vararg:=none,kwonlyargs:=[],kw_defaults:=[],kwarg:=none,defaults:=[]}
noncomputable def eQ (s:Stmt):List Stmt:=match s with
 | .FunctionDef _ _ b _ _ _ _ _ _ _=>b
 |_=> []
noncomputable def al (s:Stmt):Scope:=match s with
 | .FunctionDef _ _ _ _ _ _ sc _ _ _=>sc
 |_=>{kind:= .function,names:=[],isGenerator:=false,isCoroutine:=false}
end L2
namespace HD
open PySem PySem.W
noncomputable def Kg (p:Program) (w:World) (n₀:Nat) (ann:Option Value):Nat->SharedT->Thread->Option SharedT
 |0,_,_=>none
 |n+1,s,t=>match through t with
  |true=>some s
  |false=>match Fast.tw6613529449190102663 n₀ ann t with
   |false=>none
   |true=>match Fast.tw10156331382660048174 (Fast.tw11892475500146522536 Fast.tw14364793385576792824) p w s t with
    |some (s',t')=>Kg p w n₀ ann n s' t'
    |none=>none
def EG {p:Program} {w:World} {z:Nat} {G:Option Value}:∀{n:Nat} {s s':SharedT} {t:Thread},Kg p w z G n s t=some s'->topRun treeTable p w z G n s.abs t=some s'.abs
 |0,_,_,_,h=>by cases h
 |n+1,s,s',t,h=>by
  unfold Kg at h;rw[<-Fast.te6613529449190102663,<-Fast.te10156331382660048174,<-Fast.te11892475500146522536,<-Fast.te14364793385576792824]at h;unfold topRun;cases I:through t with
  |true=>rw[I]at h;cases h;rfl
  |false=>
   rw[I]at h;cases hk:stepOk z G t with
   |false=>rw[hk]at h;cases h
   |true=>
    rw[hk]at h;cases hs:stepT (denote treeTable) p w s t with
    |none=>rw[hs]at h;cases h
    |some x=>
     obtain⟨O,U⟩:=x;rw[hs]at h;show(match step (denote treeTable) p w s.abs t with| .go s' t'=>topRun treeTable p w z G n s' t'| .halt _ _=>none)=_;rw[stepT_spec hs];exact EG h
noncomputable def Ig:List Obj->BT->Nat->Option (BT×Nat)
 | [],t,n=>some (t,n)
 |o::r,t,n=>match ((t.ins n o).get n).isSome with
  |true=>Ig r (t.ins n o) (n+1)
  |false=>none
def EU {z:Life}:∀{l:List Obj} {t t':BT} {n n':Nat},Ig l t n=some (t',n')->absHeap t' n' z=⟨(absHeap t n z).objs++l.toArray,z⟩
 | [],t,t',n,n',h=>by
  cases h;rw[Array.append_empty];rfl
 |o::r,t,t',n,n',h=>by
  unfold Ig at h;cases g:((t.ins n o).get n).isSome with
  |false=>rw[g]at h;cases h
  |true=>
   rw[g]at h;rw[EU h,absHeap_ins g];show Heap.mk _ _=Heap.mk _ _;congr 1;show(absHeap t n z).objs.push o++r.toArray=_;rw[<-Array.append_singleton,Array.append_assoc];congr 1;simp
def toT (s:Shared):Option SharedT:=match Ig s.heap.objs.toList .nil 0 with
 |some (t,n)=>some ⟨t,n,s.heap.life,s.gens,s.drawn,s.toks,s.os⟩
 |none=>none
def Mc {s:Shared} {S:SharedT} (h:toT s=some S):S.abs=s:=by
 unfold toT at h;cases e:Ig s.heap.objs.toList .nil 0 with
 |none=>rw[e]at h;cases h
 |some x=>
  obtain⟨t,n⟩:=x;rw[e]at h;cases h;obtain⟨⟨G,z⟩,gens,drawn,toks,os⟩:=s;show Shared.mk (absHeap t n z) _ _ _ _=_;rw[EU e];show Shared.mk (Heap.mk (#[]++G.toList.toArray) z) _ _ _ _=_;rw[Xb,Array.empty_append]
def Ng (p:Program) (w:World) (N:Nat) (s₀:Shared):Option Shared:=match toT s₀ with
 |some S=>(Kg p w S.n (s₀.heap.nsMap mainGlobals "__annotations__") N S<|topStub p).map SharedT.abs
 |none=>none
def KZ {p:Program} {w:World} {N:Nat} {s₀ s₁:Shared} (h:Ng p w N s₀=some s₁):topRun treeTable p w s₀.heap.objs.size (s₀.heap.nsMap mainGlobals "__annotations__") N s₀ (topStub p)=some s₁:=by
 unfold Ng at h;cases e:toT s₀ with
 |none=>rw[e]at h;cases h
 |some S=>
  rw[e]at h;obtain⟨I,h1,rfl⟩:=Zn.mp h;have z:=Mc e;have G:S.n=s₀.heap.objs.size:=by
   rw[<-z];exact(absHeap_size _ _ _).symm
  rw[G]at h1;have:=EG h1;rw[z]at this;exact this
def endP (p:Program) (w:World) (N:Nat):Option Shared:=((Fast.tw10274390034422433532 Fast.tw14364793385576792824 (opening p) w N (start<|opening p).1 (start<|opening p).2).bind<|Fast.tw14289696077712309145 p).bind λs₀=>match s₀.heap.isNs mainGlobals&&s₀.gens.size==0 with
 |true=>(Ng p w N s₀).bind λs₁=>match staticsOk (importedModules p.main.body) s₀.heap s₁.heap&&namesBound p s₁.heap&&gensDone s₁&&laidKept s₀.heap s₁.heap with
  |true=>some s₁
  |false=>none
 |false=>none
def lA (p q:Program) (N:Nat) (w:World):=(endP p w N).map λs=>(Fast.tw5160383126252970620 (R.mapR (λx=>x.name)<|Fast.tw3399658132070893891 q) (Fast.tw5991557255702980513 q) [] {s with gens:= #[]},s.heap.bltView)
def lB (p q:Program) (loose:List Str) (Xt:Shared->Bool) (N:Nat) (w:World):=(endP p w N).map λs=>(Fast.tw10880121769531294198 s.heap (Fast.tw821141287760084731 q loose) (R.mapR (λx=>x.name)<|Fast.tw3399658132070893891 q) (R.mapR (λx=>x.fst)<|Fast.tw7409074990110511671 q) (R.mapR (λx=>x.name)<|Fast.tw13664370479719496447 q<|Fast.tw821141287760084731 q loose)&&Fast.tw14722251495701143533 s.heap (importedModules p.main.body)&&s.heap.isNs mainGlobals&&s.heap.isNs builtinsNs&&Fast.tw10994771534591457954 q s.heap&&Xt s&&(s.gens.size==0),Fast.tw479339242167458305 q s)
def lC (p q:Program) (loose:List Str) (N:Nat) (w:World):=(endP p w N).map λs=>(Fast.tw16090120013241838585 q (Fast.tw3247288618530077131 q) s,Fast.tw2386780881361962483 q (Fast.tw821141287760084731 q loose) s,Fast.tw11698064438423848299 q loose s,Fast.tw7317090234206586261 q s,Fast.tw7369524293546568484 q loose s)
def left_of {p q:Program} {loose:List Str} {Xt:Shared->Bool} {α:Type} {Yf:Shared->α} {Ya:World->α} {N:Nat} (O:∀w,lA p q N w=some ((openGood q loose).1,(openGood q loose).2.1)) (U:∀w,lB p q loose Xt N w=some (true,true)) (Y:∀w,lC p q loose N w=some (openGood q loose).2.2.2.2) (hD:∀w,(endP p w N).map Yf=some (Ya w)):LeftO p q loose Xt Yf Ya N:=λw=>by
 obtain⟨s₁,e,a⟩:=Zn.mp (O w);obtain⟨_,e2,b⟩:=Zn.mp (U w);rw[e]at e2;cases e2;obtain⟨_,z,c⟩:=Zn.mp (Y w);rw[e]at z;cases z;obtain⟨_,G,d⟩:=Zn.mp (hD w);rw[e]at G;cases G;obtain⟨Z,a2⟩:=W5 a;obtain⟨b1,b2⟩:=W5 b;have g:Fast.tw4187177175401517315 q loose (importedModules p.main.body) Xt true s₁=openGood q loose:=by
  exact Prod.ext Z<|Prod.ext a2 (Prod.ext b1<|Prod.ext b2 c)
 rw[<-Fast.te4187177175401517315]at g;unfold endP at e;rw[<-Fast.te10274390034422433532,<-Fast.te14364793385576792824,<-Fast.te14289696077712309145]at e;obtain⟨s₀,h0,e⟩:=Option.bind_eq_some_iff.mp e;unfold openEnds fencedOpening;rw[h0];show(topFrom treeTable p w N s₀).map _=_;unfold topFrom;cases I:(s₀.heap.isNs mainGlobals&&s₀.gens.size==0)with
 |false=>rw[I]at e;cases e
 |true=>
  rw[I]at e;obtain⟨s₂,h1,e⟩:=Option.bind_eq_some_iff.mp e;show Option.map _ ((topRun treeTable p w s₀.heap.objs.size (s₀.heap.nsMap mainGlobals "__annotations__") N s₀<|topStub p).bind _)=_;rw[KZ h1];cases hs:(staticsOk (importedModules p.main.body) s₀.heap s₂.heap&&namesBound p s₂.heap&&gensDone s₂&&laidKept s₀.heap s₂.heap)with
  |false=>rw[hs]at e;cases e
  |true=>
   rw[hs]at e;cases e;show Option.map _ (match (staticsOk (importedModules p.main.body) s₀.heap s₁.heap&&namesBound p s₁.heap&&gensDone s₁&&laidKept s₀.heap s₁.heap)with|true=>some s₁|false=>none)=_;rw[hs];show some (_,_)=some (_,_);rw[g,d]
end HD
namespace SW
open PySem L2
set_option maxHeartbeats 0
noncomputable def top (i:Nat):Stmt:=PySem.Challenge.pw_staywalk_k54_changes_win.main.body.getD i (.Pass ⟨0,0,0,0⟩)
abbrev pT:=aJ (top 5) 0
abbrev pS:=aJ (top 6) 0
abbrev nJ:=aJ (top 7) 0
abbrev kC:=aJ (top 8) 0
abbrev wV:=top 12
abbrev tY:=top 13
abbrev qH:=top 14
abbrev tW:=top 15
abbrev kS:=top 16
abbrev tX:=top 17
abbrev qI:=top 19
abbrev t7:=top 21
abbrev tV:=top 22
abbrev jK:=aJ (top 23) 0
abbrev iQ:=aJ (top 23) 1
abbrev gY:=aJ (top 24) 0
abbrev gj:=aJ (top 24) 1
abbrev qJ:=aJ (top 25) 0
abbrev nI:=aJ (top 25) 1
abbrev lG:=aJ (top 26) 0
abbrev jV:=aJ (top 26) 1
abbrev Hh:=top 29
abbrev gT:=top 30
abbrev fu:=top 31
abbrev fv:=top 32
abbrev nE:=top 33
abbrev iK:=top 34
abbrev tZ:=top 36
abbrev wX:=top 37
abbrev lw:=aJ (top 38) 0
abbrev lu:=aJ (top 38) 1
abbrev gf:=aJ (top 38) 2
abbrev gV:=aJ (top 38) 3
abbrev iU:=aJ (top 39) 0
abbrev dS:=aJ (top 39) 1
abbrev dR:=aJ (top 39) 2
abbrev dw:=aJ (top 39) 3
abbrev gh:=aJ (top 39) 4
abbrev cW:=aJ (top 39) 5
abbrev cG:=aJ (top 39) 6
abbrev iV:=aJ (top 39) 7
abbrev gi:=aJ (top 39) 8
abbrev gX:=aJ (top 39) 9
abbrev iT:=aJ (top 39) 10
abbrev gW:=aJ (top 39) 11
abbrev iR:=aJ (top 43) 0
abbrev gI:=aJ (top 43) 1
abbrev fB:=aJ (top 43) 2
abbrev jQ:=aJ (top 43) 3
abbrev nM:=aJ (top 43) 4
abbrev c7:=aJ (top 43) 6
abbrev cz:=aJ (top 43) 7
abbrev fA:=aJ (top 43) 8
abbrev dQ:=aJ (top 43) 9
abbrev du:=aJ (top 43) 10
abbrev jP:=aJ (top 45) 0
abbrev jO:=aJ (top 45) 1
abbrev jv:=top 49
abbrev jM:=aJ (top 50) 0
abbrev lg:=aJ (top 50) 1
abbrev jN:=aJ (top 50) 2
abbrev lq:=aJ (top 50) 3
abbrev lh:=aJ (top 50) 4
abbrev gH:=aJ (top 50) 6
abbrev nK:=aJ (top 50) 7
abbrev eD:=aJ (top 50) 9
abbrev jL:=aJ (top 50) 10
abbrev gd:=aJ (top 50) 11
abbrev fw:=aJ (top 50) 12
abbrev eS:=aJ (top 50) 13
abbrev eT:=aJ (top 50) 14
abbrev jR:=aJ (top 52) 0
abbrev lE:=aJ (top 52) 1
abbrev jT:=aJ (top 52) 2
abbrev lF:=aJ (top 52) 3
abbrev rO:=aJ (top 52) 4
abbrev fE:=aJ (top 52) 6
abbrev iS:=aJ (top 52) 7
abbrev jS:=aJ (top 52) 11
abbrev jU:=aJ (top 52) 15
abbrev iP:=top 54
abbrev kX:=top 55
abbrev kW:=top 56
abbrev iM:=top 57
abbrev nG:=top 58
abbrev kY:=top 59
abbrev dP:=top 60
abbrev iN:=top 61
abbrev kT:=top 62
abbrev kZ:=top 63
abbrev iO:=top 64
abbrev kU:=top 65
abbrev gU:=top 66
abbrev Hg:=top 67
set_option genInjectivity false in
structure OJ where
 C5:Addr
 xT:FuncData
 Ap:Addr
 uI:FuncData
 x6:Addr
 qU:FuncData
 An:Addr
 uG:FuncData
 sQ:Addr
 lT:FuncData
 Ao:Addr
 uH:FuncData
 x9:Addr
 qV:FuncData
 Ar:Addr
 uK:FuncData
 Am:Addr
 uF:FuncData
 kx:Addr
 j2:FuncData
 dI:Addr
 ji:FuncData
 mO:Addr
 cT:FuncData
 kP:Addr
 gF:FuncData
 yb:Addr
 jh:FuncData
 u9:Addr
 oG:FuncData
 tx:Addr
 fW:FuncData
 qv:Addr
 kt:FuncData
 LT:Addr
 CN:FuncData
 mJ:Addr
 g9:FuncData
 oS:Addr
 jc:FuncData
 oT:Addr
 jd:FuncData
 u0:Addr
 oB:FuncData
 oR:Addr
 i9:FuncData
 Aq:Addr
 uJ:FuncData
 Da:Addr
 xU:FuncData
 tm:Addr
 mj:FuncData
 tj:Addr
 mi:FuncData
 kM:Addr
 gA:FuncData
 mL:Addr
 hV:FuncData
 o0:Addr
 fX:FuncData
 iy:Addr
 eh:FuncData
 iw:Addr
 cC:FuncData
 gS:Addr
 dG:FuncData
 kN:Addr
 gB:FuncData
 f9:Addr
 cY:FuncData
 fh:Addr
 cI:FuncData
 pc:Addr
 jn:FuncData
 kO:Addr
 gE:FuncData
 mN:Addr
 hZ:FuncData
 oZ:Addr
 jk:FuncData
 mM:Addr
 hX:FuncData
 oX:Addr
 jj:FuncData
 qp:Addr
 kg:FuncData
 jF:Addr
 fR:FuncData
 qo:Addr
 kf:FuncData
 jE:Addr
 fQ:FuncData
 iu:Addr
 d9:FuncData
 jD:Addr
 fP:FuncData
 iq:Addr
 d8:FuncData
 gR:Addr
 dF:FuncData
 qm:Addr
 j9:FuncData
 ql:Addr
 j8:FuncData
 u7:Addr
 oC:FuncData
 qj:Addr
 j6:FuncData
 sX:Addr
 l9:FuncData
 qk:Addr
 j7:FuncData
 sZ:Addr
 mh:FuncData
 sY:Addr
 mf:FuncData
 qi:Addr
 j5:FuncData
 qh:Addr
 j4:FuncData
 qg:Addr
 j3:FuncData
 kL:Addr
 gy:FuncData
 jC:Addr
 fO:FuncData
 jq:Addr
 eU:FuncData
 jr:Addr
 eV:FuncData
 qq:Addr
 kh:FuncData
 tq:Addr
 mn:FuncData
 qt:Addr
 kq:FuncData
 tw:Addr
 mq:FuncData
 jG:Addr
 fS:FuncData
 oY:Addr
 fV:FuncData
 qr:Addr
 ko:FuncData
 qu:Addr
 kr:FuncData
 oW:Addr
 jg:FuncData
 sU:Addr
 lX:FuncData
 sT:Addr
 lW:FuncData
 ya:Addr
 qW:FuncData
 u8:Addr
 oE:FuncData
 sV:Addr
 lY:FuncData
 ip:Addr
 d6:FuncData
 oU:Addr
 je:FuncData
 sR:Addr
 lU:FuncData
 sW:Addr
 lZ:FuncData
 oV:Addr
 jf:FuncData
 sS:Addr
 lV:FuncData
 mK:Addr
 hJ:FuncData
 LS:Addr
 E9:FuncData
 cw:Addr
 pK:Addr
 gM:Addr
 aV:Addr
 dO:Addr
 b8:Addr
 bS:Addr
 aW:Addr
 bH:Addr
 gN:Addr
 aY:Addr
 bc:Addr
end SW
namespace ZK
open PySem PySem.W SW L2
noncomputable abbrev N:Value:= .none
noncomputable abbrev JJ (b:Bool):Value:= .bool b
noncomputable abbrev I (i:Int):Value:= .int i 0
noncomputable abbrev S (x:Str) (t:Nat):Value:= .str x t
noncomputable abbrev F (t:Nat):Value:= .str "/claim/cut.py" t
noncomputable abbrev R (a:Addr):Value:= .ref a
noncomputable abbrev T (n:String):Value:= .type n
noncomputable abbrev E (P:Params) (x:Str) (t:Nat) (v:Value):DictEntry:=⟨PyData.keyHash P x,.str x t,v⟩
noncomputable abbrev c (vs:List Value):Obj:=⟨.type "code",none,.fields vs.toArray, #[]⟩
abbrev o (n:Str) (a:Nat) (m:Str) (b d:Nat) (e g h i j:Int) (k:Addr) (l:Int) (r s t u:Addr) (v w:Int) (x:Nat):Obj:=c [S n a,S m b,F d,I e,I g,I h,I i,I j,R k,JJ true,I l,R r,N,R s,R t,R u,I v,I w,F x]
abbrev D (nm qn:Str) (s:Stmt) (df kV dc pm:Value) (an:Option Addr) (cd ct:Value):FuncData:=fnOf nm qn (iB s) (eQ s) (al s) df kV dc pm an cd ct
noncomputable abbrev f (d:FuncData):Obj:=⟨.type "function",none,.func d, #[]⟩
abbrev d10:=λx q s r=>D x q s N N N (S "law_staywalk_k54_changes_win" 1350) none (R r) N
abbrev d11:=λx q s r=>D x q s N N N (S "staywalk.asks" 570) none (R r) N
abbrev d12:=λx q s r=>D x q s N N N (S "staywalk.bits" 346) none (R r) N
abbrev d13:=λx q s r=>D x q s N N N (S "staywalk.copier" 623) none (R r) N
abbrev d14:=λx q s r=>D x q s N N N (S "staywalk.house" 1173) none (R r) N
abbrev d15:=λx q s r=>D x q s N N N (S "staywalk.leaves" 834) none (R r) N
abbrev d16:=λx q s r=>D x q s N N N (S "staywalk.makes" 947) none (R r) N
abbrev d17:=λx q s r=>D x q s N N N (S "staywalk.slots" 1010) none (R r) N
abbrev d18:=λx q s r=>D x q s N N N (S "staywalk.tokens" 410) none (R r) N
def t:OJ:=⟨141,d12 "turned" "turned" wV 140,148,d12 "mark_of" "mark_of" tY 147,155,d12 "place_of" "place_of" qH 154,162,d12 "slot_of" "slot_of" tW 161,169,d12 "stretch_of" "stretch_of" kS 168,176,d12 "slot_at" "slot_at" tX 175,183,D "is_whole" "is_whole" qI N N N (S "staywalk.wholes" 401) none (R 182) N,190,d18 "is_from" "is_from" t7 189,197,d18 "word_of" "word_of" tV 196,211,d18 "__init__" "Token.__init__" jK 210,218,d18 "words" "Token.words" iQ 217,240,D "__init__" "BySlots.__init__" gY (R 233) N N (S "staywalk.tokens" 410) none (R 239) N,247,d18 "holds" "BySlots.holds" gj 246,267,D "__init__" "Up.__init__" qJ (R 260) N N (S "staywalk.tokens" 410) none (R 266) N,274,d18 "holds" "Up.holds" nI 273,294,D "__init__" "Down.__init__" lG (R 287) N N (S "staywalk.tokens" 410) none (R 293) N,301,d18 "holds" "Down.holds" jV 300,312,D "ask" "ask" Hh (R 307) N N (S "staywalk.asks" 570) none (R 311) N,319,d11 "page_by_slots" "page_by_slots" gT 318,324,d11 "page_by_keys" "page_by_keys" fu 323,329,d11 "keys_of_page" "keys_of_page" fv 328,336,d11 "keys_near" "keys_near" nE 335,343,d11 "token_behind" "token_behind" iK 342,350,d13 "is_left" "is_left" tZ 349,357,d13 "change" "change" wX 356,371,d13 "__init__" "Page.__init__" lw 370,378,d13 "read" "Page.read" lu 377,385,d13 "in_piece" "Page.in_piece" gf 384,392,d13 "outcome" "Page.outcome" gV 391,414,D "__init__" "Copier.__init__" iU (R 407) N N (S "staywalk.copier" 623) none (R 413) N,421,d13 "open_page" "Copier.open_page" dS 420,429,D "read_page" "Copier.read_page" dR (R 422) N N (S "staywalk.copier" 623) none (R 428) N,436,d13 "close_page" "Copier.close_page" dw 435,443,d13 "follow" "Copier.follow" gh 442,450,d13 "follow_mark" "Copier.follow_mark" cW 449,457,d13 "follow_change" "Copier.follow_change" cG 456,464,d13 "copy" "Copier.copy" iV 463,471,d13 "covers" "Copier.covers" gi 470,478,d13 "place" "Copier.place" gX 477,485,d13 "left" "Copier.left" iT 484,492,d13 "total" "Copier.total" gW 491,520,d15 "__init__" "Leaves.__init__" iR 519,525,d15 "add" "Leaves.add" gI 524,532,d15 "discard" "Leaves.discard" fB 531,539,d15 "has" "Leaves.has" jQ 538,556,d15 "from_on" "Leaves.from_on" c7 555,561,d15 "down_from" "Leaves.down_from" cz 560,568,d15 "leaf_of" "Leaves.leaf_of" fA 567,575,d15 "part_leaf" "Leaves.part_leaf" dQ 574,582,d15 "join_small" "Leaves.join_small" du 581,603,d16 "__init__" "Makes.__init__" jP 602,610,d16 "note" "Makes.note" jO 609,643,d17 "empty_row" "empty_row" jv 642,657,d17 "__init__" "Slots.__init__" jM 656,664,d17 "put" "Slots.put" lg 663,671,d17 "drop" "Slots.drop" jN 670,678,d17 "get" "Slots.get" lq 677,685,d17 "has" "Slots.has" lh 684,697,d17 "rows" "Slots.rows" gH 696,716,d17 "span" "Slots.span" eD 715,723,d17 "stop" "Slots.stop" jL 722,730,d17 "cell_of" "Slots.cell_of" gd 729,737,d17 "lying_at" "Slots.lying_at" fw 736,744,d17 "move_slot" "Slots.move_slot" eS 743,751,d17 "begin_row" "Slots.begin_row" eT 750,772,d14 "__init__" "House.__init__" jR 771,779,d14 "put" "House.put" lE 778,786,d14 "drop" "House.drop" jT 785,793,d14 "get" "House.get" lF 792,814,d14 "lay_mark" "House.lay_mark" fE 813,822,D "diary" "House.diary" iS (R 815) N N (S "staywalk.house" 1173) none (R 821) N,850,d14 "held" "House.held" jS 849,879,d14 "done" "House.done" jU 878,907,d10 "_law_cell_at" "_law_cell_at" iP 906,914,d10 "_law_mixed" "_law_mixed" kX 913,921,d10 "_law_place" "_law_place" kW 920,926,d10 "_law_run" "_law_run" iM 925,933,d10 "_law_deed" "_law_deed" nG 932,940,d10 "_law_house" "_law_house" kY 939,947,d10 "_law_numbers_told" "_law_numbers_told" dP 946,954,d10 "_law_numbers" "_law_numbers" iN 953,961,d10 "_law_token" "_law_token" kT 960,968,d10 "_law_holds" "_law_holds" kZ 967,975,d10 "_law_covered" "_law_covered" iO 974,982,d10 "_law_table" "_law_table" kU 981,989,d10 "_law_is_right" "_law_is_right" gU 988,996,d10 "law" "law" Hg 995,31,44,221,250,277,304,395,502,585,634,754,896⟩
def K:Params->Frag:=λP=>(nat_lit 2,⟨N,none,.dict #[] 0, #[]⟩)::
(nat_lit 3,⟨(T "dict"),none,.dict #[E P "__name__" 165 (S "law_staywalk_k54_changes_win" 1350),E P "__doc__" 166 N,E P "__package__" 167 N,E P "__loader__" 168 (.builtin "__main__.__loader__#opaque"),E P "__spec__" 169 N,E P "__annotations__" 170 (R 6),E P "__builtins__" 171 (R 4),E P "__file__" 173 (S "/claim/cut.py" 172),E P "__cached__" 174 N,E P "_wall" 193 (R 21),E P "WalkError" 213 (R 31),E P "NoToken" 229 (R 44),E P "OutOfTurn" 245 (R 56),E P "NoKey" 270 (R 75),E P "Twice" 295 (R 94),E P "TooOld" 320 (R 113),E P "NoMoment" 345 (R 132),E P "BITS" 349 (.int 16 348),E P "PLACES" 351 (.int 65536 350),E P "turned" 361 (R 141),E P "mark_of" 368 (R 148),E P "place_of" 375 (R 155),E P "slot_of" 383 (R 162),E P "stretch_of" 392 (R 169),E P "slot_at" 400 (R 176),E P "is_whole" 409 (R 183),E P "is_from" 419 (R 190),E P "word_of" 426 (R 197),E P "Token" 466 (R 221),E P "BySlots" 501 (R 250),E P "Up" 535 (R 277),E P "Down" 569 (R 304),E P "STRETCHES_A_KEY" 573 (.int 4 572),E P "ask" 580 (R 312),E P "page_by_slots" 593 (R 319),E P "page_by_keys" 599 (R 324),E P "keys_of_page" 605 (R 329),E P "keys_near" 614 (R 336),E P "token_behind" 622 (R 343),E P "is_left" 632 (R 350),E P "change" 640 (R 357),E P "Page" 700 (R 395),E P "Copier" 833 (R 502),E P "MOST_IN_LEAF" 837 (.int 8 836),E P "LEAST_IN_TWO" 839 (.int 5 838),E P "Leaves" 946 (R 585),E P "Makes" 1009 (R 634),E P "LEAST_SIZE" 1013 (.int 4 1012),E P "GREATEST_SIZE" 1015 (.int 256 1014),E P "empty_row" 1021 (R 643),E P "Slots" 1172 (R 754),E P "House" 1349 (R 896),E P "_law_cell_at" 1359 (R 907),E P "_law_mixed" 1368 (R 914),E P "_law_place" 1376 (R 921),E P "_law_run" 1382 (R 926),E P "_law_deed" 1394 (R 933),E P "_law_house" 1404 (R 940),E P "_law_numbers_told" 1414 (R 947),E P "_law_numbers" 1426 (R 954),E P "_law_token" 1433 (R 961),E P "_law_holds" 1444 (R 968),E P "_law_covered" 1453 (R 975),E P "_law_table" 1462 (R 982),E P "_law_is_right" 1478 (R 989),E P "law" 1499 (R 996)] 66, #[]⟩)::
(nat_lit 30,⟨(T "dict"),none,.dict #[E P "__module__" 203 (S "staywalk.errors" 194),E P "__firstlineno__" 207 (.int 5 206),E P "__static_attributes__" 208 (R 29),E P "__weakref__" 210 (R 32),E P "__doc__" 211 N] 3, #[]⟩)::
(nat_lit 31,⟨(T "type"),none,.cls ⟨"WalkError",[(T "ValueError")],[(R 31),(T "ValueError"),(T "Exception"),(T "BaseException"),(T "object")],30,"WalkError",true,[],[(R 44),(R 56),(R 75),(R 94),(R 113),(R 132)],false,none,false⟩, #[some (R 22),none,some (S "WalkError" 196),some (S "WalkError" 204),some (.builtin "ValueError.__new__"),some (JJ true)]⟩)::
(nat_lit 43,⟨(T "dict"),none,.dict #[E P "__module__" 221 (S "staywalk.errors" 194),E P "__firstlineno__" 225 (.int 7 224),E P "__static_attributes__" 226 (R 42),E P "__doc__" 227 N] 2, #[]⟩)::
(nat_lit 44,⟨(T "type"),none,.cls ⟨"NoToken",[(R 31)],[(R 44),(R 31),(T "ValueError"),(T "Exception"),(T "BaseException"),(T "object")],43,"NoToken",true,[],[],false,none,false⟩, #[some (R 35),none,some (S "NoToken" 214),some (S "NoToken" 222),some (.builtin "ValueError.__new__"),some (JJ true)]⟩)::
(nat_lit 140,o "turned" 352 "turned" 353 354 34 1 0 0 3 135 181 136 137 138 139 359 34 360)::
(nat_lit 141,f t.xT)::
(nat_lit 147,o "mark_of" 362 "mark_of" 363 364 41 1 0 0 3 142 181 143 144 145 146 366 41 367)::
(nat_lit 148,f t.uI)::
(nat_lit 154,o "place_of" 369 "place_of" 370 371 43 1 0 0 3 149 181 150 151 152 153 373 43 374)::
(nat_lit 155,f t.qU)::
(nat_lit 161,o "slot_of" 376 "slot_of" 377 378 45 2 0 0 3 156 181 157 158 159 160 381 45 382)::
(nat_lit 162,f t.uG)::
(nat_lit 168,o "stretch_of" 384 "stretch_of" 385 386 47 2 0 0 3 163 181 164 165 166 167 390 47 391)::
(nat_lit 169,f t.lT)::
(nat_lit 175,o "slot_at" 393 "slot_at" 394 395 50 2 0 0 3 170 181 171 172 173 174 398 50 399)::
(nat_lit 176,f t.uH)::
(nat_lit 182,o "is_whole" 403 "is_whole" 404 405 53 1 0 0 3 177 181 178 179 180 181 407 53 408)::
(nat_lit 183,f t.qV)::
(nat_lit 189,o "is_from" 412 "is_from" 413 414 56 2 0 0 3 184 181 185 186 187 188 417 56 418)::
(nat_lit 190,f t.uK)::
(nat_lit 196,o "word_of" 420 "word_of" 421 422 58 1 0 0 3 191 181 192 193 194 195 424 58 425)::
(nat_lit 197,f t.uF)::
(nat_lit 210,o "__init__" 439 "Token.__init__" 440 441 62 4 0 0 3 205 181 206 207 208 209 446 62 447)::
(nat_lit 211,f t.j2)::
(nat_lit 217,o "words" 449 "Token.words" 450 451 67 1 0 0 3 212 181 213 214 215 216 453 67 454)::
(nat_lit 218,f t.ji)::
(nat_lit 220,⟨(T "dict"),none,.dict #[E P "__module__" 434 (S "staywalk.tokens" 410),E P "__firstlineno__" 438 (.int 60 437),E P "__init__" 448 (R 211),E P "words" 455 (R 218),E P "__static_attributes__" 459 (R 219),E P "__dict__" 461 (R 222),E P "__weakref__" 463 (R 223),E P "__doc__" 464 N] 4, #[]⟩)::
(nat_lit 221,⟨(T "type"),none,.cls ⟨"Token",[(T "object")],[(R 221),(T "object")],220,"Token",true,[],[(R 250),(R 277),(R 304)],false,none,false⟩, #[none,none,some (S "Token" 427),some (S "Token" 435),some (.builtin "object.__new__"),some (JJ true)]⟩)::
(nat_lit 233,⟨(T "tuple"),none,.seq #[(.int 0 479),(.int 65536 480)] 0, #[]⟩)::
(nat_lit 239,o "__init__" 481 "BySlots.__init__" 482 483 71 3 0 0 3 234 181 235 236 237 238 487 71 488)::
(nat_lit 240,f t.cT)::
(nat_lit 246,o "holds" 490 "BySlots.holds" 491 492 76 2 0 0 3 241 181 242 243 244 245 495 76 496)::
(nat_lit 247,f t.gF)::
(nat_lit 249,⟨(T "dict"),none,.dict #[E P "__module__" 474 (S "staywalk.tokens" 410),E P "__firstlineno__" 478 (.int 69 477),E P "__init__" 489 (R 240),E P "holds" 497 (R 247),E P "__static_attributes__" 498 (R 248),E P "__doc__" 499 N] 2, #[]⟩)::
(nat_lit 250,⟨(T "type"),none,.cls ⟨"BySlots",[(R 221)],[(R 250),(R 221),(T "object")],249,"BySlots",true,[],[],false,none,false⟩, #[some (R 226),none,some (S "BySlots" 467),some (S "BySlots" 475),some (.builtin "object.__new__"),some (JJ true)]⟩)::
(nat_lit 260,⟨(T "tuple"),none,.seq #[(.int 0 514),N] 0, #[]⟩)::
(nat_lit 266,o "__init__" 515 "Up.__init__" 516 517 80 3 0 0 3 261 181 262 263 264 265 521 80 522)::
(nat_lit 267,f t.jh)::
(nat_lit 273,o "holds" 524 "Up.holds" 525 526 85 2 0 0 3 268 181 269 270 271 272 529 85 530)::
(nat_lit 274,f t.oG)::
(nat_lit 276,⟨(T "dict"),none,.dict #[E P "__module__" 509 (S "staywalk.tokens" 410),E P "__firstlineno__" 513 (.int 78 512),E P "__init__" 523 (R 267),E P "holds" 531 (R 274),E P "__static_attributes__" 532 (R 275),E P "__doc__" 533 N] 2, #[]⟩)::
(nat_lit 277,⟨(T "type"),none,.cls ⟨"Up",[(R 221)],[(R 277),(R 221),(T "object")],276,"Up",true,[],[],false,none,false⟩, #[some (R 253),none,some (S "Up" 502),some (S "Up" 510),some (.builtin "object.__new__"),some (JJ true)]⟩)::
(nat_lit 287,⟨(T "tuple"),none,.seq #[N,(.int 0 548)] 0, #[]⟩)::
(nat_lit 293,o "__init__" 549 "Down.__init__" 550 551 89 3 0 0 3 288 181 289 290 291 292 555 89 556)::
(nat_lit 294,f t.fW)::
(nat_lit 300,o "holds" 558 "Down.holds" 559 560 94 2 0 0 3 295 181 296 297 298 299 563 94 564)::
(nat_lit 301,f t.kt)::
(nat_lit 303,⟨(T "dict"),none,.dict #[E P "__module__" 543 (S "staywalk.tokens" 410),E P "__firstlineno__" 547 (.int 87 546),E P "__init__" 557 (R 294),E P "holds" 565 (R 301),E P "__static_attributes__" 566 (R 302),E P "__doc__" 567 N] 2, #[]⟩)::
(nat_lit 304,⟨(T "type"),none,.cls ⟨"Down",[(R 221)],[(R 304),(R 221),(T "object")],303,"Down",true,[],[],false,none,false⟩, #[some (R 280),none,some (S "Down" 536),some (S "Down" 544),some (.builtin "object.__new__"),some (JJ true)]⟩)::
(nat_lit 307,⟨(T "tuple"),none,.seq #[(.int 10 574),N] 0, #[]⟩)::
(nat_lit 311,c [(S "ask" 575),(S "ask" 576),(F 577),(I 98),(I 4),(I 0),(I 0),(I 3),(R 308),(JJ true),(I 181),(R 309),N,N,N,(R 310),(I 578),(I 98),(F 579)])::
(nat_lit 312,f t.CN)::
(nat_lit 318,o "page_by_slots" 581 "page_by_slots" 582 583 106 3 0 0 3 313 181 314 315 316 317 591 106 592)::
(nat_lit 319,f t.g9)::
(nat_lit 323,c [(S "page_by_keys" 594),(S "page_by_keys" 595),(F 596),(I 120),(I 3),(I 0),(I 0),(I 3),(R 320),(JJ true),(I 181),(R 321),N,N,N,(R 322),(I 597),(I 120),(F 598)])::
(nat_lit 324,f t.jc)::
(nat_lit 328,c [(S "keys_of_page" 600),(S "keys_of_page" 601),(F 602),(I 123),(I 3),(I 0),(I 0),(I 3),(R 325),(JJ true),(I 181),(R 326),N,N,N,(R 327),(I 603),(I 123),(F 604)])::
(nat_lit 329,f t.jd)::
(nat_lit 335,o "keys_near" 606 "keys_near" 607 608 132 3 0 0 3 330 181 331 332 333 334 612 132 613)::
(nat_lit 336,f t.oB)::
(nat_lit 342,o "token_behind" 615 "token_behind" 616 617 136 2 0 0 3 337 181 338 339 340 341 620 136 621)::
(nat_lit 343,f t.i9)::
(nat_lit 349,o "is_left" 625 "is_left" 626 627 141 2 0 0 3 344 181 345 346 347 348 630 141 631)::
(nat_lit 350,f t.uJ)::
(nat_lit 356,o "change" 633 "change" 634 635 143 2 0 0 3 351 181 352 353 354 355 638 143 639)::
(nat_lit 357,f t.xU)::
(nat_lit 370,o "__init__" 653 "Page.__init__" 654 655 150 2 0 0 3 365 181 366 367 368 369 658 150 659)::
(nat_lit 371,f t.mj)::
(nat_lit 377,o "read" 661 "Page.read" 662 663 157 3 0 0 3 372 181 373 374 375 376 668 157 669)::
(nat_lit 378,f t.mi)::
(nat_lit 384,o "in_piece" 671 "Page.in_piece" 672 673 162 2 0 0 3 379 181 380 381 382 383 676 162 677)::
(nat_lit 385,f t.gA)::
(nat_lit 391,o "outcome" 679 "Page.outcome" 680 681 165 1 0 0 3 386 181 387 388 389 390 685 165 686)::
(nat_lit 392,f t.hV)::
(nat_lit 394,⟨(T "dict"),none,.dict #[E P "__module__" 648 (S "staywalk.copier" 623),E P "__firstlineno__" 652 (.int 148 651),E P "__init__" 660 (R 371),E P "read" 670 (R 378),E P "in_piece" 678 (R 385),E P "outcome" 687 (R 392),E P "__static_attributes__" 693 (R 393),E P "__dict__" 695 (R 396),E P "__weakref__" 697 (R 397),E P "__doc__" 698 N] 4, #[]⟩)::
(nat_lit 395,⟨(T "type"),none,.cls ⟨"Page",[(T "object")],[(R 395),(T "object")],394,"Page",true,[],[],false,none,false⟩, #[none,none,some (S "Page" 641),some (S "Page" 649),some (.builtin "object.__new__"),some (JJ true)]⟩)::
(nat_lit 407,⟨(T "tuple"),none,.seq #[N] 0, #[]⟩)::
(nat_lit 413,o "__init__" 713 "Copier.__init__" 714 715 172 4 0 0 3 408 181 409 410 411 412 720 172 721)::
(nat_lit 414,f t.fX)::
(nat_lit 420,o "open_page" 723 "Copier.open_page" 724 725 182 1 0 0 3 415 181 416 417 418 419 727 182 728)::
(nat_lit 421,f t.eh)::
(nat_lit 422,⟨(T "tuple"),none,.seq #[(.int 10 730)] 0, #[]⟩)::
(nat_lit 428,o "read_page" 731 "Copier.read_page" 732 733 190 2 0 0 3 423 181 424 425 426 427 737 190 738)::
(nat_lit 429,f t.cC)::
(nat_lit 435,o "close_page" 740 "Copier.close_page" 741 742 197 1 0 0 3 430 181 431 432 433 434 745 197 746)::
(nat_lit 436,f t.dG)::
(nat_lit 442,o "follow" 748 "Copier.follow" 749 750 204 2 0 0 3 437 181 438 439 440 441 755 204 756)::
(nat_lit 443,f t.gB)::
(nat_lit 449,o "follow_mark" 758 "Copier.follow_mark" 759 760 214 2 0 0 3 444 181 445 446 447 448 764 214 765)::
(nat_lit 450,f t.cY)::
(nat_lit 456,o "follow_change" 767 "Copier.follow_change" 768 769 222 2 0 0 3 451 181 452 453 454 455 774 222 775)::
(nat_lit 457,f t.cI)::
(nat_lit 463,o "copy" 777 "Copier.copy" 778 779 230 1 0 0 3 458 181 459 460 461 462 781 230 782)::
(nat_lit 464,f t.jn)::
(nat_lit 470,o "covers" 784 "Copier.covers" 785 786 233 2 0 0 3 465 181 466 467 468 469 789 233 790)::
(nat_lit 471,f t.gE)::
(nat_lit 477,o "place" 792 "Copier.place" 793 794 236 1 0 0 3 472 181 473 474 475 476 796 236 797)::
(nat_lit 478,f t.hZ)::
(nat_lit 484,o "left" 799 "Copier.left" 800 801 239 1 0 0 3 479 181 480 481 482 483 803 239 804)::
(nat_lit 485,f t.jk)::
(nat_lit 491,o "total" 806 "Copier.total" 807 808 242 1 0 0 3 486 181 487 488 489 490 810 242 811)::
(nat_lit 492,f t.hX)::
(nat_lit 501,⟨(T "dict"),none,.dict #[E P "__module__" 708 (S "staywalk.copier" 623),E P "__firstlineno__" 712 (.int 170 711),E P "__init__" 722 (R 414),E P "open_page" 729 (R 421),E P "read_page" 739 (R 429),E P "close_page" 747 (R 436),E P "follow" 757 (R 443),E P "follow_mark" 766 (R 450),E P "follow_change" 776 (R 457),E P "copy" 783 (R 464),E P "covers" 791 (R 471),E P "place" 798 (R 478),E P "left" 805 (R 485),E P "total" 812 (R 492),E P "stopped" 819 (R 499),E P "__static_attributes__" 826 (R 500),E P "__dict__" 828 (R 503),E P "__weakref__" 830 (R 504),E P "__doc__" 831 N] 4, #[]⟩)::
(nat_lit 502,⟨(T "type"),none,.cls ⟨"Copier",[(T "object")],[(R 502),(T "object")],501,"Copier",true,[],[],false,none,false⟩, #[none,none,some (S "Copier" 701),some (S "Copier" 709),some (.builtin "object.__new__"),some (JJ true)]⟩)::
(nat_lit 519,o "__init__" 852 "Leaves.__init__" 853 854 252 1 0 0 3 514 181 515 516 517 518 856 252 857)::
(nat_lit 520,f t.jj)::
(nat_lit 524,c [(S "add" 859),(S "Leaves.add" 860),(F 861),(I 255),(I 2),(I 0),(I 0),(I 3),(R 521),(JJ true),(I 181),(R 522),N,N,N,(R 523),(I 862),(I 255),(F 863)])::
(nat_lit 525,f t.kg)::
(nat_lit 531,o "discard" 865 "Leaves.discard" 866 867 267 2 0 0 3 526 181 527 528 529 530 871 267 872)::
(nat_lit 532,f t.fR)::
(nat_lit 538,o "has" 874 "Leaves.has" 875 876 278 2 0 0 3 533 181 534 535 536 537 880 278 881)::
(nat_lit 539,f t.kf)::
(nat_lit 543,c [(S "many" 883),(S "Leaves.many" 884),(F 885),(I 282),(I 1),(I 0),(I 0),(I 3),(R 540),(JJ true),(I 181),(R 541),N,N,N,(R 542),(I 886),(I 282),(F 887)])::
(nat_lit 555,c [(S "from_on" 896),(S "Leaves.from_on" 897),(F 898),(I 288),(I 3),(I 0),(I 0),(I 3),(R 552),(JJ true),(I 181),(R 553),N,N,N,(R 554),(I 899),(I 288),(F 900)])::
(nat_lit 556,f t.fQ)::
(nat_lit 560,c [(S "down_from" 902),(S "Leaves.down_from" 903),(F 904),(I 296),(I 3),(I 0),(I 0),(I 3),(R 557),(JJ true),(I 181),(R 558),N,N,N,(R 559),(I 905),(I 296),(F 906)])::
(nat_lit 561,f t.d9)::
(nat_lit 567,o "leaf_of" 908 "Leaves.leaf_of" 909 910 306 2 0 0 3 562 181 563 564 565 566 916 306 917)::
(nat_lit 568,f t.fP)::
(nat_lit 574,o "part_leaf" 919 "Leaves.part_leaf" 920 921 317 2 0 0 3 569 181 570 571 572 573 926 317 927)::
(nat_lit 575,f t.d8)::
(nat_lit 581,o "join_small" 929 "Leaves.join_small" 930 931 323 2 0 0 3 576 181 577 578 579 580 935 323 936)::
(nat_lit 582,f t.dF)::
(nat_lit 584,⟨(T "dict"),none,.dict #[E P "__module__" 847 (S "staywalk.leaves" 834),E P "__firstlineno__" 851 (.int 250 850),E P "__init__" 858 (R 520),E P "add" 864 (R 525),E P "discard" 873 (R 532),E P "has" 882 (R 539),E P "many" 888 (R 544),E P "all_of" 895 (R 551),E P "from_on" 901 (R 556),E P "down_from" 907 (R 561),E P "leaf_of" 918 (R 568),E P "part_leaf" 928 (R 575),E P "join_small" 937 (R 582),E P "__static_attributes__" 939 (R 583),E P "__dict__" 941 (R 586),E P "__weakref__" 943 (R 587),E P "__doc__" 944 N] 4, #[]⟩)::
(nat_lit 585,⟨(T "type"),none,.cls ⟨"Leaves",[(T "object")],[(R 585),(T "object")],584,"Leaves",true,[],[],false,none,false⟩, #[none,none,some (S "Leaves" 840),some (S "Leaves" 848),some (.builtin "object.__new__"),some (JJ true)]⟩)::
(nat_lit 602,o "__init__" 961 "Makes.__init__" 962 963 333 1 0 0 3 597 181 598 599 600 601 965 333 966)::
(nat_lit 603,f t.j9)::
(nat_lit 609,o "note" 968 "Makes.note" 969 970 336 3 0 0 3 604 181 605 606 607 608 974 336 975)::
(nat_lit 610,f t.j8)::
(nat_lit 633,⟨(T "dict"),none,.dict #[E P "__module__" 956 (S "staywalk.makes" 947),E P "__firstlineno__" 960 (.int 331 959),E P "__init__" 967 (R 603),E P "note" 976 (R 610),E P "all_told" 983 (R 617),E P "value_at" 992 (R 624),E P "sweep" 1000 (R 631),E P "__static_attributes__" 1002 (R 632),E P "__dict__" 1004 (R 635),E P "__weakref__" 1006 (R 636),E P "__doc__" 1007 N] 4, #[]⟩)::
(nat_lit 634,⟨(T "type"),none,.cls ⟨"Makes",[(T "object")],[(R 634),(T "object")],633,"Makes",true,[],[],false,none,false⟩, #[none,none,some (S "Makes" 949),some (S "Makes" 957),some (.builtin "object.__new__"),some (JJ true)]⟩)::
(nat_lit 642,c [(S "empty_row" 1016),(S "empty_row" 1017),(F 1018),(I 353),(I 1),(I 0),(I 0),(I 3),(R 639),(JJ true),(I 181),(R 640),N,N,N,(R 641),(I 1019),(I 353),(F 1020)])::
(nat_lit 643,f t.oC)::
(nat_lit 656,o "__init__" 1034 "Slots.__init__" 1035 1036 357 1 0 0 3 651 181 652 653 654 655 1038 357 1039)::
(nat_lit 657,f t.j6)::
(nat_lit 663,o "put" 1041 "Slots.put" 1042 1043 362 3 0 0 3 658 181 659 660 661 662 1048 362 1049)::
(nat_lit 664,f t.l9)::
(nat_lit 670,o "drop" 1051 "Slots.drop" 1052 1053 370 2 0 0 3 665 181 666 667 668 669 1056 370 1057)::
(nat_lit 671,f t.j7)::
(nat_lit 677,o "get" 1059 "Slots.get" 1060 1061 378 2 0 0 3 672 181 673 674 675 676 1065 378 1066)::
(nat_lit 678,f t.mh)::
(nat_lit 684,o "has" 1068 "Slots.has" 1069 1070 384 2 0 0 3 679 181 680 681 682 683 1073 384 1074)::
(nat_lit 685,f t.mf)::
(nat_lit 696,c [(S "rows" 1083),(S "Slots.rows" 1084),(F 1085),(I 390),(I 1),(I 0),(I 0),(I 3),(R 693),(JJ true),(I 181),(R 694),N,N,N,(R 695),(I 1086),(I 390),(F 1087)])::
(nat_lit 697,f t.j5)::
(nat_lit 715,c [(S "span" 1103),(S "Slots.span" 1104),(F 1105),(I 399),(I 3),(I 0),(I 0),(I 3),(R 712),(JJ true),(I 181),(R 713),N,N,N,(R 714),(I 1106),(I 399),(F 1107)])::
(nat_lit 716,f t.j4)::
(nat_lit 722,o "stop" 1109 "Slots.stop" 1110 1111 409 2 0 0 3 717 181 718 719 720 721 1115 409 1116)::
(nat_lit 723,f t.j3)::
(nat_lit 729,o "cell_of" 1118 "Slots.cell_of" 1119 1120 413 2 0 0 3 724 181 725 726 727 728 1126 413 1127)::
(nat_lit 730,f t.gy)::
(nat_lit 736,o "lying_at" 1129 "Slots.lying_at" 1130 1131 421 2 0 0 3 731 181 732 733 734 735 1140 421 1141)::
(nat_lit 737,f t.fO)::
(nat_lit 743,o "move_slot" 1143 "Slots.move_slot" 1144 1145 430 1 0 0 3 738 181 739 740 741 742 1151 430 1152)::
(nat_lit 744,f t.eU)::
(nat_lit 750,o "begin_row" 1154 "Slots.begin_row" 1155 1156 443 1 0 0 3 745 181 746 747 748 749 1159 443 1160)::
(nat_lit 751,f t.eV)::
(nat_lit 753,⟨(T "dict"),none,.dict #[E P "__module__" 1029 (S "staywalk.slots" 1010),E P "__firstlineno__" 1033 (.int 355 1032),E P "__init__" 1040 (R 657),E P "put" 1050 (R 664),E P "drop" 1058 (R 671),E P "get" 1067 (R 678),E P "has" 1075 (R 685),E P "many" 1082 (R 692),E P "rows" 1088 (R 697),E P "moved" 1095 (R 704),E P "cells" 1102 (R 711),E P "span" 1108 (R 716),E P "stop" 1117 (R 723),E P "cell_of" 1128 (R 730),E P "lying_at" 1142 (R 737),E P "move_slot" 1153 (R 744),E P "begin_row" 1161 (R 751),E P "__static_attributes__" 1165 (R 752),E P "__dict__" 1167 (R 755),E P "__weakref__" 1169 (R 756),E P "__doc__" 1170 N] 4, #[]⟩)::
(nat_lit 754,⟨(T "type"),none,.cls ⟨"Slots",[(T "object")],[(R 754),(T "object")],753,"Slots",true,[],[],false,none,false⟩, #[none,none,some (S "Slots" 1022),some (S "Slots" 1030),some (.builtin "object.__new__"),some (JJ true)]⟩)::
(nat_lit 771,o "__init__" 1187 "House.__init__" 1188 1189 454 1 0 0 3 766 181 767 768 769 770 1191 454 1192)::
(nat_lit 772,f t.kh)::
(nat_lit 778,o "put" 1194 "House.put" 1195 1196 464 3 0 0 3 773 181 774 775 776 777 1200 464 1201)::
(nat_lit 779,f t.mn)::
(nat_lit 785,o "drop" 1203 "House.drop" 1204 1205 470 2 0 0 3 780 181 781 782 783 784 1208 470 1209)::
(nat_lit 786,f t.kq)::
(nat_lit 792,o "get" 1211 "House.get" 1212 1213 475 2 0 0 3 787 181 788 789 790 791 1216 475 1217)::
(nat_lit 793,f t.mq)::
(nat_lit 813,o "lay_mark" 1234 "House.lay_mark" 1235 1236 484 1 0 0 3 808 181 809 810 811 812 1238 484 1239)::
(nat_lit 814,f t.fS)::
(nat_lit 815,⟨(T "tuple"),none,.seq #[(.int 0 1241)] 0, #[]⟩)::
(nat_lit 821,o "diary" 1242 "House.diary" 1243 1244 489 2 0 0 3 816 181 817 818 819 820 1247 489 1248)::
(nat_lit 822,f t.fV)::
(nat_lit 849,o "held" 1273 "House.held" 1274 1275 501 1 0 0 3 844 181 845 846 847 848 1277 501 1278)::
(nat_lit 850,f t.ko)::
(nat_lit 878,o "done" 1307 "House.done" 1308 1309 514 3 0 0 3 873 181 874 875 876 877 1314 514 1315)::
(nat_lit 879,f t.kr)::
(nat_lit 895,⟨(T "dict"),none,.dict #[E P "__module__" 1182 (S "staywalk.house" 1173),E P "__firstlineno__" 1186 (.int 452 1185),E P "__init__" 1193 (R 772),E P "put" 1202 (R 779),E P "drop" 1210 (R 786),E P "get" 1218 (R 793),E P "has" 1226 (R 800),E P "many" 1233 (R 807),E P "lay_mark" 1240 (R 814),E P "diary" 1249 (R 822),E P "makes" 1257 (R 829),E P "hold" 1264 (R 836),E P "let_go" 1272 (R 843),E P "held" 1279 (R 850),E P "sweep" 1286 (R 857),E P "was" 1295 (R 864),E P "page_at" 1306 (R 872),E P "done" 1316 (R 879),E P "refuse_outside" 1324 (R 886),E P "value_then" 1333 (R 893),E P "__static_attributes__" 1342 (R 894),E P "__dict__" 1344 (R 897),E P "__weakref__" 1346 (R 898),E P "__doc__" 1347 N] 4, #[]⟩)::
(nat_lit 896,⟨(T "type"),none,.cls ⟨"House",[(T "object")],[(R 896),(T "object")],895,"House",true,[],[],false,none,false⟩, #[none,none,some (S "House" 1175),some (S "House" 1183),some (.builtin "object.__new__"),some (JJ true)]⟩)::
(nat_lit 906,o "_law_cell_at" 1352 "_law_cell_at" 1353 1354 530 2 0 0 3 901 181 902 903 904 905 1357 530 1358)::
(nat_lit 907,f t.jg)::
(nat_lit 913,o "_law_mixed" 1360 "_law_mixed" 1361 1362 534 2 0 0 3 908 181 909 910 911 912 1366 534 1367)::
(nat_lit 914,f t.lX)::
(nat_lit 920,o "_law_place" 1369 "_law_place" 1370 1371 537 1 0 0 3 915 181 916 917 918 919 1374 537 1375)::
(nat_lit 921,f t.lW)::
(nat_lit 925,c [(S "_law_run" 1377),(S "_law_run" 1378),(F 1379),(I 543),(I 1),(I 0),(I 0),(I 3),(R 922),(JJ true),(I 181),(R 923),N,N,N,(R 924),(I 1380),(I 543),(F 1381)])::
(nat_lit 926,f t.qW)::
(nat_lit 932,o "_law_deed" 1383 "_law_deed" 1384 1385 560 3 0 0 3 927 181 928 929 930 931 1392 560 1393)::
(nat_lit 933,f t.oE)::
(nat_lit 939,o "_law_house" 1395 "_law_house" 1396 1397 573 1 0 0 3 934 181 935 936 937 938 1402 573 1403)::
(nat_lit 940,f t.lY)::
(nat_lit 946,o "_law_numbers_told" 1405 "_law_numbers_told" 1406 1407 579 2 0 0 3 941 181 942 943 944 945 1412 579 1413)::
(nat_lit 947,f t.d6)::
(nat_lit 953,o "_law_numbers" 1415 "_law_numbers" 1416 1417 590 2 0 0 3 948 181 949 950 951 952 1424 590 1425)::
(nat_lit 954,f t.je)::
(nat_lit 960,o "_law_token" 1427 "_law_token" 1428 1429 608 1 0 0 3 955 181 956 957 958 959 1431 608 1432)::
(nat_lit 961,f t.lU)::
(nat_lit 967,o "_law_holds" 1434 "_law_holds" 1435 1436 614 2 0 0 3 962 181 963 964 965 966 1442 614 1443)::
(nat_lit 968,f t.lZ)::
(nat_lit 974,o "_law_covered" 1445 "_law_covered" 1446 1447 621 3 0 0 3 969 181 970 971 972 973 1451 621 1452)::
(nat_lit 975,f t.jf)::
(nat_lit 981,o "_law_table" 1454 "_law_table" 1455 1456 625 1 0 0 3 976 181 977 978 979 980 1460 625 1461)::
(nat_lit 982,f t.lV)::
(nat_lit 988,o "_law_is_right" 1463 "_law_is_right" 1464 1465 633 3 0 0 3 983 181 984 985 986 987 1476 633 1477)::
(nat_lit 989,f t.hJ)::
(nat_lit 995,o "law" 1479 "law" 1480 1481 649 1 0 0 3 990 181 991 992 993 994 1497 649 1498)::
(nat_lit 996,f t.E9)::[]
noncomputable abbrev as:List Addr:=[2,3,30,31,43,44,140,141,147,148,154,155,161,162,168,169,175,176,182,183,189,190,196,197,210,211,217,218,220,221,233,239,240,246,247,249,250,260,266,267,273,274,276,277,287,293,294,300,301,303,304,307,311,312,318,319,323,324,328,329,335,336,342,343,349,350,356,357,370,371,377,378,384,385,391,392,394,395,407,413,414,420,421,422,428,429,435,436,442,443,449,450,456,457,463,464,470,471,477,478,484,485,491,492,501,502,519,520,524,525,531,532,538,539,543,555,556,560,561,567,568,574,575,581,582,584,585,602,603,609,610,633,634,642,643,656,657,663,664,670,671,677,678,684,685,696,697,715,716,722,723,729,730,736,737,743,744,750,751,753,754,771,772,778,779,785,786,792,793,813,814,815,821,822,849,850,878,879,895,896,906,907,913,914,920,921,925,926,932,933,939,940,946,947,953,954,960,961,967,968,974,975,981,982,988,989,995,996]
noncomputable abbrev p:Program:=PySem.Challenge.pw_staywalk_k54_changes_win
abbrev q:Program:=view p [0,2,3,4,5,6,7,8,10,11,12,13,14,15,16,17,19,21,22,23,24,25,26,28,30,31,32,33,34,36,37,38,39,41,42,43,45,47,48,49,50,52,54,55,56,57,58,59,60,61,62,63,64,65,66,67]
abbrev H:Hook:=kHook K as λ_=>rfl
def said:OpenLaw.wellSaid PySem.Challenge.rw_staywalk_k54_changes_win=true:=by
 rw[Fast.te9446332074065402090]
 kernel_rfl
noncomputable abbrev M':Nat:=14406
noncomputable abbrev L:List Str:=["BySlots","Up","Down","ask"]
abbrev X:Shared->Bool:=λs=>xlAt q [] s&&recOk [] s
def lA:∀w,HD.lA p q M' w=some ((openGood q L).1,(openGood q L).2.1):=λw=>by kernel_rfl
def lB:∀w,HD.lB p q L X M' w=some (true,true):=λw=>by kernel_rfl
def lC:∀w,HD.lC p q L M' w=some (openGood q L).2.2.2.2:=λw=>by kernel_rfl
def lD:∀w,(HD.endP p w M').map (Hook.obs H)=some (Hook.val H w):=λw=>by kernel_rfl
def left:LeftO p q L X (Hook.obs H) (Hook.val H) M':=HD.left_of lA lB lC lD
end ZK
namespace L2
open PySem PySem.Spec PyProof.Rows
abbrev Key:=Sum Int Str
noncomputable def oA:Key->Value->Bool
 | .inl k,v=>Value.isInt k v
 | .inr x,v=>Value.isStrOf x v
noncomputable def keyH (w:World):Key->Int
 | .inl k=>hashInt k
 | .inr x=>hashStr w x
def cr:∀{k:Key} {v:Value},oA k v=true->(∃i t,k=Sum.inl i/\v=Value.int i t)\/(∃x t,k=Sum.inr x/\v=Value.str x t)
 | .inl i,v,h=>by
  obtain⟨t,e⟩:=Value.isInt_shape (k:=i) (v:=v) h;exact .inl ⟨i,t,M,e⟩
 | .inr x,v,h=>by
  obtain⟨t,e⟩:=Value.isStrOf_shape (x:=x) (v:=v) h;exact .inr ⟨x,t,M,e⟩
def Gb (i:Int) (t:Tok):oA (.inl i) (.int i t)=true:=by simp[oA,Value.isInt]
def Ga (x:Str) (t:Tok):oA (.inr x) (.str x t)=true:=by simp[oA,Value.isStrOf]
def MY (a b:Int):decide ((Sum.inl a:Key)=Sum.inl b)=(a==b):=by
 by_cases e:a=b
 .subst e;simp
 .have h:¬(Sum.inl a:Key)=Sum.inl b:=λq=>e (Sum.inl.inj q);rw[VA h];exact(VF.mpr e).symm
def MV (a b:Str):decide ((Sum.inr a:Key)=Sum.inr b)=decide (a=b):=by
 by_cases e:a=b
 .subst e;simp
 .have h:¬(Sum.inr a:Key)=Sum.inr b:=λq=>e (Sum.inr.inj q);rw[VA h,VA e]
def MX (a:Int) (b:Str):decide ((Sum.inl a:Key)=Sum.inr b)=false:=VA (λq=>nomatch q)
def MW (a:Str) (b:Int):decide ((Sum.inr a:Key)=Sum.inl b)=false:=VA (λq=>nomatch q)
def a8 (prog:Program) (w:World):PySem.KeyKind prog w Key where
 is:=oA
 hash:=keyH w
 inj:=λv a b ha hb=>by
  rcases cr ha with⟨i,t,rfl,rfl⟩|⟨x,t,rfl,rfl⟩
  .rcases cr hb with⟨j,u,rfl,e⟩|⟨y,u,rfl,e⟩
   .injection e with e1 _;rw[e1]
   .exact nomatch e
  .rcases cr hb with⟨j,u,rfl,e⟩|⟨y,u,rfl,e⟩
   .exact nomatch e
   .injection e with e1 _;rw[e1]
 byValue:=λk v h=>by
  rcases cr h with⟨i,t,rfl,rfl⟩|⟨x,t,rfl,rfl⟩<;>rfl
 pyHash:=λhv h=>by
  rcases cr hv with⟨i,t,rfl,rfl⟩|⟨x,t,rfl,rfl⟩
  .exact wpAny_pyHash_int h
  .exact wpAny_pyHash_str h
 eqBool:=λhu hv h=>by
  rcases cr hu with⟨i,t,rfl,rfl⟩|⟨x,t,rfl,rfl⟩
  .rcases cr hv with⟨j,u,rfl,rfl⟩|⟨y,u,rfl,rfl⟩
   .rw[MY]at h;exact wpAny_eqBool_int h
   .rw[MX]at h;exact SeqAt.EqAt.int_str i t y u _ _ _ _ h
  .rcases cr hv with⟨j,u,rfl,rfl⟩|⟨y,u,rfl,rfl⟩
   .rw[MW]at h;exact SeqAt.EqAt.str_int x t j u _ _ _ _ h
   .rw[MV]at h;exact wpAny_eqBool_str h
 «strs»:=λk x t v h=>by
  rcases cr h with⟨i,u,rfl,e⟩|⟨y,u,rfl,e⟩
  .exact nomatch e
  .injection e with e1 _;subst e1;cases v<;>rfl
def D8 (prog:Program) (w:World) (k:Key) (v:Value):(a8 prog w).is k v=oA k v:=rfl
def Cs (prog:Program) (w:World) (i:Int) (t:Tok):(a8 prog w).is (.inl i) (.int i t)=true:=Gb i t
def Cr (prog:Program) (w:World) (x:Str) (t:Tok):(a8 prog w).is (.inr x) (.str x t)=true:=Ga x t
inductive V where
 |non|bl (b:Bool)|int (i:Int)|str (x:Str)|byt (b:Array UInt8)|flt (b:UInt64)|ref (a:Addr)|ty (n:String)
 deriving DecidableEq
variable {a b:Addr} {o u:HO} {h h':Heap} {H:Hp} {P:Program} {w:World}
def RelV:V->Value->Prop
 | .non,u=>u=Value.none
 | .bl b,u=>u=Value.bool b
 | .int i,u=>∃t,u=Value.int i t
 | .str x,u=>∃t,u=Value.str x t
 | .byt b,u=>∃t,u=Value.bytes b t
 | .flt b,u=>∃t,u=Value.float b t
 | .ref a,u=>u=Value.ref a
 | .ty n,u=>u=Value.type n
abbrev GA:List V->List Value->Prop:=Paired RelV
def GA.length {xs:List V} {us:List Value} (r:GA xs us):xs.length=us.length:=Paired.length r
def GA.get:∀{xs:List V} {us:List Value} {i:Nat} {x:V},GA xs us->xs[i]?=some x->∃u,us[i]?=some u/\RelV x u
 |_,_,_,_,.nil,e=>by simp at e
 |_,_,0,_,.cons r _,e=>by simp at e;subst e;exact⟨_,M,r⟩
 |_,_,i+1,x,.cons _ t,e=>by
  obtain⟨u,h1,h2⟩:=GA.get (i:=i) (x:=x) t (by simpa using e);exact⟨u,by simpa using h1,h2⟩
def GA.set {x:V} {u:Value} (r:RelV x u):∀{xs:List V} {us:List Value} (i:Nat),GA xs us->GA (xs.set i x) (us.set i u)
 |_,_,_,.nil=> .nil
 |_,_,0,.cons _ t=> .cons r t
 |_,_,i+1,.cons q t=> .cons q (GA.set r i t)
def GA.append:∀{xs ys:List V} {us z:List Value},GA xs us->GA ys z->GA (xs++ys) (us++z)
 |_,_,_,_,.nil,s=>s
 |_,_,_,_,.cons r t,s=> .cons r (GA.append t s)
def GA.take:∀{xs:List V} {us:List Value} (n:Nat),GA xs us->GA (xs.take n) (us.take n)
 |_,_,0,_=> .nil
 |_,_,_+1,.nil=> .nil
 |_,_,n+1,.cons r t=> .cons r (GA.take n t)
def GA.drop:∀{xs:List V} {us:List Value} (n:Nat),GA xs us->GA (xs.drop n) (us.drop n)
 |_,_,0,r=>r
 |_,_,_+1,.nil=> .nil
 |_,_,n+1,.cons _ t=>GA.drop n t
def PR:Option V->Option Value->Prop
 |some v,some u=>RelV v u
 |none,none=>True
 |_,_=>False
def KV {κ:Type}:List (κ×V)->List (κ×Value)->Prop:=Paired λ(p:κ×V) (q:κ×Value)=>p.1=q.1/\RelV p.2 q.2
noncomputable def kV:Key->V
 | .inl i=> .int i
 | .inr x=> .str x
inductive HO where
 |lst (xs:List V)
 |tup (xs:List V)
 |dK (kvs:List (Key×V))|dT (kvs:List (List Key×V))
 |set (S:Int->Bool) (n:Nat)
 |ins (C dx:Addr) (fs:List (Str×V))
 |own (x:Addr)
 |xd (fs:List (Str×V))
 |met (f x:Addr)
 |rng (lo hi:Int)
 |frz (o:Obj) (u:HO)
 |tbl (ps:Array Value)
 |ext (φ:Heap->Prop)
abbrev Hp:=Addr->Option HO
def upd (H:Hp) (a:Addr) (o:HO):Hp:=λb=>if b=a then some o else H b
def ag:upd H a o a=some o:=by unfold upd;rw[Vp M]
def af (h:b≠a):upd H a o b=H b:=by unfold upd;rw[Vo h]
def eG:upd (upd H a o) a u=upd H a u:=by
 funext b;unfold upd;split<;>rfl
def cQ (h:H a=some o) (h':H b=some u) (d:o≠u):a≠b:=by
 intro e;subst e;rw[h]at h';exact d<|Vq h'
def am (h:H a=some o) (h':H b=none):a≠b:=by
 intro e;subst e;rw[h]at h';cases h'
section
variable (P:Program) (w:World)
def O9 (H:Hp) (h:Heap) (a:Addr):HO->Prop
 | .lst xs=>xs.length<=sizeLine/\∃(its:List Value) (n:Nat),GA xs its/\h.get? a=some {cls:= .type "list",data:= .seq its.toArray n}
 | .tup xs=>xs.length<=sizeLine/\∃its:List Value,GA xs its/\IsTup h a its.toArray
 | .dK kvs=>kvs.length<=sizeLine/\(a==sysModules)=false/\∃vs,KV kvs vs/\h.DictOf (a8 P w) a vs
 | .dT kvs=>kvs.length<=sizeLine/\(a==sysModules)=false/\∃xs:List (List Key×Addr×Value),
   Paired (λ(p:List Key×V) (q:List Key×Addr×Value)=>p.1=q.1/\H q.2.1=some (.tup<|p.1.map kV)/\RelV p.2 q.2.2) kvs xs/\
   ∃o es ep,h.get? a=some o/\o.ExactDict/\o.data= .dict es ep/\es.toList=xs.map (entryOfKey<|tupleKind<|a8 P w)/\(xs.map (·.1)).Nodup
 | .set S n=>h.SetOf (intKind P w) a S n
 | .ins C dx fs=>H dx=some (.own a)/\fs.length<=1000/\dx≠a/\h.get? a=some (PySem.W.instObj C dx)/\
   ∃mA,h.Ns1 dx mA/\(∀f,PR (fs.lookup f) (mA f))/\PySem.Within mA (fs.map (·.1))
 | .own _=>∃o,h.get? a=some o
 | .xd fs=>∃mA,h.Ns1 a mA/\∀f,PR (fs.lookup f) (mA f)
 | .rng lo hi=>∃t u v,h.get? a=some {cls:= .type "range",data:= .fields #[.int lo t,.int hi u,.int 1 v]}
 | .frz o u=>h.get? a=some o/\O9 H h a u
 | .tbl ps=>h.get? a=some {cls:= .none,data:= .fields ps}
 | .met f x=>h.get? a=some (PySem.W.methodObj (.ref f)<|.ref x)
 | .ext φ=>φ h/\(∃o,h.get? a=some o)/\∀h1 h2:Heap,φ h1->(∀o,h1.get? a=some o->h2.get? a=some o)->φ h2
def PM (H:Hp) (h:Heap):Prop:=∀a o,H a=some o->O9 P w H h a o
end
section
variable {H':Hp}
def O9.lt (x:O9 P w H h a o):a<h.objs.size:=by
 cases o with
 |lst xs=>obtain⟨_,_,_,_,e⟩:=x;exact Vx e
 |tup xs=>obtain⟨_,_,_,p⟩:=x;exact p.lt
 |dK kvs=>obtain⟨_,_,_,_,o,_,_,e,_⟩:=x;exact Vx e
 |dT kvs=>obtain⟨_,_,_,_,o,_,_,e,_⟩:=x;exact Vx e
 |set S n=>obtain⟨o,_,_,_,e,_⟩:=x;exact Vx e
 |ins C dx fs=>obtain⟨_,_,_,e,_⟩:=x;exact Vx e
 |own y=>obtain⟨_,e⟩:=x;exact Vx e
 |xd fs=>obtain⟨_,⟨_,_,_,e,_⟩,_⟩:=x;exact Vx e
 |rng lo hi=>obtain⟨_,_,_,e⟩:=x;exact Vx e
 |frz ob u=>obtain⟨e,_⟩:=x;exact Vx e
 |tbl ps=>exact Vx<|show h.get? a=some _ from x
 |met f y=>exact Vx<|show h.get? a=some _ from x
 |ext z=>obtain⟨_,⟨_,e⟩,_⟩:=x;exact Vx e
def Paired.mapP {α β:Type} {F G:α->β->Prop}:∀{z:List α} {I:List β},Paired F z I->(∀a b,F a b->G a b)->Paired G z I
 |_,_,.nil,_=> .nil
 |_,_,.cons r t,f=> .cons (f _ _ r) (Paired.mapP t f)
def O9.stay (x:O9 P w H h a o) (k:∀b u,(b=a\/H b=some (.own a))->h.get? b=some u->h'.get? b=some u)
  (ho:∀b,H b=some (.own a)->H' b=some (.own a)) (I:∀b xs,H b=some (.tup xs)->H' b=some (.tup xs)):O9 P w H' h' a o:=by
 induction o with
 |lst xs=>obtain⟨z,its,n,r,e⟩:=x;exact⟨z,its,n,r,k _ _ (.inl M) e⟩
 |tup xs=>obtain⟨z,its,r,ob,e,c⟩:=x;exact⟨z,its,r,ob,k _ _ (.inl M) e,c⟩
 |dK kvs=>obtain⟨z,y,vs,r,ob,es,ep,e,c⟩:=x;exact⟨z,y,vs,r,ob,es,ep,k _ _ (.inl M) e,c⟩
 |dT kvs=>
  obtain⟨z,y,xs,r,ob,es,ep,e,c⟩:=x;exact⟨z,y,xs,Paired.mapP r λp q z=>⟨z.1,I _ _ z.2.1,z.2.2⟩,ob,es,ep,k _ _ (.inl M) e,c⟩
 |set S n=>obtain⟨ob,es,ep,t,e,c⟩:=x;exact⟨ob,es,ep,t,k _ _ (.inl M) e,c⟩
 |ins C dx fs=>
  obtain⟨d,z,ne,e,mA,⟨G,es,ep,e2,c⟩,r⟩:=x;exact⟨ho _ d,z,ne,k _ _ (.inl M) e,mA,⟨G,es,ep,k _ _ (.inr d) e2,c⟩,r⟩
 |own y=>obtain⟨ob,e⟩:=x;exact⟨ob,k _ _ (.inl M) e⟩
 |xd fs=>obtain⟨mA,⟨G,es,ep,e,c⟩,r⟩:=x;exact⟨mA,⟨G,es,ep,k _ _ (.inl M) e,c⟩,r⟩
 |rng lo hi=>obtain⟨t,u,v,e⟩:=x;exact⟨t,u,v,k _ _ (.inl M) e⟩
 |frz ob u O=>obtain⟨e,q⟩:=x;exact⟨k _ _ (.inl M) e,O q⟩
 |tbl ps=>
  have e:h.get? a=some {cls:= .none,data:= .fields ps}:=x;show h'.get? a=some {cls:= .none,data:= .fields ps};exact k a _ (.inl M) e
 |met f y=>
  have e:h.get? a=some (PySem.W.methodObj (.ref f)<|.ref y):=x;show h'.get? a=some (PySem.W.methodObj (.ref f)<|.ref y);exact k a _ (.inl M) e
 |ext U=>obtain⟨p,⟨o,e⟩,st⟩:=x;exact⟨st _ _ p λo q=>k _ _ (.inl M) q,⟨o,k _ _ (.inl M) e⟩,st⟩
def PM.lt (x:PM P w H h) (e:H a=some o):a<h.objs.size:=(x a o e).lt
def PM.fresh (x:PM P w H h) (e:h.objs.size<=a):H a=none:=by
 cases q:H a with
 |none=>rfl
 |some u=>exact Vt (Qy (x.lt q) e)<|Zy _
def PM.kept (x:PM P w H h) (k:∀b u,h.get? b=some u->h'.get? b=some u):PM P w H h':=λa o e=>
 (x a o e).stay (λb u _ q=>k b u q) (λ_ q=>q) λ_ _ q=>q
def PM.laid (x:PM P w H h) (k:∀b u,h.get? b=some u->h'.get? b=some u) (G:h.objs.size<=a) (new:O9 P w (upd H a o) h' a o):PM P w (upd H a o) h':=λb u e=>by
 have z:=x.fresh G;by_cases hb:b=a
 .subst hb;rw[ag]at e;cases e;exact new
 .rw[af hb]at e;exact(x b u e).stay (λc v _ q=>k c v q) (λc q=>by rw[af (am q z)];exact q) λc xs q=>by rw[af (am q z)];exact q
end
def Rd (H:Hp) (a:Addr) (u:HO):Prop:=H a=some u\/∃o,H a=some (.frz o u)
def Rd.ok (r:Rd H a u) (x:PM P w H h):O9 P w H h a u:=by
 rcases r with r|⟨o,r⟩
 .exact x a u r
 .obtain⟨_,q⟩:=x a _ r;exact q
def Mut:Option HO->Prop
 |some (.lst _)=>True
 |some (.dK _)=>True
 |some (.dT _)=>True
 |some (.set _ _)=>True
 |some (.ins _ _ _)=>True
 |some (.ext _)=>True
 |_=>False
section
variable {x e:Addr} {o':HO}
def PM.write (ok:PM P w H h) (U:Mut (H x)) (he:e=x\/H e=some (.own x)) (k:∀b u,b≠e->h.get? b=some u->h'.get? b=some u) (Y:∃u,h'.get? e=some u)
  (new:O9 P w (upd H x o') h' x o'):PM P w (upd H x o') h':=λb u q=>by
 have I:∀c y,H c=some (.own y)->c≠x:=λc y r z=>by subst z;rw[r]at U;exact U
 have O:∀c xs,H c=some (.tup xs)->c≠x:=λc xs r z=>by subst z;rw[r]at U;exact U
 by_cases hb:b=x
 .subst hb;rw[ag]at q;cases q;exact new
 .rw[af hb]at q;by_cases G:b=e
  .have Z:H b=some (.own x):=by
    rcases he with z|z
    .exact Vt (G.trans z) hb
    .rwa[G]
   rw[q]at Z;cases Z;obtain⟨v,hv⟩:=Y;exact⟨v,by rwa[G]⟩
  .refine(ok b u q).stay (λc v hc r=>k c v ?_ r) (λc r=>by rwa[af (I c b r)]) λc xs r=>by rwa[af (O c xs r)]
   rcases hc with rfl|hc
   .exact G
   .rintro rfl;rcases he with z|z
    .exact I c b hc z
    .rw[hc]at z;cases z;exact hb M
end
structure Un (fs ex:List Addr) (H H':Hp) (h h':Heap):Prop where
 keep:∀b o,h.get? b=some o->H b=none->b∉fs->b∉ex->h'.get? b=some o
 slot:∀b o,h.get? b=some o->H b=none->b∈fs->b∉ex->∃sl,h'.get? b=some {o with slots:=sl}
 free:∀b o,h.get? b=some o->H b=none->b∉ex->H' b=none
 there:∀b o,h.get? b=some o->b∉ex->∃o',h'.get? b=some o'
 tups:∀b xs,H b=some (.tup xs)->H' b=some (.tup xs)
 frzs:∀b o u,H b=some (.frz o u)->H' b=some (.frz o u)
 tbls:∀b ps,H b=some (.tbl ps)->∃more,H' b=some (.tbl<|ps++more)
section
variable {fs fs' ex ex':List Addr} {H1 H2:Hp} {h1 h2:Heap} {x e:Addr}
def Un.any (u:Un fs ex H H1 h h1) {ob:Obj} (q:h.get? b=some ob) (n:H b=none) (hx:b∉ex):∃z,h1.get? b=some {ob with slots:=z}:=by
 by_cases hb:b∈fs
 .exact u.slot b ob q n hb hx
 .exact⟨ob.slots,u.keep b ob q n hb hx⟩
def Un.kept (k:∀b u,h.get? b=some u->h'.get? b=some u):Un fs ex H H h h':=
 ⟨λb ob q _ _ _=>k b ob q,λb ob q _ _ _=>⟨ob.slots,k b ob q⟩,λ_ _ _ n _=>n,λb ob q _=>⟨ob,k b ob q⟩,λ_ _ q=>q,λ_ _ _ q=>q,λ_ ps q=>⟨#[],by rw[q];simp⟩⟩
def Un.refl:Un fs ex H H h h:=Un.kept λ_ _ q=>q
def Un.laid (k:∀b u,h.get? b=some u->h'.get? b=some u) (G:h.objs.size<=a) (z:H a=none):Un fs ex H (upd H a o) h h' where
 keep:=λb u q _ _ _=>k b u q
 slot:=λb u q _ _ _=>⟨u.slots,k b u q⟩
 free:=λb u q n _=>by rwa[af (QK<|Qy (Vx q) G)]
 there:=λb u q _=>⟨u,k b u q⟩
 tups:=λb xs q=>by rw[af (am q z)];exact q
 frzs:=λb u xs q=>by rw[af (am q z)];exact q
 tbls:=λb ps q=>⟨#[],by rw[af (am q z),q];simp⟩
def Un.write (I:Mut (H x)) (he:e=x\/H e=some (.own x)) (k:∀b u,b≠e->h.get? b=some u->h'.get? b=some u) (O:∃u,h'.get? e=some u):Un fs ex H (upd H x o) h h':=by
 have hx:∀b,H b=none->b≠x:=λb n z=>by subst z;rw[n]at I;exact I
 have hb:∀b,H b=none->b≠e:=λb n z=>by
  subst z;rcases he with r|r
  .exact hx b n r
  .rw[n]at r;cases r
 have U:∀b u,H b=some u->¬Mut (some u)->b≠x:=λb u q Y z=>by subst z;rw[q]at I;exact Y I
 refine⟨λb u q n _ _=>k b u (hb b n) q,λb u q n _ _=>⟨u.slots,k b u (hb b n) q⟩,λb u q n _=>by rwa[af (hx b n)],λb u q _=>?_,
  λb xs q=>by rw[af (U b _ q λz=>z)];exact q,λb u xs q=>by rw[af (U b _ q λz=>z)];exact q,λb ps q=>⟨#[],by rw[af (U b _ q λz=>z),q];simp⟩⟩
 by_cases G:b=e
 .subst G;exact O
 .exact⟨u,k b u G q⟩
end
def Ru (h:Heap) (H:Hp):List Addr:=(List.range h.objs.size).filter λa=>(H a).isSome
def Bi (h:Heap) (H:Hp):Heap:=PySem.W.hideAll h (Ru h H)
def Gg (h:Heap) (H:Hp):(Bi h H).objs.size=h.objs.size:=PySem.W.hideAll_size _ _
def Iu {o:Obj} (e:h.get? b=some o) (n:H b=none):(Bi h H).get? b=some o:=
 PySem.W.hideAll_get _ e λz=>by
  have q:(H b).isSome=true:=(Qu.mp z).2;rw[n]at q;simp at q
def Ky {o:Obj} (e:(Bi h H).get? b=some o):h.get? b=some o/\H b=none:=by
 have G:h.get? b=some o:=PySem.W.of_hideAll (Ru h H) e;refine⟨G,?_⟩;cases q:H b with
 |none=>rfl
 |some x=>
  have I:b∈Ru h H:=Qu.mpr ⟨Vh.mpr<|Vx G,by simp[q]⟩;have z:(Bi h H).get? b=none:=PySem.W.hideAll_none (Ru h H) I;rw[z]at e;cases e
abbrev JK:=PySem.W.Frag
variable {C a b dx f it:Addr} {A:Around} {g':Array GenState} {CX:CXT} {op:CmpOp} {X:Cx} {d':Drawn} {c e tg:Expr} {fd:FuncData} {base h h':Heap} {H H':Hp} {lo:Int} {g:Int->Int->Int} {W:List (Addr×Obj)} {kw:List (Str×Value)} {ch fp:List Addr} {outer:List Env} {es:List Expr} {body:List Stmt} {N ps:List Str} {vs xs:List V} {us:List Value} {M':Model} {i j n t':Nat} {o:Option Value} {p pos pos':Pos} {P prog:Program} {K:JK} {r:R2} {R:Result->Shared->Prop} {scope:Scope} {s s':Shared} {sp:Sp} {B:St} {m name qual x:Str} {t ta te:TE} {tb:TS} {tc:TT} {v y:V} {u:Value} {E Q:Value->Shared->Prop} {rd:V->V->Hp->VK->Prop} {w:World}
structure Mod (K:JK) (mg:Str->Option Value) (base:Heap):Prop where
 kin:K.In base
 glob:base.Ns mainGlobals mg
 blt:∃mb,base.Ns builtinsNs mb/\∀x:Str,x≠"__name__"->mb x=bootBuiltins x
 nolimit:base.NoLimit
structure Cx where
 prog:Program
 w:World
 K:JK
 mg:Str->Option Value
 base:Heap
 A:Around
 N:List Str
 s₀:Shared
 H₀:Hp
 env:Env
 outer:List Env
 stack:List Env
 ex:List Addr
 fn:Str->Bool
 calm:Bool
 pn:List (Addr×Obj)
 xe:Value->Shared->Prop
noncomputable def RQ (l:List Env):List Addr:=l.filterMap (·.frame)
abbrev Cx.fs (X:Cx):List Addr:=RQ X.outer
def SJ (sc:Scope) (x:Str):Prop:=sc.names.lookup x=some .local\/sc.names.lookup x=some .cell\/sc.names.lookup x=some .free
def Loc (sc:Scope) (x:Str):Prop:=sc.names.lookup x=some .local\/sc.names.lookup x=some .cell
def Look (env:Env) (h:Heap) (m:Str->Option Value) (x:Str) (u:Value):Prop:=
 (env.kindOf x=some .local/\m x=some u)\/((env.kindOf x=some .cell\/env.kindOf x=some .free)/\∃c,env.cells.lookup x=some c/\h.IsCell c (some u))
structure Cx.Ok (X:Cx):Prop where
 mod:Mod X.K X.mg X.base
 kind:X.env.scope.kind= .function
 glob:X.env.globals=mainGlobals
 blt:X.env.builtins=builtinsNs
 above:X.s₀.heap.objs.size<=X.env.locals
 inj:∀x y c,X.env.cells.lookup x=some c->X.env.cells.lookup y=some c->x=y
 has:∀x,(X.env.kindOf x=some .cell\/X.env.kindOf x=some .free)->∃c,X.env.cells.lookup x=some c
 cab:∀x c,X.fn x=true->X.env.cells.lookup x=some c->X.s₀.heap.objs.size<=c
 hd:X.calm=true->X.A.handled=none
 frames:X.A.frames=some X.stack
 stk:X.stack=X.outer\/(X.stack=X.env::X.outer/\X.env.frame=some X.env.locals)
 exf:∀b∈X.ex,b≠X.env.locals/\∀x c,X.env.cells.lookup x=some c->c≠b
 bs:∀b o,X.base.get? b=some o->X.s₀.heap.get? b=some o/\X.H₀ b=none
 bsz:X.base.objs.size<=X.s₀.heap.objs.size
 noex:∀b o,X.base.get? b=some o->b∉X.ex
 exfs:∀b∈X.ex,b∉X.fs
 funs:X.s₀.heap.FunFrames X.base X.outer
 frf:∀b∈X.fs,X.H₀ b=none
structure Inv (X:Cx) (W:List (Addr×Obj)) (B:List (Option V)) (H:Hp) (s:Shared):Prop where
 ok:X.Ok
 os:s.os=X.s₀.os
 bare:AllBare s.gens
 base:Un X.fs X.ex X.H₀ H X.s₀.heap s.heap
 loc:∃m,s.heap.Ns X.env.locals m/\∀(i:Nat) (x:Str) (v:V),X.N[i]?=some x->B[i]?=some (some v)->SJ X.env.scope x->∃u,RelV v u/\Look X.env s.heap m x u
 cell:∀x c,X.env.cells.lookup x=some c->∃v,s.heap.IsCell c v
 free:H X.env.locals=none
 freeC:∀x c,X.env.cells.lookup x=some c->H c=none
 pin:∀p∈X.pn++W,s.heap.get? p.1=some p.2/\H p.1=none/\p.1≠X.env.locals/\p.1∉X.fs/\∀v,p.2.data≠ .cell v
 hok:PM X.prog X.w H s.heap
 len:B.length=X.N.length
section
variable {B:List (Option V)}
def Cx.Ok.nofr (ok:X.Ok) {o:Obj} (e:X.base.get? b=some o):b∉X.fs:=λhb=>by
 have:=(ok.funs.mem hb).1;rw[e]at this;cases this
def Inv.bs (I:Inv X W B H s):∀b o,X.base.get? b=some o->s.heap.get? b=some o/\H b=none:=λb o e=>
 ⟨I.base.keep b o (I.ok.bs b o e).1 (I.ok.bs b o e).2 (I.ok.nofr e)<|I.ok.noex b o e,I.base.free b o (I.ok.bs b o e).1 (I.ok.bs b o e).2<|I.ok.noex b o e⟩
def Inv.bk (I:Inv X W B H s):∀b o,X.base.get? b=some o->s.heap.get? b=some o:=λb o e=>(I.bs b o e).1
def Inv.mod (I:Inv X W B H s):Mod X.K X.mg X.base:=I.ok.mod
def Inv.kIn (I:Inv X W B H s):X.K.In s.heap:=I.ok.mod.kin.keeps I.bk
def Inv.lt (I:Inv X W B H s):X.env.locals<s.heap.objs.size:=let⟨_,hn,_⟩:=I.loc;hn.lt
def Inv.sz (I:Inv X W B H s):X.s₀.heap.objs.size<=s.heap.objs.size:=Qz I.ok.above (Z4 I.lt)
def Inv.nofs (I:Inv X W B H s) (h:s.heap.objs.size<=a):a∉X.fs:=λhb=>by
 obtain⟨_,o,ho,_⟩:=I.ok.funs.mem hb;exact Vt (Qy (Vx ho)<|Qz I.sz h)<|Zy _
def Inv.cne (I:Inv X W B H s):∀x c,X.env.cells.lookup x=some c->c≠X.env.locals:=λx c e z=>by
 obtain⟨v,o,ho,hd⟩:=I.cell x c e;obtain⟨m,⟨o',es,ep,G,O,_⟩,_⟩:=I.loc;rw[z,G]at ho;cases ho;rw[O]at hd;cases hd
def Inv.funs (I:Inv X W B H s):s.heap.FunFrames X.base X.outer:=by
 have all:∀(l:List Env),(∀b∈RQ l,b∈X.fs)->X.s₀.heap.FunFrames X.base l->s.heap.FunFrames X.base l:=by
  intro l
  induction l with
  |nil=>intro _ _;trivial
  |cons env r O=>
   intro hs hl;obtain⟨hk,⟨L,o,hf,U,ho,hd⟩,Y⟩:=hl;have G:L∈X.fs:=hs L (by unfold RQ;rw[XJ,hf];exact Qb);obtain⟨Z,e⟩:=I.base.slot L o ho (I.ok.frf L G) G λz=>I.ok.exfs L z G;exact⟨hk,⟨L,_,hf,U,e,hd⟩,O (λb hb=>hs b<|by unfold RQ;rw[XJ,hf];exact Qd _ hb) Y⟩
 exact all X.outer (λ_ hb=>hb) I.ok.funs
def Inv.stack (I:Inv X W B H s):s.heap.FunFrames X.base X.stack:=by
 rcases I.ok.stk with e|⟨e,hf⟩
 .rw[e];exact I.funs
 .rw[e];obtain⟨m,z,_⟩:=I.loc;refine .cons (by rw[I.ok.kind];decide) hf z ?_ I.funs;exact VU<|Qz I.ok.bsz I.ok.above
def Inv.stkSub (I:Inv X W B H s):∀b∈RQ X.stack,b∈X.env.locals::X.fs:=λb hb=>by
 rcases I.ok.stk with e|⟨e,hf⟩
 .rw[e]at hb;exact Qd _ hb
 .rw[e]at hb;unfold RQ at hb;rw[XJ,hf]at hb;exact hb
def Inv.stkFree (I:Inv X W B H s):∀b∈RQ X.stack,H b=none:=λb hb=>by
 rcases Qh.mp (I.stkSub b hb)with e|hb
 .rw[e];exact I.free
 .obtain⟨_,o,ho,_⟩:=I.ok.funs.mem hb;exact I.base.free b o ho (I.ok.frf b hb) λz=>I.ok.exfs b z hb
def Inv.step (I:Inv X W B H s)
  (G:∀b∈ch,(b∈X.ex\/X.s₀.heap.objs.size<=b)/\b≠X.env.locals/\(∀x c,X.env.cells.lookup x=some c->c≠b)/\∀p∈X.pn++W,p.1≠b)
  (keep:∀b o,b≠X.env.locals->b∉X.fs->b∉ch->s.heap.get? b=some o->H b=none->h'.get? b=some o)
  (slot:∀b o,b≠X.env.locals->b∈X.fs->b∉ch->s.heap.get? b=some o->H b=none->∃sl,h'.get? b=some {o with slots:=sl}) (free:∀b o,b∉ch->s.heap.get? b=some o->H b=none->H' b=none)
  (there:∀b o,b∉ch->s.heap.get? b=some o->∃o',h'.get? b=some o')
  (tups:∀b xs,H b=some (.tup xs)->H' b=some (.tup xs)) (frzs:∀b o u,H b=some (.frz o u)->H' b=some (.frz o u)) (tbls:∀b ps,H b=some (.tbl ps)->∃more,H' b=some (.tbl<|ps++more))
  (ns:∀m,s.heap.Ns X.env.locals m->h'.Ns X.env.locals m) (hok:PM X.prog X.w H' h') (hg:AllBare g'):
  Inv X W B H' {s with heap:=h',gens:=g',drawn:=d',toks:=t'}:=by
 have a0:∀b o,X.s₀.heap.get? b=some o->b≠X.env.locals:=λb o e=>QK (Qy (Vx e) I.ok.above);have Y:∀b o,X.s₀.heap.get? b=some o->b∉X.ex->b∉ch:=λb o e hx hb=>by
  rcases(G b hb).1 with z|z
  .exact hx z
  .exact Vt (Qy (Vx e) z)<|Zy _
 have O:∀x c,X.env.cells.lookup x=some c->∀v,s.heap.IsCell c v->h'.IsCell c v:=λx c e v ⟨o,ho,hd⟩=>by
  have U:c∉ch:=λz=>(G c z).2.2.1 x c e M;by_cases hc:c∈X.fs
  .obtain⟨sl,q⟩:=slot c o (I.cne x c e) hc U ho (I.freeC x c e);exact⟨_,q,hd⟩
  .exact⟨o,keep c o (I.cne x c e) hc U ho<|I.freeC x c e,hd⟩
 refine⟨I.ok,I.os,hg,⟨λb o e n hb hx=>?_,λb o e n hb hx=>?_,λb o e n hx=>?_,λb o e hx=>?_,λb xs e=>tups b xs<|I.base.tups b xs e,λb o xs e=>frzs b o xs<|I.base.frzs b o xs e,λb ps e=>?_⟩,?_,λx c e=>?_,?_,λx c e=>?_,λp hp=>?_,hok,I.len⟩
 .exact keep b o (a0 b o e) hb (Y b o e hx) (I.base.keep b o e n hb hx)<|I.base.free b o e n hx
 .obtain⟨sl,Z⟩:=I.base.slot b o e n hb hx;obtain⟨a1,e2⟩:=slot b _ (a0 b o e) hb (Y b o e hx) Z (I.base.free b o e n hx);exact⟨a1,e2⟩
 .obtain⟨o',Z⟩:=I.base.there b o e hx;exact free b o' (Y b o e hx) Z<|I.base.free b o e n hx
 .obtain⟨o',Z⟩:=I.base.there b o e hx;exact there b o' (Y b o e hx) Z
 .obtain⟨m1,Z⟩:=I.base.tbls b ps e;obtain⟨m2,e2⟩:=tbls b _ Z;exact⟨m1++m2,by rw[e2,Array.append_assoc]⟩
 .obtain⟨m,hn,hl⟩:=I.loc;refine⟨m,ns m hn,λi x v Z e2 e3=>?_⟩;obtain⟨u,r,l⟩:=hl i x v Z e2 e3;refine⟨u,r,?_⟩;rcases l with l|⟨k,c,e,z⟩
  .exact .inl l
  .exact .inr ⟨k,c,e,O x c e _ z⟩
 .obtain⟨v,z⟩:=I.cell x c e;exact⟨v,O x c e v z⟩
 .obtain⟨m,⟨o,_,_,ho,_⟩,_⟩:=I.loc;exact free _ o (λz=>(G _ z).2.1 rfl) ho I.free
 .obtain⟨v,o,ho,hd⟩:=I.cell x c e;exact free c o (λz=>(G c z).2.2.1 x c e M) ho<|I.freeC x c e
 .obtain⟨e,n,ne,nf,d⟩:=I.pin p hp;have U:p.1∉ch:=λz=>(G p.1 z).2.2.2 p hp M;exact⟨keep p.1 p.2 ne nf U e n,free p.1 p.2 U e n,ne,nf,d⟩
def Inv.un (I:Inv X W B H s) (u:Un X.fs [] H H' s.heap h') (hok:PM X.prog X.w H' h'):Inv X W B H' {s with heap:=h',toks:=t'}:=by
 obtain⟨m,⟨o,es,ep,ho,r⟩,_⟩:=id I.loc;obtain⟨sl,Y⟩:=u.any ho I.free (by simp);exact I.step (g':=s.gens) (d':=s.drawn) (ch:=[]) (λ_ z=>nomatch z) (λb o _ hb _ e n=>u.keep b o e n hb<|by simp) (λb o _ hb _ e n=>u.slot b o e n hb<|by simp) (λb o _ e n=>u.free b o e n<|by simp) (λb o _ e=>u.there b o e<|by simp) u.tups u.frzs u.tbls (λm' Z=>by
  obtain⟨o',O,U,G,r'⟩:=Z;rw[ho]at G;cases G;exact⟨_,O,U,Y,r'⟩) hok I.bare
def Inv.call (I:Inv X W B H s) (u:Un (RQ X.stack) ch H H' s.heap h') (hok:PM X.prog X.w H' h') (hg:AllBare g')
  (G:∀b∈ch,(b∈X.ex\/X.s₀.heap.objs.size<=b)/\b≠X.env.locals/\(∀x c,X.env.cells.lookup x=some c->c≠b)/\∀p∈X.pn++W,p.1≠b):
  Inv X W B H' {s with heap:=h',gens:=g',drawn:=d',toks:=t'}:=by
 obtain⟨m,⟨o,es,ep,ho,r⟩,_⟩:=id I.loc;obtain⟨sl,U⟩:=u.any ho I.free λz=>(G _ z).2.1 rfl;exact I.step (ch:=ch) G (λb o U hb hc e n=>u.keep b o e n (λz=>(Qh.mp<|I.stkSub b z).elim U hb) hc) (λb o _ _ hc e n=>u.any e n hc) (λb o hc e n=>u.free b o e n hc) (λb o hc e=>u.there b o e hc) u.tups u.frzs u.tbls (λm' hm=>by
  obtain⟨o',Y,Z,O,r'⟩:=hm;rw[ho]at O;cases O;exact⟨_,Y,Z,U,r'⟩) hok hg
def Inv.turned (I:Inv X W B H s) (k:∀b o,b≠it->s.heap.get? b=some o->h'.get? b=some o) (U:H it=none) (O:it≠X.env.locals)
  (h1:it∈X.ex\/X.s₀.heap.objs.size<=it) (h2:∀x c,X.env.cells.lookup x=some c->c≠it) (Y:∀p∈X.pn++W,p.1≠it):Inv X W B H {s with heap:=h',toks:=t'}:=by
 have G:∀b u,H b=some u->b≠it:=λb u e z=>by rw[z,U]at e;cases e
 refine I.step (g':=s.gens) (d':=s.drawn) (ch:=[it]) (λb hb=>?_) (λb o _ _ hc e _=>k b o (λz=>hc<|by simp[z]) e) (λb o _ _ hc e _=>⟨o.slots,k b o (λz=>hc<|by simp[z]) e⟩) (λ_ _ _ _ n=>n)
  (λb o hc e=>⟨o,k b o (λz=>hc<|by simp[z]) e⟩) (λ_ _ e=>e) (λ_ _ _ e=>e) (λb ps e=>⟨#[],by rw[e];simp⟩) (λm Z=>?_) (λb u e=>?_) I.bare
 .have e:b=it:=by simpa using hb
  subst e;exact⟨h1,O,h2,Y⟩
 .obtain⟨o,es,ep,ho,r⟩:=Z;exact⟨o,es,ep,k _ o (Ne.symm O) ho,r⟩
 .refine(I.hok b u e).stay (λc v hc q=>k c v ?_ q) (λ_ q=>q) λ_ _ q=>q;rcases hc with z|z
  .rw[z];exact G b u e
  .exact G c _ z
def Inv.tok (I:Inv X W B H s) (t:Nat):Inv X W B H {s with toks:=t}:=I.un (h':=s.heap) (t':=t) Un.refl I.hok
def Inv.kept (I:Inv X W B H s) (k:∀b u,s.heap.get? b=some u->h'.get? b=some u):Inv X W B H {s with heap:=h',toks:=t'}:=I.un (Un.kept k) (I.hok.kept k)
def Inv.laid {o:HO} (I:Inv X W B H s) (k:∀b u,s.heap.get? b=some u->h'.get? b=some u) (z:s.heap.objs.size<=a) (new:O9 X.prog X.w (upd H a o) h' a o):
  Inv X W B (upd H a o) {s with heap:=h',toks:=t'}:=I.un (Un.laid k z<|I.hok.fresh z) (I.hok.laid k z new)
def Inv.write {x e:Addr} {o:HO} (I:Inv X W B H s) (G:Mut (H x)) (he:e=x\/H e=some (.own x)) (k:∀b u,b≠e->s.heap.get? b=some u->h'.get? b=some u) (z:∃u,h'.get? e=some u)
  (new:O9 X.prog X.w (upd H x o) h' x o):Inv X W B (upd H x o) {s with heap:=h',toks:=t'}:=I.un (Un.write G he k z) (I.hok.write G he k z new)
def Inv.pins_of {G:List (Addr×Obj)} (I:Inv X W B H s) (h:∀p∈G,s.heap.get? p.1=some p.2/\H p.1=none/\p.1≠X.env.locals/\p.1∉X.fs/\∀v,p.2.data≠ .cell v):Inv X G B H s:=
 ⟨I.ok,I.os,I.bare,I.base,I.loc,I.cell,I.free,I.freeC,λp O=>(Q5.mp O).elim (λz=>I.pin p<|Xc _ z)<|h p,I.hok,I.len⟩
def Cl (hN:N.Nodup) (a:N[i]?=some x) (b:N[j]?=some x):i=j:=by
 obtain⟨h1,z⟩:=Q2.mp a;obtain⟨h2,e2⟩:=Q2.mp b;exact(List.getElem_inj hN).mp<|z.trans e2.symm
def zD {Q:Unit->Shared->Prop} (I:Inv X W B H s) (hN:X.N.Nodup) (hi:X.N[i]?=some x) (hx:Loc X.env.scope x) (r:RelV v u)
  (h:∀s',Inv X W (B.set i<|some v) H s'->(∃a,Heap.SameBut a s.heap s'.heap/\(a=X.env.locals\/X.env.cells.lookup x=some a))->Q Unit.unit s') (hf:X.fn x=true\/X.env.scope.names.lookup x=some .local:=by first|exact .inl M|exact .inr M|assumption):wpAny M' A (storeName X.env x u) Q E s:=by
 obtain⟨m,hn,hl⟩:=id I.loc;have a1:(X.env.scope.kind== .class||(X.env.scope.kind== .module&&X.env.locals !=X.env.globals))=false:=by rw[I.ok.kind];rfl
 have Y:i<B.length:=by rw[I.len];exact(Q2.mp hi).1
 have cne:=I.cne;have G:∀{a:Addr} {h':Heap},(∃o,s.heap.get? a=some o/\H a=none)->Heap.SameBut a s.heap h'->PM X.prog X.w H h':=λ{a h'} ha hs b ob e=>by
  obtain⟨_,_,U⟩:=ha;refine(I.hok b ob e).stay (λc w' hc q=>(hs.2 c ?_).trans q) (λ_ q=>q) λ_ _ q=>q;rintro rfl;rcases hc with rfl|hc
  .rw[U]at e;cases e
  .rw[U]at hc;cases hc
 rcases hx with hk|hk
 .refine wpAny_storeName_local hk hn (λh' aa hs=>?_) a1;obtain⟨oL,_,_,ab,_⟩:=id hn;refine h _ ⟨I.ok,I.os,I.bare,⟨λb o e n hb hx=>?_,λb o e n hb hx=>?_,I.base.free,λb o e hx=>?_,I.base.tups,I.base.frzs,I.base.tbls⟩,⟨_,aa,λj y v' O e2 e3=>?_⟩,λy c e=>?_,I.free,I.freeC,λp hp=>?_,G ⟨oL,ab,I.free⟩ hs,by simpa using I.len⟩ ⟨_,hs,.inl M⟩
  .exact(hs.2 b<|QK<|Qy (Vx e) I.ok.above).trans<|I.base.keep b o e n hb hx
  .obtain⟨sl,O⟩:=I.base.slot b o e n hb hx;exact⟨sl,(hs.2 b<|QK<|Qy (Vx e) I.ok.above).trans O⟩
  .obtain⟨o',O⟩:=I.base.there b o e hx;exact⟨o',(hs.2 b<|QK<|Qy (Vx e) I.ok.above).trans O⟩
  .by_cases Z:j=i
   .subst Z;rw[hi]at O;cases O;rw[Xw Y]at e2;cases e2;exact⟨u,r,.inl ⟨hk,by simp⟩⟩
   .rw[List.getElem?_set_ne (Ne.symm Z)]at e2;obtain⟨u',r',q⟩:=hl j y v' O e2 e3;refine⟨u',r',?_⟩;rcases q with⟨k,e⟩|⟨k,c,e,z⟩
    .refine .inl ⟨k,?_⟩;have:y≠x:=λe=>Z (Cl hN O<|e▸hi);simp[this,e]
    .exact .inr ⟨k,c,e,z.sameBut hs<|cne y c e⟩
  .obtain⟨w',z⟩:=I.cell y c e;exact⟨w',z.sameBut hs<|cne y c e⟩
  .obtain⟨e,n,ne,nf,d⟩:=I.pin p hp;exact⟨(hs.2 p.1 ne).trans e,n,ne,nf,d⟩
 .have a0:X.fn x=true:=by
   rcases hf with z|z
   .exact z
   .rw[z]at hk;cases hk
  obtain⟨c,hc⟩:=I.ok.has x (.inl hk);obtain⟨w',z⟩:=I.cell x c hc;refine wpAny_storeName_cell I.ok.kind hk hc z<|λh' a2 hs=>?_;obtain⟨oc,a3,a4⟩:=id z;refine h {s with heap:=h'} ⟨I.ok,I.os,I.bare,⟨λb o e n hb hx=>?_,λb o e n hb hx=>?_,I.base.free,λb o e hx=>?_,I.base.tups,I.base.frzs,I.base.tbls⟩,⟨m,hn.sameBut hs<|Ne.symm<|cne x c hc,λj y v' O e2 e3=>?_⟩,λy c' e=>?_,I.free,I.freeC,λp hp=>?_,G ⟨oc,a3,I.freeC x c hc⟩ hs,by simpa using I.len⟩ ⟨c,hs,.inr hc⟩
  .exact(hs.2 b<|QK<|Qy (Vx e)<|I.ok.cab x c a0 hc).trans<|I.base.keep b o e n hb hx
  .obtain⟨sl,O⟩:=I.base.slot b o e n hb hx;exact⟨sl,(hs.2 b<|QK<|Qy (Vx e)<|I.ok.cab x c a0 hc).trans O⟩
  .obtain⟨o',O⟩:=I.base.there b o e hx;exact⟨o',(hs.2 b<|QK<|Qy (Vx e)<|I.ok.cab x c a0 hc).trans O⟩
  .by_cases Z:j=i
   .subst Z;rw[hi]at O;cases O;rw[Xw Y]at e2;cases e2;exact⟨u,r,.inr ⟨.inl hk,c,hc,a2⟩⟩
   .rw[List.getElem?_set_ne (Ne.symm Z)]at e2;obtain⟨u',r',q⟩:=hl j y v' O e2 e3;refine⟨u',r',?_⟩;rcases q with q|⟨k,c',e,z'⟩
    .exact .inl q
    .refine .inr ⟨k,c',e,z'.sameBut hs ?_⟩;rintro rfl;exact Z<|Cl hN O (I.ok.inj _ _ _ e hc▸hi)
  .by_cases a5:c'=c
   .subst a5;exact⟨_,a2⟩
   .obtain⟨w2,z2⟩:=I.cell y c' e;exact⟨w2,z2.sameBut hs a5⟩
  .obtain⟨e,n,ne,nf,d⟩:=I.pin p hp;refine⟨(hs.2 p.1 ?_).trans e,n,ne,nf,d⟩;intro q;rw[q,a3]at e;have q':oc=p.2:=Vq e;exact d w'<|by rwa[<-q']
def wj {Q:Unit->Shared->Prop} (I:Inv X W B H s) (hN:X.N.Nodup) (hi:X.N[i]?=some x) (hx:Loc X.env.scope x) (r:RelV v u)
  (h:∀s',Inv X W (B.set i<|some v) H s'->Q Unit.unit s') (hf:X.fn x=true\/X.env.scope.names.lookup x=some .local:=by first|exact .inl M|exact .inr M|assumption):wpAny M' A (storeName X.env x u) Q E s:=
 zD I hN hi hx r (λs' z _=>h s' z) hf
def Inv.call' (I:Inv X W B H s) (ho:s'.os=s.os) (u:Un (RQ X.stack) ch H H' s.heap s'.heap) (hok:PM X.prog X.w H' s'.heap) (G:AllBare s'.gens)
  (z:∀b∈ch,(b∈X.ex\/X.s₀.heap.objs.size<=b)/\b≠X.env.locals/\(∀x c,X.env.cells.lookup x=some c->c≠b)/\∀p∈X.pn++W,p.1≠b):Inv X W B H' s':=by
 obtain⟨h',g',d',t',o'⟩:=s';have e:o'=s.os:=ho;subst e;exact I.call (g':=g') (t':=t') (d':=d') u hok G z
end
abbrev XK:=Value->Option Addr->Hp->Prop
abbrev St:=List (Option V)
abbrev VK:=V->Hp->Prop
abbrev TE:=St->Hp->VK->Prop
abbrev TT:=St->Hp->(Bool->Hp->Prop)->Prop
abbrev TA:=St->Hp->(List V->Hp->Prop)->Prop
structure tG where
 nx:St->Hp->Prop
 rt:VK
 bk:St->Hp->Prop:=λ_ _=>False
 ct:St->Hp->Prop:=λ_ _=>False
abbrev TS:=tG->St->Hp->Prop
def EP (X:Cx) (W:List (Addr×Obj)) (B:St) (Q:VK) (u:Value) (s':Shared):Prop:=∃v H',Inv X W B H' s'/\RelV v u/\Q v H'
def TP (X:Cx) (W:List (Addr×Obj)) (B:St) (Q:Bool->Hp->Prop) (b:Bool) (s':Shared):Prop:=∃H',Inv X W B H' s'/\Q b H'
def AP (X:Cx) (W:List (Addr×Obj)) (B:St) (Q:List V->Hp->Prop) (us:List Value) (s':Shared):Prop:=∃vs H',Inv X W B H' s'/\GA vs us/\Q vs H'
def SP (X:Cx) (W:List (Addr×Obj)) (D:tG) (f:Flow) (s':Shared):Prop:=
 match f with
 | .next=>∃σ' H',Inv X W σ' H' s'/\D.nx σ' H'
 | .brk=>∃σ' H',Inv X W σ' H' s'/\D.bk σ' H'
 | .cont=>∃σ' H',Inv X W σ' H' s'/\D.ct σ' H'
 | .ret u=>∃v σ' H',Inv X W σ' H' s'/\RelV v u/\D.rt v H'
abbrev W6 (X:Cx) {a}:=@wpAny a (model X.prog X.w) X.A
def PE (X:Cx) (e:Expr) (t:TE):Prop:=
 ∀(W:List (Addr×Obj)) (s:Shared) (B:St) (H:Hp) (Q:VK),Inv X W B H s->t B H Q->W6 X (eval e X.env) (EP X W B Q) X.xe s
def PT (X:Cx) (e:Expr) (t:TT):Prop:=
 ∀(W:List (Addr×Obj)) (s:Shared) (B:St) (H:Hp) (Q:Bool->Hp->Prop),Inv X W B H s->t B H Q->W6 X (isTrue e X.env<|eval e X.env) (TP X W B Q) X.xe s
def PW (X:Cx) (e:Expr) (t:TT):Prop:=
 ∀(whole:Sem Value) (W:List (Addr×Obj)) (s:Shared) (B:St) (H:Hp) (Q:Bool->Hp->Prop),Inv X W B H s->t B H Q->W6 X (isTrue e X.env whole) (TP X W B Q) X.xe s
def PW.pt {t:TT} (h:PW X e t):PT X e t:=h _
def PA (X:Cx) (es:List Expr) (t:TA):Prop:=
 ∀(pos:Pos) (W:List (Addr×Obj)) (s:Shared) (B:St) (H:Hp) (Q:List V->Hp->Prop),Inv X W B H s->t B H Q->W6 X (spliced<|backTo pos<|starEach es X.env) (AP X W B Q) X.xe s
def PS (X:Cx) (st:Stmt) (t:TS):Prop:=
 ∀(W:List (Addr×Obj)) (s:Shared) (B:St) (H:Hp) (D:tG),Inv X W B H s->t D B H->W6 X (exec st X.env) (SP X W D) X.xe s
def PY (X:Cx) (st:List Stmt) (t:TS):Prop:=
 ∀(W:List (Addr×Obj)) (s:Shared) (B:St) (H:Hp) (D:tG),Inv X W B H s->t D B H->W6 X (execs st X.env) (SP X W D) X.xe s
def OI {α:Type} {t:Sem α} {Q Q':α->Shared->Prop} (h:wpAny M' A t Q E s) (z:∀a s,Q a s->Q' a s):wpAny M' A t Q' E s:=VN h z λ_ _ x=>x
section
inductive Mf (i:Nat) (B:St) (H:Hp) (Q:VK):Prop
 |mk (v:_) (_:B[i]?=some (some v)) (_:Q v H)
def tC (v:V):TE:=λ_ H Q=>Q v H
def MC {i:Nat} (hN:X.N[i]?=some x) (O:SJ X.env.scope x) (hd:(x==("__debug__":Str))=false:=by decide) (G:(x==("__classdict__":Str))=false:=by decide):PE X (.Name x pos) (Mf i):=by
 intro W s B H Q I h;obtain⟨v,e,h⟩:=h;obtain⟨m,U,hl⟩:=I.loc;obtain⟨u,r,l⟩:=hl i x v hN e O;have fin:EP X W B Q u s:=⟨v,H,I,r,h⟩;rcases l with⟨hk,Y⟩|⟨hk,c,hc,z⟩
 .exact wpAny_Name (wpAny_loadName_local I.ok.kind hk U Y fin) hd
 .rcases hk with hk|hk
  .exact wpAny_Name (wpAny_loadName_cell I.ok.kind hk hc z fin) hd
  .exact wpAny_Name (wpAny_loadName_free I.ok.kind hk hc z fin G) hd
def ae {i j pos}:PE X (.Constant (.int i) j pos) (tC<|.int i):=λ_ _ _ H _ I h=>wpAny_Constant_int ⟨.int i,H,I.tok _,⟨_,M⟩,h⟩
def nS {b j pos}:PE X (.Constant (.bool b) j pos) (tC<|.bl b):=λ_ _ _ H _ I h=>Constant_bool ⟨.bl b,H,I,M,h⟩
def a7 {j pos}:PE X (.Constant .none j pos) (tC .non):=λ_ _ _ H _ I h=>Constant_none ⟨.non,H,I,M,h⟩
def gk {x j pos}:PE X (.Constant (.str x) j pos) (tC<|.str x):=λ_ _ _ H _ I h=>Calls.Constant_str ⟨.str x,H,I.tok _,⟨_,M⟩,h⟩
def Gl (X:Cx) (x:Str):Prop:=X.env.kindOf x=some .globalImplicit
def sr {B:St} {H:Hp} {Q:Value->Shared->Prop} (I:Inv X W B H s) (z:Gl X x) (G:X.mg x=some u) (h:Q u s)
  (hd:(x==("__debug__":Str))=false:=by decide):W6 X (eval (.Name x pos) X.env) Q E s:=
 Calls.Name_function_global I.ok.kind z (Calls.loadGlobal_global (by rw[I.ok.glob];exact I.mod.glob.keeps I.bk) G h) hd
def uA {B:St} {H:Hp} {Q:Value->Shared->Prop} (I:Inv X W B H s) (z:Gl X x) (G:X.mg x=none) (O:bootBuiltins x=some u) (h:Q u s)
  (U:x≠"__name__":=by decide) (hd:(x==("__debug__":Str))=false:=by decide):W6 X (eval (.Name x pos) X.env) Q E s:=by
 obtain⟨Y,h1,h2⟩:=I.mod.blt;exact Calls.Name_function_global I.ok.kind z (Calls.loadGlobal_builtin (by rw[I.ok.glob];exact I.mod.glob.keeps I.bk) G (by rw[I.ok.blt];exact h1.keeps I.bk) ((h2 x U).trans O) h) hd
def c8 {v:V} (z:Gl X x) (G:X.mg x=some u) (r:RelV v u) (hd:(x==("__debug__":Str))=false:=by decide):PE X (.Name x pos) (tC v):=
 λ_ _ _ H _ I h=>sr I z G ⟨v,H,I,r,h⟩ hd
def vU {v:V} (z:Gl X x) (G:X.mg x=none) (O:bootBuiltins x=some u) (r:RelV v u) (U:x≠"__name__":=by decide) (hd:(x==("__debug__":Str))=false:=by decide):PE X (.Name x pos) (tC v):=
 λ_ _ _ H _ I h=>uA I z G O ⟨v,H,I,r,h⟩ U hd
variable {a b:Expr} {tb:TE}
def PC (X:Cx) (op:CmpOp) (a b:Expr) (t:TE):Prop:=
 ∀(W:List (Addr×Obj)) (s:Shared) (B:St) (H:Hp) (Q:VK),Inv X W B H s->t B H Q->
  W6 X (eval a X.env) (λv s₁=>W6 X (eval b X.env) (λu s₂=>W6 X (compareOp op v u) (EP X W B Q) X.xe s₂) X.xe s₁) X.xe s
inductive tBR (Q:Bool->Hp->Prop) (x:V) (H1:Hp):Prop
 |mk (c:_) (_:x= .bl c) (_:Q c H1)
def tB (t:TE):TT:=λB H Q=>t B H λx H1=>tBR Q x H1
def Hz (h:PC X op a b t) (h1:behindInMarks op b=false:=by first|exact nobehind _ (_) (_)|rfl):PE X (.Compare a [op] [b] pos) t:=λW s B H Q I hw=>wpAny_Compare1 (h W s B H Q I hw) h1
def DX (h:PC X op a b t) (h1:behindInMarks op b=false:=by first|exact nobehind _ (_) (_)|rfl):PT X (.Compare a [op] [b] pos) (tB t):=by
 intro W s B H Q I hw;refine wpAny_isTrue_Compare1 (OI (h W s B H _ I hw) λv s1 h1=>OI h1 λu U h2=>OI h2 λc s3 z=>?_) h1;obtain⟨x,H1,G,r1,O⟩:=z;obtain⟨d,rfl,q⟩:=O;cases r1;exact VL ⟨H1,G,q⟩
def cx (h:PE X e t) (he:∀z,isTrue e X.env z=(do let v<-z;standAt e.pos;holding [v] (truthy v)):=by intro _;rfl):PT X e (tB t):=by
 intro W s B H Q I hw;refine isTrue_plain (OI (h W s B H _ I hw) λv s1 G=>?_)<|he _;obtain⟨x,H1,O,r1,U⟩:=G;obtain⟨d,rfl,q⟩:=U;cases r1;exact VL ⟨H1,O,q⟩
variable {tA tB':TT} {rest:List Expr}
def tAnd (t u:TT):TT:=λB H Q=>t B H λc H1=>if c=true then u B H1 Q else Q false H1
def tOr (t u:TT):TT:=λB H Q=>t B H λc H1=>if c=true then Q true H1 else u B H1 Q
def tNot (t:TT):TT:=λB H Q=>t B H λc H1=>Q (!c) H1
def cJ (ha:PT X a tA):PW X (.BoolOp .And [a] pos) tA:=by
 intro wh W s B H Q I h;refine isTrue_and<|OI (ha W s B H Q I h) λc s1 e=>?_;cases c with
 |true=>exact isTrue_and_nil e
 |false=>exact e
def gZ (ha:PT X a tA):PW X (.BoolOp .Or [a] pos) tA:=by
 intro wh W s B H Q I h;refine isTrue_or<|OI (ha W s B H Q I h) λc s1 e=>?_;cases c with
 |false=>exact isTrue_or_nil e
 |true=>exact e
def dU (ha:PT X a tA) (hb:PW X (.BoolOp .And (b::rest) pos) tB'):PW X (.BoolOp .And (a::b::rest) pos) (tAnd tA tB'):=by
 intro wh W s B H Q I h;refine isTrue_and<|OI (ha W s B H _ I h) λc s1 ⟨H1,z,G⟩=>?_;cases c with
 |true=>exact hb wh W s1 B H1 Q z G
 |false=>exact⟨H1,z,G⟩
def ie (ha:PT X a tA) (hb:PW X (.BoolOp .Or (b::rest) pos) tB'):PW X (.BoolOp .Or (a::b::rest) pos) (tOr tA tB'):=by
 intro wh W s B H Q I h;refine isTrue_or<|OI (ha W s B H _ I h) λc s1 ⟨H1,z,G⟩=>?_;cases c with
 |true=>exact⟨H1,z,G⟩
 |false=>exact hb wh W s1 B H1 Q z G
def lJ (ha:PT X a tA):PT X (.UnaryOp .Not a pos) (tNot tA):=by
 intro W s B H Q I h;exact isTrue_not<|ha W s B H (λc H1=>Q (!c) H1) I h
def NS (ta tb:TE):TE:=λB H Q=>ta B H λx H1=>∃c,x= .bl c/\if c=true then tb B H1 Q else Q (.bl false) H1
def tOrV (ta tb:TE):TE:=λB H Q=>ta B H λx H1=>∃c,x= .bl c/\if c=true then Q (.bl true) H1 else tb B H1 Q
def NL (ta:TE):TE:=λB H Q=>ta B H λx H1=>∃c,x= .bl c/\Q (.bl<|!c) H1
def dB {op} (h:PE X a t):PE X (.BoolOp op [a] pos) t:=λW s B H Q I hw=>BoolOp_one (h W s B H Q I hw)
def gp (ha:PE X a ta) (hb:PE X (.BoolOp .And (b::rest) pos) tb):PE X (.BoolOp .And (a::b::rest) pos) (NS ta tb):=by
 intro W s B H Q I h;refine BoolOp_and<|OI (ha W s B H _ I h) λv s1 G=>?_;obtain⟨x,H1,O,r1,z⟩:=G;obtain⟨c,rfl,z⟩:=z;cases r1;refine VL ?_;cases c with
 |true=>exact hb W s1 B H1 Q O z
 |false=>exact⟨.bl false,H1,O,M,z⟩
def Cf (ha:PE X a ta) (hb:PE X (.BoolOp .Or (b::rest) pos) tb):PE X (.BoolOp .Or (a::b::rest) pos) (tOrV ta tb):=by
 intro W s B H Q I h;refine BoolOp_or<|OI (ha W s B H _ I h) λv s1 G=>?_;obtain⟨x,H1,O,r1,z⟩:=G;obtain⟨c,rfl,z⟩:=z;cases r1;refine VL ?_;cases c with
 |false=>exact hb W s1 B H1 Q O z
 |true=>exact⟨.bl true,H1,O,M,z⟩
def AU (ha:PE X a ta):PE X (.UnaryOp .Not a pos) (NL ta):=by
 intro W s B H Q I h;refine UnaryOp_<|OI (ha W s B H _ I h) λv s1 z=>?_;obtain⟨x,H1,O,r1,G⟩:=z;obtain⟨c,rfl,G⟩:=G;cases r1;exact not_of<|VL ⟨.bl<|!c,H1,O,M,G⟩
def tIf (t:TT) (ta tb:TE):TE:=λB H Q=>t B H λc H1=>if c=true then ta B H1 Q else tb B H1 Q
def Hy (hc:PT X c tA) (ha:PE X a ta) (hb:PE X b tb):PE X (.IfExp c a b pos) (tIf tA ta tb):=by
 intro W s B H Q I h;refine wpAny_IfExp<|OI (hc W s B H _ I h) λd s1 ⟨H1,z,G⟩=>?_;cases d with
 |true=>exact ha W s1 B H1 Q z G
 |false=>exact hb W s1 B H1 Q z G
end
def Fb (K:JK) (H:Hp) (a:Addr) (xs:List V):Prop:=
 Rd H a (.lst xs)\/
  ∃(o:Obj) (its:Array Value) (n:Nat),K.lookup a=some o/\o.cls= .type "list"/\o.dict=none/\o.data= .seq its n/\its.size<=sizeLine/\GA xs its.toList
def OX (K:JK) (H:Hp) (a:Addr) (xs:List V):Prop:=
 Rd H a (.tup xs)\/
  ∃(o:Obj) (its:Array Value) (n:Nat),K.lookup a=some o/\o.cls= .type "tuple"/\o.data= .seq its n/\its.size<=sizeLine/\GA xs its.toList
noncomputable def absV:Value->Option V
 | .none=>some .non
 | .bool b=>some (.bl b)
 | .int i _=>some (.int i)
 | .str x _=>some (.str x)
 | .bytes b _=>some (.byt b)
 | .float b _=>some (.flt b)
 | .ref a=>some (.ref a)
 | .type n=>some (.ty n)
 |_=>none
def RelV.abs {x:V} (r:RelV x u):absV u=some x:=by
 cases x with
 |non=>cases r;rfl
 |bl _=>cases r;rfl
 |int _=>obtain⟨t,rfl⟩:=r;rfl
 |str _=>obtain⟨t,rfl⟩:=r;rfl
 |byt _=>obtain⟨t,rfl⟩:=r;rfl
 |flt _=>obtain⟨t,rfl⟩:=r;rfl
 |ref _=>cases r;rfl
 |ty _=>cases r;rfl
def RelV.inj {x:V} (r:RelV x u) (q:RelV y u):x=y:=Vq (r.abs.symm.trans q.abs)
def GA.inj:∀{xs ys:List V} {us:List Value},GA xs us->GA ys us->xs=ys
 |_,_,_,.nil,.nil=>rfl
 |_,_,_,.cons r t,.cons r' t'=>by rw[r.inj r',GA.inj t t']
section
variable {ys:List V}
def Fb.of (h:H a=some (.lst xs)):Fb K H a xs:= .inl (.inl h)
def OX.of (h:H a=some (.tup xs)):OX K H a xs:= .inl (.inl h)
def Inv.list (I:Inv X W B H s) (h:Fb X.K H a xs):∃its:List Value,GA xs its/\PlainL s.heap a its.toArray/\xs.length<=sizeLine:=by
 rcases h with h|⟨o,its,n,hk,hc,hd,hs,hz,r⟩
 .obtain⟨z,its,n,r,e⟩:=h.ok I.hok;exact⟨its,r,⟨_,n,e,M,M,M⟩,z⟩
 .refine⟨its.toList,r,⟨o,n,I.kIn a o hk,hc,hd,by simpa using hs⟩,?_⟩;have e:=r.length;simp only[Qa]at e;lia
def Inv.tuple (I:Inv X W B H s) (h:OX X.K H a xs):∃its:List Value,GA xs its/\IsTup s.heap a its.toArray/\xs.length<=sizeLine:=by
 rcases h with h|⟨o,its,n,hk,hc,hs,hz,r⟩
 .obtain⟨z,its,r,p⟩:=h.ok I.hok;exact⟨its,r,p,z⟩
 .refine⟨its.toList,r,⟨o,I.kIn a o hk,hc,n,by simpa using hs⟩,?_⟩;have e:=r.length;simp only[Qa]at e;lia
def Inv.list_inj (I:Inv X W B H s) (h:Fb X.K H a xs) (h':Fb X.K H a ys):xs=ys:=by
 obtain⟨its,r,⟨o,n,e,_,_,d⟩,_⟩:=I.list h;obtain⟨its',r',⟨o',n',z,_,_,d'⟩,_⟩:=I.list h';rw[e]at z;cases z;rw[d]at d';injection d' with d1 _;have:its=its':=by simpa using VH Array.toList d1
 subst this;exact r.inj r'
end
abbrev Cx.wish (X:Cx) (E:Value->Shared->Prop):Cx:={X with xe:=E}
abbrev Cx.nox (X:Cx):Cx:=X.wish λ_ _=>False
def Cx.Ok.wish (ok:X.Ok) (E:Value->Shared->Prop):(X.wish E).Ok:=
 ⟨ok.mod,ok.kind,ok.glob,ok.blt,ok.above,ok.inj,ok.has,ok.cab,ok.hd,ok.frames,ok.stk,ok.exf,ok.bs,ok.bsz,ok.noex,ok.exfs,ok.funs,ok.frf⟩
def Cx.Ok.unwish (ok:(X.wish E).Ok):X.Ok:=
 ⟨ok.mod,ok.kind,ok.glob,ok.blt,ok.above,ok.inj,ok.has,ok.cab,ok.hd,ok.frames,ok.stk,ok.exf,ok.bs,ok.bsz,ok.noex,ok.exfs,ok.funs,ok.frf⟩
def Inv.wish (I:Inv X W B H s) (E:Value->Shared->Prop):Inv (X.wish E) W B H s:=⟨I.ok.wish E,I.os,I.bare,I.base,I.loc,I.cell,I.free,I.freeC,I.pin,I.hok,I.len⟩
def Inv.unwish (I:Inv (X.wish E) W B H s):Inv X W B H s:=⟨I.ok.unwish,I.os,I.bare,I.base,I.loc,I.cell,I.free,I.freeC,I.pin,I.hok,I.len⟩
def SP.unwish {D:tG} {f:Flow} (h:SP (X.wish E) W D f s'):SP X W D f s':=by
 cases f with
 |next=>obtain⟨z,H',I,q⟩:=h;exact⟨z,H',I.unwish,q⟩
 |brk=>obtain⟨z,H',I,q⟩:=h;exact⟨z,H',I.unwish,q⟩
 |cont=>obtain⟨z,H',I,q⟩:=h;exact⟨z,H',I.unwish,q⟩
 |ret u=>obtain⟨v,z,H',I,r,q⟩:=h;exact⟨v,z,H',I.unwish,r,q⟩
def PY.nox {st:List Stmt} {t:TS} (h:PY X.nox st t):PY X st t:=λW s B H D I hw=>
 VN (h W s B H D (I.wish _) hw) (λ_ _ q=>q.unwish) λ_ _ z=>False.elim z
section
variable {st:Stmt} {rest:List Stmt} {t u:TS}
def mZ:TS:=λD B H=>D.nx B H
def Az (t u:TS):TS:=λD B H=>t {D with nx:=u D} B H
def aI:PY X [] mZ:=λ_ _ B H _ I h=>wpAny_execs_nil ⟨B,H,I,h⟩
def nP (h1:PS X st t) (h2:PY X rest u):PY X (st::rest) (Az t u):=by
 intro W s B H D I h;refine wpAny_execs_cons<|OI (h1 W s B H {D with nx:=u D} I h) λf s1 q=>?_;cases f with
 |next=>
  obtain⟨z,H',G,q⟩:=q;exact h2 W s1 z H' D G q
 |ret v=>exact q
 |brk=>exact q
 |cont=>exact q
def az (h1:PS X st t):PY X [st] t:=by
 intro W s B H D I h;refine wpAny_execs_cons<|OI (h1 W s B H D I h) λf s1 q=>?_;cases f with
 |next=>exact wpAny_execs_nil q
 |ret v=>exact q
 |brk=>exact q
 |cont=>exact q
def Mm:TS:=λD B H=>D.bk B H
def Hw:PS X (.Break pos) Mm:=λ_ _ B H _ I h=>wpAny_Break ⟨B,H,I,h⟩
def Inv.quiet (I:Inv X W B H s):interactive X.env=false:=by simp[interactive,I.ok.kind]
def NN (te:TE):TS:=λD B H=>te B H λ_ H1=>D.nx B H1
def aN (he:PE X e te) (hs:swapsWith e none pos.line X.env=pure false:=by rfl):PS X (.Expr e pos) (NN te):=by
 intro W s B H D I h;exact wpAny_Expr_any (OI (he W s B H _ I h) λv s1 ⟨x,H1,z,r1,G⟩=>⟨B,H1,z,G⟩) I.quiet hs
def tRet (te:TE):TS:=λD B H=>te B H D.rt
def aD (he:PE X e te):PS X (.Return (some e) pos) (tRet te):=by
 intro W s B H D I h;exact wpAny_Return_some<|OI (he W s B H _ I h) λv s1 ⟨x,H1,z,r1,G⟩=>⟨x,B,H1,z,r1,G⟩
def NJ:TS:=λD _ H=>D.rt .non H
def pA:PS X (.Return none pos) NJ:=λ_ _ B H _ I h=>wpAny_Return_none ⟨.non,B,H,I,M,h⟩
def tIfS (c:TT) (t u:TS):TS:=λD B H=>c B H λb H1=>if b=true then t D B H1 else u D B H1
def aQ {a b:List Stmt} (hc:PT X c tc) (ha:PY X a t) (hb:PY X b u):PS X (.If c a b pos) (tIfS tc t u):=by
 intro W s B H D I h;refine wpAny_If<|OI (hc W s B H _ I h) λd s1 ⟨H1,z,G⟩=>?_;cases d with
 |true=>exact ha W s1 B H1 D z G
 |false=>exact hb W s1 B H1 D z G
end
abbrev TG:=V->St->Hp->(St->Hp->Prop)->Prop
abbrev TGs:=List V->St->Hp->(St->Hp->Prop)->Prop
def PG (X:Cx) (target:Expr) (t:TG):Prop:=
 ∀(W:List (Addr×Obj)) (s:Shared) (B:St) (H:Hp) (v:V) (u:Value) (Q:St->Hp->Prop),Inv X W B H s->RelV v u->t v B H Q->
  W6 X (assign target X.env u) (λ_ s'=>∃σ' H',Inv X W σ' H' s'/\Q σ' H') X.xe s
def PGs (X:Cx) (ts:List Expr) (t:TGs):Prop:=
 ∀(W:List (Addr×Obj)) (s:Shared) (B:St) (H:Hp) (vs:List V) (us:List Value) (Q:St->Hp->Prop),Inv X W B H s->GA vs us->t vs B H Q->
  W6 X (assignInOrder ((assignEach ts X.env).map (·.2)) us) (λ_ s'=>∃σ' H',Inv X W σ' H' s'/\Q σ' H') X.xe s
abbrev Np:=V->V->V->Hp->(Hp->Prop)->Prop
def PSet (X:Cx) (t:Np):Prop:=
 ∀(W:List (Addr×Obj)) (s:Shared) (B:St) (H:Hp) (o i v:V) (ov iv u:Value) (Q:Hp->Prop),Inv X W B H s->RelV o ov->RelV i iv->RelV v u->t o i v H Q->
  W6 X (setItem ov iv u) (λ_ s'=>∃H',Inv X W B H' s'/\Q H') X.xe s
abbrev TIp:=V->V->Hp->VK->Prop
def PIp (X:Cx) (op:Operator) (t:TIp):Prop:=
 ∀(W:List (Addr×Obj)) (s:Shared) (B:St) (H:Hp) (x y:V) (v u:Value) (Q:VK),Inv X W B H s->RelV x v->RelV y u->t x y H Q->
  W6 X (inplaceOp op v u) (EP X W B Q) X.xe s
abbrev fL (i:Nat):TG:=λv B H Q=>Q (B.set i<|some v) H
def EI (hN:X.N.Nodup) (hi:X.N[i]?=some x) (hx:Loc X.env.scope x) (hf:X.fn x=true\/X.env.scope.names.lookup x=some .local:=by first|exact .inl M|exact .inr M|assumption):PG X (.Name x pos) (fL i):=by
 intro W s B H v u Q I r h;exact wpAny_assign_Name<|wj I hN hi hx r (λs' z=>⟨_,H,z,h⟩) hf
def gNil:TGs:=λvs B H Q=>vs=[]/\Q B H
inductive Oy (t:TG) (u:TGs) (vs:List V) (B:St) (H:Hp) (Q:St->Hp->Prop):Prop
 |mk (v r:_) (_:vs=v::r) (_:t v B H λσ' H'=>u r σ' H' Q)
def rS:PGs X [] gNil:=by
 intro W s B H vs us Q I r h;obtain⟨e,h⟩:=h;subst e;cases r;exact assignInOrder_nil ⟨B,H,I,h⟩
def dA {t:TG} {u:TGs} (h1:PG X e t) (h2:PGs X es u)
  (hs:(assignEach (e::es) X.env).map (·.2)=assign e X.env::(assignEach es X.env).map (·.2):=by rfl):PGs X (e::es) (Oy t u):=by
 intro W s B H vs us Q I r h;obtain⟨v,vr,O,h⟩:=h;subst O;cases r with
 |cons r U=>
  rw[hs];refine assignInOrder_cons<|OI (h1 W s B H _ _ _ I r h) λ_ s1 z=>?_;obtain⟨G,H1,Y,Z⟩:=z;exact h2 W s1 G H1 _ _ Q Y U Z
inductive gTup (K:JK) (n:Nat) (t:TGs) (v:V) (B:St) (H:Hp) (Q:St->Hp->Prop):Prop
 |mk (a xs:_) (_:v= .ref a) (_:OX K H a xs) (_:xs.length=n) (_:t xs B H Q)
def w5 {k:Nat} {t:TGs} (hc:X.calm=true) (h:PGs X es t)
  (G:(assignEach es X.env).length=n:=by rfl) (z:(assignEach es X.env).findIdx? (·.1)=none:=by rfl):PG X (.Tuple es k pos) (gTup X.K n t):=by
 intro W s B H v u Q I r hw;obtain⟨a,xs,O,hq,hl,hw⟩:=hw;subst O;cases r;obtain⟨its,rv,U,hz⟩:=I.tuple hq;refine assign_Tuple_tuple (I.ok.hd hc) U (by simp[G,<-hl,rv.length]) z λh' hx=>?_;have Y:Inv X W B H {s with heap:=h'}:=I.kept (t':=s.toks) λb o e=>hx b o (QK<|Vx e) e;exact h W _ B H xs _ Q Y (by simpa using rv) hw
def gSub (to ti:TE) (t:Np):TG:=λv B H Q=>to B H λo H1=>ti B H1 λi H2=>t o i v H2 λH3=>Q B H3
def DZ {o i:Expr} {to U:TE} {t:Np} (ho:PE X o to) (hi:PE X i U) (hs:PSet X t)
  (ha:∀v,assign (.Subscript o i pos) X.env v=(do
   let G<-holding [v] (eval o X.env)
   let O<-holding [v,G] (eval i X.env)
   standAt pos
   holding [v,G,O] (setItem G O v)
   release [v,G,O] []):=by intro _;rfl):PG X (.Subscript o i pos) (gSub to U t):=by
 intro W s B H v u Q I r h;rw[ha];refine Vv<|VS (OI (ho W s B H _ I h) λG s1 z=>?_);obtain⟨x,H1,Y,r1,Z⟩:=z;refine Vv<|VS (OI (hi W s1 B H1 _ Y Z) λO s2 z=>?_);obtain⟨y,H2,I2,r2,q2⟩:=z;refine Vv<|wpAny_standAt (Vv<|VS<|OI (hs W s2 B H2 x y v G O u _ I2 r1 r2 r q2) λ_ s3 z=>?_);obtain⟨H3,I3,q3⟩:=z;exact wpAny_release ⟨B,H3,I3,q3⟩
def G9 (te:TE) (g:TG):TS:=λD B H=>te B H λx H1=>g x B H1 D.nx
def ub {g:TG} (he:PE X e te) (G:PG X tg g) (hs:swapsWithSole [tg] e pos.line X.env=pure false:=by rfl) (hw:swappedStores [tg] e X.env=pure none:=by rfl)
  (h1:(assignEach [tg] X.env).map (·.2)=[assign tg X.env]:=by rfl):PS X (.Assign [tg] e pos) (G9 te g):=by
 intro W s B H D I h;refine wpAny_Assign_stores (OI (he W s B H _ I h) λv s1 z=>?_) hs hw;obtain⟨x,H1,O,r1,U⟩:=z;rw[h1];exact OI (G W s1 B H1 x v _ O r1 U) λ_ Y q=>q
def nR (hN:X.N.Nodup) (hi:X.N[i]?=some x) (hx:Loc X.env.scope x) (he:PE X e te) (hs:swapsWith e (some<|.Name x pos') pos.line X.env=pure false:=by rfl) (hf:X.fn x=true\/X.env.scope.names.lookup x=some .local:=by first|exact .inl M|exact .inr M|assumption):
  PS X (.Assign [.Name x pos'] e pos) (G9 te<|fL i):=by
 intro W s B H D I h;refine wpAny_Assign_Name (OI (he W s B H _ I h) λv s1 z=>?_) hs;obtain⟨y,H1,G,r1,O⟩:=z;exact wj G hN hi hx r1 (λY U=>⟨_,H1,U,O⟩) hf
inductive tAug (i:Nat) (te:TE) (ti:TIp) (D:tG) (B:St) (H:Hp):Prop
 |mk (x:_) (_:B[i]?=some (some x)) (_:te B H λy H1=>ti x y H1 λz H2=>D.nx (B.set i<|some z) H2)
def DY {op:Operator} {Z:TIp} (hN:X.N.Nodup) (hi:X.N[i]?=some x) (hx:Loc X.env.scope x) (he:PE X e te) (ho:PIp X op Z) (hf:X.fn x=true\/X.env.scope.names.lookup x=some .local:=by first|exact .inl M|exact .inr M|assumption):
  PS X (.AugAssign (.Name x pos') op e pos) (tAug i te Z):=by
 intro W s B H D I h;obtain⟨v,e1,h⟩:=h;obtain⟨m,hn,hl⟩:=I.loc;have Y:SJ X.env.scope x:=by rcases hx with k|k;exact .inl k;exact .inr<|.inl k
 obtain⟨u,r,l⟩:=hl i x v hi e1 Y;refine wpAny_AugAssign_Name ?_;have go:W6 X (eval e X.env) (λw s₂=>W6 X (inplaceOp op u w) (λr U=>W6 X (storeName X.env x r) (λ_=>SP X W D .next) X.xe U) X.xe s₂) X.xe s:=by
  refine OI (he W s B H _ I h) λw s1 G=>?_;obtain⟨y,H1,I1,r1,q1⟩:=G;refine OI (ho W s1 B H1 v y u w _ I1 r r1 q1) λz s2 G=>?_;obtain⟨zv,H2,I2,r2,q2⟩:=G;exact wj I2 hN hi hx r2 (λs3 I3=>⟨_,H2,I3,q2⟩) hf
 rcases l with⟨hk,hm⟩|⟨hk,c,hc,O⟩
 .exact wpAny_loadName_local I.ok.kind hk hn hm go
 .rcases hk with hk|hk
  .exact wpAny_loadName_cell I.ok.kind hk hc O go
  .rcases hx with k|k
   .have:X.env.scope.names.lookup x=some .free:=hk;rw[k]at this;cases this
   .have:X.env.scope.names.lookup x=some .free:=hk;rw[k]at this;cases this
inductive ipI (f:Int->Int->Int) (x y:V) (H:Hp) (Q:VK):Prop
 |mk (i j:_) (_:x= .int i) (_:y= .int j) (_:Q (.int<|f i j) H)
def Ip:PIp X .Add (ipI λi j=>i+j):=by
 intro W s B H x y v u Q I r1 z h;obtain⟨i,j,G,e2,q⟩:=h;subst G;subst e2;obtain⟨t,rfl⟩:=r1;obtain⟨t',rfl⟩:=z;exact iadd_int ⟨.int _,H,I.tok _,⟨_,M⟩,q⟩
def M0:PIp X .Sub (ipI λi j=>i-j):=by
 intro W s B H x y v u Q I r1 z h;obtain⟨i,j,G,e2,q⟩:=h;subst G;subst e2;obtain⟨t,rfl⟩:=r1;obtain⟨t',rfl⟩:=z;exact isub_int ⟨.int _,H,I.tok _,⟨_,M⟩,q⟩
def G5 (c:TT) (tb:TS):TS:=λD B H=>∃Jl:Nat->St->Hp->Prop,(∃m,Jl m B H)/\∀m B H,Jl m B H->
 c B H λb H1=>if b=true then ∃N:St->Hp->Prop,(∀σ' H',N σ' H'->∃m',m'<m/\Jl m' σ' H')/\tb {D with nx:=N,ct:=N,bk:=D.nx} B H1 else D.nx B H1
def nQ (hp:PassesOwn (model X.prog X.w) X.A X.env X.xe) (hc:PT X c tc) (hb:PY X body tb):PS X (.While c body [] pos) (G5 tc tb):=by
 intro W s B H D I h;obtain⟨Jl,⟨m0,w0⟩,turn⟩:=h;refine wpAny_While<|codeAny_whileLoop (λn s'=>∃O H',Inv X W O H' s'/\Jl n O H') ?_ m0 ⟨B,H,I,w0⟩;rintro n s1 ⟨G,H1,I1,w1⟩;refine VR hp<|OI (hc W s1 G H1 _ I1<|turn n G H1 w1) λb s2 ⟨H2,I2,U⟩=>?_;cases b with
 |true=>
  obtain⟨N,hN,U⟩:=U;rw[Vp M];refine VR hp<|OI (hb W s2 G H2 _ I2 U) λf s3 Y=>?_;cases f with
  |next=>
   obtain⟨z,H3,Z,n3⟩:=Y;obtain⟨m',hm,w3⟩:=hN z H3 n3;exact⟨m',hm,z,H3,Z,w3⟩
  |cont=>
   obtain⟨z,H3,Z,n3⟩:=Y;obtain⟨m',hm,w3⟩:=hN z H3 n3;exact⟨m',hm,z,H3,Z,w3⟩
  |brk=>exact Y
  |ret v=>exact Y
 |false=>
  rw[Vo Qe];exact wpAny_execs_nil ⟨G,H2,I2,U⟩
structure It where
 go:Nat->Hp->Prop
 yld:Nat->Hp->V->Hp->Prop
 stop:Nat->Hp->Prop
def Dc (X:Cx) (W:List (Addr×Obj)) (H:Hp) (b:Addr):Prop:=
 H b=none/\b≠X.env.locals/\b∉X.fs/\(b∈X.ex\/X.s₀.heap.objs.size<=b)/\(∀x c,X.env.cells.lookup x=some c->c≠b)/\∀p∈X.pn++W,p.1≠b
def Inv.fpOk (I:Inv X W B H s) (hb:s.heap.objs.size<=b) (G:H' b=none):Dc X W H' b:=by
 refine⟨G,XU<|Qy I.lt hb,I.nofs hb,.inr<|Qz I.sz hb,λx c e z=>?_,λp O z=>?_⟩
 .obtain⟨v,q⟩:=I.cell x c e;exact Vt (Qy q.lt<|by rwa[z])<|Zy _
 .exact Vt (Qy (Vx (I.pin p O).1)<|by rwa[z]) (Zy _)
structure Db (P:Program) (w:World) (K:JK) (tg:Expr) (J:It) (fp:List Addr) (it:Addr) (tn:Nat->Heap->Prop):Prop where
 mem:it∈fp
 obj:∀i h,tn i h->∀b∈fp,∃o,h.get? b=some o/\∀v,o.data≠ .cell v
 keep:∀i h h',tn i h->(∀b∈fp,∀o,h.get? b=some o->h'.get? b=some o)->tn i h'
 item:∀(X:Cx),X.prog=P->X.w=w->X.K=K->X.calm=true->∀(i:Nat) (W:List (Addr×Obj)) (s:Shared) (B:St) (H:Hp) (E:Value->Shared->Prop),Inv X W B H s->(∀b∈fp,Dc X W H b)->tn i s.heap->J.go i H->
  wpAny (model P w) X.A (pyNext<|.ref it) (λr s1=>∃u,r=some u/\
   wpAny (model P w) X.A (letOwnedTupleGo tg (.ref it) u) (λ_ s2=>∃x H',Inv X W B H' s2/\RelV x u/\J.yld i H x H'/\tn (i+1) s2.heap/\∀b∈fp,H' b=none) E s1) E s
 done:∀(X:Cx),X.prog=P->X.w=w->X.K=K->X.calm=true->∀(i:Nat) (W:List (Addr×Obj)) (s:Shared) (B:St) (H:Hp) (E:Value->Shared->Prop),Inv X W B H s->(∀b∈fp,Dc X W H b)->tn i s.heap->J.stop i H->
  wpAny (model P w) X.A (pyNext<|.ref it) (λr s1=>r=none/\Inv X W B H s1) E s
 self:∀(A:Around) (i:Nat) (s:Shared) (Q:Value->Shared->Prop) (E:Value->Shared->Prop),tn i s.heap->Q (.ref it) s->wpAny (model P w) A (pyIter<|.ref it) Q E s
abbrev TI:=St->Hp->(It->Hp->Prop)->Prop
def PIE (X:Cx) (W:List (Addr×Obj)) (B:St) (tg:Expr) (R:It->Hp->Prop) (itv:Value) (s2:Shared):Prop:=
 ∃(it:Addr) (fp:List Addr) (tn:Nat->Heap->Prop) (J:It) (H':Hp),itv= .ref it/\Inv X W B H' s2/\Db X.prog X.w X.K tg J fp it tn/\tn 0 s2.heap/\(∀b∈fp,Dc X W H' b)/\R J H'
def PI (X:Cx) (tg iter:Expr) (wi:TI):Prop:=
 ∀(W:List (Addr×Obj)) (s:Shared) (B:St) (H:Hp) (R:It->Hp->Prop),Inv X W B H s->wi B H R->
  W6 X (eval iter X.env) (λv s1=>W6 X (pyIter v) (PIE X W B tg R) X.xe s1) X.xe s
def zX {o:Obj} {n:String} {vs:Array Value} {Q:Unit->Shared->Prop} (ho:s.heap.get? it=some o) (hc:o.cls= .type n) (hd:o.data= .fields vs)
  (G:["enumerate","zip","dict_itemiterator","dict_reverseitemiterator","odict_iterator","itertools.zip_longest","itertools.pairwise"].contains n=false) (z:Q Unit.unit s):wpAny M' A (letOwnedTupleGo tg (.ref it) u) Q E s:=by
 unfold letOwnedTupleGo;cases tg<;>first
  |exact VD z
  |(cases u<;>first
    |exact VD z
    |(refine Vv<|wpAny_load ho ?_
      rw[hc,hd];show wpAny M' A (if(["enumerate","zip","dict_itemiterator","dict_reverseitemiterator","odict_iterator","itertools.zip_longest","itertools.pairwise"].contains n&&vs[0]?==some (rawInt _))=true then _ else _) Q E s;rw[Vo (by intro h;rw[G,ZI]at h;cases h)];exact VD z))
def RS (K:JK) (a:Addr):It:=
 ⟨λi H=>∃xs x,Fb K H a xs/\xs[i]?=some x,λi H x H'=>H'=H/\∀xs,Fb K H a xs->xs[i]?=some x,λi H=>∃xs,Fb K H a xs/\xs.length<=i⟩
def Rb (lo:Int) (n:Nat):It:=⟨λi _=>i<n,λi H x H'=>H'=H/\x= .int (lo+i),λi _=>n<=i⟩
def Fw (a it:Addr):Db P w K tg (RS K a) [it] it (λi h=>h.IsListIter it a i) where
 mem:=by simp
 obj:=λi h st b hb=>by
  have e:b=it:=by simpa using hb
  subst e;obtain⟨o,e,c,d⟩:=st;exact⟨o,e,λv z=>by rw[d]at z;cases z⟩
 keep:=λi h h' st k=>st.at λo e=>k it (by simp) o e
 item:=by
  intro X G hw hK hc i W s B H E I hf st O;subst G hw hK;obtain⟨xs,x,hq,hx⟩:=O;obtain⟨its,rv,p,hz⟩:=I.list hq;obtain⟨u,hu,ru⟩:=rv.get hx;obtain⟨U,Y,f2,Z,f4,f5⟩:=hf it (by simp);refine wpAny_pyNext_list_item st p.isList (x:=u) (by simpa using hu) λh' st' sb=>?_;have I1:Inv X W B H {s with heap:=h'}:=I.turned (t':=s.toks) (λb o hb e=>(sb.2 b hb).trans e) U Y Z f4 f5;obtain⟨o,e,c,d⟩:=id st';exact⟨u,M,zX (s:={s with heap:=h'}) e c d (_) ⟨x,H,I1,ru,⟨M,λys hy=>by rwa[I.list_inj hy hq]⟩,st',λb hb=>(hf b hb).1⟩⟩
 done:=by
  intro X G hw hK hc i W s B H E I hf st O;subst G hw hK;obtain⟨xs,hq,hx⟩:=O;obtain⟨its,rv,p,hz⟩:=I.list hq;obtain⟨U,Y,f2,Z,f4,f5⟩:=hf it (by simp);have hl:=rv.length;exact wpAny_pyNext_list_end (I.ok.hd hc) st p.isList (by simp;lia) λh' eb=>⟨M,I.turned (t':=s.toks) (λb o hb e=>eb b o hb e) U Y Z f4 f5⟩
 self:=λ_ _ _ _ _ st h=>wpAny_pyIter_listiter st h
def DB (it:Addr) (lo:Int) (n:Nat):Db P w K tg (Rb lo n) [it] it (λi h=>IsRangeIter h it (lo+(i:Nat)*1) ((n:Int)-(i:Nat)) 1) where
 mem:=by simp
 obj:=λi h st b hb=>by
  have e:b=it:=by simpa using hb
  subst e;exact⟨_,st,λv z=>by
   have z':Data.fields _=Data.cell v:=z;cases z'⟩
 keep:=λi h h' st k=>k it (by simp) _ st
 item:=by
  intro X G hw hK hc i W s B H E I hf st O;subst G hw hK;obtain⟨U,Y,f2,Z,f4,f5⟩:=hf it (by simp);have Jl:=Walks.range (prog:=X.prog) (w:=X.w) (I.ok.hd hc) it lo 1 n;refine Jl.item i s _ _ O st λv h' tk hv st' kk=>?_;obtain⟨t,rfl⟩:=hv;have I1:Inv X W B H {s with heap:=h',toks:=tk}:=I.turned (λb o hb e=>kk b o (by simpa using hb) e) U Y Z f4 f5;refine⟨_,M,zX (s:={s with heap:=h',toks:=tk}) (n:="range_iterator") st' M M (_) ⟨.int<|lo+i,H,I1,⟨t,?_⟩,⟨M,M⟩,st',λb hb=>(hf b hb).1⟩⟩;rw[Int.mul_one]
 done:=by
  intro X G hw hK hc i W s B H E I hf st O;subst G hw hK;obtain⟨U,Y,f2,Z,f4,f5⟩:=hf it (by simp);exact wpAny_pyNext_range_end (I.ok.hd hc) st (by have:n<=i:=O;lia) λh' eb=>⟨M,I.turned (t':=s.toks) (λb o hb e=>eb b o hb e) U Y Z f4 f5⟩
 self:=λ_ _ _ _ _ st h=>wpAny_pyIter_rangeiter st h
inductive M8 (K:JK) (R:It->Hp->Prop) (x:V) (H1:Hp):Prop
 |mk (a:_) (_:x= .ref a) (_:(∃xs,Fb K H1 a xs)) (_:R (RS K a) H1)
def Ou (K:JK) (tl:TE):TI:=λB H R=>tl B H λx H1=>M8 K R x H1
def cK {l:Expr} {tl:TE} (hl:PE X l tl):PI X tg l (Ou X.K tl):=by
 intro W s B H R I h;refine OI (hl W s B H _ I h) λv s1 G=>?_;obtain⟨x,H1,z,r1,O⟩:=G;obtain⟨a,e,⟨xs,hq⟩,q⟩:=O;subst e;cases r1;obtain⟨its,rv,p,hz⟩:=z.list hq;refine wpAny_pyIter_list p.isList ?_;refine⟨s1.heap.objs.size,[s1.heap.objs.size],_,_,H1,M,z.kept (t':=s1.toks) λb o e=>Vr _ e,Fw a _,⟨_,Vz _ M,M,M⟩,λb hb=>?_,q⟩;have e:b=s1.heap.objs.size:=by simpa using hb
 subst e;exact z.fpOk (Q4 _)<|z.hok.fresh (Q4 _)
def Ho {R:It->Hp->Prop} {hi:Int} {t u v:Tok} {tk:Nat} (I:Inv X W B H s) (h1: -(2^62)<=lo) (h2:lo<2^62) (G: -(2^62)<=hi) (O:hi<2^62)
  (q:R (Rb lo (hi-lo).toNat) H):W6 X (pyIter<|.ref s.heap.objs.size) (PIE X W B tg R) E {s with heap:=s.heap.push {cls:= .type "range",data:= .fields #[.int lo t,.int hi u,.int 1 v]},toks:=tk}:=by
 refine wpAny_pyIter_range (IsRange.new ..) (small_one h1 h2 G O) ?_;have z:Inv X W B H {s with heap:=s.heap.push {cls:= .type "range",data:= .fields #[.int lo t,.int hi u,.int 1 v]},toks:=tk}:=I.kept λb o e=>Vr _ e;refine⟨(s.heap.push {cls:= .type "range",data:= .fields #[.int lo t,.int hi u,.int 1 v]}).objs.size,[(s.heap.push {cls:= .type "range",data:= .fields #[.int lo t,.int hi u,.int 1 v]}).objs.size],_,_,H,M,
  z.kept (t':=tk) λb o e=>Vr _ e,DB _ lo (hi-lo).toNat,?_,λb hb=>?_,q⟩
 .have U:lo+((0:Nat):Int)*1=lo:=by simp
  have e2:(((hi-lo).toNat:Nat):Int)-((0:Nat):Int)=Builtin.Range.rangeSize lo hi 1:=by rw[rangeSize_one];split<;>lia
  show IsRangeIter _ _ (lo+((0:Nat):Int)*1) ((((hi-lo).toNat:Nat):Int)-((0:Nat):Int)) 1;rw[U,e2];exact Vz _ M
 .have e:b=(s.heap.push {cls:= .type "range",data:= .fields #[.int lo t,.int hi u,.int 1 v]}).objs.size:=by simpa using hb
  subst e;exact z.fpOk (Q4 _) (z.hok.fresh<|Q4 _)
inductive M7 (R:It->Hp->Prop) (vs:List V) (H1:Hp):Prop
 |mk (j:Int) (_:vs=[.int j]) (_: -(2^62)<=j) (_:j<2^62) (_:R (Rb 0 j.toNat) H1)
def Os (ta:TA):TI:=λB H R=>ta B H λvs H1=>M7 R vs H1
def iF {a:Expr} {ta:TA} (O:Gl X "range") (U:X.mg "range"=none) (ha:PA X [a] ta) (hs:starEach [a] X.env=[(false,eval a X.env)]:=by rfl):PI X tg (.Call (.Name "range" p) [a] [] pos) (Os ta):=by
 intro W s B H R I h;refine Call_<|uA I O U boot_range (PyProof.Rows.callWith_type1 (OI (ha pos W s B H _ I h) λus s1 z=>?_) hs M);obtain⟨vs,H1,Y,r1,G⟩:=z;obtain⟨j,e,G,Z,q⟩:=G;subst e;cases r1 with
 |cons r rr=>
  cases rr;obtain⟨t,rfl⟩:=r;exact call_range_1<|Ho Y () () G Z (by simpa using q)
def tFor (wi:TI) (g:TG) (tb:TS):TS:=λD B H=>wi B H λJ H1=>∃Jl:Nat->Nat->St->Hp->Prop,(∃m,Jl 0 m B H1)/\∀i m B H,Jl i m B H->
 (J.stop i H/\D.nx B H)\/(J.go i H/\∃N:St->Hp->Prop,(∀σ' H',N σ' H'->∃m',m'<m/\Jl (i+1) m' σ' H')/\∀x H',J.yld i H x H'->g x B H' λσ2 H2=>tb {D with nx:=N,ct:=N,bk:=D.nx} σ2 H2)
def wZ (fp:List Addr) (h:Heap):List (Addr×Obj):=fp.filterMap λb=>(h.get? b).map λo=>(b,o)
def lM {o:Obj} (hb:b∈fp) (e:h.get? b=some o):(b,o)∈wZ fp h:=List.mem_filterMap.mpr ⟨b,hb,by rw[e];rfl⟩
def FP {p:Addr×Obj} (z:p∈wZ fp h):p.1∈fp/\h.get? p.1=some p.2:=by
 obtain⟨b,hb,e⟩:=List.mem_filterMap.mp z;cases q:h.get? b with
 |none=>rw[q]at e;cases e
 |some o=>
  rw[q]at e;have G:(b,o)=p:=Vq e;subst G;exact⟨hb,q⟩
def Inv.pinned (I:Inv X W B H s) (hf:∀b∈fp,Dc X W H b) (ho:∀b∈fp,∃o,s.heap.get? b=some o/\∀v,o.data≠ .cell v):Inv X (W++wZ fp s.heap) B H s:=
 I.pins_of λp O=>(Q5.mp O).elim (λz=>I.pin p<|Qw _ z) λz=>by
  obtain⟨hb,e⟩:=FP z;obtain⟨U,Y,Z,_⟩:=hf p.1 hb;obtain⟨o,G,d⟩:=ho p.1 hb;rw[e]at G;cases G;exact⟨e,U,Y,Z,d⟩
def Inv.unpinned {pl:List (Addr×Obj)} (I:Inv X (W++pl) B H s):Inv X W B H s:=I.pins_of λp z=>I.pin p (Qw _<|Xc _ z)
def dW {iter:Expr} {wi:TI} {g:TG} (hp:PassesOwn (model X.prog X.w) X.A X.env X.xe) (hc:X.calm=true) (hi:PI X tg iter wi) (hg:PG X tg g) (hb:PY X body tb)
  (hs:∀x,foldedSetIterable iter X.env x=pure x:=by intro _;rfl):PS X (.For tg iter body [] pos) (tFor wi g tb):=by
 intro W s B H D I h;refine wpAny_For (OI (hi W s B H _ I h) λv s1 h1=>OI h1 λah s2 h2=>?_) hs;obtain⟨it,fp,tn,J,H2,e,I2,T,st2,f2,Jl,⟨m0,w0⟩,turn⟩:=h2;subst e;have G:∀{H':Hp},(∀b∈fp,H' b=none)->∀b∈fp,Dc X W H' b:=λhn b hb=>⟨hn b hb,(f2 b hb).2⟩;refine codeAny_forLoop_any (λn s'=>∃i O H',Inv X W O H' s'/\tn i s'.heap/\(∀b∈fp,H' b=none)/\Jl i n O H') ?_ m0 ⟨0,B,H2,I2,st2,λb hb=>(f2 b hb).1,w0⟩;rintro n s3 ⟨i,U,H3,I3,a2,a3,w3⟩;rcases turn i n U H3 w3 with⟨a4,qn⟩|⟨go,N,hN,step⟩
 .refine VR hp<|OI (T.done X M M M hc i W s3 U H3 X.xe I3 (G a3) a2 a4) λr s4 ⟨hr,I4⟩=>?_;subst hr;exact wpAny_execs_nil ⟨U,H3,I4,qn⟩
 .refine VR hp<|OI (T.item X M M M hc i W s3 U H3 X.xe I3 (G a3) a2 go) λr s4 ⟨u,hr,h4⟩=>?_;subst hr;refine VR hp<|OI h4 λ_ s5 a0=>?_;obtain⟨x,H5,I5,r5,y5,a1,a5⟩:=a0;have aa:=I5.pinned (G a5) (T.obj _ _ a1);refine VR hp<|OI (hg _ s5 U H5 x u _ aa r5<|step x H5 y5) λ_ s6 a0=>?_;obtain⟨ab,H6,I6,q6⟩:=a0;refine VR hp<|OI (hb _ s6 ab H6 _ I6 q6) λf s7 q7=>?_;have again:∀{z:St} {Y:Hp},Inv X (W++wZ fp s5.heap) z Y s7->N z Y->∃m,m<n/\∃i O H',Inv X W O H' s7/\tn i s7.heap/\(∀b∈fp,H' b=none)/\Jl i m O H':=λ{z Y} Z n7=>by
   obtain⟨m',hm,w7⟩:=hN z Y n7;refine⟨m',hm,i+1,z,Y,Z.unpinned,T.keep _ _ _ a1 λb hb o e=>(Z.pin (b,o)<|Qw _<|Qw _<|lM hb e).1,λb hb=>?_,w7⟩;obtain⟨o,e,d⟩:=T.obj _ _ a1 b hb;exact(Z.pin (b,o)<|Qw _<|Qw _<|lM hb e).2.1
  cases f with
  |next=>obtain⟨z,Y,Z,n7⟩:=q7;exact again Z n7
  |cont=>obtain⟨z,Y,Z,n7⟩:=q7;exact again Z n7
  |brk=>obtain⟨z,Y,Z,q7⟩:=q7;exact⟨z,Y,Z.unpinned,q7⟩
  |ret v=>obtain⟨x7,z,Y,Z,r7,q7⟩:=q7;exact⟨x7,z,Y,Z.unpinned,r7,q7⟩
def ID {g:TG} {D:tG} (Pv:Nat->St->Hp->Prop) (O:Pv 0 B H) (hl:∀i B H,i<=xs.length->Pv i B H->Fb K H a xs)
  (hs:∀i x B H,xs[i]?=some x->Pv i B H->g x B H λz H2=>tb {D with nx:=Pv (i+1),ct:=Pv (i+1),bk:=D.nx} z H2) (hd:∀B H,Pv xs.length B H->D.nx B H):
  ∃Jl:Nat->Nat->St->Hp->Prop,(∃m,Jl 0 m B H)/\∀i m B H,Jl i m B H->
   ((RS K a).stop i H/\D.nx B H)\/((RS K a).go i H/\∃N:St->Hp->Prop,(∀G H',N G H'->∃m',m'<m/\Jl (i+1) m' G H')/\∀x H',(RS K a).yld i H x H'->g x B H' λz H2=>tb {D with nx:=N,ct:=N,bk:=D.nx} z H2):=by
 refine⟨λi m B H=>m=xs.length-i/\i<=xs.length/\Pv i B H,⟨xs.length,by simp,Qj _,O⟩,?_⟩;rintro i m B H ⟨rfl,hi,p⟩;have q:=hl i B H hi p;by_cases I:i<xs.length
 .refine .inr ⟨⟨xs,xs[i],q,by simp[I]⟩,Pv<|i+1,λG H' U=>⟨xs.length-(i+1),(),M,I,U⟩,λx H' y=>?_⟩;obtain⟨e,y⟩:=y;subst e;exact hs i x B _ (y xs q) p
 .have e:i=xs.length:=();subst e;exact .inl ⟨⟨xs,q,Q4 _⟩,hd B H p⟩
def zZ {g:TG} {D:tG} (Pv:Nat->St->Hp->Prop) (O:Pv 0 B H)
  (hs:∀i B H,i<n->Pv i B H->g (.int<|lo+i) B H λz H2=>tb {D with nx:=Pv (i+1),ct:=Pv (i+1),bk:=D.nx} z H2) (hd:∀B H,Pv n B H->D.nx B H):
  ∃Jl:Nat->Nat->St->Hp->Prop,(∃m,Jl 0 m B H)/\∀i m B H,Jl i m B H->
   ((Rb lo n).stop i H/\D.nx B H)\/((Rb lo n).go i H/\∃N:St->Hp->Prop,(∀G H',N G H'->∃m',m'<m/\Jl (i+1) m' G H')/\∀x H',(Rb lo n).yld i H x H'->g x B H' λz H2=>tb {D with nx:=N,ct:=N,bk:=D.nx} z H2):=by
 refine⟨λi m B H=>m=n-i/\i<=n/\Pv i B H,⟨n,by simp,Qj _,O⟩,?_⟩;rintro i m B H ⟨rfl,hi,p⟩;by_cases I:i<n
 .refine .inr ⟨I,Pv<|i+1,λG H' U=>⟨n-(i+1),(),M,I,U⟩,λx H' y=>?_⟩;obtain⟨e,y⟩:=y;subst e y;exact hs i B _ I p
 .have e:i=n:=();subst e;exact .inl ⟨Q4 _,hd B H p⟩
abbrev R2:=V->V->Hp->VK->Prop
def Pa (X:Cx) (f:Value->Value->Sem Value) (r:R2):Prop:=
 ∀(W:List (Addr×Obj)) (s:Shared) (B:St) (H:Hp) (x y:V) (v u:Value) (Q:VK),Inv X W B H s->RelV x v->RelV y u->r x y H Q->
  W6 X (f v u) (EP X W B Q) X.xe s
def UnR (X:Cx) (f:Value->Sem Value) (r:V->Hp->VK->Prop):Prop:=
 ∀(W:List (Addr×Obj)) (s:Shared) (B:St) (H:Hp) (x:V) (v:Value) (Q:VK),Inv X W B H s->RelV x v->r x H Q->
  W6 X (f v) (EP X W B Q) X.xe s
def gb (X:Cx) (f:Value) (r:List V->Hp->VK->Prop):Prop:=
 ∀(W:List (Addr×Obj)) (s:Shared) (B:St) (H:Hp) (xs:List V) (us:List Value) (Q:VK),Inv X W B H s->GA xs us->r xs H Q->
  W6 X (call f us) (EP X W B Q) X.xe s
def tOp (r:R2) (ta tb:TE):TE:=λB H Q=>ta B H λx H1=>tb B H1 λy H2=>r x y H2 Q
def tUn (r:V->Hp->VK->Prop) (ta:TE):TE:=λB H Q=>ta B H λx H1=>r x H1 Q
inductive rI (C:Int->Int->Prop) (g:Int->Int->V) (x y:V) (H:Hp) (Q:VK):Prop
 |mk (i j:_) (_:x= .int i) (_:y= .int j) (_:C i j) (_:Q (g i j) H)
inductive Rp (g:Int->Int->V) (x y:V) (H:Hp) (Q:VK):Prop
 |mk (i j:_) (_:x= .int i) (_:y= .int j) (_:Q (g i j) H)
inductive rU (g:Int->V) (x:V) (H:Hp) (Q:VK):Prop
 |mk (i:_) (_:x= .int i) (_:Q (g i) H)
section
variable {a b:Expr} {tb tc:TE}
def Nl (ha:PE X a ta) (hb:PE X b tb) {R:V->V->Hp->Prop} (I:Inv X W B H s)
  (h:ta B H λx H1=>tb B H1 λy H2=>R x y H2) {f:Value->Value->Sem Value}
  (hf:∀v u G x y H2,Inv X W B H2 G->RelV x v->RelV y u->R x y H2->W6 X (f v u) Q X.xe G):
  W6 X (eval a X.env) (λv s₁=>W6 X (eval b X.env) (λu s₂=>W6 X (f v u) Q X.xe s₂) X.xe s₁) X.xe s:=by
 refine OI (ha W s B H _ I h) λv s1 z=>?_;obtain⟨x,H1,O,r1,U⟩:=z;refine OI (hb W s1 B H1 _ O U) λu G z=>?_;obtain⟨y,H2,Y,Z,q2⟩:=z;exact hf v u G x y H2 Y r1 Z q2
def ao {op:Operator} (ho:Pa X (binaryOp op) r) (ha:PE X a ta) (hb:PE X b tb):PE X (.BinOp a op b pos) (tOp r ta tb):=by
 intro W s B H Q I h;exact wpAny_BinOp<|Nl ha hb I h λv u z x y H2 G O U q=>ho W z B H2 x y v u Q G O U q
def Hx {op:UnaryOp} {r:V->Hp->VK->Prop} (ho:UnR X (unaryOp op) r) (ha:PE X a ta):PE X (.UnaryOp op a pos) (tUn r ta):=by
 intro W s B H Q I h;exact UnaryOp_<|OI (ha W s B H _ I h) λv s1 ⟨x,H1,z,r1,G⟩=>ho W s1 B H1 x v Q z r1 G
def opI {f:Value->Value->Sem Value} {C:Int->Int->Prop} 
  (rule:∀(i j:Int) (t u:Tok) (s:Shared) (Q:Value->Shared->Prop) (E:Value->Shared->Prop),C i j->Q (.int (g i j) s.toks) {s with toks:=s.toks+1}->W6 X (f (.int i t)<|.int j u) Q E s):
  Pa X f (rI C λi j=> .int<|g i j):=by
 intro W s B H x y v u Q I z G h;obtain⟨i,j,rfl,rfl,hc,q⟩:=h;obtain⟨t,rfl⟩:=z;obtain⟨t',rfl⟩:=G;exact rule i j t t' s _ _ hc ⟨.int<|g i j,H,I.tok _,⟨_,M⟩,q⟩
def MJ {f:Value->Value->Sem Value} 
  (rule:∀(i j:Int) (t u:Tok) (s:Shared) (Q:Value->Shared->Prop) (E:Value->Shared->Prop),Q (.int (g i j) s.toks) {s with toks:=s.toks+1}->W6 X (f (.int i t)<|.int j u) Q E s):
  Pa X f (Rp λi j=> .int<|g i j):=by
 intro W s B H x y v u Q I z G h;obtain⟨i,j,rfl,rfl,q⟩:=h;obtain⟨t,rfl⟩:=z;obtain⟨t',rfl⟩:=G;exact rule i j t t' s _ _ ⟨.int<|g i j,H,I.tok _,⟨_,M⟩,q⟩
def Kw {f:Value->Value->Sem Value} {g:Int->Int->Bool}
  (rule:∀(i j:Int) (t u:Tok) (s:Shared) (Q:Value->Shared->Prop) (E:Value->Shared->Prop),Q (.bool<|g i j) s->W6 X (f (.int i t)<|.int j u) Q E s):
  Pa X f (Rp λi j=> .bl<|g i j):=by
 intro W s B H x y v u Q I z G h;obtain⟨i,j,rfl,rfl,q⟩:=h;obtain⟨t,rfl⟩:=z;obtain⟨t',rfl⟩:=G;exact rule i j t t' s _ _ ⟨.bl<|g i j,H,I,M,q⟩
def CDiv (i j:Int):Prop:=0<j/\j<1073741824
def CPow (i j:Int):Prop:=0<=j/\j<=1000000/\i.natAbs<2^64
def Rz (i j:Int):Prop:=(-(2^64)<i/\i<2^64)\/(-(2^64)<j/\j<2^64)
def Rz.ok {i j:Int} (h:Rz i j):IntMulOk i j:=by
 rcases h with⟨h1,h2⟩|⟨h1,h2⟩
 .exact .of_left<|intBits_le_64 h1 h2
 .exact .of_right<|intBits_le_64 h1 h2
def bx:Pa X (binaryOp .Add) (Rp λi j=> .int<|i+j):=MJ λ_ _ _ _ _ _ _ q=>add_int q
def iX:Pa X (binaryOp .Sub) (Rp λi j=> .int<|i-j):=MJ λ_ _ _ _ _ _ _ q=>sub_int q
def cM:Pa X (binaryOp .Mult) (rI Rz λi j=> .int<|i*j):=opI λ_ _ _ _ _ _ _ hc q=>mul_int q hc.ok
def aP:Pa X (binaryOp .FloorDiv) (rI CDiv λi j=> .int<|i/j):=opI λi j _ _ _ _ _ hc q=>by
 have h1:(0:Int)<j:=hc.1;have h2:j<1073741824:=hc.2;exact floordiv_int () (by rw[Vi i ()];exact q)<|.inl (PyProof.noPylong_small ())
def aT:Pa X (binaryOp .Mod) (rI (λ_ j=>0<j) λi j=> .int<|i%j):=opI λi j _ _ _ _ _ hc q=>by
 have h1:(0:Int)<j:=hc;exact mod_int' ()<|by rw[Int.fmod_eq_emod_of_nonneg i ()];exact q
def gr:Pa X (binaryOp .Pow) (rI CPow λi j=> .int<|i^j.toNat):=opI λ_ _ _ _ _ _ _ hc q=>pow_int_small hc.1 hc.2.1 hc.2.2 q
def uf:Pa X (binaryOp .BitAnd) (Rp λi j=> .int<|Builtin.bitAnd i j):=MJ λ_ _ _ _ _ _ _ q=>and_int q
def unI {f:Value->Sem Value} {g:Int->Int}
  (rule:∀(i:Int) (t:Tok) (s:Shared) (Q:Value->Shared->Prop) (E:Value->Shared->Prop),Q (.int (g i) s.toks) {s with toks:=s.toks+1}->W6 X (f<|.int i t) Q E s):
  UnR X f (rU λi=> .int<|g i):=by
 intro W s B H x v Q I z h;obtain⟨i,rfl,q⟩:=h;obtain⟨t,rfl⟩:=z;exact rule i t s _ _ ⟨.int<|g i,H,I.tok _,⟨_,M⟩,q⟩
def DA:UnR X (unaryOp .USub) (rU λi=> .int<|-i):=unI λ_ _ _ _ _ q=>neg_int q
end
noncomputable def scal:V->V->Bool
 | .non,.non=>true| .non,.int _=>true| .int _,.non=>true| .non,.bl _=>true| .bl _,.non=>true| .non,.str _=>true| .str _,.non=>true
 | .int _,.int _=>true| .bl _,.bl _=>true| .str _,.str _=>true| .byt _,.byt _=>true
 | .int _,.str _=>true| .str _,.int _=>true| .bl _,.str _=>true| .str _,.bl _=>true
 |_,_=>false
def rEq:R2:=λx y H Q=>scal x y=true/\Q (.bl<|decide (x=y)) H
def rNe:R2:=λx y H Q=>scal x y=true/\Q (.bl<|!decide (x=y)) H
def E7 {i j:Int}:decide (V.int i=V.int j)=(i==j):=by
 rw[Xf];simp
def IU {i j:Bool}:decide (V.bl i=V.bl j)=(i==j):=by
 rw[Xf];simp
def E6 {i j:Str}:decide (V.str i=V.str j)=(i==j):=by
 rw[Xf];simp
def E8 {i j:Array UInt8}:decide (V.byt i=V.byt j)=(i.toList==j.toList):=by
 rw[Xf];cases i;cases j;simp
section
variable {a b:Expr} {tb tc:TE}
def bp {Q:VK} {k k':Bool} (I:Inv X W B H s) (q:Q (.bl k) H) (e:k=k'):EP X W B Q (.bool k') s:=by
 subst e;exact⟨.bl k,H,I,M,q⟩
def bP:Pa X (compareOp .Eq) rEq:=by
 intro W s B H x y v u Q I G z h;obtain⟨hs,q⟩:=h;cases x with
 |non=>
  cases G;cases y with
  |non=>cases z;exact PySem.EqNone.eq_none_none<|bp I q (by simp)
  |bl j=>cases z;exact PySem.EqNone.eq_none_bool<|bp I q (by simp)
  |int j=>obtain⟨t',rfl⟩:=z;exact PySem.EqNone.eq_none_int<|bp I q (by simp)
  |str j=>obtain⟨t',rfl⟩:=z;exact PySem.EqNone.eq_none_str<|bp I q (by simp)
  |_=>exact Vt (show false=true from hs) Qe
 |bl i=>
  cases G;cases y with
  |non=>cases z;exact PySem.EqNone.eq_bool_none<|bp I q (by simp)
  |bl j=>cases z;exact eq_bool<|bp I q IU
  |str j=>obtain⟨t',rfl⟩:=z;exact PySem.EqMixed.eq_bool_str<|bp I q (by simp)
  |_=>exact Vt (show false=true from hs) Qe
 |int i=>
  obtain⟨t,rfl⟩:=G;cases y with
  |non=>cases z;exact PySem.EqNone.eq_int_none<|bp I q (by simp)
  |int j=>obtain⟨t',rfl⟩:=z;exact eq_int<|bp I q E7
  |str j=>obtain⟨t',rfl⟩:=z;exact PySem.EqMixed.eq_int_str<|bp I q (by simp)
  |_=>exact Vt (show false=true from hs) Qe
 |str i=>
  obtain⟨t,rfl⟩:=G;cases y with
  |non=>cases z;exact PySem.EqNone.eq_str_none<|bp I q (by simp)
  |bl j=>cases z;exact PySem.EqMixed.eq_str_bool<|bp I q (by simp)
  |int j=>obtain⟨t',rfl⟩:=z;exact PySem.EqMixed.eq_str_int<|bp I q (by simp)
  |str j=>obtain⟨t',rfl⟩:=z;exact eq_str<|bp I q E6
  |_=>exact Vt (show false=true from hs) Qe
 |byt i=>
  obtain⟨t,rfl⟩:=G;cases y with
  |byt j=>obtain⟨t',rfl⟩:=z;exact PySem.W.eq_bytes<|bp I q E8
  |_=>exact Vt (show false=true from hs) Qe
 |_=>cases y<;>exact Vt (show false=true from hs) Qe
def zL:Pa X (compareOp .NotEq) rNe:=by
 intro W s B H x y v u Q I G z h;obtain⟨hs,q⟩:=h;cases x with
 |non=>
  cases G;cases y with
  |non=>cases z;exact PySem.EqNone.ne_none_none<|bp I q (by simp)
  |bl j=>cases z;exact PySem.EqNone.ne_none_bool<|bp I q (by simp)
  |int j=>obtain⟨t',rfl⟩:=z;exact PySem.EqNone.ne_none_int<|bp I q (by simp)
  |str j=>obtain⟨t',rfl⟩:=z;exact PySem.EqNone.ne_none_str<|bp I q (by simp)
  |_=>exact Vt (show false=true from hs) Qe
 |bl i=>
  cases G;cases y with
  |non=>cases z;exact PySem.EqNone.ne_bool_none<|bp I q (by simp)
  |bl j=>cases z;exact ne_bool<|bp I q (VH not IU)
  |str j=>obtain⟨t',rfl⟩:=z;exact PySem.EqMixed.ne_bool_str<|bp I q (by simp)
  |_=>exact Vt (show false=true from hs) Qe
 |int i=>
  obtain⟨t,rfl⟩:=G;cases y with
  |non=>cases z;exact PySem.EqNone.ne_int_none<|bp I q (by simp)
  |int j=>obtain⟨t',rfl⟩:=z;exact ne_int<|bp I q (VH not E7)
  |str j=>obtain⟨t',rfl⟩:=z;exact PySem.EqMixed.ne_int_str<|bp I q (by simp)
  |_=>exact Vt (show false=true from hs) Qe
 |str i=>
  obtain⟨t,rfl⟩:=G;cases y with
  |non=>cases z;exact PySem.EqNone.ne_str_none<|bp I q (by simp)
  |bl j=>cases z;exact PySem.EqMixed.ne_str_bool<|bp I q (by simp)
  |int j=>obtain⟨t',rfl⟩:=z;exact PySem.EqMixed.ne_str_int<|bp I q (by simp)
  |str j=>obtain⟨t',rfl⟩:=z;exact ne_str<|bp I q (VH not E6)
  |_=>exact Vt (show false=true from hs) Qe
 |byt i=>
  obtain⟨t,rfl⟩:=G;cases y with
  |byt j=>obtain⟨t',rfl⟩:=z;exact PySem.W.ne_bytes<|bp I q (VH not E8)
  |_=>exact Vt (show false=true from hs) Qe
 |_=>cases y<;>exact Vt (show false=true from hs) Qe
def eF:Pa X (compareOp .Lt) (Rp λi j=> .bl<|decide (i<j)):=Kw λ_ _ _ _ _ _ _ q=>lt_int q
def nT:Pa X (compareOp .LtE) (Rp λi j=> .bl<|decide (i<=j)):=Kw λ_ _ _ _ _ _ _ q=>le_int q
def w6:Pa X (compareOp .Gt) (Rp λi j=> .bl<|decide (j<i)):=Kw λ_ _ _ _ _ _ _ q=>gt_int q
def zN:Pa X (compareOp .GtE) (Rp λi j=> .bl<|decide (j<=i)):=Kw λ_ _ _ _ _ _ _ q=>ge_int q
def cX:Pa X (compareOp .Is) (λx y H Q=>y= .non/\Q (.bl<|decide (x= .non)) H):=by
 intro W s B H x y v u Q I z G h;obtain⟨rfl,q⟩:=h;cases G;refine is_none_gen<|bp I q ?_;cases x<;>first
  |(cases z;rfl)
  |(obtain⟨t,rfl⟩:=z;rfl)
def jy:Pa X (compareOp .IsNot) (λx y H Q=>y= .non/\Q (.bl<|!decide (x= .non)) H):=by
 intro W s B H x y v u Q I z G h;obtain⟨rfl,q⟩:=h;cases G;refine isnot_none_gen<|bp I q ?_;cases x<;>first
  |(cases z;rfl)
  |(obtain⟨t,rfl⟩:=z;rfl)
def aw (b:Expr) (h:op≠ .In:=by decide) (h2:op≠ .NotIn:=by decide):behindInMarks op b=false:=by
 have z:(op==CmpOp.In)=false:=by cases op<;>first|rfl|exact Vt M h
 have e2:(op==CmpOp.NotIn)=false:=by cases op<;>first|rfl|exact Vt M h2
 cases b<;>simp[behindInMarks,z,e2]
def bF (ho:Pa X (compareOp op) r) (ha:PE X a ta) (hb:PE X b tb) (z:behindInMarks op b=false):PE X (.Compare a [op] [b] pos) (tOp r ta tb):=by
 intro W s B H Q I h;exact wpAny_Compare1 (Nl ha hb I h λv u G x y H2 O U Y q=>ho W G B H2 x y v u Q O U Y q) z
inductive Mg (Q:Bool->Hp->Prop) (x:V) (H':Hp):Prop
 |mk (k:_) (_:x= .bl k) (_:Q k H')
def Ls (t:TE):TT:=λB H Q=>t B H λx H'=>Mg Q x H'
def aq (ho:Pa X (compareOp op) r) (ha:PE X a ta) (hb:PE X b tb) (G:behindInMarks op b=false):PT X (.Compare a [op] [b] pos) (Ls<|tOp r ta tb):=by
 intro W s B H Q I h;refine wpAny_isTrue_Compare1 (OI (ha W s B H _ I h) λv s1 ⟨x,H1,O,r1,U⟩=>OI (hb W s1 B H1 _ O U) λu Y ⟨y,H2,Z,r2,q2⟩=>
  OI (ho W Y B H2 x y v u _ Z r1 r2 q2) λc s3 ⟨z,H3,I3,r3,k,e,q3⟩=>?_) G
 subst e;cases r3;exact VL ⟨H3,I3,q3⟩
def G8 (r r':R2) (ta tb tc:TE):TE:=λB H Q=>ta B H λx H1=>tb B H1 λy H2=>r x y H2 λz H3=>∃k,z= .bl k/\
 (if k=true then tc B H3 λw' H4=>r' y w' H4 Q else Q (.bl false) H3)
def HA {G:CmpOp} {r':R2} (ho:Pa X (compareOp op) r) (O:Pa X (compareOp G) r') (ha:PE X a ta) (hb:PE X b tb) (hc:PE X c tc)
  (hm:lastMarks [op,G] [b,c]=false:=by with_unfolding_all rfl):PE X (.Compare a [op,G] [b,c] pos) (G8 r r' ta tb tc):=by
 intro W s B H Q I h;refine Compare_chain (OI (ha W s B H _ I h) λv s1 ⟨x,H1,I1,r1,q1⟩=>chain_link (OI (hb W s1 B H1 _ I1 q1) λu s2 ⟨y,H2,I2,U,q2⟩=>
  OI (ho W s2 B H2 x y v u _ I2 r1 U q2) λd s3 ⟨z,H3,Y,r3,k,e,Z⟩=>?_)) hm
 subst e;cases r3;refine VL ?_;cases k with
 |false=>exact ite_ff ⟨.bl false,H3,Y,M,Z⟩
 |true=>exact ite_tt<|chain_last (OI (hc W s3 B H3 _ Y Z) λw' s4 ⟨z',H4,I4,r4,q4⟩=>O W s4 B H4 y z' u w' Q I4 U r4 q4)
def Ht {G:CmpOp} {r':R2} (ho:Pa X (compareOp op) r) (O:Pa X (compareOp G) r') (ha:PE X a ta) (hb:PE X b tb) (hc:PE X c tc)
  (hm:lastMarks [op,G] [b,c]=false:=by with_unfolding_all rfl):PT X (.Compare a [op,G] [b,c] pos) (Ls<|G8 r r' ta tb tc):=by
 intro W s B H Q I h;refine isTrue_chain (OI (ha W s B H _ I h) λv s1 ⟨x,H1,I1,r1,q1⟩=>test_link (OI (hb W s1 B H1 _ I1 q1) λu s2 ⟨y,H2,I2,Y,q2⟩=>
  OI (ho W s2 B H2 x y v u _ I2 r1 Y q2) λd s3 ⟨z,H3,Z,r3,k,e,q3⟩=>?_)) hm
 subst e;cases r3;refine VL ?_;cases k with
 |false=>
  obtain⟨k',e',q'⟩:=q3;cases e';exact ite_ff ⟨H3,Z,q'⟩
 |true=>
  refine ite_tt<|test_last (OI (hc W s3 B H3 _ Z q3) λw' s4 ⟨z',H4,I4,r4,q4⟩=>OI (O W s4 B H4 y z' u w' _ I4 Y r4 q4) λd' s5 U=>?_);obtain⟨z2,H5,I5,r5,k2,e2,q5⟩:=U;subst e2;cases r5;exact VL ⟨H5,I5,q5⟩
def xE:(sizeLine:Nat)<2^63:=by rw[sizeLine_eq];decide
def mC {x:V} (r:GA [x] us):∃u,us=[u]/\RelV x u:=by
 cases r with
 |cons r1 z=>cases z;exact⟨_,M,r1⟩
def uS {x:V} (r:GA [x,y] us):∃u w',us=[u,w']/\RelV x u/\RelV y w':=by
 cases r with
 |cons r1 z=>
  cases z with
  |cons G I=>cases I;exact⟨_,_,M,r1,G⟩
def pJ (hc:X.calm=true):gb X (.builtin "max") (λxs H Q=>∃i j,xs=[.int i,.int j]/\Q (.int<|if j>i then j else i) H):=by
 intro W s B H xs us Q I r h;obtain⟨i,j,rfl,q⟩:=h;obtain⟨u,w',rfl,⟨t,rfl⟩,⟨t',rfl⟩⟩:=uS r;refine max_two_ints (I.ok.hd hc) λh' tk k=>⟨_,H,I.kept k,?_,q⟩;by_cases z:j>i
 .rw[Vp z,Vp z];exact⟨_,M⟩
 .rw[Vo z,Vo z];exact⟨_,M⟩
def pI (hc:X.calm=true):gb X (.builtin "min") (λxs H Q=>∃i j,xs=[.int i,.int j]/\Q (.int<|if j<i then j else i) H):=by
 intro W s B H xs us Q I r h;obtain⟨i,j,rfl,q⟩:=h;obtain⟨u,w',rfl,⟨t,rfl⟩,⟨t',rfl⟩⟩:=uS r;refine min_two_ints (I.ok.hd hc) λh' tk k=>⟨_,H,I.kept k,?_,q⟩;by_cases z:j<i
 .rw[Vp z,Vp z];exact⟨_,M⟩
 .rw[Vo z,Vo z];exact⟨_,M⟩
def Bp:gb X (.type "str") (λxs H Q=>∃i,xs=[.int i]/\i.natAbs.log2<1920/\Q (.str<|toString i) H):=by
 intro W s B H xs us Q I r h;obtain⟨i,rfl,hz,q⟩:=h;obtain⟨u,rfl,t,rfl⟩:=mC r;exact PySem.P.str_of_int hz ⟨.str _,H,I.tok _,⟨_,M⟩,q⟩
end
structure RO (h:Heap) (x dx C:Addr) (mA:Str->Option Value):Prop where
 obj:h.get? x=some (PySem.W.instObj C dx)
 ns:h.Ns1 dx mA
 ne:dx≠x
def F7 {mA:Str->Option Value} (n:h.Ns1 dx mA):∃I,h.get? dx=some I/\∀name,PySem.W.lookIn name I=some (mA name):=by
 obtain⟨o,es,ep,ho,hd,hk,_,O⟩:=n;refine⟨o,ho,λname=>?_⟩;have e:=O name;unfold nsFind findBy at e;rw[<-Array.find?_toList]at e;unfold PySem.W.lookIn;rw[hd];dsimp only;split
 .rename_i y q
  rw[q]at e;exact VH some e
 .rename_i q
  rw[q]at e;have a:es.toList.any (·.refKey)=false:=by
   rw[List.any_eq_false];intro y hy;obtain⟨z,t,G⟩:=hk y (Array.mem_toList_iff.mp hy);simp[DictEntry.refKey,G]
  have a':¬es.toList.any (·.refKey)=true:=by rw[a];exact Qe
  rw[Vo a'];exact VH some e
def RO.look {x:Addr} {mA:Str->Option Value} (I:RO h x dx C mA):∃z,PySem.W.InstAt h x (PySem.W.instObj C dx) C (some z)/\∀name,PySem.W.lookIn name z=some (mA name):=
 let⟨z,ho,hl⟩:=F7 I.ns
 ⟨z,⟨I.obj,M,M,ho⟩,hl⟩
section
variable {x:Addr} {mA:Str->Option Value} {v:Value}
def KW {z:Bool} (X:K.In s.heap) (I:RO s.heap x dx C mA) (O:PySem.W.plainGet K C name=true) (U:PySem.W.hasDictIn K C=true)
  (ha:PySem.W.findIn K (.ref C) name=some none) (Y:mA name=some v) (G:PySem.W.handedIn v=true) (h:Q v {s with toks:=s.toks+1}):
  wpAny (model prog w) A (getAttr (.ref x) name z) Q E s:=by
 obtain⟨Z,J,hl⟩:=I.look;exact PySem.W.get_value X J (XM O).1 (PySem.W.findObj_own U ha M<|by rw[hl,Y]) G h
def Iy {pl:Sem Bool} {Q:Value×List Value->Shared->Prop} (X:K.In s.heap) (I:RO s.heap x dx C mA) (z:PySem.W.plainGet K C name=true)
  (hf:PySem.W.findIn K (.ref C) name=some (some<|.ref f)) (G:PySem.W.isFn K (.ref f)=true) (O:mA name=none) (h:Q (.ref f,[.ref x]) s):
  wpAny (model prog w) A (getMethod (.ref x) name pl) Q E s:=by
 obtain⟨U,J,hl⟩:=I.look;exact PySem.W.method_fn X J (XM z).1 (XM z).2 hf (VB.mp G) (by show(PySem.W.lookIn name U).map (·.isSome)=some false;rw[hl,O];rfl) h
def Kd {ns:List Str} {Q:Unit->Shared->Prop} (X:K.In s.heap) (I:RO s.heap x dx C mA)
  (hs:PySem.W.findIn K (.ref C) "__setattr__"=some (some<|.builtin "object.__setattr__")) (hp:PySem.W.plainOver K C=true) (ht:PySem.W.takerIn K C name=some none) (hh:PySem.W.hasDictIn K C=true)
  (hw:PySem.Within mA ns) (hsz:ns.length<=sizeLine)
  (h:∀h',RO h' x dx C (λy=>if y=name then some v else mA y)->Heap.SameBut dx s.heap h'->Q Unit.unit {s with heap:=h',toks:=s.toks+2}):
  wpAny (model prog w) A (setAttr (.ref x) name v) Q E s:=by
 obtain⟨od,J,hl⟩:=I.look;refine PySem.W.set_plain X J hs<|PySem.W.osa_open (s:={s with toks:=s.toks+1}) (r:=none) X J hp ht λb=>?_;obtain⟨cd,hc,O⟩:=PySem.W.any_some hh;have hx:s.heap.get? x=some ⟨.ref C,some dx,.plain, #[]⟩:=I.obj;refine Vv<|VD (Vv<|Vv<|wpAny_loadPart hx<|Vv<|PySem.W.Looks.here (s:={s with toks:=s.toks+1}) (PySem.W.looks_clsIn X hc) ?_);rw[O];refine VD (a:=some dx)<|Vv (VD<|Vv ?_);refine wpAny_nsSet1 (s:={s with toks:=s.toks+1}) I.ns λh' z G=>?_;obtain⟨oD,a0,a1,U,Y,Z⟩:=z.count (PySem.Within.cons name v hw);refine Vv<|wpAny_lookBehind U (by rw[Y];exact pastItsLine_dict<|Qz Z<|by rw[Qo];lia) ?_;exact VD<|h _ ⟨(G.2 _<|Ne.symm I.ne).trans I.obj,z,I.ne⟩ G
def HS {vs:List Value} (X:K.In s.heap) (z:PySem.W.makesIn K C=true)
  (hi:PySem.W.findIn K (.ref C) "__init__"=some (some<|.ref f)) (hf:PySem.W.typeIn K (.ref f)=some (.type "function"))
  (h:codeAny (model prog w) (A.under<|.builtin "type.__call__" ⟨.ref C::vs,kw⟩) (.call (.ref f) ⟨.ref (s.heap.objs.size+1)::vs,kw⟩) (PySem.W.InitBack (s.heap.objs.size+1) R)
   {s with heap:=(s.heap.push PySem.W.emptyDict).push (PySem.W.instObj C s.heap.objs.size)}):
  codeAny (model prog w) A (.call (.ref C) ⟨vs,kw⟩) R s:=by
 obtain⟨G,g,d,t,os⟩:=s;exact PySem.W.make_core (PySem.W.makes_of X z) (PySem.W.looks_findIn X hi) (λself=>PySem.W.bind_fn X self hf) (.inl M) h
end
def bK (f:Str) (v:V):List (Str×V)->List (Str×V)
 | []=> [(f,v)]
 |(g,x)::r=>if g=f then(g,v)::r else(g,x)::bK f v r
def bq (f g:Str) (v:V):∀fs:List (Str×V),(bK f v fs).lookup g=if g=f then some v else fs.lookup g
 | []=>by
  show List.lookup g [(f,v)]=_;by_cases h:g=f
  .have hb:(g==f)=true:=VB.mpr h;simp only[List.lookup,hb,Vp h]
  .have hb:(g==f)=false:=VF.mpr h;simp only[List.lookup,hb,Vo h]
 |(k,x)::r=>by
  have z:=bq f g v r;rw[show bK f v ((k,x)::r)=(if k=f then(k,v)::r else(k,x)::bK f v r) from rfl];by_cases hk:k=f
  .rw[Vp hk];by_cases h:g=k
   .have hb:(g==k)=true:=VB.mpr h;simp only[List.lookup,hb,Vp (h.trans hk)]
   .have hb:(g==k)=false:=VF.mpr h;simp only[List.lookup,hb,Vo (λe:g=f=>h<|e.trans hk.symm)]
  .rw[Vo hk];by_cases h:g=k
   .have hb:(g==k)=true:=VB.mpr h;simp only[List.lookup,hb,Vo (λe:g=f=>hk<|h.symm.trans e)]
   .have hb:(g==k)=false:=VF.mpr h;simp only[List.lookup,hb];exact z
def uB (f:Str) (v:V):∀fs:List (Str×V),f∈(bK f v fs).map (·.1)/\∀g,g∈fs.map (·.1)->g∈(bK f v fs).map (·.1)
 | []=>⟨by simp[bK],λg h=>by simp at h⟩
 |(k,x)::r=>by
  obtain⟨z,G⟩:=uB f v r;rw[show bK f v ((k,x)::r)=(if k=f then(k,v)::r else(k,x)::bK f v r) from rfl];by_cases hk:k=f
  .rw[Vp hk];subst hk;exact⟨by simp,λg h=>by simpa using h⟩
  .rw[Vo hk];refine⟨?_,λg h=>?_⟩
   .rw[Qt];exact Qd _ z
   .rw[Qt]at h⊢;rcases Qh.mp h with e|e
    .exact Qh.mpr<|.inl e
    .exact Qd _<|G g e
def uY (f:Str) (v:V):∀fs:List (Str×V),(bK f v fs).length<=fs.length+1
 | []=>by simp[bK]
 |(k,x)::r=>by
  have z:=uY f v r;rw[show bK f v ((k,x)::r)=(if k=f then(k,v)::r else(k,x)::bK f v r) from rfl];by_cases hk:k=f
  .rw[Vp hk,Qo,Qo];lia
  .rw[Vo hk,Qo,Qo];lia
def PR.some_of (r:PR (some v) o):∃u,o=some u/\RelV v u:=by
 cases o with
 |none=>exact(show False from r).elim
 |some u=>exact⟨u,M,r⟩
def PR.none_of (r:PR none o):o=none:=by
 cases o with
 |none=>rfl
 |some u=>exact(show False from r).elim
def Gh (r:RelV v u):PySem.W.handedIn u=true:=by
 cases v with
 |non=>cases (show u=Value.none from r);rfl
 |bl b=>cases (show u=Value.bool b from r);rfl
 |int i=>obtain⟨t,e⟩:=(show ∃t,u=Value.int i t from r);cases e;rfl
 |str x=>obtain⟨t,e⟩:=(show ∃t,u=Value.str x t from r);cases e;rfl
 |byt b=>obtain⟨t,e⟩:=(show ∃t,u=Value.bytes b t from r);cases e;rfl
 |flt b=>obtain⟨t,e⟩:=(show ∃t,u=Value.float b t from r);cases e;rfl
 |ref a=>cases (show u=Value.ref a from r);rfl
 |ty n=>cases (show u=Value.type n from r);rfl
section
variable {fs fs':List (Str×V)}
def PJ (hok:PM P w H h) (e:H a=some (.ins C dx fs)):∃mA,RO h a dx C mA/\(∀f,PR (fs.lookup f) (mA f))/\PySem.Within mA (fs.map (·.1))/\fs.length<=1000/\H dx=some (.own a):=by
 obtain⟨d,z,ne,ob,mA,n,r,q⟩:=(show O9 P w H h a (.ins C dx fs) from hok a _ e);exact⟨mA,⟨ob,n,ne⟩,r,q,z,d⟩
end
structure Pq (K:JK) (C:Addr):Prop where
 pg:PySem.W.plainGet K C Str.empty=true
 hd:PySem.W.hasDictIn K C=true
 po:PySem.W.plainOver K C=true
 sa:PySem.W.findIn K (.ref C) "__setattr__"=some (some<|.builtin "object.__setattr__")
def Pq.get (c:Pq K C) (f:Str):PySem.W.plainGet K C f=true:=c.pg
def CV (K:JK) (C:Addr) (f:Str):Prop:=PySem.W.findIn K (.ref C) f=some none
def CV.taker {f:Str} (n:CV K C f):PySem.W.takerIn K C f=some none:=by
 unfold PySem.W.takerIn;rw[show PySem.W.findIn K (.ref C) f=some none from n];rfl
structure bJ (K:JK) (C:Addr) (m:Str) (f:Addr):Prop where
 at_:PySem.W.findIn K (.ref C) m=some (some<|.ref f)
 fn:PySem.W.isFn K (.ref f)=true
 kp:PySem.W.keepIn K (.ref f)=true
section
variable {fs:List (Str×V)} {f:Str}
def xL {b:Bool} (I:Inv X W B H s) (e:H a=some (.ins C dx fs)) (c:Pq X.K C) (n:CV X.K C f) (l:fs.lookup f=some v)
  (h:∀u s',Inv X W B H s'->RelV v u->Q u s'):wpAny (model X.prog X.w) A (getAttr (.ref a) f b) Q E s:=by
 obtain⟨mA,O,r,_,_,_⟩:=PJ I.hok e;obtain⟨u,hu,z⟩:=PR.some_of (v:=v) (o:=mA f) (by rw[<-l];exact r f);exact KW I.kIn O (c.get f) c.hd n hu (Gh z)<|h u _ (I.tok _) z
def lR {g:Addr} {pl:Sem Bool} {Q:Value×List Value->Shared->Prop} (I:Inv X W B H s) (e:H a=some (.ins C dx fs)) (c:Pq X.K C) (k:bJ X.K C m g) (l:fs.lookup m=none)
  (h:Q (.ref g,[.ref a]) s):wpAny (model X.prog X.w) A (getMethod (.ref a) m pl) Q E s:=by
 obtain⟨mA,O,r,_,_,_⟩:=PJ I.hok e;have z:mA m=none:=PR.none_of (by rw[<-l];exact r m);exact Iy I.kIn O (c.get m) k.at_ k.fn z h
def wD {Q:Unit->Shared->Prop} (I:Inv X W B H s) (e:H a=some (.ins C dx fs)) (c:Pq X.K C) (n:CV X.K C f) (hl:fs.length<1000) (U:RelV y u)
  (h:∀s',Inv X W B (upd H a<|.ins C dx<|bK f y fs) s'->Q Unit.unit s'):wpAny (model X.prog X.w) A (setAttr (.ref a) f u) Q E s:=by
 obtain⟨mA,O,r,wi,_,ho⟩:=PJ I.hok e;have hz:(fs.map (·.1)).length<=sizeLine:=by rw[Q0,sizeLine_eq];lia
 refine Kd I.kIn O c.sa c.po n.taker c.hd wi hz λh' G Y=>h _ ?_;have hd:∃o,h'.get? dx=some o:=let⟨o,_,_,e',_⟩:=G.ns;⟨o,e'⟩
 refine I.write (x:=a) (e:=dx) (by rw[e];exact VG) (.inr ho) (λb q hb z=>(Y.2 b hb).trans z) hd ?_;refine⟨by rwa[af O.ne],?_,O.ne,G.obj,_,G.ns,λg=>?_,λg Z=>?_⟩
 .have:=uY f y fs;lia
 .show PR ((bK f y fs).lookup g) (if g=f then some u else mA g);rw[bq];by_cases q:g=f
  .rwa[Vp q,Vp q]
  .rw[Vo q,Vo q];exact r g
 .by_cases q:g=f
  .rw[q];exact(uB f y fs).1
  .refine(uB f y fs).2 g<|wi g λz=>Z ?_;show(if g=f then some u else mA g)=none;rwa[Vo q]
def Inv.made (I:Inv X W B H s):Inv X W B (upd (upd H s.heap.objs.size<|.own<|s.heap.objs.size+1) (s.heap.objs.size+1)<|.ins C s.heap.objs.size [])
  {s with heap:=(s.heap.push PySem.W.emptyDict).push (PySem.W.instObj C s.heap.objs.size)}:=by
 have z:(s.heap.push PySem.W.emptyDict).get? s.heap.objs.size=some PySem.W.emptyDict:=Vz s.heap M;have e2:((s.heap.push PySem.W.emptyDict).push<|PySem.W.instObj C s.heap.objs.size).get? (s.heap.objs.size+1)=some (PySem.W.instObj C s.heap.objs.size):=by
  have:=Vz (s.heap.push PySem.W.emptyDict) (o:=PySem.W.instObj C s.heap.objs.size) M;rwa [Heap.size_push]at this
 have G:(s.heap.push PySem.W.emptyDict).Ns s.heap.objs.size (λ_=>none):=⟨PySem.W.emptyDict, #[],_,z,M,(λe he=>Vt he<|by simp),λ_=>M⟩;have O:=I.laid (a:=s.heap.objs.size) (o:= .own<|s.heap.objs.size+1) (h':=s.heap.push PySem.W.emptyDict) (t':=s.toks) (λb u q=>Vr _ q) (Q4 _) ⟨_,z⟩;refine O.laid (a:=s.heap.objs.size+1) (o:= .ins C s.heap.objs.size []) (t':=s.toks) (λb u q=>Vr _ q) (Zw<|Heap.size_push _ _) ?_;have ne:s.heap.objs.size≠s.heap.objs.size+1:=QK (ZA _);refine⟨by rw[af ne,ag],Qj _,ne,e2,λ_=>none,(Heap.Ns1.of_empty G).at λo q=>Vr _ q,λ_=>VG,λy hy=>Vt M hy⟩
def Le {env:Env} {f:Str} (hb:attributeBase e f env (eval e env)=eval e env)
  (h:wpAny (model prog w) A (eval e env) (λo s₁=>wpAny (model prog w) A (getAttr o f true) Q E s₁) E s):wpAny (model prog w) A (eval (.Attribute e f pos) env) Q E s:=
 Attribute_any_ h (by rw[arm_eval_Attribute,hb])
end
inductive NM (K:JK) (f:Str) (Q:VK) (x:V) (H1:Hp):Prop
 |mk (a C dx fs v:_) (_:x= .ref a) (_:H1 a=some (.ins C dx fs)) (_:Pq K C) (_:CV K C f) (_:fs.lookup f=some v) (_:Q v H1)
def tFld (K:JK) (ta:TE) (f:Str):TE:=λB H Q=>ta B H λx H1=>NM K f Q x H1
inductive NU (K:JK) (f:Str) (D:tG) (B:St) (y x:V) (H2:Hp):Prop
 |mk (a C dx fs:_) (_:x= .ref a) (_:H2 a=some (.ins C dx fs)) (_:Pq K C) (_:CV K C f) (_:fs.length<1000) (_:D.nx B (upd H2 a<|.ins C dx<|bK f y fs))
def sFld (K:JK) (ta tv:TE) (f:Str):TS:=λD B H=>tv B H λy H1=>ta B H1 λx H2=>NU K f D B y x H2
def Nw (X:Cx) (op:Operator) (rd:V->V->Hp->VK->Prop):Prop:=
 ∀(W:List (Addr×Obj)) (s:Shared) (B:St) (H:Hp) (x y:V) (u v:Value) (Q:VK),Inv X W B H s->RelV x u->RelV y v->rd x y H Q->W6 X (inplaceOp op u v) (EP X W B Q) X.xe s
inductive Hj (K:JK) (tv:TE) (rd:V->V->Hp->VK->Prop) (f:Str) (D:tG) (B:St) (x:V) (H1:Hp):Prop
 |mk (a C dx fs v:_) (_:x= .ref a) (_:H1 a=some (.ins C dx fs)) (_:Pq K C) (_:CV K C f) (_:fs.lookup f=some v) (_:tv B H1 λy H2=>rd v y H2 λz H3=>∃dx' fs',H3 a=some (.ins C dx' fs')/\fs'.length<1000/\D.nx B (upd H3 a<|.ins C dx'<|bK f z fs'))
def Ke (K:JK) (ta tv:TE) (rd:V->V->Hp->VK->Prop) (f:Str):TS:=λD B H=>ta B H λx H1=>Hj K tv rd f D B x H1
section
variable {o value:Expr} {f:Str} {tpos:Pos} {tv:TE}
def au (he:PE X e ta) (hb:attributeBase e f X.env (eval e X.env)=eval e X.env):PE X (.Attribute e f pos) (tFld X.K ta f):=by
 intro W s B H Q I h;refine Le hb<|OI (he W s B H _ I h) λu s1 z=>?_;obtain⟨x,H1,G,O,a,C,dx,fs,v,ex,U,c,n,l,q⟩:=z;subst ex;obtain rfl:u=Value.ref a:=O;exact xL G U c n l λu' s2 Y Z=>⟨v,H1,Y,Z,q⟩
def bh (ha:PE X o ta) (G:PE X value tv) (hs:swapsWith value (some<|.Attribute o f pos') pos.line X.env=pure false):PS X (.Assign [.Attribute o f pos'] value pos) (sFld X.K ta tv f):=by
 intro W s B H D I h;refine plainObj_wpAny_Assign_Attribute (OI (G W s B H _ I h) λu s1 ⟨y,H1,O,U,q⟩=>OI (ha W s1 B H1 _ O q) λY s2 z=>?_) hs;obtain⟨x,H2,Z,rx,a,C,dx,fs,ex,ea,c,n,l,q2⟩:=z;subst ex;obtain rfl:Y=Value.ref a:=rx;exact wD Z ea c n l U λs3 I3=>⟨B,_,I3,q2⟩
def iE {op:Operator} (ha:PE X o ta) (Y:PE X value tv) (O:Nw X op rd):PS X (.AugAssign (.Attribute o f tpos) op value pos) (Ke X.K ta tv rd f):=by
 intro W s B H D I h;refine wpAny_AugAssign_AttributeAny<|OI (ha W s B H _ I h) λZ s1 G=>?_;obtain⟨x,H1,I1,rx,a,C,dx,fs,v,ex,ea,c,n,l,q⟩:=G;subst ex;obtain rfl:Z=Value.ref a:=rx;refine xL I1 ea c n l λu s2 I2 ru=>OI (Y W s2 B H1 _ I2 q) λw3 s3 ⟨y,H2,I3,ry,q3⟩=>OI (O W s3 B H2 v y u w3 _ I3 ru ry q3) λw4 s4 G=>?_;obtain⟨z,H3,I4,rz,a0,fs',U,l',q4⟩:=G;exact wD I4 U c n l' rz λs5 I5=>⟨B,_,I5,q4⟩
inductive rAdd (x y:V) (H:Hp) (Q:VK):Prop
 |mk (i j:_) (_:x= .int i) (_:y= .int j) (_:Q (.int<|i+j) H)
inductive rSub (x y:V) (H:Hp) (Q:VK):Prop
 |mk (i j:_) (_:x= .int i) (_:y= .int j) (_:Q (.int<|i-j) H)
def xJ:Nw X .Add rAdd:=by
 rintro W s B H x y u v Q I z G ⟨i,j,rfl,rfl,q⟩;obtain⟨t,rfl⟩:=(show ∃t,u=Value.int i t from z);obtain⟨t',rfl⟩:=(show ∃t',v=Value.int j t' from G);exact PyProof.Rows.iadd_int ⟨.int<|i+j,H,I.tok _,⟨_,M⟩,q⟩
def M1:Nw X .Sub rSub:=by
 rintro W s B H x y u v Q I z G ⟨i,j,rfl,rfl,q⟩;obtain⟨t,rfl⟩:=(show ∃t,u=Value.int i t from z);obtain⟨t',rfl⟩:=(show ∃t',v=Value.int j t' from G);exact PyProof.Rows.isub_int ⟨.int<|i-j,H,I.tok _,⟨_,M⟩,q⟩
end
section
variable {c:Value} {b:Bool}
inductive P0 (K:JK) (H:Hp):V->Value->Prop where
 |non:P0 K H .non (.type "NoneType")
 |bl (x:Bool):P0 K H (.bl x) (.type "bool")
 |int (i:Int):P0 K H (.int i) (.type "int")
 |str (x:Str):P0 K H (.str x) (.type "str")
 |flt (x:UInt64):P0 K H (.flt x) (.type "float")
 |lst {a:Addr} {xs:List V} (e:H a=some (.lst xs)):P0 K H (.ref a) (.type "list")
 |frz {a:Addr} {o:Obj} {xs:List V} (e:H a=some (.frz o<|.lst xs)):P0 K H (.ref a) (.type "list")
 |tup {a:Addr} {xs:List V} (e:H a=some (.tup xs)):P0 K H (.ref a) (.type "tuple")
 |dK {a:Addr} {kvs:List (Key×V)} (e:H a=some (.dK kvs)):P0 K H (.ref a) (.type "dict")
 |dT {a:Addr} {kvs:List (List Key×V)} (e:H a=some (.dT kvs)):P0 K H (.ref a) (.type "dict")
 |ins {a C dx:Addr} {fs:List (Str×V)} (e:H a=some (.ins C dx fs)) (cl:Pq K C) (ha:PySem.W.findIn K (.ref C) "__class__"=some (some<|.builtin "object.__class__"))
   (hn:PySem.W.specialIn K (.builtin "object.__class__") "__get__"=some (some<|.builtin "getset_descriptor.__get__")) (htk:PySem.W.takesIn K (.builtin "object.__class__")=some true)
   (hm:PySem.W.mroIn K C (.type "object")=some true):P0 K H (.ref a) (.ref C)
def zW {x:V} {t:Value} (I:Inv X W B H s) (G:RelV x u) (ty:P0 X.K H x t) (e:PySem.W.kitOne X.K t c=some b) (h:∀tk,Q (.bool b) {s with toks:=tk}):
  wpAny (model X.prog X.w) A (call (.builtin "isinstance") [u,c]) Q E s:=by
 cases ty with
 |non=>cases (show u=Value.none from G);exact Z5 PySem.W.kitx_none I.kIn VG e (λz=>nomatch z) h
 |bl y=>cases (show u=Value.bool y from G);exact Z5 PySem.W.kitx_bool I.kIn VG e (λz=>nomatch z) h
 |int i=>obtain⟨t,q⟩:=(show ∃t,u=Value.int i t from G);cases q;exact Z5 PySem.W.kitx_int I.kIn VG e (λz=>nomatch z) h
 |str y=>obtain⟨t,q⟩:=(show ∃t,u=Value.str y t from G);cases q;exact Z5 PySem.W.kitx_str I.kIn VG e (λz=>nomatch z) h
 |flt y=>obtain⟨t,q⟩:=(show ∃t,u=Value.float y t from G);cases q;exact Z5 PySem.W.kitx_float I.kIn VG e (λz=>nomatch z) h
 | @lst a xs U=>
  cases (show u=Value.ref a from G);obtain⟨_,_,n,_,h1⟩:=(show O9 X.prog X.w H s.heap a (.lst xs) from I.hok a _ U);exact Z5 PySem.W.kitx_list I.kIn ⟨_,h1,M⟩ e (λz=>nomatch z) h
 | @frz a ob xs U=>
  cases (show u=Value.ref a from G);obtain⟨_,_,_,n,_,h1⟩:=(show O9 X.prog X.w H s.heap a (.frz ob<|.lst xs) from I.hok a _ U);exact Z5 PySem.W.kitx_list I.kIn ⟨_,h1,M⟩ e (λz=>nomatch z) h
 | @tup a xs U=>
  cases (show u=Value.ref a from G);obtain⟨_,_,_,p⟩:=(show O9 X.prog X.w H s.heap a (.tup xs) from I.hok a _ U);obtain⟨o,h1,h2,_⟩:=p;exact Z5 PySem.W.kitx_tuple I.kIn ⟨o,h1,h2⟩ e (λz=>nomatch z) h
 | @dK a kvs U=>
  cases (show u=Value.ref a from G);obtain⟨_,_,vs,_,p⟩:=(show O9 X.prog X.w H s.heap a (.dK kvs) from I.hok a _ U);obtain⟨o,es,ep,h1,h2,_⟩:=p;exact Z5 PySem.W.kitx_dict I.kIn ⟨o,h1,h2.1⟩ e (λz=>nomatch z) h
 | @dT a kvs U=>
  cases (show u=Value.ref a from G);obtain⟨_,_,xs,_,o,es,ep,h1,h2,_⟩:=(show O9 X.prog X.w H s.heap a (.dT kvs) from I.hok a _ U);exact Z5 PySem.W.kitx_dict I.kIn ⟨o,h1,h2.1⟩ e (λz=>nomatch z) h
 | @ins a C dx fs U cl ha Z Y hm=>
  cases (show u=Value.ref a from G);obtain⟨mA,O,_⟩:=PJ I.hok U;obtain⟨od,J,_⟩:=O.look;exact Z5 (PySem.W.kitx_own (cl.get _) cl.hd ha Z Y hm) I.kIn J e (λz=>nomatch z) h
end
structure OV (k:Nat) (A:Around):Prop where
 hd:A.handled=none
 dp:A.depth+3*k+5<recursionLimit
 un:A.units+16*k+200<cLine
def OV.mono {k:Nat} (r:OV k A) (h:j<=k):OV j A:=⟨r.hd,by have:=r.dp;lia,by have:=r.un;lia⟩
def OV.deeper {k:Nat} (r:OV (k+1) A) (env:Env):OV k (A.deeper env):=
 ⟨r.hd,by have:=r.dp;show A.depth+1+3*k+5<_;lia,by have:=r.un;show A.units+3+16*k+200<_;lia⟩
def Eb:(A.under<|.builtin "type.__call__" ⟨.ref C::us,kw⟩).depth=A.depth+1:=by
 first|rfl|simp[Around.under,Code.weight,Code.isCreation,Code.isGuard,Code.isCaller,Code.frames,Code.isFrame,guardIds]
def Ea:(A.under<|.builtin "type.__call__" ⟨.ref C::us,kw⟩).units=A.units+1:=by
 first|rfl|simp[Around.under,Code.cUnits,Code.frames,Code.isFrame]
def OV.make {k:Nat} (r:OV (k+1) A) (C:Addr) (us:List Value) (kw:List (Str×Value)):OV k (A.under<|.builtin "type.__call__" ⟨.ref C::us,kw⟩):=
 ⟨r.hd,by have:=r.dp;rw[Eb];lia,by have:=r.un;rw[Ea];lia⟩
def OV.depth {k:Nat} (r:OV k A):A.depth<recursionLimit:=by have:=r.dp;lia
def OV.units {k:Nat} (r:OV k A):A.units+64<cLine:=by have:=r.un;lia
def J9:TA:=λ_ H Q=>Q [] H
def NQ (ta:TE) (tr:TA):TA:=λB H Q=>ta B H λx H1=>tr B H1 λxs H2=>Q (x::xs) H2
section
variable {t:TA}
def ai:PA X [] J9:=λ_ _ _ _ H Q I h=>Calls.spliced_nil ⟨[],H,I,.nil,h⟩
def ac (ha:PE X e te) (G:PA X es t) (hs:starEach (e::es) X.env=(false,eval e X.env)::starEach es X.env:=by rfl):PA X (e::es) (NQ te t):=by
 intro pos W s B H Q I h;rw[hs];show wpAny _ _ (spliced ((false,eval e X.env)::backTo pos (starEach es X.env))) _ _ s;refine Calls.spliced_cons<|OI (ha W s B H _ I h) λu s1 z=>?_;obtain⟨x,H1,O,r1,U⟩:=z;exact OI (G pos W s1 B H1 _ O U) λus s2 ⟨xs,H2,Y,Z,q2⟩=>⟨x::xs,H2,Y,.cons r1 Z,q2⟩
def tTup (t:TA):TE:=λB H Q=>t B H λxs H1=>xs.length<=sizeLine/\∀p,H1 p=none->Q (.ref p) (upd H1 p<|.tup xs)
def tLst (t:TA):TE:=λB H Q=>t B H λxs H1=>xs.length<=sizeLine/\∀p,H1 p=none->Q (.ref p) (upd H1 p<|.lst xs)
def bO {x1} (h:PA X es t):PE X (.Tuple es x1 pos) (tTup t):=by
 intro W s B H Q I hq;refine wpAny_Tuple_spliced<|OI (h pos W s B H _ I hq) λus s1 ⟨xs,H1,G,r,z,q⟩=>⟨by rwa[<-r.length],?_⟩;have hf:H1 s1.heap.objs.size=none:=G.hok.fresh (Q4 _);refine⟨.ref s1.heap.objs.size,upd H1 s1.heap.objs.size<|.tup xs,G.laid (t':=s1.toks) (λb u e=>Vr _ e) (Q4 _) ?_,M,q _ hf⟩;exact⟨z,us,r,⟨_,Vz _ M,M,_,M⟩⟩
def bZ (h:PA X es t):PE X (.List es pos) (tLst t):=by
 intro W s B H Q I hq;refine wpAny_List_spliced<|OI (h pos W s B H _ I hq) λus s1 ⟨xs,H1,G,r,z,q⟩=>⟨by rwa[<-r.length],?_⟩;have hf:H1 s1.heap.objs.size=none:=G.hok.fresh (Q4 _);refine⟨.ref s1.heap.objs.size,upd H1 s1.heap.objs.size<|.lst xs,G.laid (t':=s1.toks) (λb u e=>Vr _ e) (Q4 _) ?_,M,q _ hf⟩;exact⟨z,us,0,r,Vz _ M⟩
end
abbrev Sp:=List V->Hp->VK->XK->Prop
abbrev CXT:=List Env->Hp->Shared->XK->Value->Shared->Prop
structure RP (P:Program) (w:World) (K:JK) (mg:Str->Option Value) (base:Heap) (A:Around) (outer:List Env) (s:Shared) (H:Hp):Prop where
 frames:A.frames=some outer
 mod:Mod K mg base
 bs:∀b o,base.get? b=some o->s.heap.get? b=some o/\H b=none
 bsz:base.objs.size<=s.heap.objs.size
 funs:s.heap.FunFrames base outer
 frf:∀b∈RQ outer,H b=none
 hok:PM P w H s.heap
 bare:AllBare s.gens
def CE (outer:List Env) (P:Program) (w:World) (H:Hp) (s:Shared) (Q:VK) (u:Value) (s':Shared):Prop:=
 ∃v H',s'.os=s.os/\AllBare s'.gens/\Un (RQ outer) [] H H' s.heap s'.heap/\PM P w H' s'.heap/\RelV v u/\Q v H'
def CR (CX:CXT) (outer:List Env) (P:Program) (w:World) (H:Hp) (s:Shared) (Q:VK) (E:XK) (r:Result) (s':Shared):Prop:=
 match r with
 | .ok (.ret u)=>CE outer P w H s Q u s'
 | .ok _=>False
 | .error e=>CX outer H s E e s'
structure CU (P:Program) (w:World) (K:JK) (mg:Str->Option Value) (base:Heap) (CX:CXT) (k:Nat) (f:Addr) (fd:FuncData) (ps:List Str) (sp:Sp):Prop where
 len:∀vs H Q E,sp vs H Q E->vs.length=ps.length
 run:∀(A:Around) (outer:List Env) (s:Shared) (H:Hp) (args:Args) (us:List Value) (vs:List V) (Q:VK) (E:XK),OV k A->RP P w K mg base A outer s H->BindsTo s fd args (ps.zip us)->GA vs us->sp vs H Q E->
  codeAny (model P w) A (.call (.ref f) args) (CR CX outer P w H s Q E) s
def CU.mono {mg:Str->Option Value} {k:Nat} (F:CU P w K mg base CX j f fd ps sp) (h:j<=k):
  CU P w K mg base CX k f fd ps sp:=⟨F.len,λA outer s H args us vs Q E z=>F.run A outer s H args us vs Q E<|z.mono h⟩
def RP.make {mg:Str->Option Value} (e:RP P w K mg base A outer s H) (C:Addr) (us:List Value) (kw:List (Str×Value)):
  RP P w K mg base (A.under<|.builtin "type.__call__" ⟨.ref C::us,kw⟩) outer s H:=⟨by first|exact e.frames|(simpa[Around.under,Code.envs,Code.isFrame,pushEnvs]using e.frames),e.mod,e.bs,e.bsz,e.funs,e.frf,e.hok,e.bare⟩
def Inv.env0 (I:Inv X W B H s):RP X.prog X.w X.K X.mg X.base X.A X.stack s H:=
 ⟨I.ok.frames,I.ok.mod,I.bs,Qz I.ok.bsz I.sz,I.stack,I.stkFree,I.hok,I.bare⟩
def Inv.after {Q:VK} (I:Inv X W B H s) (h:CE X.stack X.prog X.w H s Q u s'):EP X W B Q u s':=by
 obtain⟨v,H',os,bare,un,hok,r,q⟩:=h;obtain⟨O,g,d,t,G⟩:=s';obtain rfl:G=s.os:=os;exact⟨v,H',I.call (h':=O) (g':=g) (d':=d) (t':=t) (ch:=[]) un hok bare<|λb z=>Vt z (by simp),r,q⟩
def Lw (sp:Sp) (dvs:List V) (E:XK) (t:TA):TE:=λB H Q=>t B H λvs H1=>sp (vs++dvs) H1 Q E
inductive Mi (C:Addr) (m:Str) (sp:Sp) (dvs:List V) (E:XK) (t:TA) (B:St) (Q:VK) (x:V) (H1:Hp):Prop
 |mk (a dx fs:_) (_:x= .ref a) (_:H1 a=some (.ins C dx fs)) (_:fs.lookup m=none) (_:t B H1 λvs H2=>sp (x::(vs++dvs)) H2 Q E)
def Lu (C:Addr) (m:Str) (sp:Sp) (dvs:List V) (E:XK) (ta:TE) (t:TA):TE:=λB H Q=>ta B H λx H1=>Mi C m sp dvs E t B Q x H1
def Lv (C:Addr) (sp:Sp) (dvs:List V) (E:XK) (t:TA):TE:=λB H Q=>t B H λvs H1=>∀x dx,H1 x=none->H1 dx=none->dx≠x->
 sp (.ref x::(vs++dvs)) (upd (upd H1 dx<|.own x) x<|.ins C dx []) (λv H2=>v= .non/\Q (.ref x) H2) E
def Binds (K:JK) (fd:FuncData) (ps:List Str) (ds:List Value):Prop:=
 ∀(s:Shared) (us:List Value),K.In s.heap->(us++ds).length=ps.length->BindsTo s fd ⟨us,[]⟩ (ps.zip<|us++ds)
def Binds.all (h:∀us:List Value,us.length=ps.length->bindArgs fd ⟨us,[]⟩=pure (ps.zip us)):Binds K fd ps []:=λs us _ hl=>by
 rw[Zj]at hl⊢;exact .of_eq<|h us hl
def mB (CX:CXT) (X:Cx) (E:XK):Prop:=∀(W:List (Addr×Obj)) (B:St) (H:Hp) (s:Shared) (e:Value) (s':Shared),Inv X W B H s->CX X.stack H s E e s'->X.xe e s'
section
variable {k:Nat} {dvs:List V} {ds:List Value} {E:XK} {apos:Pos} {o:Expr} {t:TA}
def t9 {Q:VK} (F:CU X.prog X.w X.K X.mg X.base CX k f fd ps sp) (G:OV k X.A) (hb:Binds X.K fd ps ds) (hd:GA dvs ds) (hx:mB CX X E)
  (I:Inv X W B H s) (r:GA vs us) (h:sp (vs++dvs) H Q E):W6 X (call (.ref f) us) (EP X W B Q) X.xe s:=by
 have z:GA (vs++dvs) (us++ds):=r.append hd;have hl:(us++ds).length=ps.length:=by rw[<-z.length];exact F.len _ _ _ _ h
 refine wpAny_call<|codeAny_mono (F.run X.A X.stack s H ⟨us,[]⟩ (us++ds) (vs++dvs) Q E G I.env0 (hb s us I.kIn hl) z h) λr s' hq=>?_;cases r with
 |error e=>exact hx W B H s e s' I hq
 |ok fl=>
  cases fl with
  |ret u=>exact I.after hq
  |next=>exact False.elim hq
  |brk=>exact False.elim hq
  |cont=>exact False.elim hq
def aL (F:CU X.prog X.w X.K X.mg X.base CX k f fd ps sp) (U:OV k X.A) (Y:Gl X x) (Z:X.mg x=some (.ref f)) (hk:PySem.W.keepIn X.K (.ref f)=true) (hb:Binds X.K fd ps ds) (hd:GA dvs ds) (hx:mB CX X E)
  (ha:PA X (e::es) t) (z:(x==("__debug__":Str))=false:=by decide) (he:starEach (e::es) X.env=(false,eval e X.env)::starEach es X.env:=by rfl) (G:(backTo pos<|starEach es X.env).any (·.1)=false:=by rfl):
  PE X (.Call (.Name x p) (e::es) [] pos) (Lw sp dvs E t):=by
 intro W s B H Q I h;refine VW<|sr I Y Z ?_ z;refine ZV (h₀:=X.base) I.ok.mod.kin hk (OI (ha pos W s B H _ I h) λus s1 ⟨vs,H1,O,r,q⟩=>⟨O.kIn,?_⟩) he G;exact t9 F U hb hd hx O r q
def aR {pl:Sem Bool} (he:PE X o ta) (c:Pq X.K C) (U:bJ X.K C m f) (F:CU X.prog X.w X.K X.mg X.base CX k f fd ps sp) (hr:OV k X.A) (hb:Binds X.K fd ps ds) (hd:GA dvs ds) (hx:mB CX X E) (ha:PA X (e::es) t)
  (z:starEach (e::es) X.env=(false,eval e X.env)::starEach es X.env:=by rfl) (G:(backTo pos<|starEach es X.env).any (·.1)=false:=by rfl)
  (ht:eval (.Call (.Attribute o m apos) (e::es) [] pos) X.env=(do
   let ov<-eval o X.env
   standAt apos.atName
   let(f,first)<-holding [ov] (getMethod ov m pl)
   callWith pos f first (backTo pos<|starEach (e::es) X.env) (backToKw pos<|keywordEach [] X.env)):=by rfl):
  PE X (.Call (.Attribute o m apos) (e::es) [] pos) (Lu C m sp dvs E ta t):=by
 intro W s B H Q I h;refine ZF (pl:=pl) (OI (he W s B H _ I h) λu s1 O=>?_) ht;obtain⟨x,H1,Y,rx,a,dx,fs,ex,ea,l,q⟩:=O;subst ex;obtain rfl:u=Value.ref a:=rx;refine lR Y ea c U l ?_;refine ZV (first:=[.ref a]) (h₀:=X.base) I.ok.mod.kin U.kp (OI (ha pos W s1 B H1 _ Y q) λus s2 ⟨vs,H2,Z,r,q2⟩=>⟨Z.kIn,?_⟩) z G;exact t9 (us:= .ref a::us) (vs:= .ref a::vs) F hr hb hd hx Z (.cons M r) q2
def aZ {pl:Sem Bool} (he:PE X o ta) (c:Pq X.K C) (O:bJ X.K C m f) (F:CU X.prog X.w X.K X.mg X.base CX k f fd ps sp) (U:OV k X.A) (hb:Binds X.K fd ps ds) (hd:GA dvs ds) (hx:mB CX X E)
  (Y:eval (.Call (.Attribute o m apos) [] [] pos) X.env=(do
   let ov<-eval o X.env
   standAt apos.atName
   let(f,first)<-holding [ov] (getMethod ov m pl)
   callWith pos f first (backTo pos<|starEach [] X.env) (backToKw pos<|keywordEach [] X.env)):=by rfl):
  PE X (.Call (.Attribute o m apos) [] [] pos) (Lu C m sp dvs E ta J9):=by
 intro W s B H Q I h;refine ZF (pl:=pl) (OI (he W s B H _ I h) λu s1 z=>?_) Y;obtain⟨x,H1,G,Z,a,dx,fs,ex,ea,l,q⟩:=z;subst ex;obtain rfl:u=Value.ref a:=Z;refine lR G ea c O l ?_;exact XN (first:=[.ref a]) G.kIn O.kp (t9 (us:=[.ref a]) (vs:=[.ref a]) F U hb hd hx G (.cons M .nil) q)
structure Mk (K:JK) (C f:Addr):Prop where
 makes:PySem.W.makesIn K C=true
 init:PySem.W.findIn K (.ref C) "__init__"=some (some<|.ref f)
 fn:PySem.W.isFn K (.ref f)=true
 kp:PySem.W.keepIn K (.ref C)=true
def Cb {Q:VK} (M':Mk X.K C f) (F:CU X.prog X.w X.K X.mg X.base CX k f fd ps sp) (U:OV (k+1) X.A) (hb:Binds X.K fd ps ds) (hd:GA dvs ds)
  (hx:mB CX X E) (I:Inv X W B H s) (r:GA vs us)
  (h:∀x dx,H x=none->H dx=none->dx≠x->sp (.ref x::(vs++dvs)) (upd (upd H dx<|.own x) x<|.ins C dx []) (λv H2=>v= .non/\Q (.ref x) H2) E):
  W6 X (call (.ref C) us) (EP X W B Q) X.xe s:=by
 have hq:=h (s.heap.objs.size+1) s.heap.objs.size (I.hok.fresh<|Zp _) (I.hok.fresh<|Q4 _) (QK<|ZA _);have G:=Inv.made (C:=C) I;have O:GA (V.ref (s.heap.objs.size+1)::(vs++dvs)) (Value.ref (s.heap.objs.size+1)::(us++ds)):= .cons M (r.append hd);have hl:(Value.ref (s.heap.objs.size+1)::us++ds).length=ps.length:=by
  have e:=O.length;rw[F.len _ _ _ _ hq]at e;exact e.symm
 refine wpAny_call (HS (f:=f) I.kIn M'.makes M'.init (VB.mp M'.fn) (codeAny_mono (F.run _ X.stack _ _ ⟨Value.ref (s.heap.objs.size+1)::us,[]⟩ (Value.ref (s.heap.objs.size+1)::(us++ds)) _ _ E (U.make C us [])
  (G.env0.make C us []) (hb _ (Value.ref (s.heap.objs.size+1)::us) G.kIn hl) O hq) λr s' z=>?_))
 cases r with
 |error e=>exact hx W B _ _ e s' G z
 |ok fl=>
  cases fl with
  |ret u=>
   obtain⟨v,H',Y,rv,Z,q3⟩:=G.after z;subst Z;exact⟨rv,⟨V.ref<|s.heap.objs.size+1,H',Y,M,q3⟩⟩
  |next=>exact False.elim z
  |brk=>exact False.elim z
  |cont=>exact False.elim z
def jx (M':Mk X.K C f) (F:CU X.prog X.w X.K X.mg X.base CX k f fd ps sp) (U:OV (k+1) X.A) (Y:Gl X x) (Z:X.mg x=some (.ref C)) (hb:Binds X.K fd ps ds) (hd:GA dvs ds) (hx:mB CX X E)
  (ha:PA X (e::es) t) (z:(x==("__debug__":Str))=false:=by decide) (he:starEach (e::es) X.env=(false,eval e X.env)::starEach es X.env:=by rfl) (G:(backTo pos<|starEach es X.env).any (·.1)=false:=by rfl):
  PE X (.Call (.Name x p) (e::es) [] pos) (Lv C sp dvs E t):=by
 intro W s B H Q I h;refine VW<|sr I Y Z ?_ z;refine ZV (h₀:=X.base) I.ok.mod.kin M'.kp (OI (ha pos W s B H _ I h) λus s1 ⟨vs,H1,O,r,q⟩=>⟨O.kIn,?_⟩) he G;exact Cb M' F U hb hd hx O r q
def rV (M':Mk X.K C f) (F:CU X.prog X.w X.K X.mg X.base CX k f fd ps sp) (G:OV (k+1) X.A) (O:Gl X x) (U:X.mg x=some (.ref C)) (hb:Binds X.K fd ps ds) (hd:GA dvs ds) (hx:mB CX X E)
  (z:(x==("__debug__":Str))=false:=by decide):PE X (.Call (.Name x p) [] [] pos) (Lv C sp dvs E J9):=by
 intro W s B H Q I h;refine VW<|sr I O U ?_ z;exact XN I.kIn M'.kp<|Cb (us:=[]) M' F G hb hd hx I .nil h
end
structure ar (N P:List Str) (sc:Scope):Prop where
 kind:sc.kind= .function
 co:sc.isCoroutine=false
 gen:sc.isGenerator=false
 nd:N.Nodup
 pre:N.take P.length=P
 par:∀x∈P,sc.names.lookup x=some .local\/sc.names.lookup x=some .cell
 nofree:∀y∈sc.names,y.2≠ .free
def Ag {kindOf:Str->Option NameKind} {x:Str}:∀{z:List (Str×Value)} {m:Str->Option Value},(∀v,(x,v)∉z)->bindL kindOf z m x=m x
 | [],_,_=>rfl
 |(n,v)::r,m,h=>by
  unfold bindL;rw[Ag λw hw=>h w (Qd _ hw)];split
  .have:x≠n:=by rintro rfl;exact h v Qb
   simp[this]
  .rfl
def Ai {kindOf:Str->Option NameKind} {x:Str}:∀{z:List (Str×Value)} {m:Str->Option Value},(∀v,(x,v)∉z)->bindC kindOf z m x=m x
 | [],_,_=>rfl
 |(n,v)::r,m,h=>by
  unfold bindC;rw[Ai λw hw=>h w (Qd _ hw)];split
  .rfl
  .have:x≠n:=by rintro rfl;exact h v Qb
   simp[this]
def Ah {kindOf:Str->Option NameKind} {x:Str} {v:Value}:∀{P:List Str} {vs:List Value} {i:Nat} {m:Str->Option Value},P.Nodup->P[i]?=some x->vs[i]?=some v->kindOf x=some .local->
  bindL kindOf (P.zip vs) m x=some v
 | [],_,_,_,_,h,_,_=>by simp at h
 |_::_,[],_,_,_,_,h,_=>by simp at h
 |p::P,w::vs,0,m,nd,h1,h2,hk=>by
  simp at h1 h2;subst h1;subst h2;show bindL kindOf ((p,w)::P.zip vs) m p=_;unfold bindL;rw[Ag λv z=>(QQ.mp nd).1 (Vc z).1,Vp hk];simp
 |p::P,w::vs,i+1,m,nd,h1,h2,hk=>by
  show bindL kindOf ((p,w)::P.zip vs) m x=_;unfold bindL;exact Ah (i:=i) (QQ.mp nd).2 (by simpa using h1) (by simpa using h2) hk
def Aj {kindOf:Str->Option NameKind} {x:Str} {v:Value}:∀{P:List Str} {vs:List Value} {i:Nat} {m:Str->Option Value},P.Nodup->P[i]?=some x->vs[i]?=some v->kindOf x≠some .local->
  bindC kindOf (P.zip vs) m x=some v
 | [],_,_,_,_,h,_,_=>by simp at h
 |_::_,[],_,_,_,_,h,_=>by simp at h
 |p::P,w::vs,0,m,nd,h1,h2,hk=>by
  simp at h1 h2;subst h1;subst h2;show bindC kindOf ((p,w)::P.zip vs) m p=_;unfold bindC;rw[Ai λv z=>(QQ.mp nd).1 (Vc z).1,Vo hk];simp
 |p::P,w::vs,i+1,m,nd,h1,h2,hk=>by
  show bindC kindOf ((p,w)::P.zip vs) m x=_;unfold bindC;exact Aj (i:=i) (QQ.mp nd).2 (by simpa using h1) (by simpa using h2) hk
def start (N:List Str) (vs:List V):St:=vs.map some++List.replicate (N.length-vs.length) none
def CO (CX:CXT) (P:Program) (w:World) (K:JK) (mg:Str->Option Value) (base:Heap) (N:List Str) (qual:Str) (scope:Scope) (f:Addr) (cd:Value) (A:Around) (outer:List Env) (s:Shared) (H:Hp) (E:XK):Cx where
 prog:=P
 w:=w
 K:=K
 mg:=mg
 base:=base
 A:=A.deeper (envOfC qual scope s.heap.objs.size f cd)
 N:=N
 s₀:=s
 H₀:=H
 env:=envOfC qual scope s.heap.objs.size f cd
 outer:=outer
 stack:=envOfC qual scope s.heap.objs.size f cd::outer
 ex:=[]
 calm:=true
 fn:=λ_=>true
 pn:=[]
 xe:=λe s'=>wpAny (model P w) (A.deeper<|envOfC qual scope s.heap.objs.size f cd) (leaving (envOfC qual scope s.heap.objs.size f cd) e) (λ_ s''=>CX outer H s E e s'') (λe' s''=>CX outer H s E e' s'') s'
def CT {sc:Scope} (h:sc.names.lookup x=some .cell):∃c,(cellsFrom n sc.names []).lookup x=some c:=by
 have q:=PySem.W.cellsFrom_some sc.names n [] (.inl h);exact ZP.mp q
def Ge {mg:Str->Option Value} {U:Value} {s1:Shared} {E:XK} 
  (S:ar N ps scope) (hd:A.handled=none) (e0:RP P w K mg base A outer s H) (hl:vs.length=ps.length) (r:GA vs us)
  (x:InCallC s s.heap.objs.size (bindL (envOfC qual scope s.heap.objs.size f U).kindOf (ps.zip us) λ_=>none) (cellsFrom (s.heap.objs.size+1) scope.names []) (bindC (envOfC qual scope s.heap.objs.size f U).kindOf (ps.zip us) λ_=>none) s1):
  Inv (CO CX P w K mg base N qual scope f U A outer s H E) [] (start N vs) H s1:=by
 have Y:ps.length<=N.length:=by have:=VH List.length S.pre;rw[Q6]at this;lia
 obtain⟨h1,tk,rfl,hk⟩:=x.done;have G:∀b:Addr,b∉(CO CX P w K mg base N qual scope f U A outer s H E).ex:=λb z=>Vt (show b∈([]:List Addr) from z) (by simp);refine⟨⟨e0.mod,S.kind,M,M,Q4 _,λy z c h1 h2=>?_,λy hy=>?_,λy c _ h=>?_,λ_=>hd,Around.frames_deeper e0.frames,.inr ⟨M,M⟩,λb z=>Vt z<|G b,e0.bs,e0.bsz,λb _ _=>G b,λb z=>Vt z<|G b,e0.funs,e0.frf⟩,
  rfl,e0.bare,Un.kept hk,⟨_,x.toInCall.ns,λi y v h1 h2 Z=>?_⟩,λy c h=>⟨_,x.cell y c h⟩,e0.hok.fresh<|Q4 _,λy c h=>?_,λp I=>Vt (show p∈([]:List (Addr×Obj)) from I) (by simp),e0.hok.kept hk,?_⟩
 .exact name_of_addr x.apart (PySem.mem_of_lookup h1)<|PySem.mem_of_lookup h2
 .have hy:scope.names.lookup y=some .cell\/scope.names.lookup y=some .free:=hy;rcases hy with hy|hy
  .exact CT hy
  .exact Vt M<|S.nofree _ (PySem.mem_of_lookup hy)
 .exact Z4<|x.above y c (PySem.mem_of_lookup h)
 .have hi:i<vs.length:=by
   unfold start at h2;by_cases hi:i<vs.length
   .exact hi
   .rw[QW (by simpa using hi)]at h2;rw[List.getElem?_replicate]at h2;split at h2<;>cases h2
  have ha:vs[i]?=some v:=by
   unfold start at h2;rw[QT (by simpa using hi),Qn]at h2;cases e:vs[i]? with
   |none=>rw[e]at h2;cases h2
   |some a=>rw[e]at h2;cases h2;rfl
  obtain⟨u,hu,rv⟩:=r.get ha;have I:ps[i]?=some y:=by
   rwa[<-S.pre,Xn ()]
  have O:ps.Nodup:=by rw[<-S.pre];exact S.nd.sublist<|Xm _ _
  refine⟨u,rv,?_⟩;rcases S.par y (Q1 I)with k|k
  .exact .inl ⟨k,Ah O I hu k⟩
  .obtain⟨c,e⟩:=CT (n:=s.heap.objs.size+1) k;refine .inr ⟨.inl k,c,e,?_⟩;have q:=x.cell y c e;rw[Aj O I hu (by show scope.names.lookup y≠_;rw[k];decide)]at q;exact q
 .exact e0.hok.fresh<|Z4 (x.above y c<|PySem.mem_of_lookup h)
 .unfold start;show _=N.length;rw[Q8,Q0,Zs];lia
def LL {mg:Str->Option Value} {k:Nat} {G:Arguments} {dV kV Z pm z ct oc:Value} {an od:Option Addr}
  {a1:Array (Option Value)} (lk:K.lookup f=some ⟨oc,od,.func<|PySem.W.fnOf name qual G body scope dV kV Z pm an z ct,a1⟩) (a2:PySem.W.codeIn K z qual=true) (S:ar N ps scope)
  (len:∀vs H Q E,sp vs H Q E->vs.length=ps.length)
  (U:∀(A:Around) (outer:List Env) (s:Shared) (H:Hp) (vs:List V) (Q:VK) (E:XK),OV k (A.deeper<|envOfC qual scope s.heap.objs.size f z)->sp vs H Q E->
   ∃t,PY (CO CX P w K mg base N qual scope f z A outer s H E) body t/\t {nx:=λ_ H'=>Q .non H',rt:=Q} (start N vs) H):
  CU P w K mg base CX (k+1) f (PySem.W.fnOf name qual G body scope dV kV Z pm an z ct) ps sp:=by
 refine⟨len,λA outer s H args us vs Q E hr e0 hb r a0=>?_⟩;have hl:=len _ _ _ _ a0;have KX:K.In s.heap:=e0.mod.kin.keeps λb o e=>(e0.bs b o e).1;have a3:s.heap.NoLimit:=e0.mod.nolimit.keeps λb o e=>(e0.bs b o e).1;have Y:∀y∈ps.zip us,scope.names.lookup y.1=some .local\/(scope.names.lookup y.1=some .cell/\((cellsFrom (s.heap.objs.size+1) scope.names []).lookup y.1).isSome=true):=λ⟨n,v⟩ hy=>by
  rcases S.par n (Vc hy).1 with q|q
  .exact .inl q
  .exact .inr ⟨q,PySem.W.cellsFrom_some _ _ _<|.inl q⟩
 refine codeAny_call_function hr.depth (KX _ _ lk) M S.co S.gen M (PySem.W.codeRec_of KX a2)<|hb _ _ _ _ ?_;refine wpAny_newFunctionEnv_cells S.kind Y λenv he s1 x=>?_;subst he;refine⟨a3.keeps x.toInCall.keep,codeAny_func ?_⟩;obtain⟨t,ht,hq⟩:=U A outer s H vs Q E (hr.deeper _) a0;have I:Inv (CO CX P w K mg base N qual scope f z A outer s H E) [] (start N vs) H s1:=Ge S hr.hd e0 hl r x;refine VN (ht [] s1 (start N vs) H _ I hq) (λfl s' hs=>?_) λe s' hs=>hs;have fin:∀{O:St} {H':Hp} {v:V} {u:Value},Inv (CO CX P w K mg base N qual scope f z A outer s H E) [] O H' s'->RelV v u->Q v H'->CE outer P w H s Q u s':=
  λ{O H' v u} J rv q=>⟨v,H',J.os,J.bare,J.base,J.hok,rv,q⟩
 cases fl with
 |ret u=>
  obtain⟨v,O,H',J,rv,q⟩:=hs;exact fin J rv q
 |next=>
  obtain⟨O,H',J,q⟩:=hs;exact fin (v:=V.non) (u:=Value.none) J M q
 |brk=>
  obtain⟨_,_,_,q⟩:=hs;exact False.elim q
 |cont=>
  obtain⟨_,_,_,q⟩:=hs;exact False.elim q
section
variable {t:TA} {id T:String} {r:List V->Hp->VK->Prop}
def tCB (r:List V->Hp->VK->Prop) (t:TA):TE:=λB H Q=>t B H λvs H1=>r vs H1 Q
def aE (hc:gb X (.builtin id) r) (O:Gl X x) (U:X.mg x=none) (Y:bootBuiltins x=some (.builtin id)) (ha:PA X (e::es) t) (Z:x≠"__name__":=by decide) (z:(x==("__debug__":Str))=false:=by decide)
  (he:starEach (e::es) X.env=(false,eval e X.env)::starEach es X.env:=by rfl) (G:(backTo pos<|starEach es X.env).any (·.1)=false:=by rfl):PE X (.Call (.Name x p) (e::es) [] pos) (tCB r t):=by
 intro W s B H Q I h;refine VW<|uA I O U Y ?_ Z z;exact PyProof.Rows.callWith_builtin1 (OI (ha pos W s B H _ I h) λus s1 ⟨vs,H1,I1,r1,q1⟩=>hc W s1 B H1 vs us Q I1 r1 q1) he G
def gl (hc:gb X (.type T) r) (O:Gl X x) (U:X.mg x=none) (Y:bootBuiltins x=some (.type T)) (ha:PA X (e::es) t) (Z:x≠"__name__":=by decide) (z:(x==("__debug__":Str))=false:=by decide)
  (he:starEach (e::es) X.env=(false,eval e X.env)::starEach es X.env:=by rfl) (G:(backTo pos<|starEach es X.env).any (·.1)=false:=by rfl):PE X (.Call (.Name x p) (e::es) [] pos) (tCB r t):=by
 intro W s B H Q I h;refine VW<|uA I O U Y ?_ Z z;exact PyProof.Rows.callWith_type1 (OI (ha pos W s B H _ I h) λus s1 ⟨vs,H1,I1,r1,q1⟩=>hc W s1 B H1 vs us Q I1 r1 q1) he G
end
end L2
namespace HT
open PySem PyProof.Rows
variable {E:Value->Shared->Prop}
noncomputable def lexLt:List Int->List Int->Bool
 | [],[]=>false
 | [],_::_=>true
 |_::_,[]=>false
 |x::xs,y::ys=>if x=y then lexLt xs ys else decide (x<y)
def lexLt_cons (x y:Int) (xs ys:List Int):lexLt (x::xs) (y::ys)=if x=y then lexLt xs ys else decide (x<y):=rfl
def lexLt_nil_nil:lexLt [] []=false:=rfl
def lexLt_nil_cons (y:Int) (ys:List Int):lexLt [] (y::ys)=true:=rfl
def lexLt_cons_nil (x:Int) (xs:List Int):lexLt (x::xs) []=false:=rfl
section
variable {prog:Program} {w:World} {A:Around} {s:Shared}
noncomputable def sIx (n d:Nat):Option Int->Nat
 |none=>d
 |some v=>if v<0 then(v+(n:Int)).toNat else min v.toNat n
end
end HT
namespace L2
open PySem PySem.Spec PyProof.Rows
variable {a b:Addr} {A:Around} {X:Cx} {e:Expr} {h':Heap} {H H':Hp} {i:Int} {W:List (Addr×Obj)} {kvs:List (Key×V)} {vs:List (Key×Value)} {its its':List Value} {j n t':Nat} {o:Option V} {pos:Pos} {P:Program} {s:Shared} {B:St} {T:String} {α:Type} {v x y:V} {r u:Value} {E Q:Value->Shared->Prop} {w:World}
abbrev TO:=St->Hp->(Option Int->Hp->Prop)->Prop
def PO (X:Cx) (e:Option Expr) (t:TO):Prop:=
 ∀(W:List (Addr×Obj)) (s:Shared) (B:St) (H:Hp) (Q:Option Int->Hp->Prop),Inv X W B H s->t B H Q->
  W6 X (evalPart e X.env) (λu s'=>∃o H',Inv X W B H' s'/\IsPart u o/\Q o H') X.xe s
def J8:TO:=λ_ H Q=>Q none H
inductive Mh (Q:Option Int->Hp->Prop) (x:V) (H1:Hp):Prop
 |mk (i:_) (_:x= .int i) (_:Q (some i) H1)
def NK (t:TE):TO:=λB H Q=>t B H λx H1=>Mh Q x H1
def xI {ns:List Int}:∀{us:List Value},GA (ns.map V.int) us->IntsAre us ns:=by
 induction ns with
 |nil=>intro us r;rw[XV]at r;cases r;exact .nil
 |cons n ns z=>
  intro us r;rw[Qt]at r;cases r with
  |cons r1 G=>
   obtain⟨t,e⟩:=r1;subst e;exact .cons n t<|z G
section
variable {te:TE} {lo hi:Option Expr} {tl th:TO} {p2:Pos}
def gJ:PO X none J8:=by
 intro W s B H Q I h;rw[evalPart_none];exact VD ⟨none,H,I,.none,h⟩
def b6 (h:PE X e te):PO X (some e) (NK te):=by
 intro W s B H Q I hw;rw[evalPart_some];refine OI (h W s B H _ I hw) λu s1 z=>?_;obtain⟨x,H1,G,r1,O⟩:=z;obtain⟨i,rfl,q⟩:=O;obtain⟨t,rfl⟩:=r1;exact⟨some i,H1,G,.int i t,q⟩
def SlR (X:Cx) (r:V->Option Int->Option Int->Hp->VK->Prop):Prop:=
 ∀(W:List (Addr×Obj)) (s:Shared) (B:St) (H:Hp) (x:V) (v vl vu:Value) (lo hi:Option Int) (sl:Addr) (Q:VK),Inv X W B H s->RelV x v->s.heap.IsSliceOf sl vl vu .none->IsPart vl lo->IsPart vu hi->r x lo hi H Q->
  ∃T id,typeLookup (.type T) "__getitem__"=pure (some<|.builtin id)/\s.TypeIs v T/\W6 X (getItem v<|.ref sl) (EP X W B Q) X.xe s
def tSl (r:V->Option Int->Option Int->Hp->VK->Prop) (te:TE) (tl th:TO):TE:=λB H Q=>te B H λx H1=>tl B H1 λl H2=>th B H2 λu H3=>r x l u H3 Q
def cn {r:V->Option Int->Option Int->Hp->VK->Prop} (U:SlR X r) (he:PE X e te) (hl:PO X lo tl) (hu:PO X hi th):PE X (.Subscript e (.Slice lo hi none p2) pos) (tSl r te tl th):=by
 intro W s B H Q I h;refine Subscript_<|OI (he W s B H _ I h) λv s1 z=>?_;obtain⟨x,H1,Y,r1,Z⟩:=z;refine wpAny_Slice<|OI (hl W s1 B H1 _ Y Z) λG s2 ⟨l,H2,I2,pl,q2⟩=>OI (hu W s2 B H2 _ I2 q2) λO s3 z=>?_;obtain⟨u,H3,I3,pu,q3⟩:=z;rw[evalPart_none];refine VD ?_;have I4:Inv X W B H3 {s3 with heap:=s3.heap.push {cls:= .type "slice",data:= .fields #[G,O,.none]}}:=I3.kept (t':=s3.toks) λb ob q=>Vr _ q;obtain⟨T,id,hT,ht,hg⟩:=U W {s3 with heap:=s3.heap.push {cls:= .type "slice",data:= .fields #[G,O,.none]}} B H3 x v G O l u s3.heap.objs.size Q I4 r1 (Heap.IsSliceOf.new ..) pl pu q3;show W6 X (subscriptTail e (.Slice lo hi none p2) v<|.ref s3.heap.objs.size) (EP X W B Q) X.xe {s3 with heap:=s3.heap.push {cls:= .type "slice",data:= .fields #[G,O,.none]}};exact tail_any (ops:=[.ref s3.heap.objs.size,v]) ht hT hg (by with_unfolding_all rfl)
def pP (xs:List V) (lo hi:Option Int):List V:=(xs.drop<|HT.sIx xs.length 0 lo).take (HT.sIx xs.length xs.length hi-HT.sIx xs.length 0 lo)
def CQ (xs:List V) (lo hi:Option Int):(pP xs lo hi).length<=xs.length:=by
 unfold pP;rw[Q6,QH];lia
end
noncomputable def RZ (n:Nat) (i:Int):Option Nat:=if 0<=i then(if i<n then some i.toNat else none)else if-(n:Int)<=i then some (i+n).toNat else none
def RF {α:Type} (xs:List α) (i:Int):Option α:=(RZ xs.length i).bind λj=>xs[j]?
def EX (h:RZ n i=some j):seqIndex? i n=some j/\j<n/\-(n:Int)<=i/\i<n:=by
 unfold RZ at h;by_cases z:0<=i
 .rw[Vp z]at h;by_cases h1:i<n
  .rw[Vp h1]at h;have e:i.toNat=j:=Vq h;exact⟨by rw[seqIndex_of z h1,e],(),(),h1⟩
  .rw[Vo h1]at h;cases h
 .rw[Vo z]at h;by_cases h1: -(n:Int)<=i
  .rw[Vp h1]at h;have e:(i+n).toNat=j:=Vq h;exact⟨by rw[seqIndex_neg () h1,e],(),h1,()⟩
  .rw[Vo h1]at h;cases h
def Fi {xs:List α} {v:α} (h:RF xs i=some v):∃j,seqIndex? i xs.length=some j/\xs[j]?=some v/\j<xs.length/\-(xs.length:Int)<=i/\i<xs.length:=by
 unfold RF at h;cases e:RZ xs.length i with
 |none=>rw[e]at h;cases h
 |some j=>
  rw[e]at h;obtain⟨h1,h2,z,G⟩:=EX e;exact⟨j,h1,h,h2,z,G⟩
def sP {xs:List α} {v:α} (h:xs[j]?=some v):RF xs (j:Int)=some v:=by
 have z:j<xs.length:=(Q2.mp h).1;have e:RZ xs.length (j:Int)=some j:=by
  unfold RZ;rw[Vp (),Vp ()];simp
 unfold RF;rwa[e]
def Lf (b:Expr):Prop:=∀o i,subscripted b false o i=operate [o,i] (getItem o i)
def IxR (X:Cx) (r:R2):Prop:=
 ∀(value slice:Expr) (W:List (Addr×Obj)) (s:Shared) (B:St) (H:Hp) (x y:V) (v u:Value) (Q:VK),Inv X W B H s->RelV x v->RelV y u->r x y H Q->
  subscripted slice false v u=operate [v,u] (getItem v u)->W6 X (subscriptTail value slice v u) (EP X W B Q) X.xe s
def Rn (X:Cx) (id:String) (r:V->List V->Hp->VK->Prop):Prop:=
 ∀(W:List (Addr×Obj)) (s:Shared) (B:St) (H:Hp) (x:V) (xs:List V) (v:Value) (us:List Value) (Q:VK),Inv X W B H s->RelV x v->GA xs us->r x xs H Q->
  W6 X (call (.builtin id) (v::us)) (EP X W B Q) X.xe s
section
variable {a b:Expr} {ta tb:TE}
def aS {r:R2} (z:IxR X r) (ha:PE X a ta) (hb:PE X b tb) (hs:Lf b):PE X (.Subscript a b pos) (tOp r ta tb):=by
 intro W s B H Q I h;exact Subscript_ (Nl ha hb I h λv u G x y H2 O U Y q=>z a b W G B H2 x y v u Q O U Y q<|hs _ _)
inductive rIxL (K:JK) (x y:V) (H:Hp) (Q:VK):Prop
 |mk (p xs i v:_) (_:x= .ref p) (_:y= .int i) (_:Fb K H p xs) (_:RF xs i=some v) (_:Q v H)
inductive rIxT (K:JK) (x y:V) (H:Hp) (Q:VK):Prop
 |mk (p xs i v:_) (_:x= .ref p) (_:y= .int i) (_:OX K H p xs) (_:RF xs i=some v) (_:Q v H)
def aU:IxR X (rIxL X.K):=by
 intro value G W s B H x y v u Q I rx ry h hs;obtain⟨p,xs,i,z,rfl,rfl,hq,he,q⟩:=h;cases rx;obtain⟨t,rfl⟩:=ry;obtain⟨its,r,pl,hz⟩:=I.list hq;obtain⟨j,h1,h2,h3,h4,h5⟩:=Fi he;obtain⟨w,Y,O⟩:=r.get h2;have hl:=r.length;have hn:=xE;have fin:EP X W B Q w s:=⟨z,H,I,O,q⟩;by_cases Z:0<=i
 .have U:i.toNat=j:=by
   rw[seqIndex_of Z h5]at h1;exact Vq h1
  exact item_listR pl.isList Z () (by rw[U];simpa using Y) fin hs
 .have U:(i+(its.toArray.size:Int)).toNat=j:=by
   rw[seqIndex_neg () h4]at h1;rw[Qi,<-hl];exact Vq h1
  exact subscriptTail_builtinR (x:=w) pl.isList.typeIs slot_list_getitem.lookup
   (wpAny_getItem_list_neg (Q:=λr s'=>r=w/\EP X W B Q r s') pl.isList () (by rw[Qi]<;>lia) () (by rw[U];simpa using Y) ⟨M,fin⟩) hs
def bB:IxR X (rIxT X.K):=by
 intro value G W s B H x y v u Q I U Y h hs;obtain⟨p,xs,i,z,rfl,rfl,hq,he,q⟩:=h;cases U;obtain⟨t,rfl⟩:=Y;obtain⟨its,r,pl,hz⟩:=I.tuple hq;obtain⟨j,h1,h2,h3,h4,h5⟩:=Fi he;obtain⟨w,Z,O⟩:=r.get h2;have hl:=r.length;have hn:=xE;have fin:EP X W B Q w s:=⟨z,H,I,O,q⟩;exact subscriptTail_builtinR (x:=w) pl.typeIs slot_tuple_getitem.lookup
  (getItem_tuple (j:=j) (Q:=λr s'=>r=w/\EP X W B Q r s') pl () () (by rwa[Qi,<-hl]) (by simpa using Z) ⟨M,fin⟩) hs
def D9 (its:List Value) (n j:Nat) (u:Value):Obj.mapSeq (·.setIfInBounds j u) {cls:= .type "list",data:= .seq its.toArray n}={cls:= .type "list",data:= .seq (its.set j u).toArray n}:=by
 simp[Obj.mapSeq]
def Inv.lst {W:List (Addr×Obj)} {B:St} {H:Hp} {s:Shared} {p:Addr} {xs:List V} (I:Inv X W B H s) (h:H p=some (.lst xs)):
  ∃(its:List Value) (n:Nat),GA xs its/\s.heap.get? p=some {cls:= .type "list",data:= .seq its.toArray n}/\xs.length<=sizeLine:=by
 obtain⟨z,its,n,r,e⟩:=I.hok p _ h;exact⟨its,n,r,e,z⟩
def Inv.lstUpd {p:Addr} {xs ys:List V} {n':Nat} {f:Obj->Obj} (I:Inv X W B H s) (h:H p=some (.lst xs))
  (ho:s.heap.get? p=some {cls:= .type "list",data:= .seq its.toArray n}) (hf:f {cls:= .type "list",data:= .seq its.toArray n}={cls:= .type "list",data:= .seq its'.toArray n'}) (r:GA ys its') (hz:ys.length<=sizeLine) (t:Nat):
  Inv X W B (upd H p<|.lst ys) {s with heap:=s.heap.update p f,toks:=t}:=by
 have e:(s.heap.update p f).get? p=some {cls:= .type "list",data:= .seq its'.toArray n'}:=by
  rw[Heap.get?_update_self f ho (by rw[hf]<;>rfl),hf]
 refine I.write (x:=p) (e:=p) (by rw[h];trivial) (.inl M) (λb u hb q=>(VY _ _<|Ne.symm hb).trans q) ⟨_,e⟩ ?_;exact⟨hz,its',n',r,e⟩
inductive NZ (o i v:V) (H:Hp) (Q:Hp->Prop):Prop
 |mk (p xs k j:_) (_:o= .ref p) (_:i= .int k) (_:H p=some (.lst xs)) (_:RZ xs.length k=some j) (_:Q (upd H p<|.lst<|xs.set j v))
def wE:PSet X NZ:=by
 intro W s B H o i v ov iv u Q I Z ri rv h;obtain⟨p,xs,k,j,rfl,rfl,z,hj,q⟩:=h;cases Z;obtain⟨t,rfl⟩:=ri;obtain⟨its,n,r,ho,hz⟩:=I.lst z;obtain⟨h1,h2,G,O⟩:=EX hj;have hl:=r.length;have hn:=xE;have U:Inv X W B (upd H p<|.lst<|xs.set j v) {s with heap:=s.heap.update p (Obj.mapSeq (·.setIfInBounds j u))}:=
  I.lstUpd z ho (D9 its n j u) (r.set rv j) (by rwa[QO]) s.toks
 by_cases Y:0<=k
 .have hk:k.toNat=j:=by
   rw[seqIndex_of Y O]at h1;exact Vq h1
  exact PySem.W.ki_setAt ho Y () (by rwa[Qi,<-hl])<|by rw[hk];exact⟨_,U,q⟩
 .have hk:(k+(its.toArray.size:Int)).toNat=j:=by
   rw[seqIndex_neg () G]at h1;rw[Qi,<-hl];exact Vq h1
  exact PySem.W.ki_setBack ho () (by rwa[Qi,<-hl]) ()<|by rw[hk];exact⟨_,U,q⟩
def AH (lo hi:Option Int) (n:Nat):(sliceBounds lo hi none n).1=((HT.sIx n 0 lo:Nat):Int)/\(sliceBounds lo hi none n).2.1=((HT.sIx n n hi:Nat):Int)/\(sliceBounds lo hi none n).2.2=1:=by
 refine⟨?_,?_,M⟩
 .cases lo with
  |none=>simp[sliceBounds,HT.sIx]
  |some i=>
   simp only[sliceBounds,HT.sIx,Option.getD_none,show(1:Int)>0 by decide,if_true];by_cases h:i<0
   .simp only[h,if_true]<;>lia
   .simp only[h,if_false]<;>lia
 .cases hi with
  |none=>simp[sliceBounds,HT.sIx]
  |some i=>
   simp only[sliceBounds,HT.sIx,Option.getD_none,show(1:Int)>0 by decide,if_true];by_cases h:i<0
   .simp only[h,if_true]<;>lia
   .simp only[h,if_false]<;>lia
def yH (its:List Value) (lo hi:Option Int):slicePick its.toArray lo hi none=((its.drop<|HT.sIx its.length 0 lo).take<|HT.sIx its.length its.length hi-HT.sIx its.length 0 lo).toArray:=by
 obtain⟨h1,h2,z⟩:=AH lo hi its.toArray.size;unfold slicePick;rw[h1,h2,z];simp only[sliceRange_one,pick_run,Qi]<;>rfl
inductive rSlL (K:JK) (x:V) (lo hi:Option Int) (H:Hp) (Q:VK):Prop
 |mk (a xs:_) (_:x= .ref a) (_:Fb K H a xs) (_:∀p,H p=none->Q (.ref p) (upd H p<|.lst<|pP xs lo hi))
def c6:SlR X (rSlL X.K):=by
 intro W s B H x v Y Z lo hi sl Q I O hs pl U h;obtain⟨a,xs,rfl,hx,q⟩:=h;cases O;obtain⟨its,r,G,hz⟩:=I.list hx;have z:=r.length;refine⟨"list",_,slot_list_getitem.lookup,G.isList.typeIs,?_⟩;refine wpAny_getItem_list_slice G.isList hs pl U .none (by simp) ?_ (by rw[Qi]<;>lia);rw[yH,<-z];refine⟨.ref s.heap.objs.size,_,I.laid (t':=s.toks) (o:= .lst<|pP xs lo hi) (λb ob q=>Vr _ q) (Q4 _) ?_,M,q _<|I.hok.fresh (Q4 _)⟩;exact⟨Qz (CQ xs lo hi) hz,_,0,(r.drop<|HT.sIx xs.length 0 lo).take<|HT.sIx xs.length xs.length hi-HT.sIx xs.length 0 lo,Vz _ M⟩
noncomputable def io:V->Bool
 | .non=>true
 | .bl _=>true
 | .int _=>true
 | .str _=>true
 |_=>false
noncomputable def RB:V->V->Bool
 | .non,.non=>true
 | .bl a,.bl b=>a==b
 | .bl a,.int b=>(if a then 1 else 0)==b
 | .int a,.bl b=>a==(if b then 1 else 0)
 | .int a,.int b=>a==b
 | .str a,.str b=>a==b
 |_,_=>false
def IJ {v:Value} (G:RelV y u) (z:RelV x v) (O:io y=true) (I:io x=true):SeqAt.EqAt A s u v (RB y x):=by
 cases y with
 |non=>
  cases G;cases x with
  |non=>cases z;exact SeqAt.EqAt.same _
  |bl b=>cases z;exact SeqAt.EqAt.none_bool b
  |int b=>obtain⟨t,rfl⟩:=z;exact SeqAt.EqAt.none_int b t
  |str b=>obtain⟨t,rfl⟩:=z;exact SeqAt.EqAt.none_str b t
  |_=>exact Vt (show false=true from I) Qe
 |bl a=>
  cases G;cases x with
  |non=>cases z;exact SeqAt.EqAt.bool_none a
  |bl b=>cases z;exact SeqAt.EqAt.bool_bool a b
  |int b=>obtain⟨t,rfl⟩:=z;exact SeqAt.EqAt.bool_int a b t
  |str b=>obtain⟨t,rfl⟩:=z;exact SeqAt.EqAt.bool_str a b t
  |_=>exact Vt (show false=true from I) Qe
 |int a=>
  obtain⟨t',rfl⟩:=G;cases x with
  |non=>cases z;exact SeqAt.EqAt.int_none a t'
  |bl b=>cases z;exact SeqAt.EqAt.int_bool a t' b
  |int b=>obtain⟨t,rfl⟩:=z;exact SeqAt.EqAt.int_int a t' b t
  |str b=>obtain⟨t,rfl⟩:=z;exact SeqAt.EqAt.int_str a t' b t
  |_=>exact Vt (show false=true from I) Qe
 |str a=>
  obtain⟨t',rfl⟩:=G;cases x with
  |non=>cases z;exact SeqAt.EqAt.str_none a t'
  |bl b=>cases z;exact SeqAt.EqAt.str_bool a t' b
  |int b=>obtain⟨t,rfl⟩:=z;exact SeqAt.EqAt.str_int a t' b t
  |str b=>obtain⟨t,rfl⟩:=z;exact SeqAt.EqAt.str_str a t' b t
  |_=>exact Vt (show false=true from I) Qe
 |_=>exact Vt (show false=true from O) Qe
def Ro (x:V) (u:Value):Bool:=match u with
 | .none=>RB .non x
 | .bool b=>RB (.bl b) x
 | .int i _=>RB (.int i) x
 | .str z _=>RB (.str z) x
 |_=>false
def IH (r:RelV y u) (f:io y=true):Ro x u=RB y x:=by
 cases y with
 |non=>cases r;rfl
 |bl b=>cases r;rfl
 |int i=>obtain⟨t,rfl⟩:=r;rfl
 |str z=>obtain⟨t,rfl⟩:=r;rfl
 |_=>exact Vt (show false=true from f) Qe
def BB {x:V}:∀{xs:List V} {us:List Value},GA xs us->xs.all io=true->us.any (Ro x)=xs.any λy=>RB y x
 |_,_,.nil,_=>rfl
 |y::xs,u::us,.cons r t,f=>by
  rw[List.all_cons,QI]at f;rw[X9,X9,IH r f.1,BB t f.2]
def xB {A:Around} {s:Shared} {x:V} {v:Value} (z:RelV x v) (G:io x=true):∀{xs:List V} {us:List Value},GA xs us->xs.all io=true->∀u∈us,SeqAt.EqAt A s u v (Ro x u)
 |_,_,.nil,_=>λu hu=>by cases hu
 |y::xs,u::us,.cons r t,f=>λI hu=>by
  rw[List.all_cons,QI]at f;rcases Qh.mp hu with rfl|hu
  .rw[IH r f.1];exact IJ r z f.1 G
  .exact xB z G t f.2 I hu
def inV (x:V) (xs:List V):Bool:=xs.any λy=>RB y x
inductive rIn (K:JK) (neg:Bool) (x y:V) (H:Hp) (Q:VK):Prop
 |mk (p xs:_) (_:y= .ref p) (_:(Fb K H p xs\/OX K H p xs)) (_:io x=true) (_:xs.all io=true) (_:Q (.bl<|if neg then !inV x xs else inV x xs) H)
def FN:Pa X (compareOp .In) (rIn X.K false):=by
 intro W s B H x y v u Q I z O h;obtain⟨p,xs,rfl,hq,G,fs,q⟩:=h;cases O;rcases hq with hq|hq
 .obtain⟨its,r,pl,hz⟩:=I.list hq;refine SeqAt.in_listAt (Ro x) pl.isList (λw hw=>xB z G r fs w<|by simpa using hw) ⟨.bl _,H,I,M,?_⟩;rw[show its.toArray.any (Ro x)=its.any (Ro x) by simp,BB r fs];exact q
 .obtain⟨its,r,pl,hz⟩:=I.tuple hq;refine SeqAt.in_tupleAt (Ro x) pl (λw hw=>xB z G r fs w<|by simpa using hw) ⟨.bl _,H,I,M,?_⟩;rw[show its.toArray.any (Ro x)=its.any (Ro x) by simp,BB r fs];exact q
def aC:gb X (.builtin "len") (λxs H Q=>∃p ys,xs=[.ref p]/\(Fb X.K H p ys\/OX X.K H p ys)/\Q (.int ys.length) H):=by
 intro W s B H xs us Q I r h;obtain⟨p,ys,rfl,hq,q⟩:=h;obtain⟨u,rfl,G⟩:=mC r;cases G;have O:=xE;rcases hq with hq|hq
 .obtain⟨its,r',pl,hz⟩:=I.list hq;have z:=r'.length;exact Calls.call_len_list pl.isList (by simp only[Qi]<;>lia) ⟨.int ys.length,H,I.tok _,⟨s.toks+1,by rw[Qi,z]⟩,q⟩
 .obtain⟨its,r',pl,hz⟩:=I.tuple hq;have z:=r'.length;exact len_tuple pl (by simp only[Qi]<;>lia) ⟨.int ys.length,H,I.tok _,⟨s.toks+1,by rw[Qi,z]⟩,q⟩
def Bq:gb X (.type "list") (λxs H Q=>∃p ys,xs=[.ref p]/\(Fb X.K H p ys\/OX X.K H p ys)/\∀l,H l=none->Q (.ref l) (upd H l<|.lst ys)):=by
 intro W s B H xs us Q I r h;obtain⟨p,ys,rfl,hq,q⟩:=h;obtain⟨u,rfl,U⟩:=mC r;cases U;have fin:∀(its:List Value),GA ys its->ys.length<=sizeLine->∀(h':Heap) (z:Nat),(∀b o',s.heap.get? b=some o'->h'.get? b=some o')->
   h'.get? s.heap.objs.size=some {cls:= .type "list",dict:=none,data:= .seq its.toArray z,slots:= #[]}->EP X W B Q (.ref s.heap.objs.size) {s with heap:=h'}:=λits r' hz h' z G e=>
  ⟨.ref s.heap.objs.size,_,I.laid (t':=s.toks) G (Q4 _) (show O9 X.prog X.w _ h' _ (.lst ys) from⟨hz,its,z,r',e⟩),M,q _<|I.hok.fresh (Q4 _)⟩
 rcases hq with hq|hq
 .obtain⟨its,r',pl,hz⟩:=I.list hq;have O:=r'.length;obtain⟨o,ho,hc,n,hd⟩:=pl.isList;exact call_list_seq p (.inl M) ho hc hd (λh' z G e=>fin its r' hz h' z G e)<|by simp only[Qi]<;>lia
 .obtain⟨its,r',pl,hz⟩:=I.tuple hq;have O:=r'.length;obtain⟨o,ho,hc,n,hd⟩:=pl;exact call_list_seq p (.inr M) ho hc hd (λh' z G e=>fin its r' hz h' z G e)<|by simp only[Qi]<;>lia
def tyV (K:JK) (T:String) (x:V) (H:Hp):Prop:=match x with
 | .str _=>T="str"
 | .int _=>T="int"
 | .ref p=>(T="list"/\∃xs,Fb K H p xs)\/(T="tuple"/\∃o,K.lookup p=some o/\o.cls= .type "tuple"/\o.dict=none)\/
   (T="dict"/\((∃kvs,H p=some (.dK kvs))\/∃kvs,H p=some (.dT kvs)))\/(T="set"/\∃S n,H p=some (.set S n))
 |_=>False
def G0 {v:Value} (I:Inv X W B H s) (r:RelV x v) (ty:tyV X.K T x H):
  s.TypeIs v T/\∀a,v= .ref a->∃ob,s.heap.get? a=some ob/\ob.dict=none:=by
 cases x with
 |str z=>
  obtain⟨t,rfl⟩:=r;cases (show T="str" from ty);exact⟨typeIs_str s z t,λ_ e=>nomatch e⟩
 |int i=>
  obtain⟨t,rfl⟩:=r;cases (show T="int" from ty);exact⟨typeIs_int s i t,λ_ e=>nomatch e⟩
 |ref p=>
  cases r;rcases ty with⟨rfl,xs,hq⟩|⟨rfl,o,hk,hc,hd⟩|⟨rfl,hk⟩|⟨rfl,S,n,hk⟩
  .obtain⟨its,_,pl,_⟩:=I.list hq;refine⟨pl.isList.typeIs,λa e=>?_⟩;cases e;obtain⟨o,n,e,c,hd,_⟩:=pl;exact⟨o,e,hd⟩
  .refine⟨⟨o,I.kIn p o hk,hc⟩,λa e=>?_⟩;cases e;exact⟨o,I.kIn _ o hk,hd⟩
  .have z:∃o,s.heap.get? p=some o/\o.ExactDict:=by
    rcases hk with⟨kvs,hk⟩|⟨kvs,hk⟩
    .obtain⟨_,_,_,_,o,_,_,e,ex,_⟩:=I.hok p _ hk;exact⟨o,e,ex⟩
    .obtain⟨_,_,_,_,o,_,_,e,ex,_⟩:=I.hok p _ hk;exact⟨o,e,ex⟩
   obtain⟨o,e,ex⟩:=z;refine⟨⟨o,e,ex.1⟩,λa e2=>?_⟩;cases e2;exact⟨o,e,ex.2.1⟩
  .obtain⟨o,_,_,_,e,ex,_⟩:=I.hok p _ hk;refine⟨⟨o,e,ex.1⟩,λa e2=>?_⟩;cases e2;exact⟨o,e,ex.2.1⟩
 |_=>exact False.elim ty
def tBM0 (K:JK) (T:String) (r:V->List V->Hp->VK->Prop) (to:TE):TE:=λB H Q=>to B H λx H1=>tyV K T x H1/\r x [] H1 Q
def tBM (K:JK) (T:String) (r:V->List V->Hp->VK->Prop) (to:TE) (t:TA):TE:=λB H Q=>to B H λx H1=>tyV K T x H1/\t B H1 λxs H2=>r x xs H2 Q
variable {o:Expr} {es:List Expr} {to:TE} {t:TA} {name:Str} {apos cpos:Pos} {id:String} {r:V->List V->Hp->VK->Prop}
def ud (pa:PlainAttrs T) (slot:Slot T name id) (O:typeOf (.builtin id)=pure (.type "method_descriptor")) (Z:Rn X id r) (ho:PE X o to)
  (z:attributeBase o name X.env (eval o X.env)=eval o X.env:=by rfl) (G:(apos.endLine==cpos.line)=true:=by rfl):PE X (.Call (.Attribute o name apos) [] [] cpos) (tBM0 X.K T r to):=by
 intro W s B H Q I h;refine wpAny_Call_method0_late z G<|OI (ho W s B H _ I h) λv s1 U=>?_;obtain⟨x,H1,Y,r1,ty,q1⟩:=U;obtain⟨h1,h2⟩:=G0 Y r1 ty;exact⟨T,id,pa,slot,O,h1,h2,Calls.callWith_builtin M<|PySem.evalArgs_none (Z W s1 B H1 x [] v [] Q Y r1 .nil q1)⟩
def dC (pa:PlainAttrs T) (slot:Slot T name id) (Y:typeOf (.builtin id)=pure (.type "method_descriptor")) (hm:Rn X id r) (ho:PE X o to) (ha:PA X (e::es) t)
  (G:attributeBase o name X.env (eval o X.env)=eval o X.env:=by rfl)
  (U:((backTo cpos<|starEach (e::es) X.env).all (λx=>!x.1)&&(backToKw cpos<|keywordEach [] X.env).all (λx=>x.1.isSome)
   &&decide ((e::es).length+([]:List Keyword).length+(if([]:List Keyword).isEmpty then 0 else 1)<30))=true:=by rfl)
  (O:(apos.endLine==cpos.line)=true:=by rfl) (hs:starEach (e::es) X.env=(false,eval e X.env)::starEach es X.env:=by rfl) (z:(backTo cpos<|starEach es X.env).any (·.1)=false:=by rfl):
  PE X (.Call (.Attribute o name apos) (e::es) [] cpos) (tBM X.K T r to t):=by
 intro W s B H Q I h;refine wpAny_Call_method_late G U O M<|OI (ho W s B H _ I h) λv s1 Z=>?_;obtain⟨x,H1,I1,r1,ty,q1⟩:=Z;obtain⟨h1,h2⟩:=G0 I1 r1 ty;refine⟨T,id,pa,slot,Y,h1,h2,?_⟩;have hA:=ha cpos W s1 B H1 _ I1 q1;rw[hs]at hA⊢;refine Calls.callWith_builtin (by show(false||(backTo cpos<|starEach es X.env).any (·.1))=false;rw[z]<;>rfl)<|Calls.evalArgs_plain ?_;exact OI hA λus s2 ⟨vs,H2,I2,r2,q2⟩=>hm W s2 B H2 x vs v us Q I2 r1 r2 q2
end
def MtM (X:Cx) (id:String) (r:V->List V->Hp->VK->Prop):Prop:=
 ∀(W:List (Addr×Obj)) (s:Shared) (B:St) (H:Hp) (x:V) (xs:List V) (v:Value) (us:List Value) (Q:VK),Inv X W B H s->RelV x v->GA xs us->r x xs H Q->
  W6 X (call (.builtin id) (v::us)) (EP X W B Q) X.xe s
def GA.one:∀{x:V} {us:List Value},GA [x] us->∃u,us=[u]/\RelV x u
 |_,_,.cons r .nil=>⟨_,M,r⟩
def GA.two:∀{x y:V} {us:List Value},GA [x,y] us->∃u v,us=[u,v]/\RelV x u/\RelV y v
 |_,_,_,.cons r (.cons q .nil)=>⟨_,_,M,r,q⟩
def GA.eraseIdx:∀{xs:List V} {us:List Value} (i:Nat),GA xs us->GA (xs.eraseIdx i) (us.eraseIdx i)
 |_,_,_,.nil=> .nil
 |_,_,0,.cons _ t=>t
 |_,_,i+1,.cons r t=> .cons r (GA.eraseIdx i t)
def uz {α:Type}:∀(l:List α) (i:Nat),(l.eraseIdx i).length<=l.length
 | [],_=>Q4 _
 |_::_,0=>Zp _
 |_::r,i+1=>Nat.succ_le_succ (uz r i)
section
variable {l:Addr} {xs ys zs:List V}
def Inv.lset {f:Array Value->Array Value} (I:Inv X W B H s) (z:H l=some (.lst xs))
  (e:s.heap.get? l=some {cls:= .type "list",data:= .seq its.toArray n}) (hf:f its.toArray=its'.toArray) (G:GA ys its') (hz:ys.length<=sizeLine):
  Inv X W B (upd H l<|.lst ys) {s with heap:=s.heap.update l (Obj.mapSeq f),toks:=t'}:=by
 have q:=PySem.IsL.update e f;rw[hf]at q;refine I.write (x:=l) (e:=l) (by rw[z];exact trivial) (.inl M) (λb' u hb hu=>(VY s.heap (Obj.mapSeq f)<|Ne.symm hb).trans hu) ⟨_,q⟩ ?_;exact⟨hz,its',_,G,q⟩
def Inv.lnew (I:Inv X W B H s) (z:GA ys its) (hz:ys.length<=sizeLine):
  Inv X W B (upd H s.heap.objs.size<|.lst ys) {s with heap:=s.heap.push {cls:= .type "list",data:= .seq its.toArray},toks:=t'}:=
 I.laid (λ_ _ q=>Vr _ q) (Q4 _) ⟨hz,its,0,z,Vz _ M⟩
def Inv.fresh (I:Inv X W B H s):H s.heap.objs.size=none:=I.hok.fresh (Q4 _)
def Inv.lstM (I:Inv X W B H s) (G:H l=some (.lst xs)):xs.length<=sizeLine/\∃(its:List Value) (n:Nat),GA xs its/\xs.length=its.length/\s.heap.get? l=some {cls:= .type "list",data:= .seq its.toArray n}:=by
 obtain⟨z,its,n,r,e⟩:=I.hok l _ G;exact⟨z,its,n,r,r.length,e⟩
def HE (h:n<=sizeLine):Builtin.List.listTooLong n=false:=by
 unfold Builtin.List.listTooLong;exact VA ()
end
inductive Ko (x:V) (vs:List V) (H:Hp) (Q:VK):Prop
 |mk (l xs y:_) (_:x= .ref l) (_:vs=[y]) (_:H l=some (.lst xs)) (_:xs.length<sizeLine) (_:Q .non (upd H l<|.lst<|xs++ [y]))
def eZ:MtM X "list.append" Ko:=by
 intro W s B H x vs v us Q I O rv h;obtain⟨l,xs,y,rfl,rfl,G,hz,q⟩:=h;cases O;obtain⟨u,rfl,U⟩:=rv.one;obtain⟨z,its,n,r,hl,e⟩:=I.lstM G;refine call_meets F.slot_list_append ⟨_,e,M⟩ F.entry_list_append (F.args_list_append_2 _ _) (PySem.list_append l its.toArray n u<|by rw[Qi];lia) ⟨e,?_⟩;refine⟨.non,_,I.lset (its':=its++ [u]) G e (by simp) (r.append<|.cons U .nil) ?_,M,q⟩;rw[Q8,QZ];lia
inductive Kn (x:V) (vs:List V) (H:Hp) (Q:VK):Prop
 |mk (l b xs zs:_) (_:x= .ref l) (_:vs=[.ref b]) (_:H l=some (.lst xs)) (_:H b=some (.lst zs)) (_:xs.length+zs.length<=sizeLine) (_:Q .non (upd H l<|.lst<|xs++zs))
def pC:MtM X "list.extend" Kn:=by
 intro W s B H x vs v us Q I Y rv h;obtain⟨l,b,xs,zs,rfl,rfl,U,Z,hz,q⟩:=h;cases Y;obtain⟨u,rfl,ru⟩:=rv.one;cases ru;obtain⟨z,its,n,r,hl,e⟩:=I.lstM U;obtain⟨z2,G,n2,r2,a0,e2⟩:=I.lstM Z;have hsz:its.toArray.size+G.toArray.size<=sizeLine:=by rw[Qi,Qi];lia
 have O:¬(!its.toArray.isEmpty&&Builtin.List.listTooLong (its.toArray.size+G.toArray.size))=true:=by
  rw[HE hsz,Bool.and_false];exact Qe
 refine call_meets F.slot_list_extend ⟨_,e,M⟩ F.entry_list_extend (F.args_list_extend_2 _ _)
  (AutoSeq1.list_extend_list_list_0 l its.toArray n b G.toArray n2 O (by rw[Qi];lia) ()) ⟨e,e2,?_⟩
 refine⟨.non,_,I.lset (its':=its++G) U e (by simp) (r.append r2) ?_,M,q⟩;rw[Q8];lia
inductive Mv (x:V) (vs:List V) (H:Hp) (Q:VK):Prop
 |mk (l xs i k y:_) (_:x= .ref l) (_:vs=[.int i]) (_:H l=some (.lst xs)) (_: -(2^63)<=i) (_:i<2^63) (_:seqIndex? i xs.length=some k) (_:xs[k]?=some y) (_:Q y (upd H l<|.lst<|xs.eraseIdx k))
def Cm:MtM X "list.pop" Mv:=by
 intro W s B H x vs v us Q I U rv h;obtain⟨l,xs,i,k,y,rfl,rfl,O,h1,h2,hk,hy,q⟩:=h;cases U;obtain⟨u,rfl,Y⟩:=rv.one;obtain⟨t,rfl⟩:=Y;obtain⟨z,its,n,r,hl,e⟩:=I.lstM O;obtain⟨w,hw,G⟩:=r.get hy;refine call_meets F.slot_list_pop ⟨_,e,M⟩ F.entry_list_pop (F.args_list_pop_2 _ _)
  (MeetsSeq.list_pop_at l its.toArray n i t k w (fitsIndex_both h1 h2) (by rwa[Qi,<-hl]) (by rwa[<-Qx])<|by rw[Qi];lia) ⟨e,?_⟩
 refine⟨y,_,I.lset (its':=its.eraseIdx k) O e ?_ (r.eraseIdx k) ?_,G,q⟩
 .show its.toArray.eraseIdxIfInBounds k=(its.eraseIdx k).toArray;rw[V5]
 .have:=uz xs k;lia
inductive rCat (x y:V) (H:Hp) (Q:VK):Prop
 |mk (l b xs zs:_) (_:x= .ref l) (_:y= .ref b) (_:H l=some (.lst xs)) (_:H b=some (.lst zs)) (_:xs.length+zs.length<=sizeLine) (_:∀p,H p=none->Q (.ref p) (upd H p<|.lst<|xs++zs))
def MI:Pa X (binaryOp .Add) rCat:=by
 intro W s B H x y v u Q I O U h;obtain⟨l,b,xs,zs,rfl,rfl,Y,Z,hz,q⟩:=h;cases O;cases U;obtain⟨z,its,n,r,hl,e⟩:=I.lstM Y;obtain⟨z2,G,n2,r2,a0,e2⟩:=I.lstM Z;refine PySem.P.add_list e e2 ?_ (by rw[Qi,Qi];lia);have ea:its.toArray++G.toArray=(its++G).toArray:=by simp
 rw[ea];exact⟨.ref _,_,I.lnew (t':=s.toks) (r.append r2) (by rw[Q8];lia),M,q _ I.fresh⟩
section
variable {κ:Type} [DecidableEq κ]
noncomputable def aG (kvs:List (κ×V)) (k:κ):Option V:=(kvs.find? λkv=>decide (kv.1=k)).map (·.2)
noncomputable def bi (kvs:List (κ×V)) (k:κ) (v:V):List (κ×V):=
 if(kvs.any λkv=>decide (kv.1=k))=true then kvs.map (λkv=>if kv.1=k then(kv.1,v)else kv)else kvs++ [(k,v)]
noncomputable def bM (kvs:List (κ×V)) (k:κ):List (κ×V):=kvs.filter λkv=>decide (kv.1≠k)
def kB {k:κ}:aG ([]:List (κ×V)) k=none:=rfl
def br {p:κ×V} {r:List (κ×V)} {k:κ} (e:p.1=k):aG (p::r) k=some p.2:=by simp[aG,ZU,e]
def bn {p:κ×V} {r:List (κ×V)} {k:κ} (e:¬p.1=k):aG (p::r) k=aG r k:=by simp[aG,ZU,e]
def dt (k:κ):∀kvs:List (κ×V),(kvs.any λkv=>decide (kv.1=k))=(aG kvs k).isSome
 | []=>rfl
 |p::r=>by
  rw[X9];by_cases e:p.1=k
  .simp only[br e,Vy e,Bool.true_or,Option.isSome_some]
  .rw[bn e,VA e,Bool.false_or];exact dt k r
def BQ (k j:κ) (y:V):∀kvs:List (κ×V),aG (kvs.map λkv=>if kv.1=k then(kv.1,y)else kv) j=(aG kvs j).map λx=>if j=k then y else x
 | []=>rfl
 |p::r=>by
  have G:=BQ k j y r;rw[Qt];by_cases h:p.1=k
  .rw[Vp h];by_cases e:p.1=j
   .rw[br (p:=(p.1,y)) e,br e,XA,Vp (e.symm.trans h)]
   .rw[bn (p:=(p.1,y)) e,bn e,G]
  .rw[Vo h];by_cases e:p.1=j
   .rw[br (p:=p) e,br e,XA,Vo (λz=>h<|e.trans z)]
   .rw[bn (p:=p) e,bn e,G]
def zA (k j:κ) (y:V):∀kvs:List (κ×V),aG kvs k=none->aG (kvs++ [(k,y)]) j=if j=k then some y else aG kvs j
 | [],_=>by
  by_cases e:k=j
  .rw[Vp e.symm];exact br (p:=(k,y)) e
  .rw[Vo (λz=>e z.symm)];exact bn (p:=(k,y)) e
 |p::r,hn=>by
  rw[List.cons_append];have hk:¬p.1=k:=λz=>by rw[br z]at hn;cases hn
  rw[bn hk]at hn;have G:=zA k j y r hn;by_cases e:p.1=j
  .rw[br e,br e,Vo (λz=>hk<|e.trans z)]
  .rw[bn e,bn e,G]
def eC (kvs:List (κ×V)) (k j:κ) (y:V):aG (bi kvs k y) j=if j=k then some y else aG kvs j:=by
 unfold bi;by_cases a:(kvs.any λkv=>decide (kv.1=k))=true
 .rw[Vp a,BQ];rw[dt]at a;by_cases e:j=k
  .obtain⟨x,hx⟩:=ZP.mp a;rw[Vp e,e,hx,XA,Vp M]
  .rw[Vo e];cases aG kvs j with
   |none=>rfl
   |some x=>rw[XA,Vo e]
 .rw[Vo a];refine zA k j y kvs ?_;rw[dt]at a;cases q:aG kvs k with
  |none=>rfl
  |some x=>rw[q]at a;exact(a M).elim
def bW (kvs:List (κ×V)) (k:κ) (v:V):(bi kvs k v).length<=kvs.length+1:=by
 unfold bi;split
 .rw[Q0];lia
 .rw[Q8,Qo,Xg];lia
def wY {kvs:List (κ×V)} {k:κ} (v:V) (h:aG kvs k=none):bi kvs k v=kvs++ [(k,v)]:=by
 unfold bi;rw[dt,h];exact Vo (_)
def PR.isSome_eq {u:Option Value} (r:PR o u):o.isSome=u.isSome:=by
 cases o with
 |none=>cases u with
  |none=>rfl
  |some _=>exact(show False from r).elim
 |some _=>cases u with
  |none=>exact(show False from r).elim
  |some _=>rfl
def KV.val {kvs:List (κ×V)} {vs:List (κ×Value)} (r:KV kvs vs) (k:κ):PR (aG kvs k) (valueAt vs k):=by
 unfold KV at r
 induction r with
 |nil=>exact VG
 | @cons p q ps qs h t I=>
  obtain⟨h1,h2⟩:=h;by_cases e:p.1=k
  .have G:q.1=k:=h1.symm.trans e;have b:valueAt (q::qs) k=some q.2:=by simp[valueAt,ZU,G]
   rwa[br e,b]
  .have G:¬q.1=k:=λz=>e (h1.trans z);have b:valueAt (q::qs) k=valueAt qs k:=by simp[valueAt,ZU,G]
   rw[bn e,b];exact I
def KV.any {kvs:List (κ×V)} {vs:List (κ×Value)} (r:KV kvs vs) (k:κ):(kvs.any λkv=>decide (kv.1=k))=vs.any λkv=>decide (kv.1=k):=by
 unfold KV at r
 induction r with
 |nil=>rfl
 |cons h t z=>rw[X9,X9,z,h.1]
def KV.repl {kvs:List (κ×V)} {vs:List (κ×Value)} (r:KV kvs vs) (k:κ) (G:RelV y u):
  KV (kvs.map λkv=>if kv.1=k then(kv.1,y)else kv) (vs.map λkv=>if kv.1=k then(kv.1,u)else kv):=by
 unfold KV at r⊢
 induction r with
 |nil=>exact .nil
 | @cons p q ps qs h t I=>
  rw[Qt,Qt];refine .cons ?_ I;obtain⟨h1,h2⟩:=h;by_cases e:p.1=k
  .rw[Vp e,Vp (h1.symm.trans e)];exact⟨h1,G⟩
  .rw[Vo e,Vo (λz=>e<|h1.trans z)];exact⟨h1,h2⟩
def KV.put {kvs:List (κ×V)} {vs:List (κ×Value)} (r:KV kvs vs) (k:κ) (z:RelV y u):KV (bi kvs k y) (stored vs k u):=by
 unfold bi stored;rw[r.any k];by_cases e:(vs.any λkv=>decide (kv.1=k))=true
 .rw[Vp e,Vp e];exact r.repl k z
 .rw[Vo e,Vo e];exact Paired.snoc r ⟨M,z⟩
def KV.drop {kvs:List (κ×V)} {vs:List (κ×Value)} (r:KV kvs vs) (k:κ):KV (bM kvs k) (without vs k):=by
 unfold KV at r⊢;unfold bM without
 induction r with
 |nil=>exact .nil
 | @cons p q ps qs h t G=>
  obtain⟨h1,h2⟩:=h;rw[X7,X7];by_cases e:p.1=k
  .have a:¬decide (p.1≠k)=true:=by simp[e]
   have b:¬decide (q.1≠k)=true:=by simp[h1.symm.trans e]
   rwa[Vo a,Vo b]
  .have I:¬q.1=k:=λz=>e (h1.trans z);have a:decide (p.1≠k)=true:=by simp[e]
   have b:decide (q.1≠k)=true:=by simp[I]
   rw[Vp a,Vp b];exact .cons ⟨h1,h2⟩ G
def KV.length {kvs:List (κ×V)} {vs:List (κ×Value)} (r:KV kvs vs):kvs.length=vs.length:=Paired.length r
def CK (kvs:List (κ×V)) (k:κ):(bM kvs k).length<=kvs.length:=Qp _ _
end
def sw {k:Key} (r:RelV (kV k) u):(a8 P w).is k u=true:=by
 cases k with
 |inl i=>obtain⟨t,e⟩:=(show ∃t,u=Value.int i t from r);subst e;exact Cs P w i t
 |inr x=>obtain⟨t,e⟩:=(show ∃t,u=Value.str x t from r);subst e;exact Cr P w x t
def zV {P:Program} {w:World}:∀{ks:List Key} {us:List Value},GA (ks.map kV) us->ItemsAre (a8 P w) ks us
 | [],_,r=>by rw[XV]at r;cases r;exact .nil
 |k::ks,_,r=>by
  rw[Qt]at r;cases r with
  |cons h t=>exact .cons (sw h)<|zV t
abbrev KT (H:Hp):List (List Key×V)->List (List Key×Addr×Value)->Prop:=Paired λp q=>p.1=q.1/\H q.2.1=some (.tup<|p.1.map kV)/\RelV p.2 q.2.2
def KT.val {kvs:List (List Key×V)} {xs:List (List Key×Addr×Value)} (r:KT H kvs xs) (k:List Key):PR (aG kvs k) ((atKey xs k).map (·.2)):=by
 induction r with
 |nil=>exact VG
 | @cons p q ps qs h t I=>
  obtain⟨h1,_,h2⟩:=h;by_cases e:p.1=k
  .have G:q.1=k:=h1.symm.trans e;have b:atKey (q::qs) k=some q.2:=by simp[atKey,ZU,G]
   rwa[br e,b]
  .have G:¬q.1=k:=λz=>e (h1.trans z);have b:atKey (q::qs) k=atKey qs k:=by simp[atKey,ZU,G]
   rw[bn e,b];exact I
def KT.repl {kvs:List (List Key×V)} {xs:List (List Key×Addr×Value)} (r:KT H kvs xs) (k:List Key) (G:RelV y u):
  KT H (kvs.map λkv=>if kv.1=k then(kv.1,y)else kv) (xs.map<|putAt k u):=by
 induction r with
 |nil=>exact .nil
 | @cons p q ps qs h t I=>
  rw[Qt,Qt];refine .cons ?_ I;obtain⟨h1,h2,O⟩:=h;unfold putAt;by_cases e:p.1=k
  .rw[Vp e,Vp (h1.symm.trans e)];exact⟨h1,h2,G⟩
  .rw[Vo e,Vo (λz=>e<|h1.trans z)];exact⟨h1,h2,O⟩
def KT.put {kvs:List (List Key×V)} {xs:List (List Key×Addr×Value)} (r:KT H kvs xs) (k:List Key) (hb:H b=some (.tup<|k.map kV)) (z:RelV y u):
  KT H (bi kvs k y) (storedH xs k b u):=by
 have e:(kvs.any λkv=>decide (kv.1=k))=(atKey xs k).isSome:=by
  rw[dt,(r.val k).isSome_eq,XW]
 unfold bi storedH;rw[e];by_cases q:(atKey xs k).isSome=true
 .rw[Vp q,Vp q];exact r.repl k z
 .rw[Vo q,Vo q];exact Paired.snoc r ⟨M,hb,z⟩
def KT.keeps {kvs:List (List Key×V)} {xs:List (List Key×Addr×Value)} (r:KT H kvs xs) (G:∀b ys,H b=some (.tup ys)->H' b=some (.tup ys)):KT H' kvs xs:=
 Paired.mapP r λ_ _ z=>⟨z.1,G _ _ z.2.1,z.2.2⟩
section
variable {h:Heap}
def LA {u:HO} (ok:PM P w H h) (e:Rd H a u):O9 P w H h a u:=e.ok ok
def qc (ok:PM P w H h) (e:Rd H a (.dK kvs)):kvs.length<=sizeLine/\(a==sysModules)=false/\∃vs,KV kvs vs/\h.DictOf (a8 P w) a vs:=
 show O9 P w H h a (.dK kvs) from LA ok e
def fZ (ok:PM P w H h) (e:H a=some (.dK kvs)):kvs.length<=sizeLine/\(a==sysModules)=false/\∃vs,KV kvs vs/\h.DictOf (a8 P w) a vs:=qc ok (.inl e)
def xF {ks:List Key} (ok:PM P w H h) (e:H a=some (.tup<|ks.map kV)):(tupleKind<|a8 P w).is h ks a:=by
 obtain⟨_,its,r,o,h1,h2,n,z⟩:=(show O9 P w H h a (.tup<|ks.map kV) from ok a _ e);exact⟨o,its.toArray,n,h1,h2,z,by simpa using zV r⟩
def CG {kvs:List (List Key×V)} (ok:PM P w H h) (e:Rd H a (.dT kvs)):kvs.length<=sizeLine/\(a==sysModules)=false/\
  ∃xs,KT H kvs xs/\h.DictOfH (tupleKind<|a8 P w) a xs:=by
 obtain⟨z,y,xs,r,o,es,ep,h1,h2,G,I,O⟩:=(show O9 P w H h a (.dT kvs) from LA ok e);refine⟨z,y,xs,r,o,es,ep,h1,h2,G,I,λx hx=>?_,O⟩;have all:∀{l:List (List Key×V)} {m:List (List Key×Addr×Value)},KT H l m->∀x∈m,(tupleKind<|a8 P w).is h x.1 x.2.1:=by
  intro l m q
  induction q with
  |nil=>intro x hx;exact nomatch hx
  | @cons p q ps qs hq t U=>
   intro x hx;rcases Qh.mp hx with e|hx
   .subst e;exact xF ok<|by rw[<-hq.1];exact hq.2.1
   .exact U x hx
 exact all r x hx
def Oz {kvs:List (List Key×V)} (ok:PM P w H h) (e:H a=some (.dT kvs)):kvs.length<=sizeLine/\(a==sysModules)=false/\
  ∃xs,KT H kvs xs/\h.DictOfH (tupleKind<|a8 P w) a xs:=CG ok (.inl e)
end
def Pb (H:Hp) (a:Addr) (y:V) (r:Option V):Prop:=
 (∃kvs k,Rd H a (.dK kvs)/\y=kV k/\r=aG kvs k)\/∃kvs k b,Rd H a (.dT kvs)/\y= .ref b/\H b=some (.tup<|k.map kV)/\r=aG kvs k
def Pm (H:Hp) (a:Addr) (y v:V) (H':Hp):Prop:=
 (∃kvs k,H a=some (.dK kvs)/\y=kV k/\kvs.length<sizeLine/\H'=upd H a (.dK<|bi kvs k v))\/
 ∃kvs k b,H a=some (.dT kvs)/\y= .ref b/\H b=some (.tup<|k.map kV)/\kvs.length<sizeLine/\H'=upd H a (.dT<|bi kvs k v)
def Pb.k {k:Key} (e:H a=some (.dK kvs)):Pb H a (kV k) (aG kvs k):= .inl ⟨kvs,k,.inl e,M,M⟩
def Pm.k {k:Key} (e:H a=some (.dK kvs)) (hl:kvs.length<sizeLine):Pm H a (kV k) v (upd H a<|.dK<|bi kvs k v):= .inl ⟨kvs,k,e,M,hl,M⟩
def Inv.big (I:Inv X W B H s):sysModules<s.heap.objs.size:=by
 have h:mainGlobals<s.heap.objs.size:=(I.mod.glob.keeps I.bk).lt;exact Nat.lt_trans (_) h
def Gq (hu:A.units+1<cLine) (I:Inv X W B H s) (g:Pb H a y (some v)) (Z:RelV y u) (h:∀w' s',Inv X W B H s'->RelV v w'->Q w' s'):
  wpAny (model X.prog X.w) A (getItem (.ref a) u) Q E s:=by
 rcases g with⟨kvs,k,e,U,l⟩|⟨kvs,k,b,e,U,eb,l⟩
 .subst U;obtain⟨z,hd,vs,G,dd⟩:=qc I.hok e;obtain⟨w',hw,O⟩:=PR.some_of (v:=v) (o:=valueAt vs k) (by rw[l];exact G.val k);exact wpAny_getItem_of (sw Z) dd.mapOf hw<|h w' _ (I.tok _) O
 .subst U;cases (show u=Value.ref b from Z);obtain⟨z,hd,xs,G,dd⟩:=CG I.hok e;obtain⟨w',hw,O⟩:=PR.some_of (v:=v) (o:=(atKey xs k).map (·.2)) (by rw[l];exact G.val k);obtain⟨p,hp,Y⟩:=Zn.mp hw;refine wpAny_getItem_heap (tupleKind_room_in1 hu) (xF I.hok eb) dd hp ?_;rw[Y];exact h w' _ (I.tok _) O
def d_in (hu:A.units+1<cLine) (I:Inv X W B H s) (g:Pb H a y o) (U:RelV y u) (h:∀s',Inv X W B H s'->Q (.bool o.isSome) s'):
  wpAny (model X.prog X.w) A (compareOp .In u<|.ref a) Q E s:=by
 rcases g with⟨kvs,k,e,O,l⟩|⟨kvs,k,b,e,O,Y,l⟩
 .subst O;obtain⟨z,hd,vs,G,dd⟩:=qc I.hok e;refine wpAny_in_of (sw U) hd dd.mapOf ?_;rw[<-(G.val k).isSome_eq,<-l];exact h _<|I.tok _
 .subst O;cases (show u=Value.ref b from U);obtain⟨z,hd,xs,G,dd⟩:=CG I.hok e;refine wpAny_in_heap (tupleKind_room_in1 hu) (xF I.hok Y) hd dd ?_;have q:=(G.val k).isSome_eq;rw[XW]at q;rw[<-q,<-l];exact h _<|I.tok _
def K2 (hu:A.units+1<cLine) (I:Inv X W B H s) (g:Pb H a y o) (U:RelV y u) (h:∀s',Inv X W B H s'->Q (.bool<|!o.isSome) s'):
  wpAny (model X.prog X.w) A (compareOp .NotIn u<|.ref a) Q E s:=by
 rcases g with⟨kvs,k,e,O,l⟩|⟨kvs,k,b,e,O,Y,l⟩
 .subst O;obtain⟨z,hd,vs,G,dd⟩:=qc I.hok e;refine wpAny_notIn_of (sw U) hd dd.mapOf ?_;rw[<-(G.val k).isSome_eq,<-l];exact h _<|I.tok _
 .subst O;cases (show u=Value.ref b from U);obtain⟨z,hd,xs,G,dd⟩:=CG I.hok e;refine wpAny_notIn_heap (tupleKind_room_in1 hu) (xF I.hok Y) hd dd ?_;have q:=(G.val k).isSome_eq;rw[XW]at q;rw[<-q,<-l];exact h _<|I.tok _
def pH {ob:HO} (I:Inv X W B H s) (G:Mut (H a)) (hs:Heap.SameBut a s.heap h') (he:∃q,h'.get? a=some q) (new:O9 X.prog X.w (upd H a ob) h' a ob):
  Inv X W B (upd H a ob) {s with heap:=h',toks:=t'}:=
 I.write (x:=a) (e:=a) G (.inl M) (λb q hb z=>(hs.2 b hb).trans z) he new
def xR (z:kvs.length<=sizeLine) (hd:(a==sysModules)=false) (G:KV kvs vs) (dd:h'.DictOf (a8 P w) a vs):
  O9 P w H' h' a (.dK kvs):=⟨z,hd,vs,G,dd⟩
def Gp {Q:Unit->Shared->Prop} (hu:A.units+1<cLine) (I:Inv X W B H s) (g:Pm H a y v H') (Z:RelV y u) (rv:RelV v r) (h:∀s',Inv X W B H' s'->Q Unit.unit s'):
  wpAny (model X.prog X.w) A (setItem (.ref a) u r) Q E s:=by
 rcases g with⟨kvs,k,e,U,l,Y⟩|⟨kvs,k,b,e,U,eb,l,Y⟩
 .subst U Y;obtain⟨z,hd,vs,G,dd⟩:=fZ I.hok e;have hz:vs.length<=sizeLine:=by rwa[<-G.length]
  have hl:(bi kvs k v).length<=sizeLine:=by have:=bW kvs k v;lia
  refine wpAny_setItem_pairs (hsz:=hz) (sw Z) dd λh' O hs=>h _ ?_;have he:∃q,h'.get? a=some q:=let⟨q,_,_,hq,_⟩:=O;⟨q,hq⟩
  exact pH I (by rw[e];exact VG) hs he<|xR hl hd (G.put k rv) O
 .subst U Y;cases (show u=Value.ref b from Z);obtain⟨z,hd,xs,G,dd⟩:=Oz I.hok e;have hz:xs.length<=sizeLine:=by rwa[<-Paired.length G]
  have hl:(bi kvs k v).length<=sizeLine:=by have:=bW kvs k v;lia
  refine wpAny_setItem_heap (hsz:=hz) (tupleKind_room_in1 hu) (xF I.hok eb) dd λh' O hs=>h _ ?_;obtain⟨q,es,ep,hq,h2,h3,h4,_,h5⟩:=O;refine pH I (by rw[e];exact VG) hs ⟨q,hq⟩ ⟨hl,hd,_,(G.put k eb rv).keeps λc ys ec=>?_,q,es,ep,hq,h2,h3,h4,h5⟩;rwa[af (cQ ec e<|λz=>nomatch z)]
section
variable {k:Key}
def LM {more:List Value} (I:Inv X W B H s) (e:H a=some (.dK kvs)) (U:RelV (kV k) u) (l:aG kvs k=some v) (Z:more=[]\/∃x,more=[x])
  (h:∀w' s',Inv X W B (upd H a<|.dK<|bM kvs k) s'->RelV v w'->Q w' s'):wpAny (model X.prog X.w) A (call (.builtin "dict.pop") (.ref a::u::more)) Q E s:=by
 obtain⟨z,hd,vs,G,dd⟩:=fZ I.hok e;obtain⟨w',hw,Y⟩:=PR.some_of (v:=v) (o:=valueAt vs k) (by rw[<-l];exact G.val k);have hp:(keyPart u).isSome=true:=by
  cases k with
  |inl i=>obtain⟨t,q⟩:=(show ∃t,u=Value.int i t from U);subst q;rfl
  |inr x=>obtain⟨t,q⟩:=(show ∃t,u=Value.str x t from U);subst q;rfl
 have ha:argsOk "dict.pop" ⟨.ref a::u::more,[]⟩:=by
  rcases Z with q|⟨x,q⟩
  .subst q;exact PySem.F.args_dict_pop_2 _ _
  .subst q;exact PySem.F.args_dict_pop_3 _ _ _
 refine VZ Zt dd.typeIs PySem.F.entry_dict_pop ha (meets_dict_pop_there (a8 X.prog X.w) a (sw U) more Z hp)
  ⟨vs,w',dd,by rwa[<-G.length],hw,λh' O hs=>h w' _ ?_ Y⟩
 have he:∃q,h'.get? a=some q:=let⟨q,_,_,hq,_⟩:=O;⟨q,hq⟩
 exact pH I (by rw[e];exact VG) hs he<|xR (Qz (CK kvs k) z) hd (G.drop k) O
def Ni (I:Inv X W B H s) (e:H a=some (.dK kvs)) (G:RelV (kV k) u) (l:aG kvs k=none) (h:∀s',Inv X W B H s'->Q r s'):
  wpAny (model X.prog X.w) A (call (.builtin "dict.pop") [.ref a,u,r]) Q E s:=by
 obtain⟨z,hd,vs,O,dd⟩:=fZ I.hok e;have U:valueAt vs k=none:=PR.none_of (by rw[<-l];exact O.val k);have Y:(keyPart u).isSome=true:=by
  cases k with
  |inl i=>obtain⟨t,q⟩:=(show ∃t,u=Value.int i t from G);subst q;rfl
  |inr x=>obtain⟨t,q⟩:=(show ∃t,u=Value.str x t from G);subst q;rfl
 exact VZ Zt dd.typeIs PySem.F.entry_dict_pop (PySem.F.args_dict_pop_3 _ _ _) (meets_dict_pop_default (a8 X.prog X.w) a (sw G) hd Y r) ⟨vs,dd,U,h _<|I.tok _⟩
def OA (I:Inv X W B H s) (e:Rd H a (.dK kvs)) (h:∀t s',Inv X W B H s'->Q (.int kvs.length t) s'):wpAny (model X.prog X.w) A (call (.builtin "len") [.ref a]) Q E s:=by
 obtain⟨z,hd,vs,G,dd⟩:=qc I.hok e;refine call_len_dict hd dd (by rw[<-G.length];rw[sizeLine_eq]at z;lia) ?_;rw[<-G.length];exact h _ _<|I.tok _
end
def NoSl (i:Expr):Prop:=∀ov iv,subscripted i false ov iv=operate [ov,iv] (getItem ov iv)
def Kc {prog:Program} {env:Env} {value z:Expr} {id:String} 
  (hl:typeLookup (.type T) "__getitem__"=pure (some<|.builtin id)) (hs:NoSl z)
  (h:wpAny (model prog w) A (eval value env) (λo s₁=>wpAny (model prog w) A (eval z env) (λi s₂=>s₂.TypeIs o T/\wpAny (model prog w) A (getItem o i) Q E s₂) E s₁) E s):
  wpAny (model prog w) A (eval (.Subscript value z pos) env) Q E s:=by
 refine Subscript_<|VN h (λo s₁ h₁=>VN h₁ (λi s₂ G=>?_) λ_ _ x=>x) λ_ _ x=>x;obtain⟨U,G⟩:=G;unfold subscriptTail;refine Vv ?_;rw[getitemInPython_of_ne U.not_modules];refine Vv<|wpAny_specialOf U hl ?_;have fin:wpAny (model prog w) A (subscripted z false o i) (λr I=>wpAny (model prog w) A (letTemporaryGo value o r>>=λ_=>pure r) Q E I) E s₂:=by
  rw[hs o i];exact wpAny_operating (VN G (λr I O=>Vv<|wpAny_letTemporaryGo<|VD O) λ_ _ x=>x)
 first
  |exact VD<|Vv fin
  |exact Vv<|VD (Vv fin)
  |exact Vv fin
def CM (I:Inv X W B H s) (g:Pb H a y o):s.TypeIs (.ref a) "dict":=by
 rcases g with⟨kvs,k,e,_,_⟩|⟨kvs,k,b,e,_,_,_⟩
 .obtain⟨_,_,vs,_,dd⟩:=qc I.hok e;exact dd.typeIs
 .obtain⟨_,_,xs,_,dd⟩:=CG I.hok e;exact dd.typeIs
inductive Ml (Q:VK) (x y:V) (H2:Hp):Prop
 |mk (a v:_) (_:x= .ref a) (_:Pb H2 a y (some v)) (_:Q v H2)
def NP (td ty:TE):TE:=λB H Q=>td B H λx H1=>ty B H1 λy H2=>Ml Q x y H2
inductive NO (Q:VK) (y x:V) (H2:Hp):Prop
 |mk (a o:_) (_:x= .ref a) (_:Pb H2 a y o) (_:Q (.bl o.isSome) H2)
def tDIn (ty td:TE):TE:=λB H Q=>ty B H λy H1=>td B H1 λx H2=>NO Q y x H2
def Kb (ty td:TE):TE:=λB H Q=>ty B H λy H1=>td B H1 λx H2=>∃a o,x= .ref a/\Pb H2 a y o/\Q (.bl<|!o.isSome) H2
inductive Mt (D:tG) (B:St) (v x y:V) (H3:Hp):Prop
 |mk (a H4:_) (_:x= .ref a) (_:Pm H3 a y v H4) (_:D.nx B H4)
def NV (td ty tv:TE):TS:=λD B H=>tv B H λv H1=>td B H1 λx H2=>ty B H2 λy H3=>Mt D B v x y H3
section
variable {o i value:Expr} {pos' tpos:Pos} {td ty tv:TE}
def EJ (hu:X.A.units+1<cLine) (ho:PE X o td) (hi:PE X i ty) (hs:NoSl i):PE X (.Subscript o i pos) (NP td ty):=by
 intro W s B H Q I h;refine Kc PySem.F.slot_dict_getitem.lookup hs<|OI (ho W s B H _ I h) λu s1 ⟨x,H1,U,Y,Z⟩=>OI (hi W s1 B H1 _ U Z) λiv s2 z=>?_;obtain⟨y,H2,O,ry,a,v,ex,g,q2⟩:=z;subst ex;obtain rfl:u=Value.ref a:=Y;exact⟨CM O g,Gq hu O g ry λw' s3 I3 G=>⟨v,H2,I3,G,q2⟩⟩
def D0 (hu:X.A.units+1<cLine) (hi:PE X i ty) (ho:PE X o td):PC X .In i o (tDIn ty td):=by
 intro W s B H Q I h;refine OI (hi W s B H _ I h) λiv s1 ⟨y,H1,G,O,U⟩=>OI (ho W s1 B H1 _ G U) λu s2 z=>?_;obtain⟨x,H2,Y,Z,a,ov,ex,g,q2⟩:=z;subst ex;obtain rfl:u=Value.ref a:=Z;exact d_in hu Y g O λs3 I3=>⟨.bl ov.isSome,H2,I3,M,q2⟩
def zJ (hu:X.A.units+1<cLine) (hi:PE X i ty) (ho:PE X o td):PC X .NotIn i o (Kb ty td):=by
 intro W s B H Q I h;refine OI (hi W s B H _ I h) λiv s1 ⟨y,H1,G,O,U⟩=>OI (ho W s1 B H1 _ G U) λu s2 z=>?_;obtain⟨x,H2,Y,Z,a,ov,ex,g,q2⟩:=z;subst ex;obtain rfl:u=Value.ref a:=Z;exact K2 hu Y g O λs3 I3=>⟨.bl<|!ov.isSome,H2,I3,M,q2⟩
def jw (hu:X.A.units+1<cLine) (ho:PE X o td) (hi:PE X i ty) (G:PE X value tv) (hs:swapsWith value (some<|.Subscript o i pos') pos.line X.env=pure false):
  PS X (.Assign [.Subscript o i pos'] value pos) (NV td ty tv):=by
 intro W s B H D I h;refine wpAny_Assign_Subscript (OI (G W s B H _ I h) λr s1 ⟨v,H1,O,rv,U⟩=>OI (ho W s1 B H1 _ O U) λu Y ⟨x,H2,Z,rx,q2⟩=>OI (hi W Y B H2 _ Z q2) λiv s3 z=>?_) hs;obtain⟨y,H3,I3,ry,a,H4,ex,g,q3⟩:=z;subst ex;obtain rfl:u=Value.ref a:=rx;exact Gp hu I3 g ry rv λs4 I4=>⟨B,H4,I4,q3⟩
end
def xS (h:Heap) (hb:sysModules<h.objs.size):O9 P w H (h.push {cls:= .type "dict",data:= .dict #[]}) h.objs.size (.dK []):=
 ⟨Qj _,VF.mpr<|Ne.symm<|QK hb,[],.nil,Heap.DictOf.new h⟩
def Mj:TE:=λ_ H Q=>∀p,H p=none->Q (.ref p) (upd H p<|.dK [])
def eE:PE X (.Dict [] [] pos) Mj:=λW s B H Q I h=>
 wpAny_Dict_empty ⟨.ref s.heap.objs.size,_,I.laid (a:=s.heap.objs.size) (o:= .dK []) (t':=s.toks) (λ_ _ q=>Vr _ q) (Q4 _)<|xS s.heap I.big,M,h _<|I.hok.fresh (Q4 _)⟩
end L2
namespace Att
open PySem PySem.W PySem.Calls PyProof.Rows
variable {h:Heap} {n:Nat} {l:OpenLaw} {P:Params} {YP:World->Heap->Prop}
def vM:∀(ns:List Int) (vs:List Value),WellAll P h vs (ns.map WData.int)->IntsAre vs ns:=by
 intro ns
 induction ns with
 |nil=>
  intro vs w;rw[XV]at w;cases w;exact .nil
 |cons n ns z=>
  intro vs w;rw[Qt]at w;cases w with
  |cons a b=>
   cases a;exact .cons _ _<|z _ b
def FD (hn:l.most=some n) {args:List WData} {z:List Value}
  (G:l.row.toRowW.claim.pre args=true) (Z:WellAll P h z args):
  ∃a vs ns,z=[Value.ref a]/\args=[WData.list (ns.map WData.int)]/\h.get? a=some {cls:= .type "list",data:= .seq vs.toArray}/\IntsAre vs ns/\ns.length<=n:=by
 have a0:WShape.hasAll [] args [.list .int]=true:=(pre_splitW G).1;have hc:l.pre.holds [] {args:=args}=true:=(pre_splitW G).2;obtain⟨d,r,rfl,h1,h2⟩:=hasAllW_cons a0;obtain rfl:=hasAllW_nil h2;obtain⟨xs,rfl,h3⟩:=hasW_list h1;obtain⟨ns,rfl⟩:=items_int h3;have I:ns.length<=n:=by
  unfold OpenLaw.pre at hc;have U:(WTm.not<|.lt (.lit<|.int (n:Int))<|.len<|.arg 0).holds [] {args:=[.list (ns.map .int)]}=true:=by
   have U:=(holds_andW hc).1;rw[hn]at U;exact U
  have Y:=condW_of U (w_not<|w_lt w_lit<|w_len_list<|w_arg M);rw[Q0]at Y;refine Nat.le_of_not_lt λq=>?_;have q':(n:Int)<((ns.length:Nat):Int):=()
  first
   |(rw[Vy q']at Y;exact Vt Y (_))
   |(simp at Y;lia)
 cases Z with
 |cons w1 w2=>
  cases w2;cases w1 with
  |list ho O=>exact⟨_,_,ns,M,M,ho,vM ns _ O,I⟩
def FI (l:OpenLaw) (args:List WData):l.row.toRowW.claim.post args (.bool true) args=true:=
 postW_of (r:=l.row.toRowW) (X:=(true==true))
  (show WShape.has [] (.bool true) .bool=true by first|rfl|decide|simp[WShape.has,WShape.arms,WShape.armsAll])
  (show(WTm.eq .res<|.lit<|.bool true).value [] {args:=args,res:=some (.bool true),after:=args}=some (.bool<|true==true) from w_eq_bool (w_res M) w_lit) M
def attach_call {q:Program} {loose:List Str} {XP:(Str->Option Value)->Heap->Prop} {d:DefRec}
  (hn:l.most=some n) (a1:d.params.defaults=[])
  (call:∀(w:World) (s₀ s₁:Shared) (mg mb:Str->Option Value) (O:Addr) (o:Obj) (pm cd z:Value) (a:Addr) (vs:List Value) (ns:List Int),
   Ground q loose [] XP w s₀ mg mb s₁.heap->YP w s₁.heap->
   s₁.heap.get? O=some o->o.data= .func (docDef d.name d.params d.body d.scope pm cd z)->s₁.heap.CodeRec cd d.name->mg d.name=some (.ref O)->
   s₁.heap.get? a=some {cls:= .type "list",data:= .seq vs.toArray}->IntsAre vs ns->ns.length<=n->s₁.gens= #[]->
   codeAny (model l.prog w) callerA (.call (.ref O) ⟨[.ref a],[]⟩) (λr s'=>r= .ok (.ret<|.bool true)/\OldK s₁.heap s'.heap/\s'.os=s₁.os/\AllBare s'.gens) s₁):
  WalkO q loose XP YP l.row.toRowW d [] (λf vs=>PySem.call f vs):=by
 intro w s₀ s₁ mg mb G Y O o pm cd z dV kV ho hd a2 hD a3 hg args a5 as U aa ab a4 ah;obtain rfl:dV= .none:=Dflts.none hD a1;obtain rfl:kV= .none:=Dflts.noKw hD;obtain⟨a,vs,ns,rfl,rfl,Z,I,a0⟩:=FD hn U a4;refine enter_call<|codeAny_mono (call w s₀ s₁ mg mb O o pm cd z a vs ns G Y ho (fd_plain hd) a2 a3 Z I a0 hg) λr s' hq=>?_;obtain⟨rfl,h2,h3,h4⟩:=hq;exact⟨.inl ⟨.bool true,.bool true,[],M,λ_=>M,.bool true,FI l _,λ_=>⟨VJ,λ_ hm=>(nomatch hm)⟩⟩,h2,h3,h4⟩
end Att
namespace L2
open PySem PySem.Spec PyProof.Rows
variable {a f:Addr} {X:Cx} {fd:FuncData} {base:Heap} {H:Hp} {ns:List Int} {N:List Str} {n:Nat} {P:Program} {A JJ c:Prop} {K:JK} {sp:Sp} {B:St} {st:Stmt} {qual x:Str} {nx:St->Hp->Prop} {g:TG} {tb:TS} {Φ:TS->Prop} {F:TS->TS->TS} {rt:VK} {w:World} {YP:World->Heap->Prop}
def zy:∀{vs:List Value} {ns:List Int},IntsAre vs ns->GA (ns.map V.int) vs
 |_,_,.nil=> .nil
 |_,_,.cons n t h=> .cons ⟨t,M⟩ (zy h)
def Nv (H:Hp):Prop:=∀b,H b=none\/∃o xs,H b=some (.frz o<|.lst xs)
def Ih {mg mb:Str->Option Value} {CX:CXT} {k:Nat} {fa:Addr} {s₁:Shared} {vs:List Value} 
  (KX:K.In s₁.heap) (Y:s₁.heap.Ns mainGlobals mg) (hb:s₁.heap.Ns builtinsNs mb) (a3:∀x:Str,x≠"__name__"->mb x=bootBuiltins x) (Z:s₁.heap.NoLimit) (hg:s₁.gens= #[])
  (ha:s₁.heap.get? a=some {cls:= .type "list",data:= .seq vs.toArray}) (hi:IntsAre vs ns) (hl:ns.length<=sizeLine) (hr:OV k callerA)
  (F:∀base:Heap,K.In base->base.Ns mainGlobals mg->CU P w K mg base CX k fa fd [x] sp) (U:∀(s:Shared) (u:Value),BindsTo s fd ⟨[u],[]⟩ [(x,u)])
  (a4:∀H:Hp,Nv H->Fb K H a (ns.map V.int)->sp [.ref a] H (λv _=>v= .bl true) λ_ _ _=>False)
  (a5:∀H e s',CX [] H s₁ (λ_ _ _=>False) e s'->False):
  codeAny (model P w) callerA (.call (.ref fa) ⟨[.ref a],[]⟩) (λr s'=>r= .ok (.ret<|.bool true)/\OldK s₁.heap s'.heap/\s'.os=s₁.os/\AllBare s'.gens) s₁:=by
 have rv:=zy hi;have a0:=hi.length;have O:∀H:Hp,Nv H->Fb K H a (ns.map V.int)->PM P w H s₁.heap->(∀b,H b≠none->b=a)->(H a≠none->K.lookup a=none)->
   codeAny (model P w) callerA (.call (.ref fa) ⟨[.ref a],[]⟩) (λr s'=>r= .ok (.ret<|.bool true)/\OldK s₁.heap s'.heap/\s'.os=s₁.os/\AllBare s'.gens) s₁:=by
  intro H hO hS hok hA hK;have G:∀{b:Addr} {o:Obj},s₁.heap.get? b=some o->H b=none->(Bi s₁.heap H).get? b=some o:=λe n=>Iu e n;have aa:∀{b:Addr} {o:Obj} {es:Array DictEntry} {ep:Nat},s₁.heap.get? b=some o->o.data= .dict es ep->H b=none:=λ{b o es ep} e d=>by
   cases q:H b with
   |none=>rfl
   |some u=>
    have e':b=a:=hA b (by rw[q];simp);subst e';rw[ha]at e;cases e;have d':Data.seq vs.toArray _=Data.dict es ep:=d;cases d'
  have I:∀{b:Addr} {m:Str->Option Value},s₁.heap.Ns b m->(Bi s₁.heap H).Ns b m:=λ{b m} ⟨o,es,ep,e,d,r⟩=>⟨o,es,ep,G e<|aa e d,d,r⟩;have a1:K.In (Bi s₁.heap H):=λb o e=>G (KX b o e) (by
   cases q:H b with
   |none=>rfl
   |some u=>
    have e':b=a:=hA b (by rw[q];simp);subst e';rw[hK (by rw[q];simp)]at e;cases e)
  have hM:Mod K mg (Bi s₁.heap H):=⟨a1,I Y,⟨mb,I hb,a3⟩,let⟨mc,h1,h2⟩:=Z;⟨mc,I h1,h2⟩⟩;have e0:RP P w K mg (Bi s₁.heap H) callerA [] s₁ H:=⟨M,hM,λb o e=>Ky e,Zw<|Gg _ _,trivial,λb hb=>Vt (show b∈([]:List Addr) from hb) (by simp),hok,.of_eq hg⟩;refine codeAny_mono ((F _ a1<|I Y).run callerA [] s₁ H ⟨[.ref a],[]⟩ [.ref a] [.ref a] _ _ hr e0 (U s₁<|.ref a) (.cons M .nil)<|a4 H hO hS) λr s' h=>?_;cases r with
  |error e=>exact(a5 H e s' h).elim
  |ok fl=>
   cases fl with
   |next=>exact False.elim h
   |brk=>exact False.elim h
   |cont=>exact False.elim h
   |ret u=>
    obtain⟨v,H',os,bare,un,a2,r',q⟩:=h;have q':v= .bl true:=q;subst q';obtain rfl:u=Value.bool true:=r';refine⟨M,OldK.of_keep λb o e=>?_,os,bare⟩;cases q:H b with
    |none=>exact un.keep b o e q (by intro z;exact Vt (show b∈([]:List Addr) from z)<|by simp)<|by simp
    |some u=>
     rcases hO b with z|⟨ob,xs,z⟩
     .rw[q]at z;cases z
     .have z2:=un.frzs b ob _ z;obtain⟨e1,_⟩:=hok b _ z;obtain⟨e2,_⟩:=a2 b _ z2;rw[e]at e1;cases e1;exact e2
 cases hk:K.lookup a with
 |some o=>
  have e:=KX a o hk;rw[ha]at e;cases e;refine O (λ_=>none) (λ_=> .inl M) (.inr ⟨_,vs.toArray,_,hk,M,M,M,by rwa[Qi,a0],by simpa using rv⟩) (λb u z=>by have z':(none:Option HO)=some u:=z;cases z') (λb z=>Vt M z) λz=>Vt M z
 |none=>
  refine O (λb=>if b=a then some (.frz {cls:= .type "list",data:= .seq vs.toArray} (.lst<|ns.map V.int))else none) (λb=>?_) (.inl<|.inr ⟨{cls:= .type "list",data:= .seq vs.toArray},Vp M⟩) (λb u z=>?_) (λb z=>?_) λ_=>hk
  .by_cases hb:b=a
   .exact .inr ⟨_,_,Vp hb⟩
   .exact .inl<|Vo hb
  .by_cases hb:b=a
   .have z':=(Vp hb).symm.trans z;cases z';subst hb;exact⟨ha,by rwa[Q0],vs,_,rv,ha⟩
   .have z':=(Vo hb).symm.trans z;cases z'
  .by_cases hb:b=a
   .exact hb
   .exact Vt (Vo hb) z
def walk_of {l:PySem.W.OpenLaw} {k:Nat} {q:Program} {loose:List Str} {XP:(Str->Option Value)->Heap->Prop} {d:DefRec} {K:Params->JK} {CX:World->CXT} {sp:World->Sp} 
  (hn:l.most=some n) (Z:n<=sizeLine) (a0:d.params.defaults=[]) (hr:OV k callerA)
  (hY:∀(w:World) (h:Heap),YP w h->(K w.params).In h)
  (F:∀(w:World) (mg:Str->Option Value) (U:Addr) (h:Heap),(K w.params).In h->h.Ns mainGlobals mg->mg d.name=some (.ref U)->
   ∃fd:FuncData,(∀(s:Shared) (u:Value),BindsTo s fd ⟨[u],[]⟩ [(x,u)])/\
    ∀base:Heap,(K w.params).In base->base.Ns mainGlobals mg->CU l.prog w (K w.params) mg base (CX w) k U fd [x] (sp w))
  (a1:∀(w:World) (H:Hp) (a:Addr) (ns:List Int),ns.length<=n->Nv H->Fb (K w.params) H a (ns.map V.int)->sp w [.ref a] H (λv _=>v= .bl true) λ_ _ _=>False)
  (a2:∀(w:World) (H:Hp) (s:Shared) (e:Value) (s':Shared),CX w [] H s (λ_ _ _=>False) e s'->False):
  PySem.W.WalkO q loose XP YP l.row.toRowW d [] (λf vs=>PySem.call f vs):=by
 refine Att.attach_call hn a0 λw s₀ s₁ mg mb U o pm cd a4 a vs ns G Y ho hd a5 a3 O I z hg=>?_;have KX:=hY w _ Y;obtain⟨fd,hb,hF⟩:=F w mg U _ KX G.T.g a3;exact Ih KX G.T.g G.T.b G.T.builtins G.T.nolimit hg O I (Qz z Z) hr hF hb (λH hO hS=>a1 w H a ns z hO hS) λH e s'=>a2 w H s₁ e s'
abbrev OL:CXT:=λ_ _ _ _ _ _=>False
abbrev E0:XK:=λ_ _ _=>False
def ay:mB OL X E0:=λ_ _ _ _ _ _ _ h=>h.elim
structure OQ (K:JK) (x qual:Str) (st:Stmt) (f:Addr) (fd:FuncData):Prop where
 ex:∃(oc:Value) (od:Option Addr) (kV doc pm:Value) (an:Option Addr) (cdv ct:Value) (osl:Array (Option Value)),
  fd=PySem.W.fnOf x qual (iB st) (eQ st) (al st) .none kV doc pm an cdv ct/\K.lookup f=some ⟨oc,od,.func fd,osl⟩/\PySem.W.codeIn K cdv qual=true
 kp:PySem.W.keepIn K (.ref f)=true
section
variable {mg:Str->Option Value}
def OQ.ok {ps:List Str} {k:Nat} (F:OQ K x qual st f fd) (S:ar N ps (al st)) (len:∀vs H Q E,sp vs H Q E->vs.length=ps.length)
  (G:∀(z:Value) (A:Around) (outer:List Env) (s:Shared) (H:Hp) (vs:List V) (Q:VK) (E:XK),OV k (A.deeper<|envOfC qual (al st) s.heap.objs.size f z)->sp vs H Q E->
   ∃t,PY (CO OL P w K mg base N qual (al st) f z A outer s H E).nox (eQ st) t/\t {nx:=λ_ H'=>Q .non H',rt:=Q} (start N vs) H):CU P w K mg base OL (k+1) f fd ps sp:=by
 obtain⟨oc,od,kV,U,pm,an,z,ct,Y,rfl,Z,I⟩:=F.ex;refine LL Z I S len λA outer s H vs Q E hr O=>?_;obtain⟨t,h,q⟩:=G z A outer s H vs Q E hr O;exact⟨t,h.nox,q⟩
def Nf {Y:Value} {Z O:Option Addr} {I:Array (Option Value)} {kV G U z ct:Value} (l:K.lookup f=some ⟨Y,Z,.func<|PySem.W.fnOf x qual (iB st) (eQ st) (al st) .none kV G U O z ct,I⟩)
  (c:PySem.W.codeIn K z qual=true) (k:PySem.W.keepIn K (.ref f)=true):OQ K x qual st f (PySem.W.fnOf x qual (iB st) (eQ st) (al st) .none kV G U O z ct):=⟨⟨Y,Z,kV,G,U,O,z,ct,I,M,l,c⟩,k⟩
end
def i8 {A:Around} {k:Nat} (z:OV k A):A.units+1<cLine:=Xj (Nat.add_le_add_left (by decide:1<=64) _) z.units
def cU (h:n<=1000):n<sizeLine:=Xj h (_)
def pv (i:Nat) {x:Str} {pos:Pos} (hN:X.N[i]?=some x:=by rfl) (G:SJ X.env.scope x:=by first|exact Or.inl M|exact Or.inr (Or.inl M)|exact Or.inr<|Or.inr M) (hd:(x==("__debug__":Str))=false:=by decide)
  (z:(x==("__classdict__":Str))=false:=by decide):PE X (.Name x pos) (Mf i):=MC hN G hd z
def cu (h:JJ):if false=true then A else JJ:=by
 rwa[Vo Qe]
def cH (h:A):if true=true then A else JJ:=by
 rwa[Vp M]
def bQ [Decidable c] (h1:c->A) (h2:¬c->JJ):if c then A else JJ:=by
 by_cases h:c
 .rw[Vp h];exact h1 h
 .rw[Vo h];exact h2 h
def i7 [Decidable c] (hc:c) (h:JJ):if(!decide c)=true then A else JJ:=by
 rw[Vy hc];exact cu h
def Fa (H H':Hp):Prop:=∀b o,H b=some o->H' b=some o
def Fa.refl (H:Hp):Fa H H:=λ_ _ h=>h
def Fa.trans {H1 H2:Hp} (a:Fa H H1) (b:Fa H1 H2):Fa H H2:=λc o h=>b c o (a c o h)
def Gs:gb X (.builtin "len") (λxs H Q=>∃a kvs,xs=[V.ref a]/\H a=some (.dK kvs)/\Q (.int kvs.length) H):=by
 intro W s B H xs us Q I r h;obtain⟨a,kvs,rfl,ha,q⟩:=h;obtain⟨u,rfl,z⟩:=mC r;cases z;exact OA I (.inl ha) λt s' G=>⟨.int kvs.length,H,G,⟨t,M⟩,q⟩
section
variable {κ:Type} [DecidableEq κ]
def GZ {kvs:List (κ×V)} {k:κ} (h:aG kvs k=none):¬k∈kvs.map (·.1):=by
 intro m;obtain⟨p,z,e⟩:=Q9.mp m;have q:(kvs.any λkv=>decide (kv.1=k))=true:=Xr.mpr ⟨p,z,Vy e⟩;rw[dt,h]at q;exact Vt q<|by simp
def vR {kvs:List (κ×V)} {k:κ} {v:V} (h:aG kvs k=some v):k∈kvs.map (·.1):=by
 have q:(kvs.any λkv=>decide (kv.1=k))=true:=by
  rw[dt,h]
  all_goals rfl
 obtain⟨p,z,e⟩:=Xr.mp q;exact Q9.mpr ⟨p,z,Vw e⟩
def EL:∀{l:List κ} {k:κ},l.Nodup->¬k∈l->(l++ [k]).Nodup
 | [],k,_,_=>by simp
 |a::r,k,h,hk=>by
  obtain⟨h1,h2⟩:=QQ.mp h;show(a::(r++ [k])).Nodup;refine QQ.mpr ⟨λm=>?_,EL h2 λm=>hk<|Qh.mpr (Or.inr m)⟩;rcases Q5.mp m with q|q
  .exact h1 q
  .exact hk<|Qh.mpr (Or.inl (Q7.mp q).symm)
def KA {kvs:List (κ×V)} {k:κ} (v:V) (z:(kvs.map (·.1)).Nodup) (h:aG kvs k=none):((bi kvs k v).map (·.1)).Nodup:=by
 rw[wY v h,Qg];exact EL z<|GZ h
def uE {p:κ×V} {r:List (κ×V)} {k:κ} (e:p.1=k):bM (p::r) k=bM r k:=by
 unfold bM;rw[X7,Vo (by simp[e])]
def pG {p:κ×V} {r:List (κ×V)} {k:κ} (e:¬p.1=k):bM (p::r) k=p::bM r k:=by
 unfold bM;rw[X7,Vp (by simp[e])]
def CJ:∀{kvs:List (κ×V)} {k:κ},¬k∈kvs.map (·.1)->bM kvs k=kvs
 | [],_,_=>rfl
 |p::r,k,h=>by
  have h':¬k∈r.map (·.1):=λm=>by
   obtain⟨q,hq,e⟩:=Q9.mp m;exact h<|Q9.mpr ⟨q,Qh.mpr<|Or.inr hq,e⟩
  rw[pG λe=>h (Q9.mpr ⟨p,Qh.mpr<|Or.inl M,e⟩),CJ h']
def Aa {kvs:List (κ×V)} {k:κ} {p:κ×V} (h:p∈bM kvs k):p∈kvs:=(Qu.mp h).1
def sf:∀{kvs:List (κ×V)} {k:κ},(kvs.map (·.1)).Nodup->((bM kvs k).map (·.1)).Nodup
 | [],_,_=>Z0
 |p::r,k,h=>by
  have h:(p.1::r.map (·.1)).Nodup:=h;obtain⟨h1,h2⟩:=QQ.mp h;by_cases e:p.1=k
  .rw[uE e];exact sf h2
  .rw[pG e];show(p.1::(bM r k).map (·.1)).Nodup;refine QQ.mpr ⟨λm=>h1 ?_,sf h2⟩;obtain⟨q,hq,z⟩:=Q9.mp m;exact Q9.mpr ⟨q,Aa hq,z⟩
def Ab:∀{kvs:List (κ×V)} {k:κ},(kvs.map (·.1)).Nodup->k∈kvs.map (·.1)->(bM kvs k).length+1=kvs.length
 | [],_,_,m=>by simp at m
 |p::r,k,h,m=>by
  have h:(p.1::r.map (·.1)).Nodup:=h;have m:k=p.1\/k∈r.map (·.1):=Qh.mp m;obtain⟨h1,h2⟩:=QQ.mp h;by_cases e:p.1=k
  .subst e;rw[uE M,CJ h1]
   all_goals rfl
  .have m':k∈r.map (·.1):=m.resolve_left λz=>e z.symm;have q:=Ab h2 m';rw[pG e,Qo,Qo];lia
end
def bf:bootBuiltins "len"=some (.builtin "len"):=by decide+kernel
def cy:bootBuiltins "isinstance"=some (.builtin "isinstance"):=by decide+kernel
def uN:bootBuiltins "min"=some (.builtin "min"):=by decide+kernel
def uM:bootBuiltins "sorted"=some (.builtin "sorted"):=by decide+kernel
def IZ:bootBuiltins "int"=some (.type "int"):=by decide+kernel
def Fd:bootBuiltins "bool"=some (.type "bool"):=by decide+kernel
def Nk:bootBuiltins "str"=some (.type "str"):=by decide+kernel
def Bs:bootBuiltins "max"=some (.builtin "max"):=by decide+kernel
def Fc:bootBuiltins "list"=some (.type "list"):=by decide+kernel
def vZ:bootBuiltins "dict"=some (.type "dict"):=by decide+kernel
def Ik:PySem.W.kitOne K (.type "int") (.type "int")=some true:=by kernel_rfl
def Il:PySem.W.kitOne K (.type "int") (.type "bool")=some false:=by kernel_rfl
def MT:PySem.W.kitOne K (.type "bool") (.type "int")=some true:=by kernel_rfl
def MU:PySem.W.kitOne K (.type "bool") (.type "bool")=some true:=by kernel_rfl
def MS:PySem.W.kitOne K (.type "NoneType") (.type "int")=some false:=by kernel_rfl
def MR:PySem.W.kitOne K (.type "str") (.type "int")=some false:=by kernel_rfl
def mW [Decidable c] (hc:c) (h:A):if decide c=true then A else JJ:=by
 rw[Vy hc];exact cH h
def a9 [Decidable c] (hc:¬c) (h:JJ):if decide c=true then A else JJ:=by
 rw[VA hc];exact cu h
def Eg [Decidable c] (hc:¬c) (h:A):if(!decide c)=true then A else JJ:=by
 rw[VA hc];exact cH h
def fc {xs:List V} (Pv:Nat->St->Hp->Prop) (I:Pv 0 B H) (hl:∀i B H,i<=xs.length->Pv i B H->Fb K H a xs)
  (hs:∀i x B H,xs[i]?=some x->Pv i B H->g x B H λz H2=>tb ⟨Pv<|i+1,rt,nx,Pv<|i+1⟩ z H2) (hd:∀B H,Pv xs.length B H->nx B H):
  ∃Jl:Nat->Nat->St->Hp->Prop,(∃m,Jl 0 m B H)/\∀i m B H,Jl i m B H->
   ((RS K a).stop i H/\nx B H)\/((RS K a).go i H/\∃N:St->Hp->Prop,(∀G H',N G H'->∃m',m'<m/\Jl (i+1) m' G H')/\∀x H',(RS K a).yld i H x H'->g x B H' λz H2=>tb ⟨N,rt,nx,N⟩ z H2):=
 ID (D:=⟨nx,rt,λ_ _=>False,λ_ _=>False⟩) Pv I hl hs hd
def xM {lo:Int} (Pv:Nat->St->Hp->Prop) (I:Pv 0 B H)
  (hs:∀i B H,i<n->Pv i B H->g (.int<|lo+i) B H λz H2=>tb ⟨Pv<|i+1,rt,nx,Pv<|i+1⟩ z H2) (hd:∀B H,Pv n B H->nx B H):
  ∃Jl:Nat->Nat->St->Hp->Prop,(∃m,Jl 0 m B H)/\∀i m B H,Jl i m B H->
   ((Rb lo n).stop i H/\nx B H)\/((Rb lo n).go i H/\∃N:St->Hp->Prop,(∀G H',N G H'->∃m',m'<m/\Jl (i+1) m' G H')/\∀x H',(Rb lo n).yld i H x H'->g x B H' λz H2=>tb ⟨N,rt,nx,N⟩ z H2):=
 zZ (D:=⟨nx,rt,λ_ _=>False,λ_ _=>False⟩) Pv I hs hd
def xW {k:Int} (G:0<=k) (h:k<(ns.length:Int)):RF (ns.map V.int) k=some (.int<|ns.getD k.toNat 0):=by
 obtain⟨j,rfl⟩:=Z6 G;refine sP ?_;have z:j<ns.length:=();rw[Qn,Q3 z,QJ,Qk,Q3 z];rfl
def IW {k:Int} (h:¬k<(ns.length:Int)):ns.getD k.toNat 0=0:=by
 rw[Qk,XC ()];rfl
def jB:gb X (.builtin "isinstance") (λxs H Q=>∃x n t b,xs=[x,.ty n]/\P0 X.K H x t/\PySem.W.kitOne X.K t (.type n)=some b/\Q (.bl b) H):=by
 intro W s B H xs us Q I r h;obtain⟨x,n,t,b,rfl,ty,e,q⟩:=h;obtain⟨u,w',rfl,G,z⟩:=uS r;cases (show w'=Value.type n from z);exact zW I G ty e λtk=>⟨.bl b,H,I.tok _,M,q⟩
def zM:Pa X (compareOp .IsNot) (λx y H Q=>∃a b,x= .bl a/\y= .bl b/\Q (.bl<|a !=b) H):=by
 intro W s B H x y v u Q I z G h;obtain⟨a,b,rfl,rfl,q⟩:=h;cases z;cases G;exact isnot_bool<|bp I q M
def OP {P:List Str} {sc:Scope} (a:sc.kind= .function:=by rfl) (b:sc.isCoroutine=false:=by rfl) (c:sc.isGenerator=false:=by rfl) (d:N.Nodup:=by decide+kernel) (e:N.take P.length=P:=by rfl) (f:∀x∈P,sc.names.lookup x=some .local\/sc.names.lookup x=some .cell:=by decide+kernel) (g:∀y∈sc.names,y.2≠ .free:=by decide+kernel):ar N P sc:=⟨a,b,c,d,e,f,g⟩
def OV.mo {j k:Nat} {A:Around} (r:OV k A) (h:j<=k:=by decide):OV j A:=r.mono h
def OQ.okl {mg:Str->Option Value} {ps:List Str} {k:Nat} (F:OQ K x qual st f fd) (S:ar N ps (al st))
  (G:∀{z:Value} {A:Around} {outer:List Env} (s:Shared) (H:Hp) (vs:List V) (Q:VK) (E:XK),OV k (A.deeper<|envOfC qual (al st) s.heap.objs.size f z)->sp vs H Q E->
   N.Nodup->let X:=(CO OL P w K mg base N qual (al st) f z A outer s H E).nox
   ∃t,PY X (eQ st) t/\t {nx:=λ_ H'=>Q .non H',rt:=Q} (start N vs) H)
  (len:∀vs H Q E,sp vs H Q E->vs.length=ps.length:=by intro _ _ _ _ h;repeat (first|(obtain⟨rfl,_⟩:=h;exact M)|obtain⟨_,h⟩:=h)):CU P w K mg base OL (k+1) f fd ps sp:=F.ok S len λz A outer s H vs Q E I h=>G s H vs Q E I h S.nd
section
variable {pos:Pos}
abbrev BC {X:Cx}:= @pv X 0
abbrev M2 {X:Cx}:= @pv X 1
abbrev O1 {X:Cx}:= @pv X 2
abbrev OR {X:Cx}:= @pv X 3
abbrev PF {X:Cx}:= @pv X 4
abbrev Pj {X:Cx}:= @pv X 5
abbrev RN {X:Cx}:= @pv X 6
abbrev SN {X:Cx}:= @pv X 7
abbrev Rt {X:Cx}:= @pv X 8
abbrev Ry {X:Cx}:= @pv X 9
abbrev pv10 {X:Cx}:= @pv X 10
abbrev pv11 {X:Cx}:= @pv X 11
abbrev My {X:Cx}:= @pv X 13
abbrev pv14 {X:Cx}:= @pv X 14
def Pr (i:Nat) (hN:X.N.Nodup:=by assumption) (hi:X.N[i]?=some x:=by rfl) (hx:Loc X.env.scope x:=by exact Or.inl M) (hf:X.fn x=true\/X.env.scope.names.lookup x=some .local:=by first|exact .inl M|exact .inr M|assumption):PG X (.Name x pos) (fL i):=EI hN hi hx hf
def OM (i:Nat) {e:Expr} {te:TE} {pos':Pos} (he:PE X e te) (hN:X.N.Nodup:=by assumption) (hi:X.N[i]?=some x:=by rfl) (hx:Loc X.env.scope x:=by exact Or.inl M) (hs:swapsWith e (some<|.Name x pos') pos.line X.env=pure false:=by rfl) (hf:X.fn x=true\/X.env.scope.names.lookup x=some .local:=by first|exact .inl M|exact .inr M|assumption):PS X (.Assign [.Name x pos'] e pos) (G9 te<|fL i):=nR hN hi hx he hs hf
end
section
variable {rest A JJ:List Stmt} {t:TS}
def aA (h:PS X st t) (k:Φ t):∃v,PY X [st] v/\Φ v:=⟨_,az h,k⟩
def aj (h:PS X st t) (k:∃u,PY X rest u/\(let JJ:=u;Φ (Az t JJ))):∃v,PY X (st::rest) v/\Φ v:=by
 obtain⟨u,hu,k⟩:=k;exact⟨_,nP h hu,k⟩
def oo {F:TS->TS} (z:∀{x},PY X A x->PS X st (F x)) (k:∃a,PY X A a/\(let b:=a;Φ (F b))):∃v,PY X [st] v/\Φ v:=by
 obtain⟨a,ha,k⟩:=k;exact⟨_,az<|z ha,k⟩
def bU {F:TS->TS} (z:∀{x},PY X A x->PS X st (F x)) (k:∃a,PY X A a/\(let b:=a;∃u,PY X rest u/\(let JJ:=u;Φ (Az (F b) JJ)))):∃v,PY X (st::rest) v/\Φ v:=by
 obtain⟨a,ha,u,hu,k⟩:=k;exact⟨_,nP (z ha) hu,k⟩
def LF (z:∀{x y},PY X A x->PY X JJ y->PS X st (F x y)) (k:∃a,PY X A a/\(let b:=a;∃c,PY X JJ c/\(let d:=c;Φ (F b d)))):∃v,PY X [st] v/\Φ v:=by
 obtain⟨a,ha,c,hc,k⟩:=k;exact⟨_,az<|z ha hc,k⟩
def Ob (z:∀{x y},PY X A x->PY X JJ y->PS X st (F x y)) (k:∃a,PY X A a/\(let b:=a;∃c,PY X JJ c/\(let d:=c;∃u,PY X rest u/\(let JJ:=u;Φ (Az (F b d) JJ))))):∃v,PY X (st::rest) v/\Φ v:=by
 obtain⟨a,ha,c,hc,u,hu,k⟩:=k;exact⟨_,nP (z ha hc) hu,k⟩
end
end L2
namespace SW
variable {m n:Int} {a b:Nat}
noncomputable def rv:Nat->Nat->Nat
 |0,_=>0
 |k+1,n=>(n%2)*2^k+rv k (n/2)
def EF:∀(k n:Nat),rv k n<2^k
 |0,_=>by simp[rv]
 |k+1,n=>by
  have h:=EF k (n/2);have m:n%2<2:=Nat.mod_lt _ (_);have e:rv (k+1) n=(n%2)*2^k+rv k (n/2):=M;have p:2^(k+1)=2*2^k:=by rw[ZW,ZX]
  rw[e,p];rcases Nat.mod_two_eq_zero_or_one n with z|z<;>rw[z]<;>lia
def AQ:∀(k n:Nat),rv (k+1) n=rv k n*2+(n/2^k)%2
 |0,n=>by simp[rv]
 |k+1,n=>by
  have h:=AQ k (n/2);have z:rv (k+2) n=(n%2)*2^(k+1)+rv (k+1) (n/2):=M;have e2:rv (k+1) n=(n%2)*2^k+rv k (n/2):=M;have d:n/2/2^k=n/2^(k+1):=by
   rw[Xx,ZW,ZX]
  rw[z,e2,h,d,ZW];rw[Va,Nat.mul_assoc];lia
def DW:∀(k n:Nat),rv k (n%2^k)=rv k n
 |0,_=>rfl
 |k+1,n=>by
  have p:2^(k+1)=2*2^k:=by rw[ZW,ZX]
  have z:n%2^(k+1)%2=n%2:=by
   rw[p];exact Nat.mod_mul_right_mod n 2<|2^k
  have e2:n%2^(k+1)/2=n/2%2^k:=by
   rw[p];exact Nat.mod_mul_right_div_self n 2 (2^k)
  show(n%2^(k+1)%2)*2^k+rv k (n%2^(k+1)/2)=(n%2)*2^k+rv k (n/2);rw[z,e2,DW k (n/2)]
def EE:∀k,rv k 0=0
 |0=>rfl
 |k+1=>by show(0%2)*2^k+rv k (0/2)=0;rw[Nat.zero_div,EE k];simp
def rP:∀(a b n:Nat),rv (a+b) n=rv a n*2^b+rv b (n/2^a)
 |0,b,n=>by simp[rv]
 |a+1,b,n=>by
  have h:=rP a b (n/2);have e:a+1+b=(a+b)+1:=();have d:n/2/2^a=n/2^(a+1):=by
   rw[Xx,ZW,ZX]
  rw[e];show(n%2)*2^(a+b)+rv (a+b) (n/2)=((n%2)*2^a+rv a (n/2))*2^b+_;rw[h,d,Va,Nat.mul_assoc,<-Nat.pow_add];lia
def Hl:∀(k n:Nat),rv k (rv k n)=n%2^k
 |0,n=>by simp[rv,Nat.mod_one]
 |k+1,n=>by
  have e:rv (k+1) n=rv k n*2+(n/2^k)%2:=AQ k n;have z:(rv k n*2+(n/2^k)%2)%2=(n/2^k)%2:=();have e2:(rv k n*2+(n/2^k)%2)/2=rv k n:=();rw[e];show(rv k n*2+(n/2^k)%2)%2*2^k+rv k ((rv k n*2+(n/2^k)%2)/2)=n%2^(k+1);rw[z,e2,Hl k n,ZW,Nat.mod_mul,ZX (2^k)];lia
def Mu {n:Nat}:rv (a+b) n/2^b=rv a n:=by
 have l:=EF b (n/2^a);rw[rP a b n,ZX,Nat.mul_add_div (Nat.two_pow_pos b),Nat.div_eq_of_lt l,ZY]
def Kf {s:Nat} (h:s<2^a):rv (a+b) s=rv a s*2^b:=by
 rw[rP a b s,Nat.div_eq_of_lt h,EE,ZY]
@[irreducible] def tz (n:Int):Int:=((rv 16 n.toNat:Nat):Int)
@[irreducible] def rz (a:Nat) (n:Int):Int:=((rv a n.toNat:Nat):Int)
def tI (n:Int):0<=tz n:=by unfold tz;exact XQ _
def Lp (n:Int):tz n<65536:=by
 have h:=EF 16 n.toNat;have e:(2:Nat)^16=65536:=by decide
 unfold tz;lia
def EC (z:0<=n) (h1:n<65536):tz (tz n)=n:=by
 have h:=Hl 16 n.toNat;have e:(2:Nat)^16=65536:=by decide
 unfold tz;rw[QJ,h,e];lia
def L9 (z:0<=n) (h1:n<65536) (k0:0<=m) (G:m<65536) (e:tz n=tz m):n=m:=by
 rw[<-EC z h1,<-EC k0 G,e]
def Fu (i:Nat) (m:Nat):((rv i m:Nat):Int)*2+((m/2^i:Nat):Int)%2=((rv (i+1) m:Nat):Int):=by
 rw[AQ];lia
def Fv (i:Nat) (m:Nat):((m/2^i:Nat):Int)/2=((m/2^(i+1):Nat):Int):=by
 have d:m/2^i/2=m/2^(i+1):=by rw[Xx,ZW]
 rw[<-d];lia
def FG (a:Nat) (n:Int):0<=rz a n:=by unfold rz;exact XQ _
def NX (a:Nat) (n:Int):rz a n<2^a:=by
 have h:=EF a n.toNat;unfold rz;have c:((rv a n.toNat:Nat):Int)<((2^a:Nat):Int):=by exact_mod_cast h
 simpa using c
def NW (a:Nat) (G:0<=n) (h1:n<2^a):rz a (rz a n)=n:=by
 obtain⟨m,rfl⟩:=Z6 G;have h:=Hl a m;have z:m<2^a:=by exact_mod_cast h1
 unfold rz;rw[QJ,QJ,h,Nat.mod_eq_of_lt z]
def J6 (z:a+b=16) {s:Int} (I:0<=s) (h1:s<2^a):tz s=rz a s*2^b:=by
 obtain⟨m,rfl⟩:=Z6 I;have G:m<2^a:=by exact_mod_cast h1
 have h:=Kf (b:=b) G;rw[z]at h;unfold tz rz;rw[QJ,h];simp
def L8 (z:a+b=16) (G:0<=m):tz m/2^b=rz a (m%2^a):=by
 obtain⟨n,rfl⟩:=Z6 G;have h:=Mu (a:=a) (b:=b) (n:=n);rw[z]at h;have e:((n:Int)%2^a).toNat=n%2^a:=by
  have c:((n:Int)%2^a)=((n%2^a:Nat):Int):=by simp
  rw[c,QJ]
 unfold tz rz;rw[QJ,e,DW,<-h];simp
structure Row (S:Int) (a b:Nat):Prop where
 ab:a+b=16
 lo:2<=a
 hi:a<=9
 eq:S=2^a
section
variable {S:Int} (R:Row S a b)
include R
theorem Row.mul:S*2^b=65536:=by
 rw[R.eq,<-Int.pow_add,R.ab];decide
theorem Row.wpos:(0:Int)<2^b:=Int.pow_pos (_)
theorem Row.pos:0<S:=by rw[R.eq];exact Int.pow_pos (_)
theorem Row.width:65536/S=2^b:=by
 rw[<-R.mul,Int.mul_ediv_cancel_left _ (QU R.pos)]
theorem Row.wpos':0<65536/S:=by rw[R.width];exact R.wpos
theorem Row.slot {s:Int} (G:0<=s) (h1:s<S):tz s=2^b*rz a s/\0<=rz a s/\rz a s<S/\rz a (rz a s)=s:=by
 have z:s<2^a:=by rwa[<-R.eq]
 refine⟨by rw[J6 R.ab G z,XX],FG _ _,by rw[R.eq];exact NX _ _,NW _ G z⟩
theorem Row.top (z:0<=m):2^b*rz a (m%S)<=tz m/\tz m<2^b*rz a (m%S)+2^b:=by
 have d:=L8 R.ab z;rw[<-R.eq]at d;have e:=XD (tz m) (2^b);have p:=Qf (tz m) (QU R.wpos);have q:=Qc (tz m) R.wpos;rw[d]at e;lia
theorem Row.mod0 (m:Int):0<=m%S:=Qf _ (QU R.pos)
theorem Row.mod1 (m:Int):m%S<S:=Qc _ R.pos
theorem Row.between {Jl x y p:Int} (z:0<Jl) (G:Jl*x<=p) (h1:p<Jl*x+Jl) (k0:Jl*y<=p) (I:p<Jl*y+Jl):x=y:=by
 rcases Int.lt_trichotomy x y with h|h|h
 .have:Jl*(x+1)<=Jl*y:=Vb () (XY z);rw[Int.mul_add]at this;lia
 .exact h
 .have:Jl*(y+1)<=Jl*x:=Vb () (XY z);rw[Int.mul_add]at this;lia
theorem Row.st_has (z:0<=m):tz (m%S)<=tz m/\tz m<tz (m%S)+65536/S:=by
 obtain⟨e,_⟩:=R.slot (R.mod0 m) (R.mod1 m);have t:=R.top z;rw[R.width,e];exact t
end
def qK {k:Nat} (h:k<=6):Row (4*2^k) (k+2) (14-k):=by
 refine⟨(),(),(),?_⟩;rw[Int.pow_add];lia
end SW
namespace L2
open PySem PySem.Spec PyProof.Rows
abbrev uT:List Value:=[.type "ValueError",.type "Exception",.type "BaseException",.type "object"]
def NA (bm:List Value):Prop:=∃ups:List Addr,bm=ups.map Value.ref++uT
structure Eu (K:JK) (C:Addr) (bm:List Value):Prop where
 ob:∃nm q N bs sn sub ab col dd k0 k1 k2 k3 k5,K.lookup C=some (excClassObj nm q C N bs bm true sn sub ab col dd k0 k1 k2 k3 k5 "ValueError.__new__")
 mro:NA bm
 kp:PySem.W.keepIn K (.ref C)=true
 ga:PySem.W.findIn K (.ref C) "__getattribute__"=some (some<|.builtin "BaseException.__getattribute__")
 gn:PySem.W.findIn K (.ref C) "__getattr__"=some none
 sa:PySem.W.findIn K (.ref C) "__setattr__"=some (some<|.builtin "object.__setattr__")
open PySem.W
variable {E:Value->Shared->Prop}
section
variable {prog:Program} {w:World} {A:Around} {s:Shared} {K:JK} {e C:Addr} {bm:List Value}
structure XIs (K:JK) (C:Addr):Prop where
 ha:findIn K (.ref C) "__class__"=some (some<|.builtin "object.__class__")
 hn:specialIn K (.builtin "object.__class__") "__get__"=some (some<|.builtin "getset_descriptor.__get__")
 tk:takesIn K (.builtin "object.__class__")=some true
 hm:mroIn K C (.type "object")=some true
end
section
variable {X:Cx} {W:List (Addr×Obj)} {B:St} {H:Hp} {s:Shared}
def my (K:JK) (hK:X.K=K):gb X (.builtin "isinstance") (λxs H Q=>∃x D t b,xs=[x,.ref D]/\P0 K H x t/\kitOne K t (.ref D)=some b/\Q (.bl b) H):=by
 subst hK;intro W s B H xs us Q I r h;obtain⟨x,D,t,b,rfl,ty,e,q⟩:=h;obtain⟨u,w',rfl,G,z⟩:=uS r;cases (show w'=Value.ref D from z);exact zW I G ty e λtk=>⟨.bl b,H,I.tok _,M,q⟩
end
structure Jm (K:JK) (C:Addr) (m:Str) (v:Value):Prop where
 sp:specialIn K (.ref C) "__getattribute__"=some (some<|.builtin "type.__getattribute__")
 rd:readsIn K C (.type "type")=true
 at_:findCls K (.ref C) (.type "type") m=some (.val v)
section
variable {X:Cx} {W:List (Addr×Obj)} {B:St} {H:Hp} {s:Shared}
variable {CX:CXT} {k:Nat} {f C:Addr} {fd:FuncData} {ps:List Str} {sp:Sp} {dvs:List V} {ds:List Value} {E:XK} {x m:Str} {p pos apos:Pos} {e o:Expr} {es:List Expr} {ta:TE} {t:TA} {bm:List Value}
def AV {pl:Sem Bool} (Y:Gl X x) (Z:X.mg x=some (.ref C)) (hc:Jm X.K C m (.ref f)) (hk:PySem.W.keepIn X.K (.ref f)=true) (F:CU X.prog X.w X.K X.mg X.base CX k f fd ps sp) (hr:OV k X.A) (hb:Binds X.K fd ps ds) (hd:GA dvs ds) (hx:mB CX X E) (ha:PA X (e::es) t)
  (z:(x==("__debug__":Str))=false:=by decide)
  (G:starEach (e::es) X.env=(false,eval e X.env)::starEach es X.env:=by rfl) (O:(backTo pos<|starEach es X.env).any (·.1)=false:=by rfl)
  (ht:eval (.Call (.Attribute (.Name x p) m apos) (e::es) [] pos) X.env=(do
   let ov<-eval (.Name x p) X.env
   standAt apos.atName
   let(f,first)<-holding [ov] (getMethod ov m pl)
   callWith pos f first (backTo pos<|starEach (e::es) X.env) (backToKw pos<|keywordEach [] X.env)):=by rfl):
  PE X (.Call (.Attribute (.Name x p) m apos) (e::es) [] pos) (Lw sp dvs E t):=by
 intro W s B H Q I h;refine ZF (pl:=pl) (sr I Y Z ?_ z) ht;refine method_cls I.kIn hc.sp<|cls_value I.kIn hc.rd hc.at_ M ?_;refine ZV (first:=[]) (h₀:=X.base) I.ok.mod.kin hk (OI (ha pos W _ B H _ (I.tok _) h) λus s2 ⟨vs,H2,U,r,q2⟩=>⟨U.kIn,?_⟩) G O;exact t9 F hr hb hd hx U r q2
end
variable {T:Addr}
def js (K:JK) (fd:FuncData) (ps:List Str) (dvs:List V):Prop:=∃ds,Binds K fd ps ds/\GA dvs ds
structure Pw (K:JK) (x qual:Str) (st:Stmt) (f:Addr) (fd:FuncData):Prop where
 ex:∃(oc:Value) (od:Option Addr) (dV kV doc pm:Value) (an:Option Addr) (cdv ct:Value) (osl:Array (Option Value)),
  fd=fnOf x qual (iB st) (eQ st) (al st) dV kV doc pm an cdv ct/\K.lookup f=some ⟨oc,od,.func fd,osl⟩/\codeIn K cdv qual=true
 kp:keepIn K (.ref f)=true
section
variable {P:Program} {w:World} {K:JK} {mg:Str->Option Value} {base:Heap} {x qual:Str} {st:Stmt} {f:Addr} {fd:FuncData} {N ps:List Str} {k:Nat} {sp:Sp}
def Pw.ok (F:Pw K x qual st f fd) (S:ar N ps (al st)) (len:∀vs H Q E,sp vs H Q E->vs.length=ps.length)
  (G:∀(z:Value) (A:Around) (outer:List Env) (s:Shared) (H:Hp) (vs:List V) (Q:VK) (E:XK),OV k (A.deeper<|envOfC qual (al st) s.heap.objs.size f z)->sp vs H Q E->
   ∃t,PY (CO OL P w K mg base N qual (al st) f z A outer s H E).nox (eQ st) t/\t {nx:=λ_ H'=>Q .non H',rt:=Q} (start N vs) H):CU P w K mg base OL (k+1) f fd ps sp:=by
 obtain⟨oc,od,dV,kV,U,pm,an,z,ct,Y,rfl,Z,I⟩:=F.ex;refine LL Z I S len λA outer s H vs Q E hr O=>?_;obtain⟨t,h,q⟩:=G z A outer s H vs Q E hr O;exact⟨t,h.nox,q⟩
structure Nx (K:JK) (x qual:Str) (st:Stmt) (T f:Addr) (fd:FuncData):Prop where
 toD:Pw K x qual st f fd
 ex:∃(kV doc pm:Value) (an:Option Addr) (cdv ct:Value),fd=fnOf x qual (iB st) (eQ st) (al st) (.ref T) kV doc pm an cdv ct
def E1 {Y:Value} {Z O:Option Addr} {I:Array (Option Value)} {kV G U z ct:Value} (l:K.lookup f=some ⟨Y,Z,.func<|fnOf x qual (iB st) (eQ st) (al st) (.ref T) kV G U O z ct,I⟩)
  (c:codeIn K z qual=true) (k:keepIn K (.ref f)=true):Nx K x qual st T f (fnOf x qual (iB st) (eQ st) (al st) (.ref T) kV G U O z ct):=⟨⟨⟨Y,Z,_,kV,G,U,O,z,ct,I,M,l,c⟩,k⟩,⟨kV,G,U,O,z,ct,M⟩⟩
def cZ {dd:Option Addr} {items:Array Value} {n:Nat} {U:Array (Option Value)} {ds:List Value} (g:Nat) (Z:g+ds.length=ps.length) (F:Nx K x qual st T f fd) (Y:K.lookup T=some ⟨.type "tuple",dd,.seq items n,U⟩)
  (h:∀(kV z I:Value) (O:Option Addr) (G ct:Value) (us:List Value),us.length=g->∃k,bindArgs (fnOf x qual (iB st) (eQ st) (al st) (.ref T) kV z I O G ct) ⟨us,[]⟩=seqItems? (.ref T)>>=k/\k (some items)=pure (ps.zip<|us++ds)):
  Binds K fd ps ds:=by
 obtain⟨kV,z,I,O,G,ct,rfl⟩:=F.ex;intro s us X hl;obtain⟨k,h1,h2⟩:=h kV z I O G ct us (by rw[Q8]at hl;lia);exact BindsTo.of_defaults M (X _ _ Y) M h1 h2
end
end L2
namespace L2
open PySem PySem.Spec PyProof.Rows
open SeqAt
section
variable {X:Cx}
def eJ {st:Stmt}:PS X st (λ_ _ _=>False):=λ_ _ _ _ _ _ h=>h.elim
def PlainL.isL {h:Heap} {a:Addr} {xs:Array Value} (p:PlainL h a xs):h.IsList a xs:=by
 obtain⟨o,n,e,c,_,d⟩:=p;exact⟨o,e,c,n,d⟩
inductive rEqN (K:JK) (f:Bool) (x y:V) (H:Hp) (Q:VK):Prop
 |mk (a b xs:_) (_:x= .ref a) (_:y= .ref b) (_:Fb K H a xs) (_:Fb K H b []) (_:Q (.bl<|xs.isEmpty !=f) H)
def MF (K:JK) (hK:X.K=K) (hu:X.A.units+20<cLine):Pa X (compareOp .NotEq) (rEqN K true):=by
 subst hK;intro W s B H x y v u Q I O U h;obtain⟨a,b,xs,rfl,rfl,h1,h2,q⟩:=h;cases O;cases U;obtain⟨Z,r1,G,z1⟩:=I.list h1;obtain⟨i2,Y,p2,z2⟩:=I.list h2;have z:X.A.units<cLine:=();cases Y;cases r1 with
 |nil=>exact RcNeAt.lists (A:=X.A) (e:=λ_=>true) (PlainL.isL G) (PlainL.isL p2) M z (λj h1=>Vt h1<|XB _) _ _ _ _ ⟨.bl _,H,I,M,q⟩
 |cons r t=>exact RcNeAt.lists_lengths (PlainL.isL G) (PlainL.isL p2) (by simp) z _ _ _ _ ⟨.bl _,H,I,M,q⟩
end
def Fl:V->Prop
 | .int _=>True| .str _=>True| .non=>True|_=>False
def BP:∀{as:List Addr} {us:List Value},GA (as.map V.ref) us->us=as.map Value.ref
 | [],us,r=>by cases r;rfl
 |a::as,us,r=>by
  cases r with
  |cons r1 z=>
   cases r1;rw[BP z];rfl
section
variable {X:Cx} {W:List (Addr×Obj)} {B:St} {H:Hp} {s:Shared}
def Bn {A:Around} {x:V} {u v:Value} (h:Fl x) (r1:RelV x u) (z:RelV x v):EqAt A s u v true:=by
 cases x with
 |int n=>
  obtain⟨G,rfl⟩:=r1;obtain⟨I,rfl⟩:=z;have:=EqAt.int_int (A:=A) (s:=s) n G n I;rwa [VT]at this
 |str n=>
  obtain⟨G,rfl⟩:=r1;obtain⟨I,rfl⟩:=z;have:=EqAt.str_str (A:=A) (s:=s) n G n I;rwa [VT]at this
 |non=>
  cases (show u=Value.none from r1);cases (show v=Value.none from z);exact EqAt.same _
 |_=>exact h.elim
end
def Alk (K:JK) (H:Hp):Nat->V->V->Prop
 |0,x,y=>Fl x/\x=y
 |n+1,x,y=>(Fl x/\x=y)\/∃a b xs ys,x= .ref a/\y= .ref b/\(Fb K H a xs/\Fb K H b ys\/OX K H a xs/\OX K H b ys)/\xs.length=ys.length/\∀(j:Nat) (u v:V),xs[j]?=some u->ys[j]?=some v->Alk K H n u v
def uQ:∀{xs:List V} {us:List Value},GA xs us->∀(j:Nat) (h:j<us.length),∃x,xs[j]?=some x/\RelV x us[j]
 |_,_,.nil,_,h=>Vt h (XB _)
 |_,_,.cons r _,0,_=>⟨_,M,r⟩
 |_,_,.cons _ r,j+1,h=>uQ r j (Nat.lt_of_succ_lt_succ h)
section
variable {X:Cx} {W:List (Addr×Obj)} {B:St} {H:Hp} {s:Shared}
def Jk (I:Inv X W B H s):∀(n:Nat) {A:Around} {x y:V} {u v:Value},A.units+n<cLine->Alk X.K H n x y->RelV x u->RelV y v->EqAt A s u v true
 |0,_,_,_,_,_,_,⟨f,e⟩,r1,r2=>Bn f r1 (e▸r2)
 |n+1,A,x,y,u,v,hu,h,r1,r2=>by
  rcases h with⟨f,e⟩|⟨a,b,xs,ys,rfl,rfl,o,l,g⟩
  .exact Bn f r1<|e▸r2
  cases r1;cases r2;by_cases e:a=b
  .subst e;exact EqAt.same _
  have it:∀{us vs:List Value},GA xs us->GA ys vs->∀(j:Nat) (h1:j<us.length) (h2:j<vs.length),EqAt A.in1 s us[j] vs[j] true:=λz G j h1 h2=>by
   obtain⟨x,U,Y⟩:=uQ z j h1;obtain⟨y,e2,Z⟩:=uQ G j h2;exact Jk I n (by show A.units+1+n<cLine;lia) (g j x y U e2) Y Z
  refine EqAt.of_refs e ?_;rcases o with⟨h1,h2⟩|⟨h1,h2⟩
  .obtain⟨i1,z,O,_⟩:=I.list h1;obtain⟨i2,G,p2,_⟩:=I.list h2;have:=RcAt.lists (A:=A) (e:=λ_=>true) (PlainL.isL O) (PlainL.isL p2) (by simpa[<-z.length,<-G.length]using l) () (λj a b=>by simpa using it z G j (by simpa using a) (by simpa using b));rw[QR.mpr λ_ _=>rfl]at this;exact this
  .obtain⟨i1,z,O,_⟩:=I.tuple h1;obtain⟨i2,G,p2,_⟩:=I.tuple h2;have:=RcAt.tuples (A:=A) (e:=λ_=>true) O p2 () (λj a b=>by simpa using it z G j (by simpa using a) (by simpa using b));rw[QR.mpr λ_ _=>rfl]at this;simpa[<-z.length,<-G.length,l]using this
inductive rAlk (K:JK) (f:Bool) (x y:V) (H:Hp) (Q:VK):Prop
 |mk (a b:Addr) (xs ys:List V) (_:x= .ref a) (_:y= .ref b) (_:(Fb K H a xs/\Fb K H b ys\/OX K H a xs/\OX K H b ys)) (_:xs.length=ys.length) (_:(∀(j:Nat) (u v:V),xs[j]?=some u->ys[j]?=some v->Alk K H 4 u v)) (_:Q (.bl<|!f) H)
def MH (K:JK) (hK:X.K=K) (hu:X.A.units+20<cLine):Pa X (compareOp .NotEq) (rAlk K true):=by
 subst hK;intro W s B H x y v u Q I Z ry h;obtain⟨a,b,xs,ys,rfl,rfl,o,l,g,q⟩:=h;cases Z;cases ry;have it:∀{us vs:List Value},GA xs us->GA ys vs->∀(j:Nat) (h1:j<us.length) (h2:j<vs.length),EqAt X.A.in1 s us[j] vs[j] true:=λz G j h1 h2=>by
  obtain⟨x,e1,q1⟩:=uQ z j h1;obtain⟨y,e2,q2⟩:=uQ G j h2;exact Jk I 4 (by show X.A.units+1+4<cLine;lia) (g j x y e1 e2) q1 q2
 rcases o with⟨h1,h2⟩|⟨h1,h2⟩
 .obtain⟨U,z,O,_⟩:=I.list h1;obtain⟨Y,G,p2,_⟩:=I.list h2;have:=RcNeAt.lists (A:=X.A) (e:=λ_=>true) (PlainL.isL O) (PlainL.isL p2) (by simpa[<-z.length,<-G.length]using l) () (λj a b=>by simpa using it z G j (by simpa using a) (by simpa using b));rw[QR.mpr λ_ _=>rfl]at this;exact this _ _ _ _ ⟨.bl _,H,I,M,q⟩
 .obtain⟨U,z,O,_⟩:=I.tuple h1;obtain⟨Y,G,p2,_⟩:=I.tuple h2;have:=RcNeAt.tuples (A:=X.A) (e:=λ_=>true) O p2 () (λj a b=>by simpa using it z G j (by simpa using a) (by simpa using b));rw[QR.mpr λ_ _=>M,show(true&&U.toArray.size==Y.toArray.size)=true by simp[<-z.length,<-G.length,l]]at this;exact this _ _ _ _ ⟨.bl _,H,I,M,q⟩
end
end L2
namespace L2
open PySem PySem.Spec PyProof.Rows
variable {D:Addr->Sp->Prop} {X:Cx} {o:HO} {H:Hp} {kk:Nat}
def fK {x y:V} {A JJ:Prop} (e:x=y) (h:A):if decide (x=y)=true then A else JJ:=by
 rw[Vy e];exact cH h
def ak {p:Addr} (h:H p=none):Fa H (upd H p o):=λb u e=>by
 rwa[af (am e h)]
def Rg (P:Int->Prop):List V->Prop
 | []=>True
 | .int m::r=>P m/\Rg P r
 |_::_=>False
def Rg.ints {P:Int->Prop}:∀{L:List V},Rg P L->∃ns:List Int,L=ns.map V.int/\∀m∈ns,P m
 | [],_=>⟨[],M,λ_ z=>nomatch z⟩
 | .int m::r,h=>by
  obtain⟨ns,e,q⟩:=Rg.ints h.2;refine⟨m::ns,by rw[e];rfl,λx hx=>?_⟩;rcases Qh.mp hx with rfl|hx
  .exact h.1
  .exact q x hx
def zH {P:Int->Prop} {L:List V} {c n:Int} (h:Rg P L) (I:(L.length:Int)=n) (G:0<n):∃m,RF L (c%n)=some (.int m)/\P m:=by
 obtain⟨ns,e,q⟩:=h.ints;subst e;have a:=Qf c (QU G);have b:=Qc c G;rw[Q0]at I;have z:(c%n).toNat<ns.length:=();refine⟨_,xW a (),q _ ?_⟩;rw[Qk,Q3 z];exact Zq z
def cm {H':Hp} {l:Addr} (s:Fa H H') (n:H l=none):Fa H (upd H' l o):=λb u e=>by
 rw[af (am e n)];exact s b u e
def Ij {K:JK} {C D:Addr} {b:Bool} (h1:PySem.W.typeIn K (.ref D)=some (.type "type")) (h2:PySem.W.isClsIn K D=true) (I:PySem.W.subIn K (.ref C) (.ref D)=some b) (G:C=D->b=true):
  PySem.W.kitOne K (.ref C) (.ref D)=some b:=by
 unfold PySem.W.kitOne;by_cases z:((Value.ref C:Value)== .ref D)=true
 .rw[Vp z,G (Value.ref.inj<|VB.mp z)]
 .rw[Vo z];show(if((PySem.W.clsIn K D).isSome&&PySem.W.typeIn K (.ref D)==some (.type "type"))=true then PySem.W.subIn K (.ref C) (.ref D)else none)=some b;have:(PySem.W.clsIn K D).isSome=true:=h2;rw[Vp (by rw[this,h1];simp),I]
def OD (_ j:Int):Prop:=0<j/\j.natAbs.log2<9000
def Ch:Pa X (binaryOp .FloorDiv) (rI OD λi j=> .int<|i/j):=opI λi j _ _ _ _ _ hc q=>by
 have h1:(0:Int)<j:=hc.1;exact floordiv_int () (by rw[Vi i ()];exact q)<|.inl (PyProof.noPylong_of_log2 hc.2)
def OV.u20 {k:Nat} {A:Around} (r:OV k A):A.units+20<cLine:=by have:=r.un;lia
section
variable {k:Nat} {f C:Addr} {fd:FuncData} {ps:List Str} {sp:Sp} {dvs:List V} {ds:List Value} {E:XK} {x m:Str} {p pos apos:Pos} {e o:Expr} {es:List Expr} {ta:TE} {t:TA}
def GH (X:Cx) (kk:Nat) (m:Str) (C:Addr) (sp:Sp):Prop:=Pq X.K C/\∃f fd ps,bJ X.K C m f/\CU X.prog X.w X.K X.mg X.base OL kk f fd ps sp/\Binds X.K fd ps []
def D1 (C:Addr) (sp:Sp):Addr->Sp->Prop:=λC' sp'=>C'=C/\sp'=sp
def SI (D D':Addr->Sp->Prop):Addr->Sp->Prop:=λC sp=>D C sp\/D' C sp
def bR (c:Pq X.K C) (G:bJ X.K C m f) (F:CU X.prog X.w X.K X.mg X.base OL k f fd ps sp) (hb:Binds X.K fd ps []) (hk:k<=kk):∀z sp',D1 C sp z sp'->GH X kk m z sp':=λz sp' h=>by
 obtain⟨rfl,rfl⟩:=h;exact⟨c,f,fd,ps,G,F.mono hk,hb⟩
def fN {G:Addr->Sp->Prop} (h:∀C sp,D C sp->GH X kk m C sp) (h':∀C sp,G C sp->GH X kk m C sp):∀C sp,SI D G C sp->GH X kk m C sp:=λC sp z=>z.elim (h C sp) (h' C sp)
inductive Ka (D:Addr->Sp->Prop) (m:Str) (t:TA) (B:St) (Q:VK) (x:V) (H1:Hp):Prop
 |mk (a C dx fs sp:_) (_:x= .ref a) (_:H1 a=some (.ins C dx fs)) (_:fs.lookup m=none) (_:D C sp) (_:t B H1 λvs H2=>sp (x::vs) H2 Q E0)
def G6 (D:Addr->Sp->Prop) (m:Str) (ta:TE) (t:TA):TE:=λB H Q=>ta B H λx H1=>Ka D m t B Q x H1
def rT {pl:Sem Bool} (hD:∀C sp,D C sp->GH X kk m C sp) (hr:OV kk X.A) (he:PE X o ta) (ha:PA X (e::es) t)
  (z:starEach (e::es) X.env=(false,eval e X.env)::starEach es X.env:=by rfl) (G:(backTo pos<|starEach es X.env).any (·.1)=false:=by rfl)
  (ht:eval (.Call (.Attribute o m apos) (e::es) [] pos) X.env=(do
   let ov<-eval o X.env
   standAt apos.atName
   let(f,first)<-holding [ov] (getMethod ov m pl)
   callWith pos f first (backTo pos<|starEach (e::es) X.env) (backToKw pos<|keywordEach [] X.env)):=by rfl):
  PE X (.Call (.Attribute o m apos) (e::es) [] pos) (G6 D m ta t):=by
 intro W s B H Q I h;refine ZF (pl:=pl) (OI (he W s B H _ I h) λu s1 O=>?_) ht;obtain⟨x,H1,U,rx,a,C,dx,fs,sp,ex,ea,l,d,q⟩:=O;subst ex;obtain rfl:u=Value.ref a:=rx;obtain⟨c,f,fd,ps,Y,F,hb⟩:=hD C sp d;refine lR U ea c Y l ?_;refine ZV (first:=[.ref a]) (h₀:=X.base) I.ok.mod.kin Y.kp (OI (ha pos W s1 B H1 _ U q) λus s2 ⟨vs,H2,Z,r,q2⟩=>⟨Z.kIn,?_⟩) z G;exact t9 (us:= .ref a::us) (vs:= .ref a::vs) (dvs:=[]) F hr hb .nil ay Z (.cons M r)<|by rwa[Zj]
def zI {pl:Sem Bool} (hD:∀C sp,D C sp->GH X kk m C sp) (U:OV kk X.A) (he:PE X o ta)
  (Y:eval (.Call (.Attribute o m apos) [] [] pos) X.env=(do
   let ov<-eval o X.env
   standAt apos.atName
   let(f,first)<-holding [ov] (getMethod ov m pl)
   callWith pos f first (backTo pos<|starEach [] X.env) (backToKw pos<|keywordEach [] X.env)):=by rfl):
  PE X (.Call (.Attribute o m apos) [] [] pos) (G6 D m ta J9):=by
 intro W s B H Q I h;refine ZF (pl:=pl) (OI (he W s B H _ I h) λu s1 z=>?_) Y;obtain⟨x,H1,G,Z,a,C,dx,fs,sp,ex,ea,l,d,q⟩:=z;subst ex;obtain rfl:u=Value.ref a:=Z;obtain⟨c,f,fd,ps,O,F,hb⟩:=hD C sp d;refine lR G ea c O l ?_;refine XN (first:=[.ref a]) G.kIn O.kp ?_;exact t9 (us:=[.ref a]) (vs:=[.ref a]) (dvs:=[]) F U hb .nil ay G (.cons M .nil) q
end
end L2
namespace Srt
open PySem PyProof.Rows
variable {xs ys:Array Keyed} {blt:Keyed->Keyed->Bool} {e hi i j lo n nrem:Nat} {st:SortSt} {γ:Type} {Q:Unit->SortSt->Prop} {E:Value->Shared->Prop}
abbrev dk:Keyed:=(Value.none,Value.none)
noncomputable def g (xs:Array Keyed) (i:Nat):Keyed:=xs[i]?.getD dk
theorem dZ (h:i<xs.size):xs[i]?=some (g xs i):=by
 unfold g;rw[getElem?_pos xs i h];rfl
theorem sE (h:xs[i]?=ys[j]?):g xs i=g ys j:=by unfold g;rw[h]
theorem zY (h:i<xs.size):g xs i∈xs:=by
 have e:=dZ h;exact Array.mem_of_getElem? e
structure R7 (blt:Keyed->Keyed->Bool):Prop where
 asym:∀x y,blt x y=true->blt y x=false
 tr:∀x y z,blt y x=false->blt z y=false->blt z x=false
section
variable (C:R7 blt)
abbrev le (blt:Keyed->Keyed->Bool) (x y:Keyed):Prop:=blt y x=false
include C
theorem R7.trans {x y z:Keyed} (h1:le blt x y) (h2:le blt y z):le blt x z:=C.tr x y z h1 h2
theorem R7.of_lt {x y:Keyed} (h:blt x y=true):le blt x y:=C.asym _ _ h
end
def On (blt:Keyed->Keyed->Bool) (xs:Array Keyed) (lo hi:Nat):Prop:=∀i j,lo<=i->i<j->j<hi->le blt (g xs i) (g xs j)
def Off (blt:Keyed->Keyed->Bool) (xs:Array Keyed) (lo hi:Nat):Prop:=∀i j,lo<=i->i<j->j<hi->le blt (g xs j) (g xs i)
theorem On.one:On blt xs lo (lo+1):=λi j h1 h2 z=>by lia
theorem Off.one:Off blt xs lo (lo+1):=λi j h1 h2 z=>by lia
theorem On.congr (h:On blt xs lo hi) (e:∀k,lo<=k->k<hi->g ys k=g xs k):On blt ys lo hi:=λi j h1 h2 z=>by
 rw[e i h1 (),e j () z];exact h i j h1 h2 z
theorem On.sub {z hi':Nat} (h:On blt xs lo hi) (h1:lo<=z) (h2:hi'<=hi):On blt xs z hi':=λi j a b c=>h i j () b ()
section
variable (C:R7 blt)
include C
theorem On.snoc (h:On blt xs lo (lo+n)) (I:1<=n) (e:le blt (g xs<|lo+n-1) (g xs<|lo+n)):On blt xs lo (lo+(n+1)):=λi j h1 h2 O=>by
 by_cases z:j<lo+n
 .exact h i j h1 h2 z
 .have G:j=lo+n:=();subst G;by_cases y:i=lo+n-1
  .subst y;exact e
  .exact C.trans (h i (lo+n-1) h1 () ()) e
theorem Off.snoc (h:Off blt xs lo (lo+n)) (I:1<=n) (e:le blt (g xs<|lo+n) (g xs<|lo+n-1)):Off blt xs lo (lo+(n+1)):=λi j h1 h2 O=>by
 by_cases z:j<lo+n
 .exact h i j h1 h2 z
 .have G:j=lo+n:=();subst G;by_cases y:i=lo+n-1
  .subst y;exact e
  .exact C.trans e<|h i (lo+n-1) h1 () ()
end
theorem IA (z:j<=xs.size) (k:Nat):g (mirror xs i j<|(j-i)/2) k=if i<=k/\k<j then g xs (i+j-1-k)else g xs k:=by
 have e:=getElem?_mirror_all (i:=i) z k;by_cases h1:i<=k/\k<j
 .rw[Vp h1]at e⊢;exact sE e
 .rw[Vo h1]at e⊢;exact sE e
theorem IB {src d:Nat} (hs:src<xs.size) (hd:d<=src) (k:Nat):g (bubble xs src d) k=if k=src-d then g xs src else if src-d<k/\k<=src then g xs (k-1)else g xs k:=by
 have e:=getElem?_bubble hs d hd k;by_cases h1:k=src-d
 .rw[Vp h1]at e⊢;exact sE e
 .rw[Vo h1]at e⊢;by_cases h2:src-d<k/\k<=src
  .rw[Vp h2]at e⊢;exact sE e
  .rw[Vo h2]at e⊢;exact sE e
section
variable {prog:Program} {w:World} {A:Around} {s:Shared} {a₀:Array Keyed} {κ:SortKind}
def BD (prog:Program) (w:World) (A:Around) (E:Value->Shared->Prop) (s:Shared) (a₀:Array Keyed) (κ:SortKind) (blt:Keyed->Keyed->Bool):Prop:=
 ∀(x y:Keyed) (st:SortSt) (Q:Option Bool->SortSt->Prop),x∈a₀->y∈a₀->kindOf st=κ->Q (some<|blt x y) st->wpS (model prog w) A E s (lt' x y) Q st
structure OU (a₀:Array Keyed) (κ:SortKind) (st:SortSt):Prop where
 kind:kindOf st=κ
 fine:failedOf st=none
 perm:(arrOf st).Perm a₀
theorem OU.size (JJ:OU a₀ κ st):(arrOf st).size=a₀.size:=JJ.perm.size_eq
theorem OU.mem (JJ:OU a₀ κ st) (h:i<a₀.size):g (arrOf st) i∈a₀:=(JJ.perm.mem_iff).mp (zY<|by rwa[JJ.size])
variable (L:BD prog w A E s a₀ κ blt)
include L
theorem rj {Q:Option Bool->SortSt->Prop} (JJ:OU a₀ κ st) (hi:i<a₀.size) (z:j<a₀.size) (h:Q (some<|blt (g (arrOf st) i)<|g (arrOf st) j) st):
  wpS (model prog w) A E s (ltAt' i j) Q st:=by
 rw[ltAt'_eq];refine Vs<|W3 ?_;show wpS _ _ _ _ (do let x<-elem' (arrOf st) i;let y<-elem' (arrOf st) j;lt' x y) Q st;rw[elem'_eq,elem'_eq,dZ (by rwa[JJ.size]),dZ (by rwa[JJ.size])];refine Vs<|Vu (Vs<|Vu ?_);exact L _ _ st Q (JJ.mem hi) (JJ.mem z) JJ.kind h
omit L in
theorem GY {α:Type} {m m':StateT SortSt Sem α} {Q:α->SortSt->Prop} (e:m=m') (h:wpS (model prog w) A E s m' Q st):wpS (model prog w) A E s m Q st:=by rwa[e]
abbrev Pu (lo:Nat) (xs ys:Array Keyed):Prop:=∀k,k<lo->g ys k=g xs k
theorem iI (JJ:OU a₀ κ st) (z:j<=a₀.size)
  (h:∀st',OU a₀ κ st'->pendingOf st'=pendingOf st->(∀k,g (arrOf st') k=if i<=k/\k<j then g (arrOf st) (i+j-1-k)else g (arrOf st) k)->Q Unit.unit st'):
  wpS (model prog w) A E s (reverseSlice' i j) Q st:=by
 rw[reverseSlice'_eq];refine VQ<|h _ ⟨JJ.kind,JJ.fine,(mirror_perm _ _ _ _).trans JJ.perm⟩ M λk=>?_;exact IA (by rwa[JJ.size]) k
theorem GX {a:Nat} {f:Nat->Option γ×Nat->StateT SortSt Sem (ForInStep<|Option γ×Nat)} {Q:Option γ×Nat->SortSt->Prop} (C:R7 blt) (JJ:OU a₀ κ st) (ha:1<=a) (G:a<=nrem) (hz:lo+nrem<=a₀.size) (hs:On blt (arrOf st) lo (lo+a))
  (hf:∀(i n:Nat) (R:ForInStep (Option γ×Nat)->SortSt->Prop),n<nrem->1<=n->(blt (g (arrOf st)<|lo+n) (g (arrOf st)<|lo+n-1)=true->R (.done (none,n)) st)->(blt (g (arrOf st)<|lo+n) (g (arrOf st)<|lo+n-1)=false->R (.yield (none,n+1)) st)->wpS (model prog w) A E s (f i (none,n)) R st)
  (h:∀n,a<=n->n<=nrem->On blt (arrOf st) lo (lo+n)->(n<nrem->blt (g (arrOf st)<|lo+n) (g (arrOf st)<|lo+n-1)=true)->Q (none,n) st):
  wpS (model prog w) A E s (forIn [a:nrem] (none,a) f) Q st:=by
 refine VI (I:=λi c st'=>st'=st/\c=(none,i)/\a<=i/\i<=nrem/\On blt (arrOf st) lo (lo+i)) ?_ ?_ ⟨M,M,Q4 _,G,hs⟩
 .rintro i c st' h1 h2 ⟨rfl,rfl,U,Y,O⟩;refine hf i i _ h2 () (λe=>?_)<|λe=>?_
  .exact h i U Y O λ_=>e
  .exact⟨M,M,(),(),O.snoc C () e⟩
 .rintro c st' ⟨rfl,rfl,U,Y,O⟩;have e:max a nrem=nrem:=QS G;rw[e]at O⊢;exact h nrem G (Q4 _) O λz=>Vt z (Zy _)
omit L in
theorem uo {b:Nat} (hb:lo<=b) (h:Off blt xs lo e) (o:On blt xs b e) (hy:∀k,g ys k=if b<=k/\k<e then g xs (b+e-1-k)else g xs k):Off blt ys lo e:=λi j h1 h2 z=>by
 rw[hy i,hy j];by_cases G:b<=j
 .rw[Vp ⟨G,z⟩];by_cases I:b<=i
  .rw[Vp ⟨I,()⟩];exact o _ _ () () ()
  .rw[Vo ()];exact h _ _ h1 () ()
 .rw[Vo (),Vo ()];exact h i j h1 h2 z
omit L in
theorem MK (h:Off blt xs lo e) (hy:∀k,g ys k=if lo<=k/\k<e then g xs (lo+e-1-k)else g xs k):On blt ys lo e:=λi j h1 h2 z=>by
 rw[hy i,hy j,Vp ⟨h1,()⟩,Vp ⟨(),z⟩];exact h _ _ () () ()
omit L in
theorem Kx (h:On blt xs lo e) (hy:∀k,g ys k=if lo<=k/\k<e then g xs (lo+e-1-k)else g xs k):Off blt ys lo e:=λi j h1 h2 z=>by
 rw[hy i,hy j,Vp (show lo<=j/\j<e by lia),Vp (show lo<=i/\i<e by lia)];exact h _ _ () () ()
noncomputable def Jj (lo:Nat):Nat->Option (Option Nat)×Nat->StateT SortSt Sem (ForInStep<|Option (Option Nat)×Nat):=λ_ __s=>do
 let __x<-ltAt' (lo+__s.snd) (lo+__s.snd-1)
 match __x with
 |some smaller=>if smaller=true then pure (ForInStep.done (none,__s.snd))else pure (ForInStep.yield (none,__s.snd+1))
 |_=>pure (ForInStep.done (some none,__s.snd))
def zC (lo n nrem:Nat):StateT SortSt Sem (Option Nat):=do
 reverseSlice' lo (lo+n)
 let __s<-forIn [n:nrem] (none,n) (Jj lo)
 match __s.fst with
 |some r=>pure r
 |none=>pure (some __s.snd)
noncomputable def E5 (lo:Nat):Nat->Option (Option Nat)×Nat×Nat->StateT SortSt Sem (ForInStep<|Option (Option Nat)×Nat×Nat):=λ_ __s=>do
 let __x<-ltAt' (lo+__s.snd.fst) (lo+__s.snd.fst-1)
 match __x with
 |some smaller=>
  if smaller=true then
   if __s.snd.snd>0 then do
    reverseSlice' (lo+__s.snd.fst-(__s.snd.snd+1)) (lo+__s.snd.fst)
    pure (ForInStep.yield (none,__s.snd.fst+1,0))
   else pure (ForInStep.yield (none,__s.snd.fst+1,0))
  else do
   let __x<-ltAt' (lo+__s.snd.fst-1) (lo+__s.snd.fst)
   match __x with
   |some larger=>
    if larger=true then pure (ForInStep.done (none,__s.snd.fst,__s.snd.snd))
    else pure (ForInStep.yield (none,__s.snd.fst+1,__s.snd.snd+1))
   |_=>pure (ForInStep.done (some none,__s.snd.fst,__s.snd.snd))
 |_=>pure (ForInStep.done (some none,__s.snd.fst,__s.snd.snd))
def Ac (lo n nrem:Nat):StateT SortSt Sem (Option Nat):=do
 liftM (rule "list.sort.descending-run")
 let __s<-forIn [n+1:nrem] (none,n+1,0) (E5 lo)
 match __s.fst with
 |some r=>pure r
 |none=>
  if __s.snd.snd>0 then do
   reverseSlice' (lo+__s.snd.fst-(__s.snd.snd+1)) (lo+__s.snd.fst)
   zC lo __s.snd.fst nrem
  else zC lo __s.snd.fst nrem
theorem EA {R:ForInStep (Option (Option Nat)×Nat)->SortSt->Prop} (JJ:OU a₀ κ st) (hz:lo+nrem<=a₀.size) (G:n<nrem) (h1:1<=n)
  (z:blt (g (arrOf st)<|lo+n) (g (arrOf st)<|lo+n-1)=true->R (.done (none,n)) st) (hf:blt (g (arrOf st)<|lo+n) (g (arrOf st)<|lo+n-1)=false->R (.yield (none,n+1)) st):wpS (model prog w) A E s (Jj lo i (none,n)) R st:=by
 unfold Jj;refine Vs<|rj L JJ (by dsimp only;lia) (by dsimp only;lia) ?_;dsimp only;cases e:blt (g (arrOf st)<|lo+n) (g (arrOf st)<|lo+n-1)with
 |true=>exact Vu<|z e
 |false=>exact Vu<|hf e
theorem rh {Q:Option Nat->SortSt->Prop} (C:R7 blt) (JJ:OU a₀ κ st) (h1:1<=n) (z:n<=nrem) (hz:lo+nrem<=a₀.size) (ho:Off blt (arrOf st) lo (lo+n))
  (h:∀m st',OU a₀ κ st'->pendingOf st'=pendingOf st->1<=m->m<=nrem->On blt (arrOf st') lo (lo+m)->Pu lo (arrOf st) (arrOf st')->Q (some m) st'):wpS (model prog w) A E s (zC lo n nrem) Q st:=by
 unfold zC;refine Vs<|iI L JJ () λst' G I hy=>?_;refine Vs<|GX L C G h1 z hz (MK ho hy) (λi n R z h1 O hf=>EA L G (i:=i) hz z h1 O hf) (λm ha U hs _=>?_);exact Vu<|h m st' G I () U hs λk hk=>by rw[hy k,Vo ()]
theorem BO {Q:Option Nat->SortSt->Prop} (C:R7 blt) (JJ:OU a₀ κ st) (h1:1<=n) (hn:n+1<=nrem) (hz:lo+nrem<=a₀.size) (ho:Off blt (arrOf st) lo (lo+(n+1)))
  (h:∀m st',OU a₀ κ st'->pendingOf st'=pendingOf st->1<=m->m<=nrem->On blt (arrOf st') lo (lo+m)->Pu lo (arrOf st) (arrOf st')->Q (some m) st'):wpS (model prog w) A E s (Ac lo n nrem) Q st:=by
 unfold Ac;refine Vs<|wpS_lift (W4 ⟨M,?_⟩);refine Vs (VI (I:=λi c st'=>∃q,c=(none,i,q)/\OU a₀ κ st'/\pendingOf st'=pendingOf st/\Pu lo (arrOf st) (arrOf st')/\n+1<=i/\i<=nrem/\q+1<=i/\Off blt (arrOf st') lo (lo+i)/\On blt (arrOf st') (lo+i-(q+1)) (lo+i)) ?_ ?_
  ⟨0,M,JJ,M,λ_ _=>M,Q4 _,hn,(),ho,λi j a b c=>()⟩)
 .rintro i c st' a2 a3 ⟨q,rfl,Z,hp,hk,h2,h3,h4,off,on⟩;unfold E5;refine Vs<|rj L Z (by dsimp only;lia) (by dsimp only;lia) ?_;dsimp only;cases e:blt (g (arrOf st')<|lo+i) (g (arrOf st')<|lo+i-1)with
  |true=>
   by_cases q0:q>0
   .rw[Vp M,Vp q0];refine Vs<|iI L Z () λst2 B2 Y hy=>?_;refine Vu ⟨0,M,B2,Y.trans hp,λk G=>by rw[hy k,Vo ()];exact hk k G,(),(),(),?_,λi j a b c=>()⟩;refine(uo () off on hy).snoc C () ?_;rw[hy,hy,Vo (),Vp ()];have z:lo+i-(q+1)+(lo+i)-1-(lo+i-1)=lo+i-(q+1):=();rw[z];exact C.trans (C.of_lt e)<|off _ _ () () ()
   .rw[Vp M,Vo q0];exact Vu ⟨0,M,Z,hp,hk,(),(),(),off.snoc C ()<|C.of_lt e,λi j a b c=>()⟩
  |false=>
   simp only[Zr,if_false];refine Vs<|rj L Z () () ?_;dsimp only;cases e2:blt (g (arrOf st')<|lo+i-1) (g (arrOf st')<|lo+i)with
   |true=>
    simp only[if_true];refine Vu ?_;dsimp only;by_cases q0:q>0
    .rw[Vp q0];refine Vs<|iI L Z () λst2 B2 Y hy=>?_;refine rh L C B2 () h3 hz (uo () off on hy) λm O B3 U a b c d=>h m O B3 (U.trans<|Y.trans hp) a b c λk G=>?_;rw[d k G,hy k,Vo ()];exact hk k G
    .rw[Vo q0];exact rh L C Z () h3 hz off λm O B3 U a b c d=>h m O B3 (U.trans hp) a b c λk G=>(d k G).trans (hk k G)
   |false=>
    simp only[Zr,if_false];refine Vu ⟨q+1,M,Z,hp,hk,(),(),(),off.snoc C () e2,?_⟩;have z:lo+(i+1)-(q+1+1)=lo+i-(q+1):=();rw[z];intro x y hx hy a4;by_cases a0:y<lo+i
    .exact on x y hx hy a0
    .have ey:y=lo+i:=();subst ey;by_cases a1:x=lo+i-1
     .subst a1;exact e
     .exact C.trans (on x (lo+i-1) hx () ()) e
 .rintro c st' ⟨q,rfl,Z,hp,hk,h2,h3,h4,off,on⟩;have em:max (n+1) nrem=nrem:=QS hn;rw[em]at h3 h4 off on⊢;dsimp only;by_cases q0:q>0
  .rw[Vp q0];refine Vs<|iI L Z () λst2 B2 Y hy=>?_;refine rh L C B2 () h3 hz (uo () off on hy) λm O B3 U a b c d=>h m O B3 (U.trans<|Y.trans hp) a b c λk G=>?_;rw[d k G,hy k,Vo ()];exact hk k G
  .rw[Vo q0];exact rh L C Z () h3 hz off λm O B3 U a b c d=>h m O B3 (U.trans hp) a b c λk G=>(d k G).trans (hk k G)
theorem GW {Q:Option Nat->SortSt->Prop} (C:R7 blt) (JJ:OU a₀ κ st) (h1:1<=nrem) (hz:lo+nrem<=a₀.size)
  (h:∀n st',OU a₀ κ st'->pendingOf st'=pendingOf st->1<=n->n<=nrem->On blt (arrOf st') lo (lo+n)->Pu lo (arrOf st) (arrOf st')->Q (some n) st'):wpS (model prog w) A E s (countRun' lo nrem) Q st:=by
 rw[countRun'_eq];dsimp only;refine Vs<|GX L C JJ (Q4 1) h1 hz On.one (λi n R U h1 ht hf=>EA L JJ (i:=i) hz U h1 ht hf) (λn ha U hs Y=>?_);dsimp only;by_cases en:n=nrem
 .subst en;simp only[VT,if_true];exact Vu<|h n st JJ M ha U hs λ_ _=>M
 .have eb:(n==nrem)=false:=VF.mpr en;simp only[eb,Zr,if_false];have G:=Y ();by_cases n1:n>1
  .rw[Vp n1];refine Vs<|rj L JJ () () ?_;dsimp only;cases e:blt (g (arrOf st) lo) (g (arrOf st)<|lo+n-1)with
   |true=>
    simp only[if_true];exact Vu<|h n st JJ M ha U hs λ_ _=>M
   |false=>
    simp only[Zr,if_false];refine Vs<|iI L JJ () λst2 B2 Z hy=>?_;have off:Off blt (arrOf st2) lo (lo+(n+1)):=by
     refine(Kx hs hy).snoc C ha ?_;rw[hy,hy,Vo (),Vp ()];have z:lo+(lo+n)-1-(lo+n-1)=lo:=();rw[z];exact C.trans (C.of_lt G) e
    refine GY (m':=Ac lo n nrem) (by
      unfold Ac zC Jj E5;congr 1;funext _u;congr 1;funext s2;obtain⟨O,n2,q2⟩:=s2;cases O with
      |some O=>rfl
      |none=>
       dsimp only;split
       .congr 1;funext _v;congr 1;funext _w;congr 1;funext s3;obtain⟨I,n3⟩:=s3;cases I<;>rfl
       .congr 1;funext _w;congr 1;funext s3;obtain⟨I,n3⟩:=s3;cases I<;>rfl)<|BO L C B2 ha () hz off λm a0 B3 a1 a b c d=>h m a0 B3 (a1.trans Z) a b c λk hk=>by rw[d k hk,hy k,Vo ()]
  .rw[Vo n1];have e1:n=1:=();subst e1;refine GY (m':=Ac lo 1 nrem) (by
      unfold Ac zC Jj E5;congr 1;funext _u;congr 1;funext s2;obtain⟨O,n2,q2⟩:=s2;cases O with
      |some O=>rfl
      |none=>
       dsimp only;split
       .congr 1;funext _v;congr 1;funext _w;congr 1;funext s3;obtain⟨I,n3⟩:=s3;cases I<;>rfl
       .congr 1;funext _w;congr 1;funext s3;obtain⟨I,n3⟩:=s3;cases I<;>rfl) (BO L C JJ ha () hz (Off.one.snoc C (Q4 1)<|C.of_lt G) h)
omit L in
theorem Ez {k l:Nat} (JJ:OU a₀ κ st) (hk:k<a₀.size) (hl:l<=k)
  (h:∀st',OU a₀ κ st'->pendingOf st'=pendingOf st->(∀j,g (arrOf st') j=if j=l then g (arrOf st) k else if l<j/\j<=k then g (arrOf st) (j-1)else g (arrOf st) j)->Q Unit.unit st'):
  wpS (model prog w) A E s (moveDown' k l) Q st:=by
 rw[moveDown'_eq];refine VQ<|h _ ⟨JJ.kind,JJ.fine,(bubble_perm _ _ _).trans JJ.perm⟩ M λj=>?_;have e:=IB (xs:=arrOf st) (src:=k) (d:=k-l) (by rwa[JJ.size]) () j;have z:k-(k-l)=l:=();rw[z]at e;exact e
theorem Fq {ok:Nat} {Q:Bool->SortSt->Prop} (C:R7 blt) (JJ:OU a₀ κ st) (h1:1<=ok) (hok:ok<=n) (hz:lo+n<=a₀.size) (hs:On blt (arrOf st) lo (lo+ok))
  (h:∀st',OU a₀ κ st'->pendingOf st'=pendingOf st->On blt (arrOf st') lo (lo+n)->Pu lo (arrOf st) (arrOf st')->Q true st'):wpS (model prog w) A E s (binarySort' lo n ok) Q st:=by
 rw[binarySort'_eq];dsimp only;have em:max ok 1=ok:=Nat.max_eq_left h1;rw[em];refine Vs (VI (I:=λi c st'=>c=(none,Unit.unit)/\OU a₀ κ st'/\pendingOf st'=pendingOf st/\Pu lo (arrOf st) (arrOf st')/\ok<=i/\i<=n/\On blt (arrOf st') lo (lo+i)) ?_ ?_
  ⟨M,JJ,M,λ_ _=>M,Q4 _,hok,hs⟩)
 .rintro k c st' aa ab ⟨rfl,Y,hp,hk,h2,h3,G⟩;refine Vs (VI (I:=λi c st2=>st2=st'/\∃l r,c=(none,l,r)/\l<=r/\r<=k/\r-l<=k-i/\(∀j,j<l->le blt (g (arrOf st')<|lo+j) (g (arrOf st')<|lo+k))/\(∀j,r<=j->j<k->le blt (g (arrOf st')<|lo+k) (g (arrOf st')<|lo+j))) ?_ ?_
   ⟨M,0,k,M,Qj _,Q4 _,Q4 _,λj hj=>Vt hj<|XB _,λj a b=>()⟩)
  .rintro i c st2 ah an ⟨rfl,l,r,rfl,a0,a3,hm,z,above⟩;dsimp only;by_cases Z:l>=r
   .rw[Vp Z];refine Vu ?_;dsimp only;have a4:l=r:=();refine Vs<|Ez Y () () λa5 B3 O hy=>Vu ⟨M,B3,O.trans hp,λq hq=>?_,(),(),?_⟩
    .rw[hy q,Vo (),Vo ()];exact hk q hq
    .intro a b ha U hb;rw[hy a,hy b];by_cases b1:b=lo+l
     .rw[Vp b1,Vo (),Vo ()];have:=z (a-lo) ();rwa [show lo+(a-lo)=a by lia]at this
     .rw[Vo b1];by_cases b2:lo+l<b/\b<=lo+k
      .rw[Vp b2];by_cases a1:a=lo+l
       .rw[Vp a1];have:=above (b-1-lo) () ();rwa [show lo+(b-1-lo)=b-1 by lia]at this
       .rw[Vo a1];by_cases a2:lo+l<a/\a<=lo+k
        .rw[Vp a2];exact G _ _ () () ()
        .rw[Vo a2];exact G _ _ () () ()
      .rw[Vo b2,Vo (),Vo ()];exact G _ _ ha U ()
   .rw[Vo Z];refine Vs<|rj L Y () () ?_;dsimp only;cases e:blt (g (arrOf st2)<|lo+k) (g (arrOf st2)<|lo+(l+r)/2)with
    |true=>
     rw[Vp M];refine Vu ⟨M,l,(l+r)/2,M,(),(),(),z,λj a b=>?_⟩;by_cases ej:j=(l+r)/2
     .subst ej;exact C.of_lt e
     .exact C.trans (C.of_lt e)<|G _ _ () () ()
    |false=>
     rw[Vo (_)];refine Vu ⟨M,(l+r)/2+1,r,M,(),(),(),λj a=>?_,above⟩;by_cases ej:j=(l+r)/2
     .subst ej;exact e
     .exact C.trans (G _ _ () () ()) e
  .rintro c st2 ⟨rfl,l,r,rfl,a0,a3,hm,z,above⟩;have ek:max 0 k=k:=QS (Qj _);rw[ek]at hm;have a4:l=r:=();dsimp only;refine Vs<|Ez Y () () λa5 B3 O hy=>Vu ⟨M,B3,O.trans hp,λq hq=>?_,(),(),?_⟩
   .rw[hy q,Vo (),Vo ()];exact hk q hq
   .intro a b ha U hb;rw[hy a,hy b];by_cases b1:b=lo+l
    .rw[Vp b1,Vo (),Vo ()];have:=z (a-lo) ();rwa [show lo+(a-lo)=a by lia]at this
    .rw[Vo b1];by_cases b2:lo+l<b/\b<=lo+k
     .rw[Vp b2];by_cases a1:a=lo+l
      .rw[Vp a1];have:=above (b-1-lo) () ();rwa [show lo+(b-1-lo)=b-1 by lia]at this
      .rw[Vo a1];by_cases a2:lo+l<a/\a<=lo+k
       .rw[Vp a2];exact G _ _ () () ()
       .rw[Vo a2];exact G _ _ () () ()
     .rw[Vo b2,Vo (),Vo ()];exact G _ _ ha U ()
 .rintro c st' ⟨rfl,Y,hp,hk,h2,h3,G⟩;have e:max ok n=n:=QS hok;rw[e]at G;exact Vu (h st' Y hp G hk)
noncomputable def KY:Bool->Keyed->Array Keyed->Nat->Nat->Nat->StateT SortSt Sem (Option Nat):=sortPriv%PySem.Builtin.gallop
omit L in
theorem zx {f:Nat->Option γ×Nat×Nat->StateT SortSt Sem (ForInStep<|Option γ×Nat×Nat)} {Q:Option γ×Nat×Nat->SortSt->Prop} (G:Nat->Bool) (mono:∀i j,i<=j->j<n->G j=true->G i=true)
  (hf:∀(i lo hi:Nat) (R:ForInStep (Option γ×Nat×Nat)->SortSt->Prop),hi<=n->(lo>=hi->R (.done (none,lo,hi)) st)->(lo<hi->G (lo+(hi-lo)/2)=true->R (.yield (none,lo+(hi-lo)/2+1,hi)) st)->(lo<hi->G (lo+(hi-lo)/2)=false->R (.yield (none,lo,lo+(hi-lo)/2)) st)->wpS (model prog w) A E s (f i (none,lo,hi)) R st)
  (h1:lo<=hi) (h2:hi<=n) (ht:∀i,i<lo->G i=true) (hF:∀i,hi<=i->i<n->G i=false)
  (h:∀k,k<=n->(∀i,i<k->G i=true)->(∀i,k<=i->i<n->G i=false)->Q (none,k,k) st):wpS (model prog w) A E s (forIn [0:n] (none,lo,hi) f) Q st:=by
 refine VI (I:=λi c st'=>st'=st/\∃lo hi,c=(none,lo,hi)/\lo<=hi/\hi<=n/\hi-lo<=n-i/\(∀i,i<lo->G i=true)/\(∀i,hi<=i->i<n->G i=false)) ?_ ?_
  ⟨M,lo,hi,M,h1,h2,(),ht,hF⟩
 .rintro i c st' a0 a1 ⟨rfl,lo,hi,rfl,g1,O,Z,U,Y⟩;refine hf i lo hi _ O (λz=>?_) (λz e=>?_)<|λz e=>?_
  .have e:lo=hi:=();subst e;exact h lo O U Y
  .exact⟨M,_,_,M,(),O,(),λj hj=>mono j _ () () e,Y⟩
  .refine⟨M,_,_,M,(),(),(),U,λj a b=>?_⟩;cases q:G j with
   |false=>rfl
   |true=>rw[mono _ j a b q]at e;cases e
 .rintro c st' ⟨rfl,lo,hi,rfl,g1,O,Z,U,Y⟩;have em:max 0 n=n:=QS (Qj _);rw[em]at Z;have e:lo=hi:=();subst e;exact h lo O U Y
theorem iC {left:Bool} {key:Keyed} {arr:Array Keyed} {base hint:Nat} {Q:Option Nat->SortSt->Prop} (hK:kindOf st=κ) (hk:key∈a₀) (ha:∀i,i<n->base+i<arr.size/\g arr (base+i)∈a₀) (hh:hint<n)
  (U:Nat->Bool) (aa:∀i,i<n->U i=if left=true then blt (g arr<|base+i) key else !blt key (g arr<|base+i)) (mono:∀i j,i<=j->j<n->U j=true->U i=true)
  (h:∀k,k<=n->(∀i,i<k->U i=true)->(∀i,k<=i->i<n->U i=false)->Q (some k) st):wpS (model prog w) A E s (KY left key arr base n hint) Q st:=by
 have a0:∀(i:Nat) (R:Option Bool->SortSt->Prop),i<n->R (some<|U i) st->wpS (model prog w) A E s (elem' arr (base+i)>>=λx=>if left=true then lt' x key else lt' key x>>=λr=>pure<|r.map λx=>!x) R st:=by
  intro i R hi q;obtain⟨h1,h2⟩:=ha i hi;rw[elem'_eq,dZ h1];refine Vs<|Vu ?_;have e:=aa i hi;cases left with
  |true=>
   rw[Vp M]at e⊢;exact L _ _ st R h2 hk hK<|by rw[<-e];exact q
  |false=>
   rw[Vo (_)]at e⊢;refine Vs<|L _ _ st _ hk h2 hK (Vu ?_);show R (some<|!blt key (g arr<|base+i)) st;rw[<-e];exact q
 refine Vs ?_;dsimp only;refine a0 hint _ hh ?_;dsimp only;cases e0:U hint with
 |true=>
  rw[Vp M];refine Vs (W2 (VI (I:=λi c st'=>st'=st/\∃O G,c=(none,O,G)/\O<G/\i+1<=G/\hint+O<n/\U (hint+O)=true)
   (Q:=λc st'=>st'=st/\∃O G,c=(none,O,G)/\O<G/\hint+O<n/\U (hint+O)=true/\(n-hint<=G\/(hint+G<n/\U (hint+G)=false))) ?_ ?_ ⟨M,0,1,M,(),(),(),e0⟩) ?_)
  .rintro i c st' ab ah ⟨rfl,O,G,rfl,a1,a2,Z,Y⟩;dsimp only;by_cases z:G>=n-hint
   .rw[Vp z];exact Vu ⟨M,O,G,M,a1,Z,Y,.inl z⟩
   .rw[Vo z];refine Vs<|a0 (hint+G) _ () ?_;dsimp only;cases e:U (hint+G)with
    |false=>
     rw[Vp (_)];exact Vu ⟨M,O,G,M,a1,Z,Y,.inr ⟨(),e⟩⟩
    |true=>
     rw[Vo (_)];exact Vu ⟨M,G,2*G+1,M,(),(),(),e⟩
  .rintro c st' ⟨rfl,O,G,rfl,a1,a2,Z,Y⟩;have em:max 0 n=n:=QS (Qj _);rw[em]at a2;exact⟨M,O,G,M,a1,Z,Y,.inl ()⟩
  .rintro c st' ⟨rfl,O,G,rfl,a1,Z,Y,a5⟩;dsimp only;refine Vs<|zx U mono (λi lo hi R hn c1 c2 c3=>?_) () () (λi hi=>mono i (hint+O) () Z Y) (λi h1 h2=>?_) λk h1 h2 h3=>?_
   .dsimp only;by_cases z:lo>=hi
    .rw[Vp z];exact Vu<|c1 z
    .rw[Vo z];refine Vs<|a0 _ _ () ?_;dsimp only;cases e:U (lo+(hi-lo)/2)with
     |true=>rw[Vp M];exact Vu<|c2 () e
     |false=>rw[Vo (_)];exact Vu<|c3 () e
   .rcases a5 with z|⟨z1,z2⟩
    .lia
    .cases q:U i with
     |false=>rfl
     |true=>rw[mono (hint+G) i () h2 q]at z2;cases z2
   .exact Vu<|h k h1 h2 h3
 |false=>
  rw[Vo (_)];refine Vs (W2 (VI (I:=λi c st'=>st'=st/\∃O G,c=(none,O,G)/\O<G/\i+1<=G/\O<=hint/\U (hint-O)=false)
   (Q:=λc st'=>st'=st/\∃O G,c=(none,O,G)/\O<G/\O<=hint/\U (hint-O)=false/\(hint+1<=G\/(G<=hint/\U (hint-G)=true))) ?_ ?_ ⟨M,0,1,M,(),(),(),e0⟩) ?_)
  .rintro i c st' ab ah ⟨rfl,O,G,rfl,a1,a2,Z,Y⟩;dsimp only;by_cases z:G>=hint+1
   .rw[Vp z];exact Vu ⟨M,O,G,M,a1,Z,Y,.inl z⟩
   .rw[Vo z];refine Vs<|a0 (hint-G) _ () ?_;dsimp only;cases e:U (hint-G)with
    |true=>
     rw[Vp M];exact Vu ⟨M,O,G,M,a1,Z,Y,.inr ⟨(),e⟩⟩
    |false=>
     rw[Vo (_)];exact Vu ⟨M,G,2*G+1,M,(),(),(),e⟩
  .rintro c st' ⟨rfl,O,G,rfl,a1,a2,Z,Y⟩;have em:max 0 n=n:=QS (Qj _);rw[em]at a2;exact⟨M,O,G,M,a1,Z,Y,.inl ()⟩
  .rintro c st' ⟨rfl,O,G,rfl,a1,Z,Y,a5⟩;dsimp only;refine Vs<|zx U mono (λi lo hi R hn c1 c2 c3=>?_) () () (λi hi=>?_) (λi h1 h2=>?_) λk h1 h2 h3=>?_
   .dsimp only;by_cases z:lo>=hi
    .rw[Vp z];exact Vu<|c1 z
    .rw[Vo z];refine Vs<|a0 _ _ () ?_;dsimp only;cases e:U (lo+(hi-lo)/2)with
     |true=>rw[Vp M];exact Vu<|c2 () e
     |false=>rw[Vo (_)];exact Vu<|c3 () e
   .rcases a5 with z|⟨z1,z2⟩
    .lia
    .exact mono i (hint-G) () () z2
   .cases q:U i with
    |false=>rfl
    |true=>rw[mono (hint-O) i () h2 q]at Y;cases Y
   .exact Vu<|h k h1 h2 h3
end
variable {A:Around} {a₀:Array Keyed} {x:Keyed} {blt:Keyed->Keyed->Bool} {R:Keyed->SortSt->Prop} {all o ra rb:List Keyed} {i n:Nat} {prog:Program} {JJ:Prop} {s:Shared} {κ:SortKind} {st:SortSt} {r:Std.Legacy.Range} {α β:Type} {Q:Unit->SortSt->Prop} {E:Value->Shared->Prop} {w:World}
noncomputable def HP:Array Keyed->Array Keyed->StateT SortSt Sem (Array Keyed):=sortPriv%PySem.Builtin.mergeLo
noncomputable def HQ:Array Keyed->Array Keyed->StateT SortSt Sem (Array Keyed):=sortPriv%PySem.Builtin.mergeHi
abbrev PW (blt:Keyed->Keyed->Bool) (l:List Keyed):Prop:=l.Pairwise (le blt)
structure Lo (blt:Keyed->Keyed->Bool) (all o ra rb:List Keyed):Prop where
 perm:(o++(ra++rb)).Perm all
 srt:PW blt o
 low:∀x∈o,∀y∈ra++rb,le blt x y
theorem Lo.a {G:List Keyed} (h:Lo blt all o (G++ra) rb) (hs:PW blt (G++ra)) (hc:∀x∈G,∀y∈rb,le blt x y):Lo blt all (o++G) ra rb where
 perm:=by
  refine VP ?_ h.perm;rw[Qm,Qm]
 srt:=Ql.mpr ⟨h.srt,(Ql.mp hs).1,λx hx y hy=>h.low x hx y<|by simp[hy]⟩
 low:=λx hx y hy=>by
  rcases Q5.mp hx with q|q
  .exact h.low x q y<|by rcases Q5.mp hy with z|z<;>simp[z]
  .rcases Q5.mp hy with z|z
   .exact(Ql.mp hs).2.2 x q y z
   .exact hc x q y z
theorem Lo.b {G:List Keyed} (h:Lo blt all o ra (G++rb)) (hs:PW blt (G++rb)) (hc:∀x∈G,∀y∈ra,le blt x y):Lo blt all (o++G) ra rb where
 perm:=by
  refine VP ?_ h.perm;rw[Qm];refine VX o ?_;rw[<-Qm,<-Qm];exact VO rb X1
 srt:=Ql.mpr ⟨h.srt,(Ql.mp hs).1,λx hx y hy=>h.low x hx y<|by simp[hy]⟩
 low:=λx hx y hy=>by
  rcases Q5.mp hx with q|q
  .exact h.low x q y<|by rcases Q5.mp hy with z|z<;>simp[z]
  .rcases Q5.mp hy with z|z
   .exact hc x q y z
   .exact(Ql.mp hs).2.2 x q y z
theorem Lo.endA (h:Lo blt all o ra []) (hs:PW blt ra):(o++ra).Perm all/\PW blt (o++ra):=
 ⟨by simpa using h.perm,Ql.mpr ⟨h.srt,hs,λx hx y hy=>h.low x hx y<|by simp[hy]⟩⟩
theorem Lo.endB {z:Keyed} (h:Lo blt all o [z] rb) (hs:PW blt rb) (hz:∀x∈rb,le blt x z):(o++(rb++ [z])).Perm all/\PW blt (o++(rb++ [z])):=by
 refine⟨VP (VX o X1) h.perm,Ql.mpr ⟨h.srt,Ql.mpr ⟨hs,Zh _ _,λx hx y hy=>?_⟩,λx hx y hy=>h.low x hx y ?_⟩⟩
 .rw[Q7.mp hy];exact hz x hx
 .rcases Q5.mp hy with q|q<;>simp_all
theorem xQ {a:Array Keyed} (h:i<a.size):a.toList.drop i=g a i::a.toList.drop (i+1):=by
 have e:=dZ h;rw[<-Qx]at e;obtain⟨h1,h2⟩:=Q2.mp e;rw[Zc h1,h2]
theorem lN {a:Array Keyed} (h:x∈a.toList.drop i):∃j,i<=j/\j<a.size/\x=g a j:=by
 obtain⟨k,hk,e⟩:=ZJ.mp h;rw[QH]at hk;have hs:i+k<a.size:=by rw[<-Qa];lia
 refine⟨i+k,(),hs,?_⟩;have e2:=dZ hs;rw[<-Qx]at e2;rw[ZG]at e;rw[Q3 (by rwa[Qa])]at e2;rw[<-e];exact Vq e2
theorem iW {a:Array Keyed} (h:On blt a 0 a.size) (i:Nat):PW blt (a.toList.drop i):=by
 refine QX.mpr λj k G hk I=>?_;rw[QH,Qa]at G hk;have z:=dZ (xs:=a) (i:=i+j) ();have e2:=dZ (xs:=a) (i:=i+k) ();rw[<-Qx,Q3 (by rw[Qa];lia)]at z e2;rw[ZG,ZG,Vq z,Vq e2];exact h _ _ (Qj _) () ()
theorem HB {a:Array Keyed} (h:PW blt a.toList):On blt a 0 a.size:=λi j _ z I=>by
 have G:=dZ (xs:=a) (i:=i) ();have e2:=dZ (xs:=a) (i:=j) I;rw[<-Qx,Q3 (by rw[Qa];lia)]at G e2;rw[<-Vq G,<-Vq e2];exact QX.mp h i j _ _ z
theorem sK (a:Array Keyed) (i k:Nat):(a.extract i<|i+k).toList=(a.toList.drop i).take k:=by
 rw[Zf,QY];congr 1;lia
theorem iD (a:Array Keyed) (i:Nat):(a.extract i).toList=a.toList.drop i:=by
 rw[Zf,QY,Qv];rw[QH,Qa];exact Q4 _
theorem CH (l:List Keyed) (i k:Nat):l.drop i=(l.drop i).take k++l.drop (i+k):=by
 rw[<-Vj,QM]
theorem EV {P H:α->Prop} (body:(∀x,H x->P x)->JJ) (last:∀x,H x->P x):JJ:=body last
theorem ss {P H:α->β->Prop} (body:(∀x y,H x y->P x y)->JJ) (last:∀x y,H x y->P x y):JJ:=body last
structure P5 (st st':SortSt):Prop where
 kind:kindOf st'=kindOf st
 arr:arrOf st'=arrOf st
 pend:pendingOf st'=pendingOf st
 fail:failedOf st'=failedOf st
theorem P5.refl (st:SortSt):P5 st st:=⟨M,M,M,M⟩
section
theorem bT {arr:Array Keyed} (h:i<arr.size) (q:R (g arr i) st):wpS (model prog w) A E s (elem' arr i) R st:=by
 rw[elem'_eq,dZ h];exact Vu q
noncomputable def DO:Nat->StateT SortSt Sem Unit:=sortPriv%PySem.Builtin.setMinGallop
theorem GV {m:Nat} (h:∀st',P5 st st'->Q Unit.unit st'):wpS (model prog w) A E s (DO m) Q st:=VQ (h _ ⟨M,M,M,M⟩)
theorem nmK {m:StateT SortSt Sem α} {k:α->StateT SortSt Sem β} {Q:β->SortSt->Prop} (h:let k':=k;wpS (model prog w) A E s (m>>=k') Q st):wpS (model prog w) A E s (m>>=k) Q st:=h
theorem nmF {γ:Type} {c:β} {f:Nat->β->StateT SortSt Sem (ForInStep β)} {k:β->StateT SortSt Sem γ} {Q:γ->SortSt->Prop} (h:let z:=f;let k':=k;wpS (model prog w) A E s (forIn r c z>>=k') Q st):wpS (model prog w) A E s (forIn r c f>>=k) Q st:=h
inductive MQ {δ:Type} (Q:Array Keyed->Prop) (I:Option (Array Keyed)×δ->Prop):Option (Array Keyed)×δ->Prop
 |ret {res x} (q:Q res):MQ Q I (some res,x)
 |go {c} (h:I c):MQ Q I c
inductive SM (blt:Keyed->Keyed->Bool) (a b:Array Keyed) {τ:Type} (n:Nat):Option (Array Keyed)×Array Keyed×Nat×Nat×τ->Prop
 |mk {out ia ib x} (ha:ia+1<a.size) (hb:ib<b.size) (hn:n<=ia+ib) (lo:Lo blt (a.toList++b.toList) out.toList (a.toList.drop ia) (b.toList.drop ib)):SM blt a b n (none,out,ia,ib,x)
theorem P5.trans {st' st2:SortSt} (h:P5 st st') (k:P5 st' st2):P5 st st2:=⟨k.kind.trans h.kind,k.arr.trans h.arr,k.pend.trans h.pend,k.fail.trans h.fail⟩
theorem HM {a:Array Keyed} (C:R7 blt) (G:On blt a 0 a.size) (ka:Nat) (x:Keyed) (i j:Nat) (h1:i<=j) (h2:ka+j<a.size) (z:(!blt x (g a<|ka+j))=true):(!blt x (g a<|ka+i))=true:=by
 have z:blt x (g a<|ka+j)=false:=by simpa using z
 by_cases e:i=j
 .subst e;simpa using z
 .have:=C.trans (G (ka+i) (ka+j) (Qj _) () h2) z;simpa using this
theorem HL {b:Array Keyed} (C:R7 blt) (ob:On blt b 0 b.size) (G:Nat) (x:Keyed) (i j:Nat) (h1:i<=j) (h2:G+j<b.size) (I:blt (g b<|G+j) x=true):blt (g b<|G+i) x=true:=by
 by_cases e:i=j
 .subst e;exact I
 .have q:=ob (G+i) (G+j) (Qj _) () h2;cases z:blt (g b<|G+i) x with
  |true=>rfl
  |false=>
   have f:blt (g b<|G+j) x=false:=C.trans z q;rw[I]at f;cases f
variable (L:BD prog w A E s a₀ κ blt)
include L
theorem Dx {a b:Array Keyed} {Q:Array Keyed->SortSt->Prop} (C:R7 blt) (hK:kindOf st=κ) (hm:∀x,x∈a.toList++b.toList->x∈a₀) (oa:On blt a 0 a.size) (ob:On blt b 0 b.size) (ha:0<a.size) (hb:0<b.size)
  (aa:blt (g b 0) (g a 0)=true) (ax:∀j,j<b.size->blt (g b j) (g a<|a.size-1)=true)
  (h:∀res st',P5 st st'->res.toList.Perm (a.toList++b.toList)->PW blt res.toList->Q res st'):wpS (model prog w) A E s (HP a b) Q st:=by
 have ma:∀i,i<a.size->g a i∈a₀:=λi hi=>hm _ (by have:=zY hi;simp[this]);have mb:∀i,i<b.size->g b i∈a₀:=λi hi=>hm _ (by have:=zY hi;simp[this]);have b2:∀(o:List Keyed) (G:Nat) (st':SortSt) (res:Array Keyed),P5 st st'->Lo blt (a.toList++b.toList) o (a.toList.drop G) []->res.toList=o++a.toList.drop G->Q res st':=λo G st' res lk lo e=>by
  obtain⟨p1,p2⟩:=lo.endA (iW oa G);exact h res st' lk (by rwa[e])<|by rwa[e]
 have b4:∀(o:List Keyed) (O:Nat) (st':SortSt) (res:Array Keyed),P5 st st'->Lo blt (a.toList++b.toList) o (a.toList.drop<|a.size-1) (b.toList.drop O)->res.toList=o++(b.toList.drop O++a.toList.drop (a.size-1))->Q res st':=λo O st' res lk lo e=>by
  have ez:a.toList.drop (a.size-1)=[g a (a.size-1)]:=by
   rw[xQ (),Zo (by rw[Qa];lia)]
  rw[ez]at lo e;obtain⟨p1,p2⟩:=lo.endB (iW ob O) (λx hx=>by
   obtain⟨j,_,hj,rfl⟩:=lN hx;exact C.of_lt<|ax j hj)
  exact h res st' lk (by rwa[e])<|by rwa[e]
 have ab:∀(out:Array Keyed) (G O k:Nat),G+k<=a.size->O<b.size->Lo blt (a.toList++b.toList) out.toList (a.toList.drop G) (b.toList.drop O)->(∀i,i<k->blt (g b O) (g a<|G+i)=false)->
   Lo blt (a.toList++b.toList) (out++a.extract G (G+k)).toList (a.toList.drop<|G+k) (b.toList.drop O):=λout G O k h1 h2 lo hk=>by
  rw[QN,sK];have pa:=iW oa G;rw[CH a.toList G k]at lo pa;refine lo.a pa λx hx y hy=>?_;obtain⟨i,hi,e⟩:=ZJ.mp hx;rw[Q6,QH,Qa]at hi;have ex:x=g a (G+i):=by
   have e2:=dZ (xs:=a) (i:=G+i) ();rw[<-Qx,Q3 (by rw[Qa];lia)]at e2;rw[Zx,ZG]at e;rw[<-e];exact Vq e2
  obtain⟨j,c3,ba,rfl⟩:=lN hy;have l1:le blt x (g b O):=by rw[ex];exact hk i ()
  by_cases ej:j=O
  .rwa[ej]
  .exact C.trans l1<|ob O j (Qj _) () ba
 have ah:∀(out:Array Keyed) (G O k:Nat),O+k<=b.size->G<a.size->Lo blt (a.toList++b.toList) out.toList (a.toList.drop G) (b.toList.drop O)->(∀i,i<k->blt (g b<|O+i) (g a G)=true)->
   Lo blt (a.toList++b.toList) (out++b.extract O (O+k)).toList (a.toList.drop G) (b.toList.drop<|O+k):=λout G O k h1 h2 lo hk=>by
  rw[QN,sK];have pb:=iW ob O;rw[CH b.toList O k]at lo pb;refine lo.b pb λx hx y hy=>?_;obtain⟨i,hi,e⟩:=ZJ.mp hx;rw[Q6,QH,Qa]at hi;have ex:x=g b (O+i):=by
   have e2:=dZ (xs:=b) (i:=O+i) ();rw[<-Qx,Q3 (by rw[Qa];lia)]at e2;rw[Zx,ZG]at e;rw[<-e];exact Vq e2
  obtain⟨j,c3,ba,rfl⟩:=lN hy;have l1:le blt x (g a G):=by rw[ex];exact C.of_lt<|hk i ()
  by_cases ej:j=G
  .rwa[ej]
  .exact C.trans l1<|oa G j (Qj _) () ba
 have one:∀(x:Array Keyed) (i:Nat),i<x.size->(x.extract i<|i+1)= #[g x i]:=λx i hi=>by
  apply Array.ext';rw[sK,xQ hi];rfl
 have b5:∀(out:Array Keyed) (G O:Nat),G<a.size->O<b.size->Lo blt (a.toList++b.toList) out.toList (a.toList.drop G) (b.toList.drop O)->blt (g b O) (g a G)=true->
   Lo blt (a.toList++b.toList) (out.push<|g b O).toList (a.toList.drop G) (b.toList.drop<|O+1):=λout G O h1 h2 lo hk=>by
  have:=ah out G O 1 () h1 lo λi hi=>by rwa[show O+i=O by lia]
  rwa [one b O h2,<-Xd]at this
 have b7:∀(out:Array Keyed) (G O:Nat),G<a.size->O<b.size->Lo blt (a.toList++b.toList) out.toList (a.toList.drop G) (b.toList.drop O)->blt (g b O) (g a G)=false->
   Lo blt (a.toList++b.toList) (out.push<|g a G).toList (a.toList.drop<|G+1) (b.toList.drop O):=λout G O h1 h2 lo hk=>by
  have:=ab out G O 1 () h2 lo λi hi=>by rwa[show G+i=G by lia]
  rwa [one a G h1,<-Xd]at this
 have endA:∀(out:Array Keyed) (G O:Nat) (st':SortSt),P5 st st'->b.size<=O->Lo blt (a.toList++b.toList) out.toList (a.toList.drop G) (b.toList.drop O)->Q (out++a.extract G++b.extract O) st':=λout G O st' lk hb lo=>by
  have en:b.toList.drop O=[]:=Zo (by rw[Qa];lia);rw[en]at lo;refine b2 _ G st' _ lk lo ?_;rw[QN,QN,iD,iD,en,Zj]
 have endB:∀(out:Array Keyed) (G O:Nat) (st':SortSt),P5 st st'->G+1=a.size->Lo blt (a.toList++b.toList) out.toList (a.toList.drop G) (b.toList.drop O)->Q (out++b.extract O++a.extract G) st':=λout G O st' lk ha lo=>by
  have en:G=a.size-1:=();refine b4 out.toList O st' _ lk (by rwa[<-en]) ?_;rw[QN,QN,iD,iD,<-en,Qm]
 refine Vs ?_;dsimp only;refine wpS_lift<|W4 ⟨M,?_⟩;refine nmK ?_;intro k0;refine Vs<|bT hb ?_;have start:Lo blt (a.toList++b.toList) [g b 0] (a.toList.drop 0) (b.toList.drop 1):=by
  have l0:Lo blt (a.toList++b.toList) [] (a.toList.drop 0) ([g b 0]++b.toList.drop 1):=by
   refine⟨?_,VJ,λx hx=>Vt hx Z7⟩;have e:=xQ hb;rw[Z1]at e;rw[Z1,Vd,List.singleton_append,<-e]
  have:=l0.b (by have:=iW ob 0;rw[xQ hb]at this;exact this) (λx hx y hy=>by
   rw[Q7.mp hx];obtain⟨j,_,hj,rfl⟩:=lN hy;by_cases j0:j=0
   .rw[j0];exact C.of_lt aa
   .exact C.trans (C.of_lt aa)<|oa 0 j (Q4 _) () hj)
  simpa using this
 dsimp only[k0];by_cases b1:1=b.size
 .have eb:(1==b.size)=true:=VB.mpr b1;rw[Vp eb];refine Vu ?_;have en:b.toList.drop 1=[]:=Zo (by rw[Qa];lia);rw[en]at start;refine b2 _ 0 st _ (P5.refl _) start ?_;simp[b1]
 .have eb:¬(1==b.size)=true:=by simpa using b1
  rw[Vo eb];by_cases a1:0+1=a.size
  .have ea:(0+1==a.size)=true:=VB.mpr a1;rw[Vp ea];refine Vu ?_;have e0:a.size-1=0:=();refine b4 [g b 0] 1 st _ (P5.refl _) (by rw[e0];exact start) ?_;rw[e0,QN,QN,iD,iD,Qm]
  .have ea:¬(0+1==a.size)=true:=by simpa using a1
   rw[Vo ea];refine nmK ?_;intro k1;refine Vs<|W3 ?_;dsimp only[k1];refine nmF ?_;intro f1 k2;refine Vs (W2 (VI (I:=λi c st'=>P5 st st'/\SM blt a b i c) (Q:=λc st'=>MQ (Q · st') (λ_=>False) c) ?_ ?_ ⟨P5.refl _,(),(),(),start⟩) ?_)
   .rintro i c st'- -⟨lk,@⟨out,G,O,mg,c4,hb1,hi,lo⟩⟩;have c5:kindOf st'=κ:=lk.kind.trans hK;dsimp only[f1];refine nmF ?_;intro f2 k3;refine Vs (W2 (VI (I:=λ_ c st2=>st2=st'/\SM blt a b i c) (Q:=λc st2=>st2=st'/\MQ (Q · st') (SM blt a b i) c) ?_ (λc st2 h=>⟨h.1,.go h.2⟩) ⟨M,c4,hb1,hi,lo⟩) ?_)
    .rintro j c st2- -⟨rfl,@⟨out,ja,jb,x,b8,Y,a2,lo⟩⟩;dsimp only[f2];refine Vs<|bT Y (Vs<|bT ()<|Vs<|L _ _ _ _ (mb jb Y) (ma ja ()) c5 ?_);dsimp only;cases e:blt (g b jb) (g a ja)with
     |true=>
      rw[Vp M];have a3:=b5 out ja jb () Y lo e;refine Vs<|bT Y ?_;by_cases z:jb+1=b.size
      .rw[Vp (VB.mpr z)];exact Vu ⟨M,.ret<|endA _ ja (jb+1) _ lk () a3⟩
      .rw[Vo (by simpa using z)];have hz:jb+1<b.size:=();split
       .exact Vu ⟨M,.go ⟨b8,hz,(),a3⟩⟩
       .exact Vu ⟨M,b8,hz,(),a3⟩
     |false=>
      rw[Vo (_)];have a3:=b7 out ja jb () Y lo e;refine Vs<|bT () ?_;by_cases z:ja+1+1=a.size
      .rw[Vp (VB.mpr z)];exact Vu ⟨M,.ret<|endB _ (ja+1) jb _ lk z a3⟩
      .rw[Vo (by simpa using z)];have hz:ja+1+1<a.size:=();split
       .exact Vu ⟨M,.go ⟨hz,Y,(),a3⟩⟩
       .exact Vu ⟨M,hz,Y,(),a3⟩
    .rintro c st2 ⟨rfl,⟨q⟩| @⟨_,@⟨out,ja,jb,x,b8,Y,a2,lo⟩⟩⟩
     .exact Vu<|.ret q
     .dsimp only[k3];refine nmK ?_;intro k5;refine Vs<|wpS_lift (W4 ⟨M,?_⟩);dsimp only[k5];refine nmF ?_;intro f3 k6;refine Vs (W2 (VI (I:=λj c a4=>P5 st a4/\SM blt a b (i+j) c) (Q:=λc a4=>P5 st a4/\MQ (Q · a4) (SM blt a b<|i+1) c) ?_ ?_ ⟨lk,b8,Y,a2,lo⟩) ?_)
      .rintro j c a4- -⟨a5,@⟨out,ka,U,⟨m',x⟩,bl,a0,a2,lo⟩⟩;dsimp only[f3];apply EV (α:=Nat) (H:=λ_=>True)
       .intro key;by_cases m1:m'>1
        .rw[Vp m1];generalize m'-1=mm;exact key mm trivial
        .rw[Vo m1];exact key m' trivial
       intro mm _;refine nmK ?_;intro k7;refine Vs<|GV λc9 lk4=>?_;replace lk4:=a5.trans lk4;have bo:kindOf c9=κ:=lk4.kind.trans hK;dsimp only[k7];refine nmK ?_;intro k8;refine Vs<|bT a0 ?_;refine nmK ?_;intro k9;refine Vs<|iC L bo (mb U a0) (λi hi=>⟨(),ma _ ()⟩) () (λi=>!blt (g b U) (g a<|ka+i)) (λi hi=>M) (λi j h1 h2 h3=>HM C oa ka _ i j h1 () h3) λk ca bb bt=>?_;have cb:k<a.size-ka:=by
        rcases Nat.lt_or_ge k (a.size-ka)with z|z
        .exact z
        .have f:=bb (a.size-1-ka) ();rw[show ka+(a.size-1-ka)=a.size-1 by lia,ax U a0]at f;cases f
       have c0:∀i,i<k->blt (g b U) (g a<|ka+i)=false:=λi hi=>by have:=bb i hi;simpa using this
       have bw:blt (g b U) (g a<|ka+k)=true:=by have:=bt k (Q4 _) cb;simpa using this
       clear ca bb bt;dsimp only[k9];apply ss (H:=λ(Z:Nat) (o':Array Keyed)=>ka<=Z/\Z+1<a.size/\Lo blt (a.toList++b.toList) o'.toList (a.toList.drop Z) (b.toList.drop U)/\blt (g b U) (g a Z)=true)
       .intro key;by_cases k0:k>0
        .rw[Vp k0];have lo1:=ab out ka U k () a0 lo c0;by_cases z:ka+k+1=a.size
         .rw[Vp (VB.mpr z)];exact Vu ⟨lk4,.ret<|endB _ (ka+k) U _ lk4 z lo1⟩
         have zz:¬ka+k=a.size:=();rw[Vo (by simpa using z),Vo (by simpa using zz)];have k5:ka<=ka+k/\ka+k+1<a.size:=();have bv:=bw;generalize out++a.extract ka (ka+k)=o' at lo1⊢;generalize ka+k=Z at lo1 bv k5⊢;exact key Z o' ⟨k5.1,k5.2,lo1,bv⟩
        .rw[Vo k0];have bv:=bw;rw[show k=0 by lia,ZY]at bv;exact key ka out ⟨Q4 _,(),lo,bv⟩
       intro Z o' hc;obtain⟨c1,c2,lo1,bw⟩:=hc;refine nmK ?_;intro cc;refine Vs<|bT a0 ?_;have bc:=b5 _ Z U () a0 lo1 bw;dsimp only[cc];by_cases z2:U+1=b.size
       .rw[Vp (VB.mpr z2)];exact Vu ⟨lk4,.ret<|endA _ Z (U+1) _ lk4 () bc⟩
       rw[Vo (by simpa using z2)];refine nmK ?_;intro ce;refine Vs<|bT () ?_;refine nmK ?_;intro cd;refine Vs<|iC L bo (ma _ ()) (λi hi=>⟨(),mb _ ()⟩) () (λi=>blt (g b<|U+1+i)<|g a Z) (λi hi=>M) (λi j h1 h2 h3=>HL C ob (U+1) _ i j h1 () h3) λk2 h1 h2 h3=>?_;dsimp only[cd];apply ss (H:=λ(kd:Nat) (o2:Array Keyed)=>U+1<=kd/\kd<b.size/\Lo blt (a.toList++b.toList) o2.toList (a.toList.drop Z) (b.toList.drop kd)/\blt (g b kd) (g a Z)=false)
       .intro key;by_cases q0:k2>0
        .rw[Vp q0];have an:=ah _ Z (U+1) k2 () () bc h2;by_cases z3:U+1+k2=b.size
         .rw[Vp (VB.mpr z3)];exact Vu ⟨lk4,.ret<|endA _ Z (U+1+k2) _ lk4 () an⟩
         rw[Vo (by simpa using z3)];have w3:=h3 k2 (Q4 _) ();have k5:U+1<=U+1+k2/\U+1+k2<b.size:=();generalize o'.push (g b U)++b.extract (U+1) (U+1+k2)=o2 at an⊢;generalize U+1+k2=kd at an w3 k5⊢;exact key kd o2 ⟨k5.1,k5.2,an,w3⟩
        .rw[Vo q0];have w3:blt (g b<|U+1) (g a Z)=false:=h3 0 () ();have k5:U+1<b.size:=();exact key (U+1) _ ⟨Q4 _,k5,bc,w3⟩
       intro kd o2 hd;obtain⟨d1,d2,an,w3⟩:=hd;refine Vs<|bT () ?_;have be:=b7 _ Z kd () () an w3;by_cases z4:Z+1+1=a.size
       .rw[Vp (VB.mpr z4)];exact Vu ⟨lk4,.ret<|endB _ (Z+1) kd _ lk4 z4 be⟩
       rw[Vo (by simpa using z4)];split
       .exact Vu ⟨lk4,.go ⟨(),(),(),be⟩⟩
       .exact Vu ⟨lk4,(),(),(),be⟩
      .rintro c a4 ⟨a5,@⟨_,ka,U,_,_,_,a2,_⟩⟩;have em:max 0 (a.size+b.size)=a.size+b.size:=QS (Qj _);rw[em]at a2;lia
      .rintro c a4 ⟨a5,⟨q⟩| @⟨_,⟨bl,a0,a2,lo⟩⟩⟩
       .exact Vu<|.ret q
       .dsimp only[k6];exact Vs<|VQ (Vu ⟨⟨a5.kind,a5.arr,a5.pend,a5.fail⟩,bl,a0,a2,lo⟩)
   .rintro c st' ⟨lk,@⟨_,G,O,_,_,_,hi,_⟩⟩;have em:max 0 (a.size+b.size)=a.size+b.size:=QS (Qj _);rw[em]at hi;lia
   .rintro c st' (⟨q⟩|⟨⟨⟩⟩);exact Vu q
end
structure Hi (blt:Keyed->Keyed->Bool) (all o ra rb:List Keyed):Prop where
 perm:((ra++rb)++o).Perm all
 srt:PW blt o
 high:∀x∈ra++rb,∀y∈o,le blt x y
theorem Hi.a {G:List Keyed} (h:Hi blt all o (ra++G) rb) (hs:PW blt (ra++G)) (hc:∀x∈rb,∀y∈G,le blt x y):Hi blt all (G++o) ra rb where
 perm:=by
  refine VP ?_ h.perm;rw[<-Qm];refine VO o ?_;rw[Qm,Qm];exact VX ra X1
 srt:=Ql.mpr ⟨(Ql.mp hs).2.1,h.srt,λx hx y hy=>h.high x (by simp[hx]) y hy⟩
 high:=λx hx y hy=>by
  rcases Q5.mp hy with q|q
  .rcases Q5.mp hx with z|z
   .exact(Ql.mp hs).2.2 x z y q
   .exact hc x z y q
  .exact h.high x (by rcases Q5.mp hx with z|z<;>simp[z]) y q
theorem Hi.b {G:List Keyed} (h:Hi blt all o ra (rb++G)) (hs:PW blt (rb++G)) (hc:∀x∈ra,∀y∈G,le blt x y):Hi blt all (G++o) ra rb where
 perm:=by
  refine VP ?_ h.perm;rw[<-Qm];refine VO o ?_;rw[Qm]
 srt:=Ql.mpr ⟨(Ql.mp hs).2.1,h.srt,λx hx y hy=>h.high x (by simp[hx]) y hy⟩
 high:=λx hx y hy=>by
  rcases Q5.mp hy with q|q
  .rcases Q5.mp hx with z|z
   .exact hc x z y q
   .exact(Ql.mp hs).2.2 x z y q
  .exact h.high x (by rcases Q5.mp hx with z|z<;>simp[z]) y q
theorem G4 {a:Array Keyed} (h:i<a.size):a.toList.take (i+1)=a.toList.take i++ [g a i]:=by
 have e:=dZ h;rw[<-Qx]at e;rw[Qq,e];rfl
theorem i5 {a:Array Keyed} (h:x∈a.toList.take n):∃j,j<n/\j<a.size/\x=g a j:=by
 obtain⟨k,hk,e⟩:=ZJ.mp h;rw[Q6,Qa]at hk;refine⟨k,(),(),?_⟩;have e2:=dZ (xs:=a) (i:=k) ();rw[<-Qx,Q3 (by rw[Qa];lia)]at e2;rw[Zx]at e;rw[<-e];exact Vq e2
theorem e7 {a:Array Keyed} (h:x∈(a.extract i n).toList):∃j,i<=j/\j<n/\j<a.size/\x=g a j:=by
 rw[Zf,QY]at h;obtain⟨k,hk,e⟩:=ZJ.mp h;rw[Q6,QH,Qa]at hk;refine⟨i+k,(),(),(),?_⟩;have e2:=dZ (xs:=a) (i:=i+k) ();rw[<-Qx,Q3 (by rw[Qa];lia)]at e2;rw[Zx,ZG]at e;rw[<-e];exact Vq e2
theorem pz {a:Array Keyed} (h:On blt a 0 a.size) (n:Nat):PW blt (a.toList.take n):=by
 have:=iW h 0;rw[Z1]at this;exact List.Pairwise.sublist (Xm _ _) this
theorem BV {a:Array Keyed} (h:i<=n):a.toList.take n=a.toList.take i++(a.extract i n).toList:=by
 rw[Zf,QY];obtain⟨k,rfl⟩:∃k,n=i+k:=⟨n-i,()⟩;rw[List.take_add,show i+k-i=k by lia]
theorem K3 (a:Array Keyed) (n:Nat):(a.extract 0 n).toList=a.toList.take n:=by
 rw[Zf,QY,Z1,Nat.sub_zero]
section
inductive SH (blt:Keyed->Keyed->Bool) (a b:Array Keyed) {τ:Type} (n:Nat):Option (Array Keyed)×Nat×Nat×Array Keyed×τ->Prop
 |mk {na nb out x} (h1:1<=na) (h2:na<=a.size) (h3:2<=nb) (h4:nb<=b.size) (hn:na+nb+n<=a.size+b.size) (lo:Hi blt (a.toList++b.toList) out.reverse.toList (a.toList.take na) (b.toList.take nb)):SH blt a b n (none,na,nb,out,x)
variable (L:BD prog w A E s a₀ κ blt)
include L
theorem Dy {a b:Array Keyed} {Q:Array Keyed->SortSt->Prop} (C:R7 blt) (hK:kindOf st=κ) (hm:∀x,x∈a.toList++b.toList->x∈a₀) (oa:On blt a 0 a.size) (ob:On blt b 0 b.size) (ha:0<a.size) (hb:0<b.size)
  (a5:blt (g b 0) (g a 0)=true) (bl:∀j,j<b.size->blt (g b j) (g a<|a.size-1)=true)
  (h:∀res st',P5 st st'->res.toList.Perm (a.toList++b.toList)->PW blt res.toList->Q res st'):wpS (model prog w) A E s (HQ a b) Q st:=by
 have ma:∀i,i<a.size->g a i∈a₀:=λi hi=>hm _ (by have:=zY hi;simp[this]);have mb:∀i,i<b.size->g b i∈a₀:=λi hi=>hm _ (by have:=zY hi;simp[this]);have aa:∀i,i<a.size->blt (g b 0) (g a i)=true:=λi hi=>by
  by_cases i0:i=0
  .rwa[i0]
  .cases z:blt (g b 0) (g a i)with
   |true=>rfl
   |false=>
    have f:blt (g b 0) (g a 0)=false:=C.trans (oa 0 i (Q4 _) () hi) z;rw[a5]at f;cases f
 have ab:∀(out:Array Keyed) (G O k:Nat),k<=G->G<=a.size->1<=O->O<=b.size->Hi blt (a.toList++b.toList) out.reverse.toList (a.toList.take G) (b.toList.take O)->(∀i,k<=i->i<G->blt (g b<|O-1) (g a i)=true)->
   Hi blt (a.toList++b.toList) (out++(a.extract k G).reverse).reverse.toList (a.toList.take k) (b.toList.take O):=λout G O k h1 h2 h3 h4 lo hk=>by
  have er:(out++(a.extract k G).reverse).reverse.toList=(a.extract k G).toList++out.reverse.toList:=by simp
  have pa:=pz oa G;rw[BV h1]at lo pa;rw[er];refine lo.a pa λx hx y hy=>?_;obtain⟨i,b5,b7,cd,rfl⟩:=e7 hy;obtain⟨j,bw,bo,rfl⟩:=i5 hx;have l1:=C.of_lt (hk i b5 b7);by_cases ej:j=O-1
  .rwa[ej]
  .exact C.trans (ob j (O-1) (Qj _) () ()) l1
 have ah:∀(out:Array Keyed) (G O k:Nat),k<=O->O<=b.size->1<=G->G<=a.size->Hi blt (a.toList++b.toList) out.reverse.toList (a.toList.take G) (b.toList.take O)->(∀i,k<=i->i<O->blt (g b i) (g a<|G-1)=false)->
   Hi blt (a.toList++b.toList) (out++(b.extract k O).reverse).reverse.toList (a.toList.take G) (b.toList.take k):=λout G O k h1 h2 h3 h4 lo hk=>by
  have er:(out++(b.extract k O).reverse).reverse.toList=(b.extract k O).toList++out.reverse.toList:=by simp
  have pb:=pz ob O;rw[BV h1]at lo pb;rw[er];refine lo.b pb λx hx y hy=>?_;obtain⟨i,b5,b7,cd,rfl⟩:=e7 hy;obtain⟨j,bw,bo,rfl⟩:=i5 hx;have l1:le blt (g a<|G-1) (g b i):=hk i b5 b7;by_cases ej:j=G-1
  .rwa[ej]
  .exact C.trans (oa j (G-1) (Qj _) () ()) l1
 have one:∀(x:Array Keyed) (i:Nat),i<x.size->(x.extract i<|i+1).reverse= #[g x i]:=λx i hi=>by
  have:x.extract i (i+1)= #[g x i]:=by
   apply Array.ext';rw[sK,xQ hi];rfl
  rw[this];rfl
 have b2:∀(out:Array Keyed) (G O:Nat),1<=G->G<=a.size->1<=O->O<=b.size->Hi blt (a.toList++b.toList) out.reverse.toList (a.toList.take G) (b.toList.take O)->blt (g b<|O-1) (g a<|G-1)=true->
   Hi blt (a.toList++b.toList) (out.push<|g a<|G-1).reverse.toList (a.toList.take<|G-1) (b.toList.take O):=λout G O h1 h2 h3 h4 lo hk=>by
  have:=ab out G O (G-1) () h2 h3 h4 lo λi hi hj=>by rwa[show i=G-1 by lia]
  rwa [show a.extract (G-1) G=a.extract (G-1) (G-1+1) by rw[show G-1+1=G by lia],one a (G-1) (),<-Xd]at this
 have b4:∀(out:Array Keyed) (G O:Nat),1<=G->G<=a.size->1<=O->O<=b.size->Hi blt (a.toList++b.toList) out.reverse.toList (a.toList.take G) (b.toList.take O)->blt (g b<|O-1) (g a<|G-1)=false->
   Hi blt (a.toList++b.toList) (out.push<|g b<|O-1).reverse.toList (a.toList.take G) (b.toList.take<|O-1):=λout G O h1 h2 h3 h4 lo hk=>by
  have:=ah out G O (O-1) () h4 h1 h2 lo λi hi hj=>by rwa[show i=O-1 by lia]
  rwa [show b.extract (O-1) O=b.extract (O-1) (O-1+1) by rw[show O-1+1=O by lia],one b (O-1) (),<-Xd]at this
 have endA:∀(out:Array Keyed) (G O:Nat) (st':SortSt),P5 st st'->G=0->O<=b.size->Hi blt (a.toList++b.toList) out.reverse.toList (a.toList.take G) (b.toList.take O)->Q (a.extract 0 G++b.extract 0 O++out.reverse) st':=λout G O st' lk hn c0 lo=>by
  subst hn;have e:(a.extract 0 0++b.extract 0 O++out.reverse).toList=b.toList.take O++out.reverse.toList:=by
   rw[QN,QN,K3,K3];rfl
  refine h _ st' lk ?_ ?_
  .rw[e];exact lo.perm
  .rw[e];exact Ql.mpr ⟨pz ob O,lo.srt,λx hx y hy=>lo.high x (by simp[hx]) y hy⟩
 have endB:∀(out:Array Keyed) (G O:Nat) (st':SortSt),P5 st st'->O=1->G<=a.size->Hi blt (a.toList++b.toList) out.reverse.toList (a.toList.take G) (b.toList.take O)->Q (b.extract 0 O++a.extract 0 G++out.reverse) st':=λout G O st' lk hn c3 lo=>by
  subst hn;have e:(b.extract 0 1++a.extract 0 G++out.reverse).toList=(b.toList.take 1++a.toList.take G)++out.reverse.toList:=by
   rw[QN,QN,K3,K3]
  refine h _ st' lk ?_ ?_
  .rw[e];exact VP (VO _ X1) lo.perm
  .rw[e];refine Ql.mpr ⟨Ql.mpr ⟨pz ob 1,pz oa G,λx hx y hy=>?_⟩,lo.srt,λx hx y hy=>lo.high x ?_ y hy⟩
   .obtain⟨i,b5,b7,rfl⟩:=i5 hx;obtain⟨j,bw,bo,rfl⟩:=i5 hy;rw[show i=0 by lia];exact C.of_lt<|aa j bo
   .rcases Q5.mp hx with z|z
    .exact Q5.mpr<|.inr z
    .exact Q5.mpr<|.inl z
 refine Vs ?_;dsimp only;refine wpS_lift<|W4 ⟨M,?_⟩;refine nmK ?_;intro k0;refine Vs<|bT () ?_;have start:Hi blt (a.toList++b.toList) (#[g a (a.size-1)]:Array Keyed).reverse.toList (a.toList.take<|a.size-1) (b.toList.take b.size):=by
  have l0:Hi blt (a.toList++b.toList) [] (a.toList.take (a.size-1)++ [g a (a.size-1)]) (b.toList.take b.size):=by
   refine⟨?_,VJ,λx _ y hy=>Vt hy Z7⟩;rw[<-G4 (),show a.size-1+1=a.size by lia,Zj];have e1:a.toList.take a.size=a.toList:=Qv (by rw[Qa];exact Q4 _);have e2:b.toList.take b.size=b.toList:=Qv (by rw[Qa];exact Q4 _);rw[e1,e2]
  have:=l0.a (by rw[<-G4 ()];exact pz oa _) (λx hx y hy=>by
   rw[Q7.mp hy];obtain⟨j,_,hj,rfl⟩:=i5 hx;exact C.of_lt<|bl j hj)
  exact this
 dsimp only[k0];by_cases a1:a.size-1=0
 .rw[Vp (VB.mpr a1)];exact Vu<|endA _ (a.size-1) b.size st (P5.refl _) a1 (Q4 _) start
 .rw[Vo (by simpa using a1)];by_cases b1:b.size=1
  .rw[Vp (VB.mpr b1)];exact Vu<|endB _ (a.size-1) b.size st (P5.refl _) b1 () start
  .rw[Vo (by simpa using b1)];refine nmK ?_;intro k1;refine Vs<|W3 ?_;dsimp only[k1];refine nmF ?_;intro f1 k2;refine Vs (W2 (VI (I:=λi c st'=>P5 st st'/\SH blt a b i c) (Q:=λc st'=>MQ (Q · st') (λ_=>False) c) ?_ ?_ ⟨P5.refl _,(),(),(),Q4 _,(),start⟩) ?_)
   .rintro i c st'- -⟨lk,@⟨G,O,out,mg,ce,c3,hb1,c0,hi,lo⟩⟩;have cf:kindOf st'=κ:=lk.kind.trans hK;dsimp only[f1];refine nmF ?_;intro f2 k3;refine Vs (W2 (VI (I:=λ_ c st2=>st2=st'/\SH blt a b i c) (Q:=λc st2=>st2=st'/\MQ (Q · st') (SH blt a b i) c) ?_ (λc st2 h=>⟨h.1,.go h.2⟩) ⟨M,ce,c3,hb1,c0,hi,lo⟩) ?_)
    .rintro j c st2- -⟨rfl,@⟨ja,jb,out,x,b8,Y,ba,Z,a0,lo⟩⟩;dsimp only[f2];refine Vs<|bT () (Vs<|bT ()<|Vs<|L _ _ _ _ (mb (jb-1) ()) (ma (ja-1) ()) cf ?_);dsimp only;cases e:blt (g b<|jb-1) (g a<|ja-1)with
     |true=>
      rw[Vp M];have a2:=b2 out ja jb () Y () Z lo e;refine Vs<|bT () ?_;by_cases z:ja-1=0
      .rw[Vp (VB.mpr z)];exact Vu ⟨M,.ret<|endA _ (ja-1) jb _ lk z Z a2⟩
      .rw[Vo (by simpa using z)];split
       .exact Vu ⟨M,.go ⟨(),(),ba,Z,(),a2⟩⟩
       .exact Vu ⟨M,(),(),ba,Z,(),a2⟩
     |false=>
      rw[Vo (_)];have a2:=b4 out ja jb () Y () Z lo e;refine Vs<|bT () ?_;by_cases z:jb-1=1
      .rw[Vp (VB.mpr z)];exact Vu ⟨M,.ret<|endB _ ja (jb-1) _ lk z Y a2⟩
      .rw[Vo (by simpa using z)];split
       .exact Vu ⟨M,.go ⟨b8,Y,(),(),(),a2⟩⟩
       .exact Vu ⟨M,b8,Y,(),(),(),a2⟩
    .rintro c st2 ⟨rfl,⟨q⟩| @⟨_,@⟨ja,jb,out,x,b8,Y,ba,Z,a0,lo⟩⟩⟩
     .exact Vu<|.ret q
     .dsimp only[k3];refine nmK ?_;intro k5;refine Vs<|wpS_lift (W4 ⟨M,?_⟩);dsimp only[k5];refine nmF ?_;intro f3 k6;refine Vs (W2 (VI (I:=λj c a3=>P5 st a3/\SH blt a b (i+j) c) (Q:=λc a3=>P5 st a3/\MQ (Q · a3) (SH blt a b<|i+1) c) ?_ ?_ ⟨lk,b8,Y,ba,Z,a0,lo⟩) ?_)
      .rintro j c a3- -⟨a4,@⟨ka,kb,out,⟨m',x⟩,c4,bc,c5,be,a0,lo⟩⟩;dsimp only[f3];apply EV (α:=Nat) (H:=λ_=>True)
       .intro key;by_cases m1:m'>1
        .rw[Vp m1];generalize m'-1=mm;exact key mm trivial
        .rw[Vo m1];exact key m' trivial
       intro mm _;refine nmK ?_;intro k7;refine Vs<|GV λcg lk4=>?_;replace lk4:=a4.trans lk4;have c9:kindOf cg=κ:=lk4.kind.trans hK;dsimp only[k7];refine nmK ?_;intro k8;refine Vs<|bT () ?_;refine nmK ?_;intro k9;refine Vs<|iC L c9 (mb (kb-1) ()) (λi hi=>⟨(),ma _ ()⟩) () (λi=>!blt (g b<|kb-1) (g a<|0+i)) (λi hi=>M) (λi j h1 h2 h3=>HM C oa 0 _ i j h1 () h3) λk co ca cb=>?_;have an:∀i,i<k->blt (g b<|kb-1) (g a i)=false:=λi hi=>by have f:=ca i hi;rw[Xy]at f;simpa using f
       have cc:∀i,k<=i->i<ka->blt (g b<|kb-1) (g a i)=true:=λi hi hj=>by have f:=cb i hi hj;rw[Xy]at f;simpa using f
       clear ca cb;dsimp only[k9];apply ss (H:=λ(U:Nat) (o':Array Keyed)=>0<U/\U<=ka/\(∀i,i<U->blt (g b<|kb-1) (g a i)=false)/\Hi blt (a.toList++b.toList) o'.reverse.toList (a.toList.take U) (b.toList.take kb))
       .intro key;by_cases k0:ka-k>0
        .rw[Vp k0];have lo1:=ab out ka kb k () () () () lo cc;by_cases z:k=0
         .rw[Vp (VB.mpr z)];exact Vu ⟨lk4,.ret<|endA _ k kb _ lk4 z () lo1⟩
         rw[Vo (by simpa using z)];generalize out++(a.extract k ka).reverse=o' at lo1⊢;obtain⟨U,ek⟩:∃U,U=k:=⟨_,M⟩;rw[<-ek]at lo1⊢;exact key U o' ⟨(),(),by rwa[ek],lo1⟩
        .rw[Vo k0];have e0:k=ka:=();rw[e0];exact key ka out ⟨(),Q4 _,by rwa[<-e0],lo⟩
       intro U o' hc;obtain⟨c1,c2,an,lo1⟩:=hc;refine nmK ?_;intro ci;refine Vs<|bT () ?_;have bt:=b4 _ U kb () () () () lo1 (an (U-1) ());dsimp only[ci];by_cases z2:kb-1=1
       .rw[Vp (VB.mpr z2)];exact Vu ⟨lk4,.ret<|endB _ U (kb-1) _ lk4 z2 () bt⟩
       rw[Vo (by simpa using z2)];refine nmK ?_;intro cp;refine Vs<|bT () ?_;refine nmK ?_;intro cj;refine Vs<|iC L c9 (ma _ ()) (λi hi=>⟨(),mb _ ()⟩) () (λi=>blt (g b<|0+i)<|g a<|U-1) (λi hi=>M) (λi j h1 h2 h3=>HL C ob 0 _ i j h1 () h3) λk2 h1 h2 h3=>?_;have cs:0<k2:=by
        rcases ZB k2 with z|z
        .have f:blt (g b<|0+0) (g a<|U-1)=false:=h3 0 () ();rw[ZY,aa (U-1) ()]at f;cases f
        .exact z
       have bb:∀i,i<k2->blt (g b i) (g a<|U-1)=true:=λi hi=>by have f:=h2 i hi;rwa [Xy]at f
       have ck:∀i,k2<=i->i<kb-1->blt (g b i) (g a<|U-1)=false:=λi hi hj=>by have f:=h3 i hi hj;rwa [Xy]at f
       clear h2 h3;dsimp only[cj];apply ss (H:=λ(kd:Nat) (o2:Array Keyed)=>1<kd/\kd<=kb-1/\(∀i,i<kd->blt (g b i) (g a<|U-1)=true)/\Hi blt (a.toList++b.toList) o2.reverse.toList (a.toList.take U) (b.toList.take kd))
       .intro key;by_cases q0:kb-1-k2>0
        .rw[Vp q0];have ax:=ah _ U (kb-1) k2 () () () () bt ck;by_cases z3:k2=1
         .rw[Vp (VB.mpr z3)];exact Vu ⟨lk4,.ret<|endB _ U k2 _ lk4 z3 () ax⟩
         have zz:¬k2=0:=();rw[Vo (by simpa using z3),Vo (by simpa using zz)];generalize o'.push (g b<|kb-1)++(b.extract k2<|kb-1).reverse=o2 at ax⊢;obtain⟨kd,ed⟩:∃kd,kd=k2:=⟨_,M⟩;rw[<-ed]at ax⊢;exact key kd o2 ⟨(),(),by rwa[ed],ax⟩
        .rw[Vo q0];have e2:k2=kb-1:=();rw[e2];exact key (kb-1) _ ⟨(),Q4 _,by rwa[<-e2],bt⟩
       intro kd o2 hd;obtain⟨d1,d2,bb,ax⟩:=hd;refine Vs<|bT () ?_;have bv:=b2 _ U kd () () () () ax (bb (kd-1) ());by_cases z4:U-1=0
       .rw[Vp (VB.mpr z4)];exact Vu ⟨lk4,.ret<|endA _ (U-1) kd _ lk4 z4 () bv⟩
       rw[Vo (by simpa using z4)];split
       .exact Vu ⟨lk4,.go ⟨(),(),(),(),(),bv⟩⟩
       .exact Vu ⟨lk4,(),(),(),(),(),bv⟩
      .rintro c a3 ⟨a4,@⟨ka,kb,_,_,_,_,_,_,a0,_⟩⟩;have em:max 0 (a.size+b.size)=a.size+b.size:=QS (Qj _);rw[em]at a0;lia
      .rintro c a3 ⟨a4,⟨q⟩| @⟨_,⟨c4,bc,c5,be,a0,lo⟩⟩⟩
       .exact Vu<|.ret q
       .dsimp only[k6];exact Vs<|VQ (Vu ⟨⟨a4.kind,a4.arr,a4.pend,a4.fail⟩,c4,bc,c5,be,a0,lo⟩)
   .rintro c st' ⟨lk,@⟨_,_,_,_,_,_,_,_,hi,_⟩⟩;have em:max 0 (a.size+b.size)=a.size+b.size:=QS (Qj _);rw[em]at hi;lia
   .rintro c st' (⟨q⟩|⟨⟨⟩⟩);exact Vu q
end
variable {A:Around} {p:Array (Nat×Nat×Nat)} {arr a₀ m xs:Array Keyed} {Q:Bool->SortSt->Prop} {blt:Keyed->Keyed->Bool} {l:List (Nat×Nat×Nat)} {at_ i lo n:Nat} {prog:Program} {s:Shared} {κ:SortKind} {st:SortSt} {α:Type} {E:Value->Shared->Prop} {w:World}
def Rq (arr:Array Keyed) (at_:Nat) (m:Array Keyed):Array Keyed:=m.toList.zipIdx.foldl (λa p=>a.setIfInBounds (at_+p.2) p.1) arr
theorem Ie:∀(l:List Keyed) (j:Nat) (arr:Array Keyed) (at_:Nat),at_+j+l.length<=arr.size->
  ((l.zipIdx j).foldl (λa p=>a.setIfInBounds (at_+p.2) p.1) arr).toList=arr.toList.take (at_+j)++l++arr.toList.drop (at_+j+l.length)
 | [],j,arr,at_,h=>by simp
 |x::l,j,arr,at_,h=>by
  rw[List.zipIdx_cons,List.foldl_cons];have hl:at_+j<arr.size:=by simp at h;lia
  have z:=Ie l (j+1) (arr.setIfInBounds (at_+j) x) at_ (by simp at h⊢;lia)
  rw[z,Vk];have G:(arr.toList.set (at_+j) x).take (at_+(j+1))=arr.toList.take (at_+j)++ [x]:=by
   rw[show at_+(j+1)=at_+j+1 by lia,Qq,List.take_set_of_le (Q4 _),Xw (by rwa[Qa])];rfl
  have e2:(arr.toList.set (at_+j) x).drop (at_+(j+1)+l.length)=arr.toList.drop (at_+j+(x::l).length):=by
   rw[List.drop_set_of_lt ()];congr 1;simp;lia
  rw[G,e2,Qm,Qm,Qm];rfl
theorem Cz (h:at_+m.size<=arr.size):(Rq arr at_ m).toList=arr.toList.take at_++m.toList++arr.toList.drop (at_+m.size):=by
 have:=Ie m.toList 0 arr at_ (by simpa using h)
 simpa[Rq]using this
theorem Bl (xs:Array Keyed) (k:Nat):g xs k=(xs.toList[k]?).getD dk:=by unfold g;rw[Qx]
theorem Ox (h:at_+m.size<=arr.size) (k:Nat):g (Rq arr at_ m) k=if at_<=k/\k<at_+m.size then g m (k-at_)else g arr k:=by
 rw[Bl,Cz h];have l1:(arr.toList.take at_).length=at_:=by rw[Q6,Qa];lia
 by_cases a:k<at_
 .rw[Vo (),Qm,QT (),Xn a,<-Bl]
 .by_cases b:k<at_+m.size
  .rw[Vp ⟨(),b⟩,Qm,QW (),l1,QT (by rw[Qa];lia),<-Bl]
  .rw[Vo (),QW (by rw[Q8,l1,Qa];lia),Q8,l1,Qa,ZC,show at_+m.size+(k-(at_+m.size))=k by lia,<-Bl]
theorem Ic (h:at_+m.size<=arr.size) (p:m.toList.Perm ((arr.toList.drop at_).take m.size)):(Rq arr at_ m).Perm arr:=by
 rw[Xk,Cz h];have e:arr.toList=arr.toList.take at_++((arr.toList.drop at_).take m.size++arr.toList.drop (at_+m.size)):=by
  rw[<-Vj,QM,QM]
 refine VP ?_<|VV e.symm;rw[Qm];exact VX _<|VO _ p
theorem qb (h:n<=arr.size) {k:Nat} (hk:k<n-i):g (arr.extract i n) k=g arr (i+k):=by
 unfold g;rw[Array.getElem?_extract,Vp ()]
theorem wC (h:n<=arr.size):(arr.extract i n).size=n-i:=by rw[Array.size_extract];lia
theorem AX (h:n<=arr.size) (o:On blt arr i n):On blt (arr.extract i n) 0 (arr.extract i n).size:=λa b _ z hb=>by
 rw[wC h]at hb;rw[qb h (),qb h hb];exact o _ _ () () ()
section
theorem JZ {x:SortSt} {Q:PUnit->SortSt->Prop} (h:Q ⟨⟩ x):wpS (model prog w) A E s (set x:StateT SortSt Sem PUnit) Q st:=by
 unfold wpS;rw[StateT.run_set];exact VD ⟨M,h⟩
variable (L:BD prog w A E s a₀ κ blt)
include L
theorem Dz {G I pa sb U pb:Nat} (C:R7 blt) (JJ:OU a₀ κ st) (hi:(pendingOf st)[i]?=some (G,I,pa)) (O:(pendingOf st)[i+1]?=some (sb,U,pb)) (hb:sb=G+I) (h1:1<=I) (h2:1<=U) (hz:sb+U<=a₀.size)
  (oa:On blt (arrOf st) G (G+I)) (ob:On blt (arrOf st) sb (sb+U))
  (h:∀st',OU a₀ κ st'->pendingOf st'=((pendingOf st).setIfInBounds i (G,I+U,pa)).eraseIdxIfInBounds (i+1)->On blt (arrOf st') G (G+(I+U))->(∀k,k<G\/G+(I+U)<=k->g (arrOf st') k=g (arrOf st) k)->Q true st'):
  wpS (model prog w) A E s (mergeAt' i) Q st:=by
 subst hb;have hsz:=JJ.size;have b5:((sortPriv%PySem.Builtin.SortState.a) st).size=a₀.size:=JJ.size;refine Vs<|W3 ?_;dsimp only;rw[hi,O];dsimp only;refine Vs<|JZ ?_;have B1:OU a₀ κ (SortSt.mk' (kindOf st) (arrOf st) (((pendingOf st).setIfInBounds i (G,I+U,pa)).eraseIdxIfInBounds<|i+1) (gallopOf st)<|failedOf st):=⟨JJ.kind,JJ.fine,JJ.perm⟩;refine Vs<|bT () ?_;refine Vs<|iC L B1.kind (JJ.mem ()) (λj O=>⟨(),JJ.mem ()⟩) () (λj=>!blt (g (arrOf st)<|G+I) (g (arrOf st)<|G+j)) (λj O=>M) (λx y h3 h4 h5=>?_) λk b7 ax b1=>?_
 .have h5:blt (g (arrOf st)<|G+I) (g (arrOf st)<|G+y)=false:=by simpa using h5
  by_cases e:x=y
  .subst e;simpa using h5
  .have:=C.trans (oa (G+x) (G+y) () () ()) h5;simpa using this
 .dsimp only;have low:∀j,j<k->le blt (g (arrOf st)<|G+j) (g (arrOf st)<|G+I):=λj O=>by have:=ax j O;simpa using this
  have up:∀j,k<=j->j<I->blt (g (arrOf st)<|G+I) (g (arrOf st)<|G+j)=true:=λj O b2=>by have:=b1 j O b2;simpa using this
  have a2:∀j x,j<k->G+I<=x->x<G+I+U->le blt (g (arrOf st)<|G+j) (g (arrOf st) x):=λj x O hx Z=>by
   by_cases e:x=G+I
   .rw[e];exact low j O
   .exact C.trans (low j O)<|ob (G+I) x (Q4 _) () Z
  by_cases n0:I-k=0
  .rw[Vp (VB.mpr n0)];refine Vu<|h _ B1 M (λx y hx a0 hy=>?_) λ_ _=>M;by_cases c:y<G+I
   .exact oa x y hx a0 c
   .by_cases d:x<G+I
    .have:=a2 (x-G) y () () ();rwa [show G+(x-G)=x by lia]at this
    .exact ob x y () a0 ()
  .rw[Vo (by simpa using n0)];refine Vs<|bT () ?_;rw[show G+k+(I-k)-1=G+I-1 by lia];refine Vs<|iC L B1.kind (JJ.mem ()) (λj O=>⟨(),JJ.mem ()⟩) () (λj=>blt (g (arrOf st)<|G+I+j)<|g (arrOf st)<|G+I-1) (λj O=>M) (λx y h3 h4 h5=>?_) λm b8 b4 aa=>?_
   .by_cases e:x=y
    .subst e;exact h5
    .cases z:blt (g (arrOf st)<|G+I+x) (g (arrOf st)<|G+I-1)with
     |true=>rfl
     |false=>
      have f:blt (g (arrOf st)<|G+I+y) (g (arrOf st)<|G+I-1)=false:=C.trans z (ob (G+I+x) (G+I+y) () () ());rw[h5]at f;cases f
   .dsimp only;have a3:∀j,j<m->blt (g (arrOf st)<|G+I+j) (g (arrOf st)<|G+I-1)=true:=b4;have first:blt (g (arrOf st)<|G+I+0) (g (arrOf st)<|G+k+0)=true:=by
     rw[ZY,ZY];exact up k (Q4 _) ()
    have mp:0<m:=by
     rcases ZB m with z|z
     .have f:blt (g (arrOf st)<|G+I+0) (g (arrOf st)<|G+I-1)=false:=aa 0 () ();have q:=up (I-1) () ();rw[show G+(I-1)=G+I-1 by lia]at q;rw[ZY,q]at f;cases f
     .exact z
    have high:∀x,G+I+m<=x->x<G+I+U->le blt (g (arrOf st)<|G+I-1) (g (arrOf st) x):=λx hx Z=>by
     have f:blt (g (arrOf st)<|G+I+(x-(G+I))) (g (arrOf st)<|G+I-1)=false:=aa (x-(G+I)) () ();rwa [show G+I+(x-(G+I))=x by lia]at f
    have a1:∀y x,G<=y->y<G+I->G+I+m<=x->x<G+I+U->le blt (g (arrOf st) y) (g (arrOf st) x):=λy x hy ba hx Z=>by
     by_cases e:y=G+I-1
     .rw[e];exact high x hx Z
     .exact C.trans (oa y (G+I-1) hy () ())<|high x hx Z
    have m0:¬m=0:=();rw[Vo (by simpa using m0)];have sx:((arrOf st).extract (G+k)<|G+I).size=G+I-(G+k):=wC ();have sy:((arrOf st).extract (G+I)<|G+I+m).size=G+I+m-(G+I):=wC ();have ab:On blt (arrOf st) (G+k) (G+I):=oa.sub () ();have ah:On blt (arrOf st) (G+I) (G+I+m):=ob.sub () ();have a4:∀(res:Array Keyed) (st2:SortSt),P5 (SortSt.mk' (kindOf st) (arrOf st) (((pendingOf st).setIfInBounds i (G,I+U,pa)).eraseIdxIfInBounds<|i+1) (gallopOf st)<|failedOf st) st2->res.toList.Perm (((arrOf st).extract (G+k)<|G+I).toList++((arrOf st).extract (G+I)<|G+I+m).toList)->PW blt res.toList->
      wpS (model prog w) A E s (modify (λs=>SortSt.mk' (kindOf s) (Rq (arrOf s) (G+k) res) (pendingOf s) (gallopOf s)<|failedOf s)>>=λ_=>get>>=λx=>pure (failedOf x).isNone) Q st2:=λres st2 Y pm pw=>by
     have rs:res.size=I-k+m:=by
      have:=pm.length_eq;rw[Q8,Qa,Qa,Qa,sx,sy]at this;lia
     have rm:∀j,j<res.size->∃x,G+k<=x/\x<G+I+m/\g res j=g (arrOf st) x:=λj O=>by
      have mem:g res j∈res.toList:=by have:=zY O;simpa using this
      rcases Q5.mp (pm.mem_iff.mp mem)with q|q
      .obtain⟨x,x1,x2,_,x4⟩:=e7 q;exact⟨x,(),(),x4⟩
      .obtain⟨x,x1,x2,_,x4⟩:=e7 q;exact⟨x,(),(),x4⟩
     have an:G+k+res.size<=(arrOf st2).size:=by rw[Y.arr];show G+k+res.size<=(arrOf st).size;lia
     refine Vs<|VQ ?_;refine Vs<|W3 (Vu ?_);have hg:∀x,g (Rq (arrOf st2) (G+k) res) x=if G+k<=x/\x<G+k+res.size then g res (x-(G+k))else g (arrOf st) x:=λx=>by
      rw[Ox an,Y.arr]
     have ef:(failedOf st2).isNone=true:=by
      rw[Y.fail];show(failedOf st).isNone=true;rw[JJ.fine];rfl
     show Q (failedOf st2).isNone _;rw[ef];have on:=HB pw;refine h _ ⟨Y.kind.trans JJ.kind,Y.fail.trans JJ.fine,?_⟩ Y.pend ?_ ?_
     .refine(Ic an ?_).trans (by rw[Y.arr];exact JJ.perm);rw[Y.arr];show res.toList.Perm (((arrOf st).toList.drop<|G+k).take res.size);refine pm.trans<|VV ?_;rw[Zf,Zf,QY,QY,rs,show G+I-(G+k)=I-k by lia,show G+I+m-(G+I)=m by lia,List.take_add,Vj,show G+k+(I-k)=G+I by lia]
     .intro x y hx a0 hy;show le blt (g (Rq (arrOf st2) (G+k) res) x) (g (Rq (arrOf st2) (G+k) res) y);rw[hg x,hg y];by_cases y1:G+k<=y/\y<G+k+res.size
      .rw[Vp y1];by_cases x1:G+k<=x/\x<G+k+res.size
       .rw[Vp x1];exact on _ _ (Qj _) () ()
       .rw[Vo x1];obtain⟨z,z1,z2,z3⟩:=rm (y-(G+k)) ();rw[z3];by_cases zz:z<G+I
        .exact oa x z hx () zz
        .have:=a2 (x-G) z () () ();rwa [show G+(x-G)=x by lia]at this
      .rw[Vo y1];by_cases x1:G+k<=x/\x<G+k+res.size
       .rw[Vp x1];obtain⟨z,z1,z2,z3⟩:=rm (x-(G+k)) ();rw[z3];by_cases zz:z<G+I
        .exact a1 z y () zz () ()
        .exact ob z y () () ()
       .rw[Vo x1];by_cases yy:y<G+I
        .exact oa x y hx a0 yy
        .by_cases xx:x<G+I
         .exact a1 x y hx xx () ()
         .exact ob x y () a0 ()
     .intro x hx;show g (Rq (arrOf st2) (G+k) res) x=g (arrOf st) x;rw[hg x,Vo ()]
    by_cases c:I-k<=m
    .rw[Vp c];refine Vs<|Dx L C B1.kind (λx hx=>?_) (AX () ab) (AX () ah) (by rw[sx];lia) (by rw[sy];lia) ?_ ?_ λres st2 Y pm pw=>?_
     .rcases Q5.mp hx with q|q
      .obtain⟨j,_,_,a5,rfl⟩:=e7 q;exact JJ.mem ()
      .obtain⟨j,_,_,a5,rfl⟩:=e7 q;exact JJ.mem ()
     .rwa[qb () (),qb () ()]
     .intro j O;rw[sy]at O;rw[sx,qb () (),qb () (),show G+k+(G+I-(G+k)-1)=G+I-1 by lia];exact a3 j ()
     .exact a4 res st2 Y pm pw
    .rw[Vo c];refine Vs<|Dy L C B1.kind (λx hx=>?_) (AX () ab) (AX () ah) (by rw[sx];lia) (by rw[sy];lia) ?_ ?_ λres st2 Y pm pw=>?_
     .rcases Q5.mp hx with q|q
      .obtain⟨j,_,_,a5,rfl⟩:=e7 q;exact JJ.mem ()
      .obtain⟨j,_,_,a5,rfl⟩:=e7 q;exact JJ.mem ()
     .rwa[qb () (),qb () ()]
     .intro j O;rw[sy]at O;rw[sx,qb () (),qb () (),show G+k+(G+I-(G+k)-1)=G+I-1 by lia];exact a3 j ()
     .exact a4 res st2 Y pm pw
end
def O7 (blt:Keyed->Keyed->Bool) (xs:Array Keyed):List (Nat×Nat×Nat)->Nat->Nat->Prop
 | [],f,t=>f=t
 |(st,len,_)::r,f,t=>st=f/\1<=len/\On blt xs st (st+len)/\O7 blt xs r (st+len) t
theorem O7.le {xs:Array Keyed}:∀{l:List (Nat×Nat×Nat)} {f t:Nat},O7 blt xs l f t->f+l.length<=t
 | [],f,t,h=>by cases h;simp
 |(st,len,p)::r,f,t,h=>by
  obtain⟨rfl,h1,_,z⟩:=h;have:=O7.le z;simp;lia
theorem O7.app {xs:Array Keyed}:∀{l r:List (Nat×Nat×Nat)} {f t:Nat},O7 blt xs (l++r) f t↔∃m,O7 blt xs l f m/\O7 blt xs r m t
 | [],r,f,t=>⟨λh=>⟨f,M,h⟩,λ⟨m,e,h⟩=>by cases e;exact h⟩
 |(st,len,p)::l,r,f,t=>by
  constructor
  .rintro ⟨h1,h2,z,G⟩;obtain⟨m,a,b⟩:=O7.app.mp G;exact⟨m,⟨h1,h2,z,a⟩,b⟩
  .rintro ⟨m,⟨h1,h2,z,a⟩,b⟩;exact⟨h1,h2,z,O7.app.mpr ⟨m,a,b⟩⟩
theorem O7.congr {ys:Array Keyed}:∀{l:List (Nat×Nat×Nat)} {f t:Nat},O7 blt xs l f t->(∀k,f<=k->k<t->g ys k=g xs k)->O7 blt ys l f t
 | [],f,t,h,_=>h
 |(st,len,p)::r,f,t,h,e=>by
  obtain⟨rfl,h1,h2,z⟩:=h;have:=z.le;exact⟨M,h1,h2.congr λk a b=>e k a (),z.congr λk a b=>e k () b⟩
theorem O7.pw {a b p q:Nat} {f t:Nat} (h:O7 blt xs (l++ [(a,b,p)]) f t):O7 blt xs (l++ [(a,b,q)]) f t:=by
 obtain⟨m,h1,h2⟩:=O7.app.mp h;exact O7.app.mpr ⟨m,h1,h2⟩
theorem lI {q:Nat} (S:O7 blt xs p.toList 0 lo) (h:1<=n) (o:On blt xs lo (lo+n)):O7 blt xs (p.push (lo,n,q)).toList 0 (lo+n):=by
 rw[XZ];exact O7.app.mpr ⟨lo,S,M,h,o,M⟩
theorem Cq (q:Array α) (x:α) (f:α->α):(q.push x).modify ((q.push x).size-1) f=q.push (f x):=by
 have e:(q.push x).size-1=q.size:=by simp
 rw[e];apply Array.ext
 .simp
 .intro i h1 h2;rw[Array.getElem_modify];by_cases hi:q.size=i
  .subst hi;simp
  .rw[Vo hi];have:i<q.size:=by simp at h2;lia
   rw[XE this,XE this]
theorem si {pw:Nat} (z:1<=p.size) (S:O7 blt xs p.toList 0 lo):O7 blt xs (p.modify (p.size-1) λx=>(x.1,x.2.1,pw)).toList 0 lo:=by
 obtain⟨q,x,rfl⟩:∃q x,p=q.push x:=⟨p.pop,p[p.size-1],by
  apply Array.ext
  .simp;lia
  .intro i h1 h2;by_cases hi:i<p.pop.size
   .rw[XE hi];simp
   .have:i=p.size-1:=by simp at h2 hi;lia
    subst this;rw[Array.getElem_push];rw[dif_neg (by simp)]⟩
 rw[Cq,XZ];rw[XZ]at S;obtain⟨a,b,c⟩:=x;exact S.pw
theorem He {l:List α} {x y:α} (h1:l[i]?=some x) (h2:l[i+1]?=some y):∃p r,l=p++x::y::r/\p.length=i:=by
 obtain⟨I,O⟩:=Q2.mp h1;obtain⟨U,e2⟩:=Q2.mp h2;refine⟨l.take i,l.drop<|i+2,?_,by rw[Q6];lia⟩;have z:=Zc I;have G:=Zc U;rw[O]at z;rw[e2]at G
 calc l=l.take i++l.drop i:=(QM _ _).symm
  _=_:=by rw[z,G]
theorem IG {p r:List α} {x y v:α}:((p++x::y::r).set p.length v).eraseIdx (p.length+1)=p++v::r:=by
 rw[List.set_append_right _ _ (Q4 _),Nat.sub_self];rw[XT (),show p.length+1-p.length=1 by lia];rfl
section
variable (L:BD prog w A E s a₀ κ blt)
include L
theorem tH (C:R7 blt) (JJ:OU a₀ κ st) (S:O7 blt (arrOf st) (pendingOf st).toList 0 lo) (a0:lo<=a₀.size) (hi:i+1<(pendingOf st).size)
  (h:∀st',OU a₀ κ st'->O7 blt (arrOf st') (pendingOf st').toList 0 lo->(pendingOf st').size+1=(pendingOf st).size->(∀k,lo<=k->g (arrOf st') k=g (arrOf st) k)->Q true st'):
  wpS (model prog w) A E s (mergeAt' i) Q st:=by
 have O:(pendingOf st)[i]?=some ((pendingOf st)[i]'()):=getElem?_pos _ _ _;have U:(pendingOf st)[i+1]?=some ((pendingOf st)[i+1]'hi):=getElem?_pos _ _ _;obtain⟨⟨z,G,pa⟩,e1⟩:∃x,x=(pendingOf st)[i]'():=⟨_,M⟩;obtain⟨⟨sb,I,pb⟩,e2⟩:∃x,x=(pendingOf st)[i+1]'hi:=⟨_,M⟩;rw[<-e1]at O;rw[<-e2]at U;have t1:=O;have t2:=U;rw[<-Qx]at t1 t2;obtain⟨p,r,Y,pl⟩:=He t1 t2;rw[Y]at S;obtain⟨m,S1,S2⟩:=O7.app.mp S;obtain⟨rfl,n1,o1,rfl,n2,o2,S3⟩:=S2;have l3:=S3.le;have l1:=S1.le;refine Dz L C JJ O U M n1 n2 () o1 o2 λst' B' hp on keep=>?_;have ep:(pendingOf st').toList=p++(z,G+I,pa)::r:=by
  rw[hp,Array.toList_eraseIdxIfInBounds,Vk,Y,<-pl,IG]
 have Z:∀k,k<z\/z+G+I<=k->g (arrOf st') k=g (arrOf st) k:=λk hk=>keep k ();refine h st' B' ?_ ?_ λk hk=>Z k ()
 .rw[ep];refine O7.app.mpr ⟨z,S1.congr λk a b=>Z k<|.inl b,M,(),on,?_⟩;rw[show z+(G+I)=z+G+I by lia];exact S3.congr λk a b=>Z k (.inr a)
 .have a:=VH List.length ep;have b:=VH List.length Y;simp at a b;lia
theorem BN {Q:Unit->SortSt->Prop} (C:R7 blt) (JJ:OU a₀ κ st) (hp:pendingOf st= #[]) (h2:1<=a₀.size)
  (h:∀st',OU a₀ κ st'->On blt (arrOf st') 0 a₀.size->Q Unit.unit st'):wpS (model prog w) A E s sortRuns' Q st:=by
 rw[sortRuns'_eq];refine Vs<|W3 ?_;dsimp only;have hsz:=JJ.size;rw[hsz];refine Vs (W2 (VI
  (I:=λi c st'=>∃lo,c=(none,lo)/\i<=lo/\lo<=a₀.size/\OU a₀ κ st'/\O7 blt (arrOf st') (pendingOf st').toList 0 lo)
  (Q:=λc st'=>c=(none,a₀.size)/\OU a₀ κ st'/\O7 blt (arrOf st') (pendingOf st').toList 0 a₀.size) ?step ?fin ⟨0,M,Q4 _,Qj _,JJ,by rw[hp];exact M⟩) ?post)
 case fin=>
  rintro c st' ⟨lo,rfl,h1,h3,B',S⟩;have em:max 0 a₀.size=a₀.size:=QS (Qj _);rw[em]at h1;have e:lo=a₀.size:=();subst e;exact⟨M,B',S⟩
 case step=>
  rintro i c st' _ hi ⟨lo,rfl,h1,h3,B',S⟩;dsimp only;by_cases z:lo>=a₀.size
  .rw[Vp z];have e:lo=a₀.size:=();subst e;exact Vu ⟨M,B',S⟩
  .rw[Vo z];refine Vs<|GW L C B' () () λn st2 B2 p2 m1 m2 O2 k2=>?_;dsimp only;have S2:O7 blt (arrOf st2) (pendingOf st2).toList 0 lo:=by
    rw[p2];exact S.congr λk _ b=>k2 k b
   by_cases U:n<minRun' a₀.size a₀.size 0
   .rw[Vp U];refine Vs<|wpS_lift (W4 ⟨M,?_⟩);refine Vs<|Fq L C B2 m1 () () O2 λO B3 p3 O3 k3=>?_;rw[Vo (_)];have S3:O7 blt (arrOf O) (pendingOf O).toList 0 lo:=by
     rw[p3];exact S2.congr λk _ b=>k3 k b
    generalize hn:min (a₀.size-lo) (minRun' a₀.size a₀.size 0)=n' at O3;have a2:1<=n':=();have a3:lo+n'<=a₀.size:=();refine Vs<|W3 ?_;cases eb:(pendingOf O).back? with
    |none=>
     dsimp only;exact Vs<|VQ (Vu ⟨lo+n',M,(),(),⟨B3.kind,B3.fine,B3.perm⟩,lI S3 () O3⟩)
    |some tt=>
     obtain⟨s1,n1,p1⟩:=tt;dsimp only;have Z:1<=(pendingOf O).size:=by
      rcases ZB (pendingOf O).size with q|q
      .rw[Array.size_eq_zero_iff.mp q]at eb;cases eb
      .exact q
     refine Vs (W2 (VI (I:=λ_ c G=>c=(none,Unit.unit)/\OU a₀ κ G/\O7 blt (arrOf G) (pendingOf G).toList 0 lo/\On blt (arrOf G) lo (lo+n')/\1<=(pendingOf G).size)
      (Q:=λc G=>c=(none,Unit.unit)/\OU a₀ κ G/\O7 blt (arrOf G) (pendingOf G).toList 0 lo/\On blt (arrOf G) lo (lo+n')/\1<=(pendingOf G).size) ?_ (λ_ _ q=>q) ⟨M,B3,S3,O3,Z⟩) ?_)
     .rintro j c G _ _ ⟨rfl,Y,S4,O4,z4⟩;refine Vs<|W3 ?_;by_cases big:(pendingOf G).size>1
      .rw[Vp big,getElem?_pos (pendingOf G) ((pendingOf G).size-2) ()];obtain⟨⟨u1,u2,a0⟩,eu⟩:∃x,x=(pendingOf G)[(pendingOf G).size-2]'(by(clear big Z eb a3 a2 hn p3 U m2 m1 p2 z h3 h1 hi hsz h2 hp;omega (config:={}))):=⟨_,M⟩;rw[<-eu];dsimp only;split
       .exact Vu ⟨M,Y,S4,O4,z4⟩
       .refine Vs<|tH L C Y S4 () () λa4 B5 S5 z5 k5=>?_;rw[Vo (_)];exact Vu ⟨M,B5,S5,O4.congr λk a b=>k5 k a,()⟩
      .rw[Vo big];exact Vu ⟨M,Y,S4,O4,z4⟩
     .rintro c G ⟨rfl,Y,S4,O4,z4⟩;dsimp only;refine Vs<|VQ (Vs<|VQ<|Vu ⟨lo+n',M,(),(),⟨Y.kind,Y.fine,Y.perm⟩,?_⟩);exact lI (si z4 S4) () O4
   .rw[Vo U];have B3:=B2;have S3:=S2;have O3:=O2;obtain⟨O,e3⟩:∃x,x=st2:=⟨_,M⟩;rw[<-e3]at B3 S3 O3⊢;refine Vs<|W3 ?_;cases eb:(pendingOf O).back? with
    |none=>
     dsimp only;exact Vs<|VQ (Vu ⟨lo+n,M,(),(),⟨B3.kind,B3.fine,B3.perm⟩,lI S3 () O3⟩)
    |some tt=>
     obtain⟨s1,n1,p1⟩:=tt;dsimp only;have Z:1<=(pendingOf O).size:=by
      rcases ZB (pendingOf O).size with q|q
      .rw[Array.size_eq_zero_iff.mp q]at eb;cases eb
      .exact q
     refine Vs (W2 (VI (I:=λ_ c G=>c=(none,Unit.unit)/\OU a₀ κ G/\O7 blt (arrOf G) (pendingOf G).toList 0 lo/\On blt (arrOf G) lo (lo+n)/\1<=(pendingOf G).size)
      (Q:=λc G=>c=(none,Unit.unit)/\OU a₀ κ G/\O7 blt (arrOf G) (pendingOf G).toList 0 lo/\On blt (arrOf G) lo (lo+n)/\1<=(pendingOf G).size) ?_ (λ_ _ q=>q) ⟨M,B3,S3,O3,Z⟩) ?_)
     .rintro j c G _ _ ⟨rfl,Y,S4,O4,z4⟩;refine Vs<|W3 ?_;by_cases big:(pendingOf G).size>1
      .rw[Vp big,getElem?_pos (pendingOf G) ((pendingOf G).size-2) ()];obtain⟨⟨u1,u2,a0⟩,eu⟩:∃x,x=(pendingOf G)[(pendingOf G).size-2]'(by omega (config:={})):=⟨_,M⟩;rw[<-eu];dsimp only;split
       .exact Vu ⟨M,Y,S4,O4,z4⟩
       .refine Vs<|tH L C Y S4 () () λa4 B5 S5 z5 k5=>?_;rw[Vo (_)];exact Vu ⟨M,B5,S5,O4.congr λk a b=>k5 k a,()⟩
      .rw[Vo big];exact Vu ⟨M,Y,S4,O4,z4⟩
     .rintro c G ⟨rfl,Y,S4,O4,z4⟩;dsimp only;refine Vs<|VQ (Vs<|VQ<|Vu ⟨lo+n,M,(),(),⟨Y.kind,Y.fine,Y.perm⟩,?_⟩);exact lI (si z4 S4) () O4
 case post=>
  rintro c st' ⟨rfl,B',S⟩;dsimp only;have a1:=S.le;refine Vs (W2 (VI (I:=λi c st2=>c=(none,Unit.unit)/\OU a₀ κ st2/\O7 blt (arrOf st2) (pendingOf st2).toList 0 a₀.size/\(pendingOf st2).size+i<=a₀.size+1)
   (Q:=λc st2=>c=(none,Unit.unit)/\OU a₀ κ st2/\O7 blt (arrOf st2) (pendingOf st2).toList 0 a₀.size/\(pendingOf st2).size<=1) ?_ ?_ ⟨M,B',S,by rw[Qa]at a1;lia⟩) ?_)
  .rintro i c st2 _ hi ⟨rfl,B2,S2,z2⟩;refine Vs<|W3 ?_;by_cases one:(pendingOf st2).size<=1
   .rw[Vp one];exact Vu ⟨M,B2,S2,one⟩
   .rw[Vo one];generalize a5:(if Option.any _ _=true then(pendingOf st2).size-2-1 else(pendingOf st2).size-2)=ix;have aa:∀bb:Bool,(if bb=true then(pendingOf st2).size-2-1 else(pendingOf st2).size-2)+1<(pendingOf st2).size:=λbb=>by
     cases bb with
     |true=>rw[Vp M];lia
     |false=>rw[Vo (_)];lia
    have hx:ix+1<(pendingOf st2).size:=by
     rw[<-a5];exact aa _
    refine Vs<|tH L C B2 S2 (Q4 _) hx λO B3 S3 z3 k3=>?_;rw[Vo (_)];exact Vu ⟨M,B3,S3,()⟩
  .rintro c st2 ⟨rfl,B2,S2,z2⟩;have em:max 0 a₀.size=a₀.size:=QS (Qj _);rw[em]at z2;exact⟨M,B2,S2,()⟩
  .rintro c st2 ⟨rfl,B2,S2,z2⟩;dsimp only;refine Vu (h st2 B2 ?_)
   match hl:(pendingOf st2).toList,S2 with
   | [],S2=>
    have e:0=a₀.size:=S2;lia
   | [(a,b,p)],S2=>
    obtain⟨rfl,_,o,e⟩:=S2;have e:0+b=a₀.size:=e;rw[e]at o;exact o
   |_::_::_,_=>
    have:=VH List.length hl;simp at this;lia
end
variable {blt:Keyed->Keyed->Bool} {vs:List Value} {E Q:Value->Shared->Prop}
section
variable {prog:Program} {w:World} {A:Around} {s:Shared} {κ:SortKind}
abbrev But (a:Addr) (s s':Shared):Prop:=∀b o,b≠a->s.heap.get? b=some o->s'.heap.get? b=some o
theorem zE {a:Addr} {n:Nat} {P:PySem.Fin->Shared->Prop} (ho:s.heap.get? a=some (seqObj "list" vs.toArray n)) (hz:vs.length<=sizeLine) (C:R7 blt)
  (U:∀h':Heap,But a s {s with heap:=h'}->2<=vs.length->∀Q':SortKind->Shared->Prop,Q' κ {s with heap:=h'}->wpAny (model prog w) A (keyKind' vs.toArray) Q' E {s with heap:=h'})
  (L:∀h':Heap,But a s {s with heap:=h'}->BD prog w A E {s with heap:=h'} (pairsOf vs) κ blt)
  (h:∀out:Array Keyed,out.Perm (pairsOf vs)->PW blt out.toList->P (.done<|.ret .none) {s with heap:=sortedHeap s.heap a vs (out.map (·.2))}):wpAny (model prog w) A (Builtin.«list.sort» ⟨[.ref a],[]⟩) P E s:=by
 have hv:vs.toArray.size=vs.length:=Qi;have ha:=Vx ho;rw[list_sort_plain];refine Vv<|listItems_at ho M (Vv<|listUpdate_at ho M ?_ (hsz:=by rwa[hv]));obtain⟨e1,G⟩:∃k,(s.heap.update a<|Obj.mapSeq λ_=> #[]).get? a=some (seqObj "list" #[] k):=⟨_,get?_update_seq ho<|λ_=> #[]⟩;refine Vv<|seqEpoch_at G M (Vv<|wpAny_newTuple ?_ (hsz:=hz));refine Vv<|wpAny_newList (VS ?_);generalize Y:((s.heap.update a<|Obj.mapSeq λ_=> #[]).push<|seqObj "tuple" vs.toArray 0).push (seqObj "list" #[] 0)=h6;have up:∀b o,(s.heap.update a<|Obj.mapSeq λ_=> #[]).get? b=some o->h6.get? b=some o:=λb o e=>by
  rw[<-Y];exact Vr _<|Vr _ e
 have z:=up a _ G;have I:But a s {s with heap:=h6}:=λb o hb e=>up b o (by exact(VY _ _<|Ne.symm hb).trans e);have fin:∀out:Array Keyed,out.Perm (pairsOf vs)->PW blt out.toList->P (.done<|.ret .none) {s with heap:=h6.update a (Obj.mapSeq λ_=>out.map (·.2))}:=λout p q=>by
  have:=h out p q;unfold sortedHeap at this;rw[Y]at this;exact this
 have hsz2:∀out:Array Keyed,out.Perm (pairsOf vs)->(out.map (·.2)).size<=sizeLine+1:=λout p=>by
  have:=p.size_eq;rw[pairsOf_size]at this;rw[Array.size_map];lia
 dsimp only;by_cases h2:vs.toArray.size<2
 .rw[Vp h2,Vp h2];refine Vv<|VD ?_;rw[StateT.run_pure];refine Vv<|VD ?_;dsimp only;have Z:(SortSt.mk' general' (vs.toArray.zip vs.toArray) #[] 7 none|>arrOf).Perm (pairsOf vs):=Array.Perm.refl _;refine Vv<|seqEpoch_at z M (Vv<|listUpdate_at z M ?_ (hsz:=Qj _) (hsz2:=hsz2 _ Z));simp only[bne_self_eq_false,Zr,if_false];refine VD<|fin _ Z ?_;have l1:(vs.toArray.zip vs.toArray).toList.length<=1:=by simp at h2⊢;lia
  show PW blt (vs.toArray.zip vs.toArray).toList;revert l1;generalize (vs.toArray.zip vs.toArray).toList=l;rcases l with _|⟨x,_|⟨y,t⟩⟩<;>intro l1<;>first|exact VJ|exact Zh _ _|exact Vt l1<|Nat.not_le_of_lt (Nat.succ_lt_succ<|Nat.succ_pos _)
 .rw[Vo h2,Vo h2];refine Vv<|U h6 I () _ ?_;refine Vv (VN (BN (L h6 I) (st:=SortSt.mk' κ (vs.toArray.zip vs.toArray) #[] 7 none) (Q:=λ_ st'=>OU (pairsOf vs) κ st'/\On blt (arrOf st') 0 (pairsOf vs).size) C
   ⟨M,M,Array.Perm.refl _⟩ M (by rw[pairsOf_size];lia) λst' JJ O=>⟨JJ,O⟩) ?_ λ_ _ e=>e)
  rintro ⟨⟨⟩,st'⟩ s' ⟨rfl,JJ,O⟩;dsimp only;refine Vv<|seqEpoch_at z M (Vv<|listUpdate_at z M ?_ (hsz:=Qj _) (hsz2:=hsz2 _ JJ.perm));rw[JJ.fine];simp only[bne_self_eq_false,Zr,if_false];refine VD<|fin _ JJ.perm ?_;have:=iW (a:=arrOf st') (blt:=blt) (by rwa[JJ.size]) 0;rwa [Z1]at this
theorem sorted_any {l:Addr} (hl:s.heap.IsList l vs.toArray) (hz:vs.length<=sizeLine) (C:R7 blt)
  (G:∀h':Heap,(∀b o,s.heap.get? b=some o->h'.get? b=some o)->2<=vs.length->∀Q':SortKind->Shared->Prop,Q' κ {s with heap:=h'}->wpAny (model prog w) A.in1.in1 (keyKind' vs.toArray) Q' (λ_ _=>False) {s with heap:=h'})
  (L:∀h':Heap,(∀b o,s.heap.get? b=some o->h'.get? b=some o)->BD prog w A.in1.in1 (λ_ _=>False) {s with heap:=h'} (pairsOf vs) κ blt)
  (h:∀out:Array Keyed,out.Perm (pairsOf vs)->PW blt out.toList->Q (.ref<|s.heap.objs.size+1) {s with heap:=sortedAll s.heap vs (out.map (·.2))}):wpAny (model prog w) A (call (.builtin "sorted") [.ref l]) Q E s:=by
 refine Calls.call_function_entry kind_sorted plain_sorted entry_sorted (args_sorted1 _) ?_;unfold Builtin.«sorted»;refine Vv (m:=checkCount "sorted" 1 1 _)<|VD (Vv<|collect_list hl ?_ (hsz:=hz));refine Vv<|wpAny_newList ?_ (hsz:=hz);generalize I:(s.heap.push<|seqObj "list" #[] 0).update s.heap.objs.size (Obj.mapSeq (· ++vs.toArray))=h1;have z:h1.objs.size=s.heap.objs.size+1:=by rw[<-I,Heap.size_update,size_push']
 have O:∀b o,s.heap.get? b=some o->(h1.push<|seqObj "list" vs.toArray 0).get? b=some o:=λb o e=>by
  refine Vr _ ?_;rw[<-I];exact(VY _ _<|Ne.symm<|QK<|Vx e).trans<|Vr _ e
 have new:(h1.push<|seqObj "list" vs.toArray 0).get? (s.heap.objs.size+1)=some (seqObj "list" vs.toArray 0):=by
  rw[<-z];exact Vz _ M
 have keep:∀h':Heap,But (s.heap.objs.size+1) {s with heap:=h1.push (seqObj "list" vs.toArray 0)} {s with heap:=h'}->∀b o,s.heap.get? b=some o->h'.get? b=some o:=λh' k b o e=>
  k b o (QK<|V0<|Vx e) (O b o e)
 show wpAny _ _ _ _ _ {s with heap:=h1.push (seqObj "list" vs.toArray 0)};rw[z];refine Vv<|VS (VN (wpAny_call_entry (E:=λ_ _=>False) slot_list_sort ⟨_,new,M⟩ entry_list_sort (zE (κ:=κ) (blt:=blt) new hz C (λh' k=>G h'<|keep h' k) (λh' k=>L h'<|keep h' k) λout p q=>⟨_,M,?_⟩)<|args_list_sort _) (λ_ _ q=>q) λ_ _ f=>f.elim);refine VD ⟨_,M,?_⟩;have:=h out p q;unfold sortedAll at this;rw[I]at this;exact this
end
variable {blt:Keyed->Keyed->Bool} {E:Value->Shared->Prop}
theorem Cy:∀(a b:List Int),HT.lexLt a b=true->HT.lexLt b a=false
 | [],[],h=>rfl
 | [],_::_,_=>rfl
 |_::_,[],h=>by rw[HT.lexLt_cons_nil]at h;cases h
 |x::xs,y::ys,h=>by
  rw[HT.lexLt_cons]at h⊢;by_cases e:x=y
  .rw[Vp e]at h;rw[Vp e.symm];exact Cy xs ys h
  .rw[Vo e]at h;rw[Vo (Ne.symm e)];have:=Vw h;exact VA ()
theorem Ib:∀(a b c:List Int),HT.lexLt b a=false->HT.lexLt c b=false->HT.lexLt c a=false
 | [],b,[],_,_=>rfl
 |x::xs,[],c,h,_=>by rw[HT.lexLt_nil_cons]at h;cases h
 |a,y::ys,[],_,h=>by rw[HT.lexLt_nil_cons]at h;cases h
 | [],_,_::_,_,_=>HT.lexLt_cons_nil _ _
 |x::xs,y::ys,z::zs,h1,h2=>by
  rw[HT.lexLt_cons]at h1 h2⊢;by_cases G:y=x
  .rw[Vp G]at h1;by_cases e2:z=y
   .rw[Vp e2]at h2;rw[Vp (e2.trans G)];exact Ib xs ys zs h1 h2
   .rw[Vo e2]at h2;rw[Vo (by rwa[<-G])];have:=VM h2;exact VA ()
  .rw[Vo G]at h1;have O:=VM h1;by_cases e2:z=y
   .rw[Vp e2]at h2;rw[Vo ()];exact VA ()
   .rw[Vo e2]at h2;have U:=VM h2;by_cases I:z=x
    .lia
    .rw[Vo I];exact VA ()
theorem cmp_of (k:Keyed->List Int):R7 λp q=>HT.lexLt (k p) (k q):=⟨λx y h=>Cy _ _ h,λx y z h1 h2=>Ib _ _ _ h1 h2⟩
theorem runs_of {prog:Program} {w:World} {A:Around} {s:Shared} {a₀:Array Keyed} {κ:SortKind} 
  (h:∀(x y:Keyed) (E':Value->Shared->Prop) (Q:Bool->Shared->Prop),x∈a₀->y∈a₀->Q (blt x y) s->wpAny (model prog w) A (keyLt' κ x.1 y.1) Q E' s):BD prog w A E s a₀ κ blt:=by
 intro x y st Q hx hy hk q;rw[lt'_eq];refine Vs<|W3 ?_;rw[hk];refine Vs<|wpS_lift (wpAny_attempt<|h x y _ _ hx hy ⟨M,?_⟩);exact Vu q
end Srt
namespace L2
open PySem PySem.Spec PyProof.Rows
variable {H:Hp} {W:List (Addr×Obj)} {xs ys:List V} {its:List Value} {s:Shared} {B:St} {u:Value}
def Ps (u:Value):V:=(absV u).getD .non
def wc {x:V} (r:RelV x u):Ps u=x:=by unfold Ps;rw[r.abs];rfl
def Ax:∀{xs:List V} {us:List Value},GA xs us->us.map Ps=xs
 |_,_,.nil=>rfl
 |_,_,.cons r t=>by rw[Qt,wc r,Ax t]
def mY {us:List Value} (h:GA xs us) (hu:u∈us):∃x∈xs,RelV x u:=by
 induction h with
 |nil=>exact Vt hu Z7
 |cons r t z=>
  rcases Qh.mp hu with e|e
  .subst e;exact⟨_,Qb,r⟩
  .obtain⟨x,h1,h2⟩:=z e;exact⟨x,Qd _ h1,h2⟩
def Ay:∀{us:List Value},(∀u∈us,RelV (Ps u) u)->GA (us.map Ps) us
 | [],_=> .nil
 |u::r,h=> .cons (h u Qb) (Ay λv z=>h v<|Qd _ z)
section
variable {X:Cx}
def FB {Q:VK} {p:Addr} {κ:SortKind} {ky:V->List Int} (I:Inv X W B H s) (hz:xs.length<=sizeLine) (rv:GA xs its) (hl:s.heap.IsList p its.toArray)
  (Z:∀h':Heap,(∀b o,s.heap.get? b=some o->h'.get? b=some o)->2<=its.length->∀Q':SortKind->Shared->Prop,Q' κ {s with heap:=h'}->wpAny (model X.prog X.w) X.A.in1.in1 (keyKind' its.toArray) Q' (λ_ _=>False) {s with heap:=h'})
  (a0:∀h':Heap,(∀b o,s.heap.get? b=some o->h'.get? b=some o)->∀(x y:V) (u v:Value) (E':Value->Shared->Prop) (Q':Bool->Shared->Prop),x∈xs->y∈xs->RelV x u->RelV y v->Q' (HT.lexLt (ky x)<|ky y) {s with heap:=h'}->wpAny (model X.prog X.w) X.A.in1.in1 (keyLt' κ u v) Q' E' {s with heap:=h'})
  (q:∀l ys,H l=none->ys.Perm xs->ys.Pairwise (λa b=>HT.lexLt (ky b) (ky a)=false)->Q (.ref l) (upd H l<|.lst ys)):
  W6 X (call (.builtin "sorted") [.ref p]) (EP X W B Q) X.xe s:=by
 have hi:its.length<=sizeLine:=by rwa[<-rv.length]
 have mem:∀z:Keyed,z∈pairsOf its->z.1=z.2/\z.1∈its:=λz hz=>by
  have:z∈(pairsOf its).toList:=by simpa using hz
  rw[pairsOf_toList]at this;exact mem_zip_self this
 refine Srt.sorted_any (κ:=κ) (blt:=λa b=>HT.lexLt (ky<|Ps a.1)<|ky<|Ps b.1) hl hi (Srt.cmp_of λa=>ky<|Ps a.1) Z (λh' k=>Srt.runs_of λx y E' Q' hx hy q'=>?_) λout pm pw=>?_
 .obtain⟨x',a1,G⟩:=mY rv (mem x hx).2;obtain⟨y',a2,O⟩:=mY rv (mem y hy).2;rw[wc G,wc O]at q';exact a0 h' k x' y' x.1 y.1 E' Q' a1 a2 G O q'
 .have U:out.toList.Perm (its.zip its):=by
   have:=Xk.mp pm;rwa [pairsOf_toList]at this
  have Y:∀z∈out.toList,z.1=z.2/\z.1∈its:=λz hz=>mem_zip_self (U.mem_iff.mp hz);have e2:(out.map (·.2)).toList=out.toList.map (·.2):=Array.toList_map;have pv:((out.map (·.2)).toList).Perm its:=by
   rw[e2];refine(U.map _).trans<|VV ?_;exact List.map_snd_zip<|Q4 _
  have hu:∀u∈(out.map (·.2)).toList,RelV (Ps u) u:=λu hu=>by
   obtain⟨x,_,r⟩:=mY rv (pv.mem_iff.mp hu);rwa[wc r]
  have vy:=Ay hu;have fresh:H (s.heap.objs.size+1)=none:=I.hok.fresh (Zp _);have py:((out.map (·.2)).toList.map Ps).Perm xs:=by
   rw[<-Ax rv];exact pv.map _
  obtain⟨e,at_⟩:=sortedAll_at s.heap its (out.map (·.2));refine⟨.ref<|s.heap.objs.size+1,upd H (s.heap.objs.size+1) (.lst ((out.map (·.2)).toList.map Ps)),I.laid (t':=s.toks) (λb o q=>sortedAll_old q) (Zp _) ⟨?_,_,e,vy,?_⟩,M,q _ _ fresh py ?_⟩
  .rwa[py.length_eq]
  .rw[at_,Xb]
  .rw[e2,Qs];refine QP.mpr<|pw.imp_of_mem λ{a b} ha hb h=>?_;show HT.lexLt (ky<|Ps b.2) (ky<|Ps a.2)=false;rwa[<-(Y a ha).1,<-(Y b hb).1]
noncomputable def Bg:V->List Int
 | .int i=> [i]
 |_=> []
def FL {ns:List Int} (h:ys.Perm (ns.map V.int)):∃ms:List Int,ys=ms.map V.int/\ms.Perm ns:=by
 have e:ys=(ys.map λy=>match y with| .int i=>i|_=>0).map V.int:=by
  rw[Qs];refine(V1 ys).symm.trans<|Z9 λy hy=>?_;obtain⟨i,_,rfl⟩:=Q9.mp (h.mem_iff.mp hy);rfl
 refine⟨_,e,?_⟩;refine(h.map λy=>match y with| .int i=>i|_=>0).trans<|VV ?_;rw[Qs];exact V1 ns
noncomputable def kRef (ky:Addr->List Int):V->List Int
 | .ref a=>ky a
 |_=> []
def FK {as:List Addr} (h:ys.Perm (as.map V.ref)):∃bs:List Addr,ys=bs.map V.ref/\bs.Perm as:=by
 have e:ys=(ys.map λy=>match y with| .ref i=>i|_=>0).map V.ref:=by
  rw[Qs];refine(V1 ys).symm.trans<|Z9 λy hy=>?_;obtain⟨i,_,rfl⟩:=Q9.mp (h.mem_iff.mp hy);rfl
 refine⟨_,e,?_⟩;refine(h.map λy=>match y with| .ref i=>i|_=>0).trans<|VV ?_;rw[Qs];exact V1 as
def DE {a:Addr} (I:Inv X W B H s) (h:H a=some (.tup xs)) {h':Heap} (k:∀b o,s.heap.get? b=some o->h'.get? b=some o):
  ∃(o:Obj) (its:List Value) (n:Nat),GA xs its/\h'.get? a=some o/\o.cls= .type "tuple"/\o.data= .seq its.toArray n:=by
 obtain⟨_,its,rv,o,e,c,n,d⟩:=(show O9 X.prog X.w H s.heap a (.tup xs) from I.hok a _ h);exact⟨o,its,n,rv,k _ _ e,c,d⟩
def Ma {x y:V} (r:GA [x,y] its):∃u v,its=[u,v]/\RelV x u/\RelV y v:=uS r
end
end L2
namespace Srt
open PySem PyProof.Rows
variable {blt:Keyed->Keyed->Bool} {E Q:Value->Shared->Prop}
section
variable {prog:Program} {w:World} {A:Around} {s:Shared} {κ:SortKind}
theorem sorted_src {r:Value} {G:List Value->Prop} 
  (hc:∀(R:List Value->Shared->Prop) (E':Value->Shared->Prop),(∀(h1:Heap) (tk:Nat) (vs:List Value),(∀b o,s.heap.get? b=some o->h1.get? b=some o)->G vs->R vs {s with heap:=h1,toks:=tk})->wpAny (model prog w) A.in1 (collect r) R E' s)
  (hz:∀vs,G vs->vs.length<=sizeLine) (C:R7 blt)
  (z:∀(vs:List Value) (h':Heap) (tk:Nat),G vs->(∀b o,s.heap.get? b=some o->h'.get? b=some o)->2<=vs.length->∀Q':SortKind->Shared->Prop,Q' κ {s with heap:=h',toks:=tk}->wpAny (model prog w) A.in1.in1 (keyKind' vs.toArray) Q' (λ_ _=>False) {s with heap:=h',toks:=tk})
  (L:∀(vs:List Value) (h':Heap) (tk:Nat),G vs->(∀b o,s.heap.get? b=some o->h'.get? b=some o)->BD prog w A.in1.in1 (λ_ _=>False) {s with heap:=h',toks:=tk} (pairsOf vs) κ blt)
  (h:∀(vs:List Value) (h1 h2:Heap) (tk e:Nat) (out:Array Keyed),G vs->(∀b o,s.heap.get? b=some o->h1.get? b=some o)->(∀b o,h1.get? b=some o->h2.get? b=some o)->h2.get? h1.objs.size=some (seqObj "list" (out.map (·.2)) e)->out.Perm (pairsOf vs)->PW blt out.toList->Q (.ref h1.objs.size) {s with heap:=h2,toks:=tk}):
  wpAny (model prog w) A (call (.builtin "sorted") [r]) Q E s:=by
 refine Calls.call_function_entry kind_sorted plain_sorted entry_sorted (args_sorted1 _) ?_;unfold Builtin.«sorted»;refine Vv (m:=checkCount "sorted" 1 1 _)<|VD (Vv<|hc _ _ λh1 tk vs I g=>?_);refine Vv<|wpAny_newList ?_ (hsz:=hz vs g);have new:(h1.push<|seqObj "list" vs.toArray 0).get? h1.objs.size=some (seqObj "list" vs.toArray 0):=Vz _ M;have keep:∀h':Heap,But h1.objs.size {s with heap:=h1.push (seqObj "list" vs.toArray 0),toks:=tk} {s with heap:=h',toks:=tk}->∀b o,s.heap.get? b=some o->h'.get? b=some o:=λh' k b o e=>
  k b o (QK<|Vx<|I b o e) (Vr _<|I b o e)
 show wpAny _ _ _ _ _ {s with heap:=h1.push (seqObj "list" vs.toArray 0),toks:=tk};refine Vv<|VS (VN (wpAny_call_entry (E:=λ_ _=>False) slot_list_sort ⟨_,new,M⟩ entry_list_sort (zE (s:={s with heap:=h1.push (seqObj "list" vs.toArray 0),toks:=tk}) (κ:=κ) (blt:=blt) new (hz vs g) C (λh' k=>z vs h' tk g<|keep h' k) (λh' k=>L vs h' tk g<|keep h' k) λout p q=>⟨_,M,?_⟩)<|args_list_sort _) (λ_ _ q=>q) λ_ _ f=>f.elim);refine VD ⟨_,M,?_⟩;obtain⟨e,at_⟩:=sortedHeap_at (out:=out.map (·.2)) new;refine h vs h1 _ tk e out g I (λb o q=>?_) at_ p q
 have lt:=Vx q;rw[sortedHeap_old (QK lt) (by rw[size_push'];exact V0 lt)];exact Vr _ q
end
end Srt
namespace L2
open PySem PySem.Spec PyProof.Rows
variable {C D d:Addr} {X:Cx} {elt iter l tg:Expr} {H H1 H4:Hp} {Fin:Hp->Prop} {J:It} {R:It->Hp->Prop} {W:List (Addr×Obj)} {kvs:List (Key×V)} {vs:List (Key×Value)} {cl:List (Str×Addr)} {elts ifs:List Expr} {M' N':List Str} {xs ys:List V} {ep i n:Nat} {ob:Obj} {pos px:Pos} {P:Program} {K:JK} {scope:Scope} {s:Shared} {B:St} {x y:Str} {nx:St->Hp->Prop} {JJ:St->VK->It->Hp->Prop} {te:TE} {g:TG} {wi:TI} {tb:TS} {tc:TT} {Q rt:VK} {RR:Value->Addr->Result->Shared->Prop} {w:World}
def Bf {k:Key} {v:Value} (h:(a8 P w).is k v=true):RelV (kV k) v:=by
 rw[D8]at h;cases k with
 |inl i=>
  cases v with
  |int j t=>exact⟨t,by simp[oA,Value.isInt]at h;rw[h]⟩
  |_=>simp[oA,Value.isInt]at h
 |inr x=>
  cases v with
  |str y t=>exact⟨t,by simp[oA,Value.isStrOf]at h;rw[h]⟩
  |_=>simp[oA,Value.isStrOf]at h
def kH (kvs:List (Key×V)):List V:=kvs.map λp=>kV p.1
def v8 {acc:List Value} (z:KV kvs vs) (hl:acc.length=vs.length)
  (G:∀(j:Nat) (v:Value),acc[j]?=some v->∃k x,vs[j]?=some (k,x)/\(a8 P w).is k v=true):GA (kH kvs) acc:=by
 induction z generalizing acc with
 |nil=>cases acc with
  |nil=>exact .nil
  |cons a b=>simp at hl
 |cons r t O=>
  rename_i p q ps qs
  cases acc with
  |nil=>simp at hl
  |cons a b=>
   refine .cons ?_<|O (by simpa using hl) λj v e=>?_
   .obtain⟨k,x,I,e2⟩:=G 0 a M;simp at I;subst I;show RelV (kV p.1) a;rw[r.1];exact Bf e2
   .exact G (j+1) v<|by simpa using e
def Em (hh:X.A.handled=none):gb X (.type "list") (λxs H Q=>∃a kvs,xs=[.ref a]/\Rd H a (.dK kvs)/\∀l,H l=none->Q (.ref l) (upd H l<|.lst<|kH kvs)):=by
 intro W s B H xs us Q I r h;obtain⟨a,kvs,rfl,hd,q⟩:=h;obtain⟨u,rfl,ru⟩:=mC r;cases ru;obtain⟨z,lo,vs,U,dd⟩:=qc I.hok hd;obtain⟨ep,Y⟩:=dd.dictAt;have Z:kvs.length=vs.length:=U.length;refine PySem.W.kdl_call (PySem.W.kdl_dict (knd:=a8 X.prog X.w) (kvs:=vs) (ep:=ep) lo) hh Y () λh' tk G c' hk hS O=>?_;have hv:GA (kH kvs) G.toList:=v8 U (by rw[Qa];exact O.1) λj v e=>O.2 j v (by rwa[<-Qx]);refine⟨.ref s.heap.objs.size,_,I.laid (t':=tk) hk (Q4 _) (show O9 X.prog X.w _ h' _ (.lst<|kH kvs) from⟨?_,G.toList,c',hv,?_⟩),M,q _<|I.hok.fresh (Q4 _)⟩
 .unfold kH;rwa[Q0]
 .rw[Xb];exact hS
def B7 {T:String} {r:Addr} {OK:Heap->Prop} {ns:List Int} (hh:X.A.handled=none) (I:Inv X W B H s) (Z:KV kvs vs) (z:kvs.length<=sizeLine)
  (src:PySem.W.KdlSrc X.prog X.w T r d vs.length (λi v=>∃k x,vs[i]?=some (k,x)/\(a8 X.prog X.w).is k v=true) OK) (hok:OK s.heap) (Y:kH kvs=ns.map V.int)
  (q:∀(l:Addr) (ms:List Int),H l=none->ms.Perm ns->ms.Pairwise (· <= ·)->Q (.ref l) (upd H l<|.lst<|ms.map V.int)):W6 X (call (.builtin "sorted") [.ref r]) (EP X W B Q) X.xe s:=by
 have a5:kvs.length=vs.length:=Z.length;have a0:(kH kvs).length=kvs.length:=Q0 _;have O:∀its:List Value,GA (kH kvs) its->∀v∈its,∃i t,v=Value.int i t:=λits rv v hv=>by
  obtain⟨x,hx,rx⟩:=mY rv hv;rw[Y]at hx;obtain⟨i,_,rfl⟩:=Q9.mp hx;obtain⟨t,e⟩:=rx;exact⟨i,t,e⟩
 have mem:∀(its:List Value) (z:Keyed),z∈pairsOf its->z.1=z.2/\z.1∈its:=λits z hz=>by
  have:z∈(pairsOf its).toList:=by simpa using hz
  rw[pairsOf_toList]at this;exact mem_zip_self this
 refine Srt.sorted_src (G:=λits=>GA (kH kvs) its) (κ:=oneType') (blt:=λa b=>HT.lexLt (Bg<|Ps a.1)<|Bg<|Ps b.1) (λR E' k=>?_) (λits rv=>by rwa[<-rv.length,a0]) (Srt.cmp_of λa=>Bg<|Ps a.1)
  (λits h' tk rv k h2 Q' hQ=>?_) (λits h' tk rv k=>Srt.runs_of λx y E' Q' hx hy hQ=>?_) (λits h1 h2 tk e out rv k1 k2 at_ pm pw=>?_)
 .refine PySem.W.kdu_collect src hh hok () λh' tk acc hk U=>k h' tk acc.toList hk ?_;exact v8 Z (by rw[Qa];exact U.1) λj v e=>U.2 j v (by rwa[<-Qx])
 .refine PySem.W.kas_kind (T:= .type "int") h2 (λv hv=>?_) ∅ ∅ hQ;obtain⟨i,t,rfl⟩:=O its rv v hv;exact PySem.W.Looks.of_pure M
 .obtain⟨i,t,e1⟩:=O its rv _ (mem its x hx).2;obtain⟨j,t',e2⟩:=O its rv _ (mem its y hy).2;rw[e1,e2]at hQ⊢;refine PySem.W.kat_lt_int ?_;have e:HT.lexLt (Bg<|Ps<|.int i t) (Bg<|Ps<|.int j t')=decide (i<j):=by
   show HT.lexLt [i] [j]=_;rw[HT.lexLt_cons];by_cases z:i=j
   .rw[Vp z,HT.lexLt_nil_nil,VA ()]
   .rw[Vo z]
  rw[e]at hQ;exact hQ
 .have a1:out.toList.Perm (its.zip its):=by
   have:=Xk.mp pm;rwa [pairsOf_toList]at this
  have a2:∀z∈out.toList,z.1=z.2/\z.1∈its:=λz hz=>mem_zip_self (a1.mem_iff.mp hz);have e2:(out.map (·.2)).toList=out.toList.map (·.2):=Array.toList_map;have pv:((out.map (·.2)).toList).Perm its:=by
   rw[e2];refine(a1.map _).trans<|VV ?_;exact List.map_snd_zip<|Q4 _
  have hu:∀u∈(out.map (·.2)).toList,RelV (Ps u) u:=λu hu=>by
   obtain⟨x,_,r⟩:=mY rv (pv.mem_iff.mp hu);rwa[wc r]
  have vy:=Ay hu;have I1:Inv X W B H {s with heap:=h1,toks:=tk}:=I.kept k1;have py:((out.map (·.2)).toList.map Ps).Perm (ns.map V.int):=by
   rw[<-Y,<-Ax rv];exact pv.map _
  have a3:((out.map (·.2)).toList.map Ps).Pairwise (λa b=>HT.lexLt (Bg b) (Bg a)=false):=by
   rw[e2,Qs];refine QP.mpr<|pw.imp_of_mem λ{a b} ha hb h=>?_;show HT.lexLt (Bg<|Ps b.2) (Bg<|Ps a.2)=false;rwa[<-(a2 a ha).1,<-(a2 b hb).1]
  have lz:((out.map (·.2)).toList.map Ps).length<=sizeLine:=by
   rwa[py.length_eq,<-Y,a0]
  obtain⟨ms,em,a4⟩:=FL py;rw[em]at vy a3 lz;refine⟨.ref h1.objs.size,upd H h1.objs.size<|.lst<|ms.map V.int,I1.laid (t':=tk) k2 (Q4 _) ⟨lz,_,e,vy,?_⟩,M,q _ _ (I1.hok.fresh<|Q4 _) a4 ?_⟩
  .rw[at_,Xb]
  .refine(QP.mp a3).imp λ{a b} h=>?_;have h:HT.lexLt [b] [a]=false:=h;rw[HT.lexLt_cons]at h;by_cases z:b=a
   .lia
   .rw[Vo z]at h;have:=VM h;lia
def sM (Y:X.A.handled=none):gb X (.builtin "sorted") (λxs H Q=>∃(a:Addr) (kvs:List (Key×V)) (ns:List Int),xs=[.ref a]/\Rd H a (.dK kvs)/\kH kvs=ns.map V.int/\
  ∀(l:Addr) (ms:List Int),H l=none->ms.Perm ns->ms.Pairwise (· <= ·)->Q (.ref l) (upd H l<|.lst<|ms.map V.int)):=by
 intro W s B H xs us Q I r h;obtain⟨a,kvs,ns,rfl,hd,G,q⟩:=h;obtain⟨u,rfl,Z⟩:=mC r;cases Z;obtain⟨z,lo,vs,O,dd⟩:=qc I.hok hd;obtain⟨ep,U⟩:=dd.dictAt;exact B7 Y I O z (PySem.W.kdl_dict (knd:=a8 X.prog X.w) (kvs:=vs) (ep:=ep) lo) U G q
inductive N7 (x:V) (vs:List V) (H:Hp) (Q:VK):Prop
 |mk (a kvs k v:_) (_:x= .ref a) (_:vs=[kV k]) (_:H a=some (.dK kvs)) (_:aG kvs k=some v) (_:Q v (upd H a<|.dK<|bM kvs k))
def A7:Rn X "dict.pop" N7:=by
 intro W s B H x vs v us Q I z rv h;obtain⟨a,kvs,k,y,rfl,rfl,G,hl,q⟩:=h;cases z;obtain⟨u,rfl,O⟩:=rv.one;exact LM I G O hl (.inl M) λw' s' U r'=>⟨y,_,U,r',q⟩
inductive N4 (K:JK) (x:V) (vs:List V) (H:Hp) (Q:VK):Prop
 |mk (sep:Str) (a:Addr) (ys:List Str) (_:x= .str sep) (_:vs=[.ref a]) (_:Fb K H a (ys.map V.str)) (_:sep.length<=16) (_:(ys.map (·.length)).sum+ys.length<=1048576) (_:Q (.str<|Txt.join sep ys) H)
def BW:∀{ys:List Str} {its:List Value},GA (ys.map V.str) its->StrsAre its ys
 | [],_,.nil=> .nil
 |_::_,_,.cons ⟨t,e⟩ r=>by subst e;exact .cons _ _<|BW r
def KB:Rn X "str.join" (N4 X.K):=by
 intro W s B H x vs v us Q I z rv h;obtain⟨G,a,ys,rfl,rfl,hS,h1,h2,q⟩:=h;obtain⟨t,rfl⟩:=z;obtain⟨u,rfl,O⟩:=rv.one;cases O;obtain⟨its,r,pl,_⟩:=I.list hS;exact join_listW pl.isList (by simpa using BW r) h1 h2 λt' k=>⟨.str _,H,I.tok _,⟨t',M⟩,q⟩
def qZ {env:Env}:∀(l:List (Str×NameKind)) (G:List (Str×Addr)),(∀p∈l,p.2= .free->∃c,env.cells.lookup p.1=some c)->
  ∃cl,(forIn l G (λp G=>if(p.2==NameKind.free)=true then cellOf env p.1>>=λa=>pure (ForInStep.yield ((p.1,a)::G))else pure (ForInStep.yield G)):Sem _)=pure cl/\
   (∀y c,cl.lookup y=some c->G.lookup y=some c\/env.cells.lookup y=some c)/\(∀y c,G.lookup y=some c->∃I,cl.lookup y=some I)/\(∀y,(y,NameKind.free)∈l->∃c,cl.lookup y=some c)
 | [],G,_=>⟨G,by rw[List.forIn_nil],λy c h=> .inl h,λy c h=>⟨c,h⟩,λy h=>nomatch h⟩
 |(n,k)::r,G,h=>by
  rw[List.forIn_cons];by_cases hk:k= .free
  .subst hk;obtain⟨c,hc⟩:=h (n,.free) Qb M;have hc:env.cells.lookup n=some c:=hc;have e:cellOf env n=pure c:=by unfold cellOf;rw[hc]
   obtain⟨cl,h1,h2,O,U⟩:=qZ r ((n,c)::G) λp Y=>h p (Qd _ Y);refine⟨cl,?_,λy I hy=>?_,λy I hy=>?_,λy hy=>?_⟩
   .simp only[VT,if_true,e,pure_bind];exact h1
   .rcases h2 y I hy with q|q
    .rw[ZL]at q;split at q
     .rename_i z
      cases q;rw[VB]at z;subst z;exact .inr hc
     .exact .inl q
    .exact .inr q
   .by_cases z:y=n
    .exact O y c<|by rw[ZL,z];simp
    .exact O y I<|by rwa[ZL,VF.mpr z]
   .rcases Qh.mp hy with q|q
    .have Z:y=n:=(W5 q).1;exact O y c<|by rw[ZL,Z];simp
    .exact U y q
  .have hb:(k==NameKind.free)=false:=by simpa using hk
   obtain⟨cl,h1,h2,O,U⟩:=qZ r G λp Y=>h p (Qd _ Y);refine⟨cl,?_,h2,O,λy hy=>?_⟩
   .simp only[hb,Zr,if_false,pure_bind];exact h1
   .rcases Qh.mp hy with q|q
    .exact Vt (W5 q).2.symm hk
    .exact U y q
def xV {env:Env} (h:∀p∈scope.names,p.2= .free->∃c,env.cells.lookup p.1=some c):
  ∃cl,closureFor scope env=pure cl/\(∀y c,cl.lookup y=some c->env.cells.lookup y=some c)/\(∀y,(y,NameKind.free)∈scope.names->∃c,cl.lookup y=some c):=by
 obtain⟨cl,h1,h2,_,G⟩:=qZ scope.names [] h;refine⟨cl,?_,λy c hy=>(h2 y c hy).resolve_left λz=>by simp at z,G⟩;unfold closureFor;simp only[bind_pure];exact h1
def R4 (X:Cx) (M' N':List Str) (scope:Scope) (cl:List (Str×Addr)) (C:Addr) (s₂:Shared) (H₂:Hp) (fp:List Addr):Cx:=
 {X with N:=M'++N',s₀:=s₂,H₀:=H₂,env:=compEnvC scope cl C X.env,outer:=X.stack,stack:=X.stack,ex:=fp,fn:=λ_=>false,pn:=[],xe:=λ_ _=>False}
structure OO (X:Cx) (M' N':List Str) (scope:Scope):Prop where
 kind:scope.kind= .function
 nd:(M'++N').Nodup
 ln:N'.length=X.N.length
 own:∀x∈M',scope.names.lookup x=some .local
 nocell:∀y∈scope.names,y.2≠ .cell
 names:∀y∈scope.names,y.2= .local->scope.names.lookup y.1=some .local
 free:∀y∈scope.names,y.2= .free->X.env.kindOf y.1=some .cell
 vis:∀(j:Nat) (y:Str),N'[j]?=some y->SJ (relabel scope X.env) y->X.N[j]?=some y/\(y,NameKind.free)∈scope.names/\(relabel scope X.env).names.lookup y=some .cell
 cells:∀y,((relabel scope X.env).names.lookup y=some .cell\/(relabel scope X.env).names.lookup y=some .free)->(y,NameKind.free)∈scope.names
def CW (n:Nat) (g:TG) (tc:TT) (te:TE) (B:St) (Q:VK) (J:It) (H1:Hp):Prop:=∀D,H1 D=none->∃Jl:Nat->Nat->St->List V->Hp->Prop,(∃m,Jl 0 m (List.replicate n none++B) [] (upd H1 D<|.lst []))/\∀i m τ ys H2,Jl i m τ ys H2->H2 D=some (.lst ys)->
 (J.stop i H2/\Q (.ref D) H2)\/(J.go i H2/\∀x H3,J.yld i H2 x H3->∃G:St->Hp->Prop,(∀τ2 H4,G τ2 H4->∃(Ny:VK) (Ns:Hp->Prop),(∀y H6,Ny y H6->H6 D=some (.lst ys)/\ys.length<sizeLine/\∃m',m'<m/\Jl (i+1) m' τ2 (ys++ [y]) (upd H6 D<|.lst<|ys++ [y]))/\
  (∀H5,Ns H5->H5 D=some (.lst ys)/\∃m',m'<m/\Jl (i+1) m' τ2 ys H5)/\tc τ2 H4 λb H5=>if b=true then te τ2 H5 Ny else Ns H5)/\g x τ H3 G)
def Lr:TT:=λ_ H Q=>Q true H
def PTs (X:Cx) (ifs:List Expr) (tc:TT):Prop:=∀(W:List (Addr×Obj)) (s:Shared) (B:St) (H:Hp) (Q:Bool->Hp->Prop),Inv X W B H s->tc B H Q->
 W6 X (forIn ifs true λc r=>if r=true then do let ok<-isTrue c X.env (eval c X.env);pure (ForInStep.yield ok)else pure (ForInStep.yield r)) (λb s'=>∃H',Inv X W B H' s'/\Q b H') X.xe s
def Kq:PTs X [] Lr:=λ_ _ _ H _ I h=>wpAny_tests_nil ⟨H,I,h⟩
def EH {c:Expr} (h:PT X c tc):PTs X [c] tc:=λW s B H Q I q=>wpAny_tests_one (h W s B H Q I q)
def OO.pg {s₂:Shared} {z:Hp} {fp:List Addr} (S:OO X M' N' scope) (h:M'[i]?=some x):PG (R4 X M' N' scope cl C s₂ z fp) (.Name x px) (fL i):=
 EI S.nd (by show(M'++N')[i]?=_;rwa[QT (Q2.mp h).1]) (.inl<|lookup_relabel_local<|S.own x<|Q1 h) (.inr<|lookup_relabel_local<|S.own x<|Q1 h)
structure LW (X:Cx) (W:List (Addr×Obj)) (H:Hp) (C:Addr):Prop where
 no:H C=none
 fr:C≠X.env.locals
 ab:X.s₀.heap.objs.size<=C
 ce:∀x c,X.env.cells.lookup x=some c->c≠C
 pi:∀p∈X.pn++W,p.1≠C
def Ad (hc:X.calm=true) (S:OO X M' N' scope) (hi:PI X tg iter wi)
  (hg:∀cl C s₂ a0 fp,PG (R4 X M' N' scope cl C s₂ a0 fp) tg g) (bc:∀cl C s₂ a0 fp,PTs (R4 X M' N' scope cl C s₂ a0 fp) ifs tc) (he:∀cl C s₂ a0 fp,PE (R4 X M' N' scope cl C s₂ a0 fp) elt te)
  (a1:∀y c,cl.lookup y=some c->X.env.cells.lookup y=some c) (b2:∀y,(y,NameKind.free)∈scope.names->∃c,cl.lookup y=some c) (I:Inv X W B H s) (h:wi B H R) (hB:∀J H,R J H->CW M'.length g tc te B Q J H)
  (hR:∀D C s4 H',Inv X W B H' s4->(∃m,s4.heap.Ns C m)->LW X W H' C->Q (.ref D) H'->RR (.ref D) C (.ok .next) s4):
  W6 X (eval iter X.env) (λv s1=>W6 X (pyIter v) (λb4 U=>W6 X (newList []) (λacc s3=>
   W6 X (newFunctionEnv scope X.env.globals cl [] X.env.qual none .none<|some X.env) (λaa s4=>
    codeAny (model X.prog X.w) X.A (.compStart (.ListComp elt [⟨tg,iter,ifs,0⟩] scope pos) 0 b4 acc {aa with scope:=relabel scope X.env}) (RR acc aa.locals) s4) X.xe s3) X.xe U) X.xe s1) X.xe s:=by
 refine OI (hi W s B H _ I h) λv s1 h1=>OI h1 λb4 U h2=>?_;obtain⟨it,fp,tn,J,H2,e,O,T,st2,f2,h⟩:=h2;subst e;refine wpAny_newObj_type<|wpAny_newFunctionEnv S.nocell (by intro y hy;simp at hy) (λh₁ Y Z=>?_) S.kind;dsimp only at Y Z⊢;generalize hD:U.heap.objs.size=D at*;generalize an:U.heap.push {cls:= .type "list",dict:=none,data:= .seq ([]:List Value).toArray}=h3 at Y Z⊢;have a3:h3.objs.size=D+1:=by rw[<-an,Heap.size_push,hD]
 have fD:H2 D=none:=O.hok.fresh (Zw hD);obtain⟨Jl,⟨m0,w0⟩,turn⟩:=hB _ _ h D fD;generalize hC:h3.objs.size=C at*;have gD:U.heap.get? D=none:=VU (Zw hD);have gC:U.heap.get? C=none:=VU (by rw[hD,a3];exact Zp _);have DC:D≠C:=by rw[a3];exact QK<|ZA _
 have be:∀b o,U.heap.get? b=some o->h3.get? b=some o:=λb o e=>by rw[<-an];exact Vr _ e
 have ab:∀b o,h3.get? b=some o->h₁.get? b=some o:=λb o e=>Z.extBut b o (by intro z;have:=Vx e;rw[z,hC]at this;exact Vt this<|Zy _) (Vr _ e);have up:∀b o,U.heap.get? b=some o->h₁.get? b=some o:=λb o e=>ab b o (be b o e);have oD:h₁.get? D=some {cls:= .type "list",dict:=none,data:= .seq ([]:List Value).toArray}:=ab _ _ (by rw[<-an,<-hD];exact Vz _ M);have a5:∀b∈fp,b≠C/\b∉RQ X.stack:=λb hb=>by
  obtain⟨o,e,_⟩:=T.obj _ _ st2 b hb;refine⟨λz=>(by rw[z,gC]at e;cases e),λz=>?_⟩;rcases Qh.mp (O.stkSub b z)with q|q
  .exact(f2 b hb).2.1 q
  .exact(f2 b hb).2.2.1 q
 have fC:H2 C=none:=O.hok.fresh (by rw[hD,a3];exact Zp _);have ok:(R4 X M' N' scope cl C U H2 fp).Ok:=
  {mod:=O.ok.mod,kind:=S.kind,glob:=O.ok.glob,blt:=O.ok.blt,above:=by show U.heap.objs.size<=C;rw[hD,a3];exact Zp _
   inj:=λy z c h1 h2=>O.ok.inj y z c (a1 _ _ h1) (a1 _ _ h2),has:=λy hy=>b2 y (S.cells y hy),cab:=λy c z=>by cases z
   hd:=O.ok.hd,frames:=O.ok.frames,stk:= .inl M,exf:=λb hb=>⟨(a5 b hb).1,λy c e=>(f2 b hb).2.2.2.2.1 y c<|a1 y c e⟩
   bs:=O.bs,bsz:=Qz O.ok.bsz O.sz
   noex:=λb o e hb=>by
    rcases(f2 b hb).2.2.2.1 with q|q
    .exact O.ok.noex b o e q
    .exact Vt (Qy (Vx e)<|Qz O.ok.bsz q) (Zy _)
   exfs:=λb hb=>(a5 b hb).2,funs:=O.stack,frf:=O.stkFree}
 have c1:∀b u,H2 b=some u->b≠D:=λb u e=>am e fD;have I3:Inv (R4 X M' N' scope cl C U H2 fp) [] (List.replicate M'.length none++B) (upd H2 D<|.lst []) {U with heap:=h₁,toks:=U.toks+([]:List (Str×Value)).length}:=
  {ok:=ok,os:=rfl,bare:=O.bare,base:=Un.laid up (Zw hD) fD
   loc:=⟨_,Y,λi y v e1 e2 e3=>by
    by_cases lt:i<M'.length
    .have e2:(List.replicate M'.length none++B)[i]?=some (some v):=e2;rw[QT (by rwa[Zs]),List.getElem?_replicate,Vp lt]at e2;cases e2
    .have e1:(M'++N')[i]?=some y:=e1;have e2:(List.replicate M'.length none++B)[i]?=some (some v):=e2;rw[QW (Nat.not_lt.mp lt)]at e1;rw[QW (by rw[Zs];exact Nat.not_lt.mp lt),Zs]at e2;generalize i-M'.length=j at e1 e2;obtain⟨e1,q1,q2⟩:=S.vis j y e1 e3;have kc:=S.free _ q1 M;obtain⟨m,hn,hl⟩:=O.loc;obtain⟨u,r,l⟩:=hl j y v e1 e2 (.inr<|.inl kc);refine⟨u,r,?_⟩;rcases l with⟨k,_⟩|⟨_,c,e,z⟩
     .rw[kc]at k;cases k
     .obtain⟨c',e'⟩:=b2 y q1;have ee:=a1 _ _ e';rw[e]at ee;cases ee;obtain⟨o,ho,hd⟩:=z;exact .inr ⟨.inl q2,c,e',o,up _ _ ho,hd⟩⟩
   cell:=λy c e=>by
    obtain⟨v,o,ho,hd⟩:=O.cell y c (a1 _ _ e);exact⟨v,o,up _ _ ho,hd⟩
   free:=by show upd H2 D (.lst []) C=none;rwa[af DC.symm]
   freeC:=λy c e=>by
    have q:=O.freeC y c (a1 _ _ e);obtain⟨v,o,ho,hd⟩:=O.cell y c (a1 _ _ e);rw[af (λz=>by rw[z,gD]at ho;cases ho)];exact q
   pin:=λp hp=>Vt (show p∈([]:List (Addr×Obj)) from hp) (by simp)
   hok:=O.hok.laid up (Zw hD) ⟨Qj _,[],0,.nil,oD⟩
   len:=by show(List.replicate M'.length none++B).length=(M'++N').length;rw[Q8,Q8,Zs,O.len,S.ln]}
 have a4:∀{H':Hp},(∀b∈fp,H' b=none)->∀b∈fp,Dc (R4 X M' N' scope cl C U H2 fp) [] H' b:=λhn b hb=>
  ⟨hn b hb,(a5 b hb).1,(a5 b hb).2,.inl hb,λy c e=>(f2 b hb).2.2.2.2.1 y c<|a1 _ _ e,λp hp=>Vt (show p∈([]:List (Addr×Obj)) from hp)<|by simp⟩
 have b5:tn 0 h₁:=T.keep _ _ _ st2 λb hb o e=>up b o e;have ah:∀s3:Shared,s3={U with heap:=h₁,toks:=U.toks+([]:List (Str×Value)).length}->
   codeAny (model X.prog X.w) X.A (.compLoop (.ListComp elt [⟨tg,iter,ifs,0⟩] scope pos) 0 (.ref it) (.ref D)<|compEnvC scope cl C X.env) (RR (.ref D) C) s3:=by
  rintro s3 rfl;refine codeAny_loop M (λn s'=>∃i τ ys H',Inv (R4 X M' N' scope cl C U H2 fp) [] τ H' s'/\tn i s'.heap/\(∀b∈fp,H' b=none)/\H' D=some (.lst ys)/\Jl i n τ ys H') ?_ m0
   ⟨0,_,[],_,I3,b5,λb hb=>by rw[af (λz=>by obtain⟨o,e,_⟩:=T.obj _ _ st2 b hb;rw[z,gD]at e;cases e)];exact(f2 b hb).1,ag,w0⟩
  rintro n s' ⟨i,τ,ys,H',I',st',b7,bl,w'⟩;show wpAny _ X.A ((compTurn (.ListComp elt [⟨tg,iter,ifs,0⟩] scope pos) 0 (.ref it) (.ref D)<|compEnvC scope cl C X.env).onRaise<|λx=>do noteFrame x (compEnvC scope cl C X.env);theTreesLotGoes x) _ _ s';refine wpAny_noted ?_;rw[compTurn_list];refine Vv<|wpAny_standAt (Vv ?_);rcases turn i n τ ys H' w' bl with⟨b8,qn⟩|⟨go,step⟩
  .refine OI (T.done (R4 X M' N' scope cl C U H2 fp) M M M hc i [] s' _ H' _ I' (a4 b7) st' b8) λr s4 ⟨hr,I4⟩=>?_;subst hr;refine VD ?_;obtain⟨m,hn,_⟩:=I4.loc;have IX:Inv X W B H' s4:=O.call' (s':=s4) I4.os (show Un (RQ X.stack) fp H2 H' U.heap s4.heap from I4.base) I4.hok I4.bare λb hb=>⟨(f2 b hb).2.2.2.1,(f2 b hb).2.1,(f2 b hb).2.2.2.2.1,(f2 b hb).2.2.2.2.2⟩;refine hR D C s4 H' IX ⟨m,hn⟩ ⟨I4.free,λz=>?_,?_,λy c e z=>?_,λp hp z=>?_⟩ qn
   .have:=O.lt;rw[<-z,a3,hD]at this;exact Vt this<|Nat.not_lt.mpr (Zp _)
   .refine Qz O.sz ?_;rw[hD,a3];exact Zp _
   .obtain⟨v,o,ho,_⟩:=O.cell y c e;rw[z,gC]at ho;cases ho
   .have ho:=(O.pin p hp).1;rw[z,gC]at ho;cases ho
  .refine OI (T.item (R4 X M' N' scope cl C U H2 fp) M M M hc i [] s' _ H' _ I' (a4 b7) st' go) λr s4 ⟨u,hr,h4⟩=>?_;subst hr;refine Vv<|OI h4 λ_ s5 a2=>?_;obtain⟨y,H5,I5,r5,y5,ax,bo⟩:=a2;have bt:=I5.pinned (a4 bo) (T.obj _ _ ax);obtain⟨G,hG,gq⟩:=step y H5 y5;refine Vv<|VN (hg cl C U H2 fp _ s5 _ H5 y _ _ bt r5 gq) (λ_ s6 a2=>?_) λ_ _ f=>f.elim;obtain⟨ba,H6,I6,q6⟩:=a2;have fin:∀{bb:St} {H7:Hp} {s7:Shared},Inv (R4 X M' N' scope cl C U H2 fp) ([]++wZ fp s5.heap) bb H7 s7->tn (i+1) s7.heap/\∀b∈fp,H7 b=none:=λ{bb H7 s7} I7=>by
    refine⟨T.keep _ _ _ ax λb hb o e=>(I7.pin (b,o)<|Qw _<|Qw _<|lM hb e).1,λb hb=>?_⟩;obtain⟨o,e,d⟩:=T.obj _ _ ax b hb;exact(I7.pin (b,o)<|Qw _<|Qw _<|lM hb e).2.1
   obtain⟨Ny,Ns,hy,hn,q6⟩:=hG _ _ q6;refine Vv<|VN (bc cl C U H2 fp _ s6 _ H6 _ I6 q6) (λb s7 ⟨H7,I7,q7⟩=>?_) λ_ _ f=>f.elim;cases b with
   |false=>
    rw[Vo Qe]at q7;obtain⟨bv,m',b1,w7⟩:=hn _ q7;exact VD<|show _/\_ from⟨M,m',b1,i+1,ba,ys,_,I7.unpinned,(fin I7).1,(fin I7).2,bv,w7⟩
   |true=>
    rw[Vp M]at q7;refine Vv<|Vv (VN (he cl C U H2 fp _ s7 _ H7 _ I7 q7) (λz s8 a2=>?_) λ_ _ f=>f.elim);obtain⟨y',H8,I8,r8,q8⟩:=a2;obtain⟨bw,c0,m',b1,w8⟩:=hy _ _ q8;refine Vv<|VN (eZ (X:=R4 X M' N' scope cl C U H2 fp) _ s8 _ H8 (.ref D) [y'] (.ref D) [z] (λ_ H9=>H9=upd H8 D (.lst<|ys++ [y'])) I8 M (.cons r8 .nil) ⟨D,ys,y',M,M,bw,c0,M⟩) (λz9 s9 a2=>?_) λ_ _ f=>f.elim;obtain⟨_,H9,I9,_,e9⟩:=a2;subst e9;exact VD<|VD ⟨M,m',b1,i+1,ba,ys++ [y'],_,I9.unpinned,(fin I9).1,(fin I9).2,ag,w8⟩
 exact codeAny_compStart_list (ah _ M)<|T.self _ 0 _ _ _ b5 (ah _ M)
def Inv.loose {h':Heap} (I:Inv X W B H s) (l:LW X W H C) (z:Heap.SameBut C s.heap h'):Inv X W B H {s with heap:=h'}:=
 I.turned (t':=s.toks) (λb o hb e=>(z.2 b hb).trans e) l.no l.fr (.inr l.ab) l.ce l.pi
section
variable {py spos:Pos}
def Cg (hB:∀B Q J H,JJ B Q J H->CW M'.length g tc te B Q J H) (hc:X.calm=true) (S:OO X M' N' scope) (hi:PI X tg iter wi) (hg:OO X M' N' scope->∀cl C s₂ z fp,PG (R4 X M' N' scope cl C s₂ z fp) tg g) (O:∀cl C s₂ z fp,PTs (R4 X M' N' scope cl C s₂ z fp) ifs tc) (he:∀cl C s₂ z fp,PE (R4 X M' N' scope cl C s₂ z fp) elt te)
  (hs:∀x,foldedSetIterable iter X.env x=pure x:=by intro _;rfl):PE X (.ListComp elt [⟨tg,iter,ifs,0⟩] scope pos) (λB H Q=>wi B H<|JJ B Q):=by
 intro W s B H Q I h;obtain⟨cl,G,U,Y⟩:=xV (env:=X.env) (scope:=scope) λp hp hf=>I.ok.has p.1 (.inl<|S.free p hp hf);rw[eval_ListComp];refine wpAny_comprehension_free (use:=none) M hs G S.kind S.names<|Ad hc S hi (hg S) O he U Y I h (hB _ _) λD C s4 H' I4 Z l q=>?_;obtain⟨m,Z⟩:=Z;exact⟨m,Z,λh' sb=>⟨.ref D,H',I4.loose l sb,M,q⟩⟩
def Hu (hB:∀B Q J H,JJ B Q J H->CW M'.length g tc te B Q J H) (hc:X.calm=true) (S:OO X M' N' scope) (hi:PI X tg iter wi) (hg:OO X M' N' scope->∀cl C s₂ G fp,PG (R4 X M' N' scope cl C s₂ G fp) tg g) (U:∀cl C s₂ G fp,PTs (R4 X M' N' scope cl C s₂ G fp) ifs tc) (he:∀cl C s₂ G fp,PE (R4 X M' N' scope cl C s₂ G fp) elt te)
  (hN:X.N.Nodup) (hy:X.N[i]?=some y) (hk:X.env.scope.names.lookup y=some .local) (Y:swapsWith (.ListComp elt [⟨tg,iter,ifs,0⟩] scope pos) (some<|.Name y py) spos.line X.env=pure true:=by rfl)
  (hs:∀x,foldedSetIterable iter X.env x=pure x:=by intro _;rfl):PS X (.Assign [.Name y py] (.ListComp elt [⟨tg,iter,ifs,0⟩] scope pos) spos) (G9 (λB H Q=>wi B H<|JJ B Q)<|fL i):=by
 intro W s B H D I h;obtain⟨cl,O,Z,a0⟩:=xV (env:=X.env) (scope:=scope) λp hp hf=>I.ok.has p.1 (.inl<|S.free p hp hf);rw[exec_Assign_Name_used _ _ _ _ Y];refine Vv<|wpAny_standAt (Vv ?_);show wpAny _ X.A (do let _<-comprehension (.ListComp elt [⟨tg,iter,ifs,0⟩] scope pos) scope X.env _ (newList []) false (eval iter X.env) (some<|assign (.Name y py) X.env)) _ _ s;refine Vv (OI (wpAny_comprehension_free (use:=some<|assign (.Name y py) X.env) (Q:=λ_ s'=>SP X W D .next s') M hs O S.kind S.names
  (Ad (Q:=λv H'=>D.nx (B.set i<|some v) H') hc S hi (hg S) U he Z a0 I h (hB _ _) λD' C s4 H' I4 hn l q=>?_)) λ_ s' hq=>VD<|VD hq)
 obtain⟨m,hn⟩:=hn;show wpAny _ X.A (assign (.Name y py) X.env<|.ref D') _ _ _;refine wpAny_assign_Name<|zD (v:= .ref D') I4 hN hy (.inl hk) M (λs5 I5 a1=>?_) (.inr hk);obtain⟨a,sb,ha⟩:=a1;have ne:C≠a:=by
  rcases ha with z|z
  .rw[z];exact l.fr
  .exact Ne.symm<|l.ce _ _ z
 exact⟨m,hn.sameBut sb ne,λh' a2=>⟨_,H',I5.loose l a2,q⟩⟩
end
def Eo (te:TE) (B:St) (Q:VK) (J:It) (H1:Hp):Prop:=∀D,H1 D=none->∃Jl:Nat->Nat->List V->Hp->Prop,(∃m,Jl 0 m [] (upd H1 D<|.lst []))/\∀i m ys H2,Jl i m ys H2->H2 D=some (.lst ys)->
 (J.stop i H2/\Q (.ref D) H2)\/(J.go i H2/\∀x H3,J.yld i H2 x H3->te (some x::B) H3 λy H4=>H4 D=some (.lst ys)/\ys.length<sizeLine/\∃m',m'<m/\Jl (i+1) m' (ys++ [y]) (upd H4 D<|.lst<|ys++ [y]))
def NR (wi:TI) (te:TE):TE:=λB H Q=>wi B H (Eo te B Q)
def OB (h:Eo te B Q J H1):CW 1 (fL 0) Lr te B Q J H1:=λD hD=>by
 obtain⟨Jl,⟨O,U⟩,turn⟩:=h D hD;refine⟨λi m I ys H=>(∃v,I=v::B)/\Jl i m ys H,⟨O,⟨none,M⟩,U⟩,λi m I ys H2 w e=>?_⟩;obtain⟨⟨v,rfl⟩,w⟩:=w;rcases turn i m ys H2 w e with z|⟨go,z⟩
 .exact .inl z
 .refine .inr ⟨go,λx H3 y=>⟨λG H4=>G=some x::B/\H4=H3,λG H4 e=>?_,M,M⟩⟩;obtain⟨rfl,rfl⟩:=e;refine⟨λy H6=>H6 D=some (.lst ys)/\ys.length<sizeLine/\∃m',m'<m/\Jl (i+1) m' (ys++ [y]) (upd H6 D<|.lst<|ys++ [y]),λ_=>False,λy H6 n=>?_,λ_ n=>n.elim,?_⟩
  .obtain⟨Y,Z,m',n3,n4⟩:=n;exact⟨Y,Z,m',n3,⟨_,M⟩,n4⟩
  .exact cH (JJ:=False)<|z x _ y
def pB (hc:X.calm=true) (S:OO X [x] N' scope) (hi:PI X (.Name x px) iter wi) (he:∀cl C s₂ z fp,PE (R4 X [x] N' scope cl C s₂ z fp) elt te)
  (hs:∀x,foldedSetIterable iter X.env x=pure x:=by intro _;rfl):PE X (.ListComp elt [⟨.Name x px,iter,[],0⟩] scope pos) (NR wi te):=
 Cg (JJ:=Eo te) (λ_ _ _ _=>OB) hc S hi (λS _ _ _ _ _=>S.pg M) (λ_ _ _ _ _=>Kq) he hs
noncomputable def Cd (scope dsc:Scope):List (Str×NameKind):=scope.names.map λp=>if(p.2==NameKind.free&&dsc.kind==ScopeKind.function&&dsc.names.lookup p.1==some NameKind.cell)=true then(p.1,NameKind.cell)else(p.1,p.2)
def LO (M' N N':List Str) (dsc:Scope) (scope:Scope):Bool:=
 (scope.kind==ScopeKind.function)&&decide (M'++N').Nodup&&(M'.all λx=>scope.names.lookup x==some NameKind.local)&&(scope.names.all λy=>y.2 !=NameKind.cell)&&(scope.names.all λy=>y.2 !=NameKind.local||scope.names.lookup y.1==some NameKind.local)
 &&(scope.names.all λy=>y.2 !=NameKind.free||dsc.names.lookup y.1==some NameKind.cell)&&(N'.all λy=>(Cd scope dsc).lookup y !=some NameKind.local&&(Cd scope dsc).lookup y !=some NameKind.free)&&decide (N'.length=N.length)&&(N'.zip N).all λp=>p.1==p.2||(Cd scope dsc).lookup p.1==none
def rQ {dsc:Scope}:∀{l:List (Str×NameKind)} {y:Str} {k:NameKind},(∀p∈l,p.2≠NameKind.cell)->(l.map λp=>if(p.2==NameKind.free&&dsc.kind==ScopeKind.function&&dsc.names.lookup p.1==some NameKind.cell)=true then(p.1,NameKind.cell)else(p.1,p.2)).lookup y=some k->(k= .cell\/k= .free)->(y,NameKind.free)∈l
 | [],y,k,_,h,_=>by simp at h
 |(n,kk)::r,y,k,hn,h,hk=>by
  rw[Qt]at h;by_cases c:(kk==NameKind.free&&dsc.kind==ScopeKind.function&&dsc.names.lookup n==some NameKind.cell)=true
  .dsimp only at h;rw[Vp c,ZL]at h;split at h
   .rename_i z
    rw[VB]at z;subst z;have:kk= .free:=by
     rw[QI,QI]at c;simpa using c.1.1
    rw[this];exact Qb
   .exact Qd _<|rQ (λp G=>hn p<|Qd _ G) h hk
  .dsimp only at h;rw[Vo c,ZL]at h;split at h
   .rename_i z
    rw[VB]at z;subst z;cases h;rcases hk with e|e
    .exact Vt e<|hn _ Qb
    .rw[e];exact Qb
   .exact Qd _<|rQ (λp G=>hn p<|Qd _ G) h hk
def OO.of {dsc:Scope} {N:List Str} (Y:X.N=N) (Z:X.env.scope=dsc) (h:LO M' N N' dsc scope=true):OO X M' N' scope:=by
 unfold LO at h;simp only[QI]at h;obtain⟨⟨⟨⟨⟨⟨⟨⟨h1,h2⟩,h3⟩,h4⟩,h5⟩,h6⟩,h7⟩,h8⟩,h9⟩:=h;have I:(relabel scope X.env).names=Cd scope dsc:=by rw[<-Z];rfl
 have G:∀y∈scope.names,y.2≠NameKind.cell:=λy hy=>by have:=QR.mp h4 y hy;simpa using this
 refine⟨by simpa using h1,Vw h2,by rw[Y];exact Vw h8,λx hx=>by simpa using QR.mp h3 x hx,G,λy hy e=>?_,λy hy e=>?_,λj y U v=>?_,λy e=>?_⟩
 .have:=QR.mp h5 y hy;rw[e]at this;simpa using this
 .have:=QR.mp h6 y hy;rw[e]at this;show X.env.scope.names.lookup y.1=_;rw[Z];simpa using this
 .have O:=QR.mp h7 y (Q1 U);have hz:∃z,N[j]?=some z/\(y,z)∈N'.zip N:=by
   have lj:=(Q2.mp U).1;have l8:N'.length=N.length:=Vw h8;refine⟨N[j]'(),Q3 _,?_⟩;refine Q1 (i:=j) ?_;rw[List.getElem?_zip_eq_some];exact⟨U,Q3 _⟩
  obtain⟨z,hz,mz⟩:=hz;have e9:=QR.mp h9 _ mz;unfold SJ at v;rw[I]at v⊢;have O:¬(Cd scope dsc).lookup y=some NameKind.local/\¬(Cd scope dsc).lookup y=some NameKind.free:=by simpa using O
  rcases v with v|v|v
  .exact Vt v O.1
  .refine⟨?_,rQ G v<|.inl M,v⟩;rw[Y,hz];dsimp only at e9;rw[v,Bool.or_eq_true]at e9;rcases e9 with e9|e9
   .rw[VB]at e9;rw[e9]
   .cases e9
  .exact Vt v O.2
 .have e:(Cd scope dsc).lookup y=some .cell\/(Cd scope dsc).lookup y=some .free:=by rwa[<-I]
  rcases e with e|e
  .exact rQ G e<|.inl M
  .exact rQ G e<|.inr M
def P7 (n i:Nat) (ys:List V) (D:Addr) (Pv:Nat->List V->Hp->Prop):VK:=λy H4=>H4 D=some (.lst ys)/\ys.length<sizeLine/\∃m',m'<n-i/\m'=n-(i+1)/\i+1<=n/\Pv (i+1) (ys++ [y]) (upd H4 D<|.lst<|ys++ [y])
def P7.mk {Pv:Nat->List V->Hp->Prop} {y:V} (hi:i<n) (h1:H4 D=some (.lst ys)) (h2:ys.length<sizeLine) (z:Pv (i+1) (ys++ [y]) (upd H4 D<|.lst<|ys++ [y])):P7 n i ys D Pv y H4:=
 ⟨h1,h2,n-(i+1),(),M,hi,z⟩
def uL {a:Addr} (Pv:Nat->List V->Hp->Prop) (z:Pv 0 [] (upd H1 D<|.lst [])) (hl:∀i ys H,i<=xs.length->Pv i ys H->Fb K H a xs)
  (hs:∀i x ys H2,xs[i]?=some x->Pv i ys H2->H2 D=some (.lst ys)->te (some x::B) H2 (P7 xs.length i ys D Pv))
  (hd:∀ys H2,Pv xs.length ys H2->H2 D=some (.lst ys)->Fin H2):
  ∃Jl:Nat->Nat->List V->Hp->Prop,(∃m,Jl 0 m [] (upd H1 D<|.lst []))/\∀i m ys H2,Jl i m ys H2->H2 D=some (.lst ys)->
   ((RS K a).stop i H2/\Fin H2)\/((RS K a).go i H2/\∀x H3,(RS K a).yld i H2 x H3->te (some x::B) H3 λy H4=>H4 D=some (.lst ys)/\ys.length<sizeLine/\∃m',m'<m/\Jl (i+1) m' (ys++ [y]) (upd H4 D<|.lst<|ys++ [y])):=by
 refine⟨λi m ys H=>m=xs.length-i/\i<=xs.length/\Pv i ys H,⟨xs.length,by simp,Qj _,z⟩,?_⟩;rintro i m ys H ⟨rfl,hi,p⟩ hD;have q:=hl i ys H hi p;by_cases lt:i<xs.length
 .refine .inr ⟨⟨xs,xs[i],q,by simp[lt]⟩,λx H' y=>?_⟩;obtain⟨e,y⟩:=y;subst e;exact hs i x ys _ (y xs q) p hD
 .have e:i=xs.length:=();subst e;exact .inl ⟨⟨xs,q,Q4 _⟩,hd ys H p hD⟩
def qX {lo:Int} (Pv:Nat->List V->Hp->Prop) (z:Pv 0 [] (upd H1 D<|.lst []))
  (hs:∀i ys H2,i<n->Pv i ys H2->H2 D=some (.lst ys)->te (some (.int<|lo+i)::B) H2 (P7 n i ys D Pv))
  (hd:∀ys H2,Pv n ys H2->H2 D=some (.lst ys)->Fin H2):
  ∃Jl:Nat->Nat->List V->Hp->Prop,(∃m,Jl 0 m [] (upd H1 D<|.lst []))/\∀i m ys H2,Jl i m ys H2->H2 D=some (.lst ys)->
   ((Rb lo n).stop i H2/\Fin H2)\/((Rb lo n).go i H2/\∀x H3,(Rb lo n).yld i H2 x H3->te (some x::B) H3 λy H4=>H4 D=some (.lst ys)/\ys.length<sizeLine/\∃m',m'<m/\Jl (i+1) m' (ys++ [y]) (upd H4 D<|.lst<|ys++ [y])):=by
 refine⟨λi m ys H=>m=n-i/\i<=n/\Pv i ys H,⟨n,by simp,Qj _,z⟩,?_⟩;rintro i m ys H ⟨rfl,hi,p⟩ hD;by_cases lt:i<n
 .refine .inr ⟨lt,λx H' y=>?_⟩;obtain⟨e,y⟩:=y;subst e y;exact hs i ys _ lt p hD
 .have e:i=n:=();subst e;exact .inl ⟨Q4 _,hd ys H p hD⟩
def Br (tc:TT) (te:TE) (B:St) (Q:VK) (J:It) (H1:Hp):Prop:=∀D,H1 D=none->∃Jl:Nat->Nat->List V->Hp->Prop,(∃m,Jl 0 m [] (upd H1 D<|.lst []))/\∀i m ys H2,Jl i m ys H2->H2 D=some (.lst ys)->
 (J.stop i H2/\Q (.ref D) H2)\/(J.go i H2/\∀x H3,J.yld i H2 x H3->tc (some x::B) H3 λb H4=>if b=true then te (some x::B) H4 λy H5=>H5 D=some (.lst ys)/\ys.length<sizeLine/\∃m',m'<m/\Jl (i+1) m' (ys++ [y]) (upd H5 D<|.lst<|ys++ [y])else H4 D=some (.lst ys)/\∃m',m'<m/\Jl (i+1) m' ys H4)
def G7 (wi:TI) (tc:TT) (te:TE):TE:=λB H Q=>wi B H (Br tc te B Q)
def LP (h:Br tc te B Q J H1):CW 1 (fL 0) tc te B Q J H1:=λD hD=>by
 obtain⟨Jl,⟨Z,w0⟩,turn⟩:=h D hD;refine⟨λi m Y ys H=>(∃v,Y=v::B)/\Jl i m ys H,⟨Z,⟨none,M⟩,w0⟩,λi m Y ys H2 w e=>?_⟩;obtain⟨⟨v,rfl⟩,w⟩:=w;rcases turn i m ys H2 w e with z|⟨go,z⟩
 .exact .inl z
 .refine .inr ⟨go,λx H3 y=>⟨λG H4=>G=some x::B/\H4=H3,λG H4 e=>?_,M,M⟩⟩;obtain⟨rfl,rfl⟩:=e;refine⟨_,_,λy H6 n=>?_,λH5 n=>?_,z x _ y⟩
  .obtain⟨I,n2,m',O,U⟩:=n;exact⟨I,n2,m',O,⟨_,M⟩,U⟩
  .obtain⟨I,m',O,U⟩:=n;exact⟨I,m',O,⟨_,M⟩,U⟩
def rW {G:Expr} (hc:X.calm=true) (S:OO X [x] N' scope) (hi:PI X (.Name x px) iter wi) (I:∀cl C s₂ z fp,PT (R4 X [x] N' scope cl C s₂ z fp) G tc) (he:∀cl C s₂ z fp,PE (R4 X [x] N' scope cl C s₂ z fp) elt te)
  (hs:∀x,foldedSetIterable iter X.env x=pure x:=by intro _;rfl):PE X (.ListComp elt [⟨.Name x px,iter,[G],0⟩] scope pos) (G7 wi tc te):=
 Cg (JJ:=Br tc te) (λ_ _ _ _=>LP) hc S hi (λS _ _ _ _ _=>S.pg M) (λ_ _ _ _ _=>EH<|I _ _ _ _ _) he hs
def Hv {G:Expr} {py spos:Pos} (hc:X.calm=true) (S:OO X [x] N' scope) (hi:PI X (.Name x px) iter wi) (I:∀cl C s₂ z fp,PT (R4 X [x] N' scope cl C s₂ z fp) G tc) (he:∀cl C s₂ z fp,PE (R4 X [x] N' scope cl C s₂ z fp) elt te)
  (hN:X.N.Nodup) (hy:X.N[i]?=some y) (hk:X.env.scope.names.lookup y=some .local) (O:swapsWith (.ListComp elt [⟨.Name x px,iter,[G],0⟩] scope pos) (some<|.Name y py) spos.line X.env=pure true:=by rfl)
  (hs:∀x,foldedSetIterable iter X.env x=pure x:=by intro _;rfl):PS X (.Assign [.Name y py] (.ListComp elt [⟨.Name x px,iter,[G],0⟩] scope pos) spos) (G9 (G7 wi tc te)<|fL i):=
 Hu (JJ:=Br tc te) (λ_ _ _ _=>LP) hc S hi (λS _ _ _ _ _=>S.pg M) (λ_ _ _ _ _=>EH<|I _ _ _ _ _) he hN hy hk O hs
def PZ (n i:Nat) (ys:List V) (D:Addr) (Pv:Nat->List V->Hp->Prop) (H4:Hp):Prop:=H4 D=some (.lst ys)/\∃m',m'<n-i/\m'=n-(i+1)/\i+1<=n/\Pv (i+1) ys H4
def PZ.mk {Pv:Nat->List V->Hp->Prop} (hi:i<n) (h1:H4 D=some (.lst ys)) (z:Pv (i+1) ys H4):PZ n i ys D Pv H4:=⟨h1,n-(i+1),(),M,hi,z⟩
def mw {a:Addr} (Pv:Nat->List V->Hp->Prop) (G:Pv 0 [] (upd H1 D<|.lst [])) (hl:∀i ys H,i<=xs.length->Pv i ys H->Fb K H a xs)
  (hs:∀i x ys H2,xs[i]?=some x->Pv i ys H2->H2 D=some (.lst ys)->tc (some x::B) H2 λb H4=>if b=true then te (some x::B) H4 (P7 xs.length i ys D Pv)else PZ xs.length i ys D Pv H4)
  (hd:∀ys H2,Pv xs.length ys H2->H2 D=some (.lst ys)->Fin H2):
  ∃Jl:Nat->Nat->List V->Hp->Prop,(∃m,Jl 0 m [] (upd H1 D<|.lst []))/\∀i m ys H2,Jl i m ys H2->H2 D=some (.lst ys)->
   ((RS K a).stop i H2/\Fin H2)\/((RS K a).go i H2/\∀x H3,(RS K a).yld i H2 x H3->tc (some x::B) H3 λb H4=>if b=true then te (some x::B) H4 λy z=>z D=some (.lst ys)/\ys.length<sizeLine/\∃m',m'<m/\Jl (i+1) m' (ys++ [y]) (upd z D<|.lst<|ys++ [y])else H4 D=some (.lst ys)/\∃m',m'<m/\Jl (i+1) m' ys H4):=by
 refine⟨λi m ys H=>m=xs.length-i/\i<=xs.length/\Pv i ys H,⟨xs.length,by simp,Qj _,G⟩,?_⟩;rintro i m ys H ⟨rfl,hi,p⟩ hD;have q:=hl i ys H hi p;by_cases lt:i<xs.length
 .refine .inr ⟨⟨xs,xs[i],q,by simp[lt]⟩,λx H' y=>?_⟩;obtain⟨e,y⟩:=y;subst e;exact hs i x ys _ (y xs q) p hD
 .have e:i=xs.length:=();subst e;exact .inl ⟨⟨xs,q,Q4 _⟩,hd ys H p hD⟩
noncomputable def Rv (a d:Addr):HO:= .ext λh=>h.IsItemsView a d
def Itd (ob:Obj) (d:Addr) (kvs:List (Key×V)):It:=
 ⟨λi H=>H d=some (.frz ob<|.dK kvs)/\i<kvs.length,λi H x H'=>∃p k v,x= .ref p/\H p=none/\kvs[i]?=some (k,v)/\H'=upd H p (.tup [kV k,v]),λi H=>H d=some (.frz ob<|.dK kvs)/\kvs.length<=i⟩
def NB (P:Program) (w:World) (ob:Obj) (d:Addr) (kvs:List (Key×V)) (vs:List (Key×Value)) (ep:Nat):Prop:=
 KV kvs vs/\∀h:Heap,h.get? d=some ob->h.DictAt (a8 P w) d vs ep
def KV.getI (h:KV kvs vs):∀{i:Nat} {k:Key} {v:V},kvs[i]?=some (k,v)->∃u,vs[i]?=some (k,u)/\RelV v u:=by
 induction h with
 |nil=>intro i k v e;simp at e
 |cons r t z=>
  rename_i p q ps qs
  intro i k v e;cases i with
  |zero=>
   simp at e;subst e;exact⟨q.2,by simp[show k=q.1 from r.1],r.2⟩
  |succ j=>
   obtain⟨u,h1,h2⟩:=z (i:=j) (by simpa using e);exact⟨u,by simpa using h1,h2⟩
def DD {x1} (it:Addr) (D:NB P w ob d kvs vs ep):
  Db P w K (.Tuple elts x1 pos) (Itd ob d kvs) [it] it (λi h=>∃ok Y,IsItemIter h it d i vs.length ep ok Y) where
 mem:=by simp
 obj:=λi h st b hb=>by
  obtain⟨ok,Y,st⟩:=st;have z:b=it:=by simpa using hb
  subst z;exact⟨_,st,λv z=>by cases z⟩
 keep:=λi h h' st k=>by
  obtain⟨ok,Y,st⟩:=st;exact⟨ok,Y,k it (by simp) _ st⟩
 item:=by
  intro X hP hw hK hc i W s B H E I hf st hg;subst hP hw hK;obtain⟨ok,Y,st⟩:=st;obtain⟨hq,hi⟩:=hg;have fi:=hf it (by simp);obtain⟨G,_⟩:=I.hok d _ hq;have O:=D.2 s.heap G;obtain⟨⟨k,v⟩,hx⟩:∃kv,kvs[i]?=some kv:=⟨kvs[i],by simp[hi]⟩;obtain⟨u,hu,ru⟩:=KV.getI D.1 hx;refine wpAny_pyNext_items_item st O hu λkey h' a0 g1 g3 gz g5=>⟨_,M,?_⟩;refine wpAny_letOwnedTupleGo_items g1 λh2 k1 k2=>?_;have rk:RelV (kV k) key:=Bf a0;have Z:H s.heap.objs.size=none:=I.hok.fresh (Q4 _);have a1:s.heap.objs.size≠it:=XU (Vx st);have keep:∀b o,b≠it->s.heap.get? b=some o->h2.get? b=some o:=λb o z q=>(k2.2 b z).trans (g5 b o z q);have U:h2.get? s.heap.objs.size=some {cls:= .type "tuple",data:= .seq #[key,u]}:=(k2.2 _ a1).trans g3;have Ru:∀b v,H b=some v->b≠it:=λb v q z=>by rw[z,fi.1]at q;cases q
  have un:Un (RQ X.stack) [it] H (upd H s.heap.objs.size<|.tup [kV k,v]) s.heap h2:=by
   refine⟨λb o q n hb hx=>keep b o (λz=>hx<|by simp[z]) q,λb o q n hb hx=>⟨o.slots,keep b o (λz=>hx<|by simp[z]) q⟩,λb o q n hx=>?_,
    λb o q hx=>⟨o,keep b o (λz=>hx<|by simp[z]) q⟩,λb ys q=>?_,λb o v q=>?_,λb ps q=>⟨#[],?_⟩⟩
   .rwa[af (QK<|Vx q)]
   .rw[af (am q Z)];exact q
   .rw[af (am q Z)];exact q
   .rw[af (am q Z),q];simp
  have hok:PM X.prog X.w (upd H s.heap.objs.size<|.tup [kV k,v]) h2:=λb v' q=>by
   by_cases z:b=s.heap.objs.size
   .subst z;rw[ag]at q;cases q;exact⟨by show 2<=sizeLine;decide,[key,u],.cons rk<|.cons ru .nil,_,U,M,_,M⟩
   .rw[af z]at q;refine(I.hok b v' q).stay (λc o hc r=>?_) (λc r=>by rwa[af (am r Z)]) λc ys r=>by rwa[af (am r Z)]
    rcases hc with rfl|hc
    .exact keep _ _ (Ru _ _ q) r
    .exact keep _ _ (Ru _ _ hc) r
  have I2:Inv X W B (upd H s.heap.objs.size<|.tup [kV k,v]) {s with heap:=h2}:=I.call' (s':={s with heap:=h2}) M un hok I.bare λb hb=>by
   have z:Dc X W H b:=hf b hb;exact⟨z.2.2.2.1,z.2.1,z.2.2.2.2.1,z.2.2.2.2.2⟩
  refine⟨.ref s.heap.objs.size,_,I2,M,⟨_,k,v,M,Z,hx,M⟩,⟨key,u,k1⟩,λb hb=>?_⟩;have z:b=it:=by simpa using hb
  subst z;rw[af (Ne.symm a1)];exact fi.1
 done:=by
  intro X hP hw hK hc i W s B H E I hf st hg;subst hP hw hK;obtain⟨ok,Y,st⟩:=st;obtain⟨hq,hi⟩:=hg;obtain⟨G,_⟩:=I.hok d _ hq;have O:=D.2 s.heap G;obtain⟨f0,f1,f2,f3,f4,f5⟩:=hf it (by simp);have hl:kvs.length=vs.length:=D.1.length;exact wpAny_pyNext_items_end (I.ok.hd hc) st O (by simp;lia) λh' eb=>⟨M,I.turned (t':=s.toks) (λb o hb e=>eb b o hb e) f0 f1 f3 f4 f5⟩
 self:=λ_ _ _ _ _ st h=>let⟨_,_,st⟩:=st;PySem.W.kcp_self st h
inductive Mw (x:V) (vs:List V) (H:Hp) (Q:VK):Prop
 |mk (d kvs:_) (_:x= .ref d) (_:vs=[]) (_:H d=some (.dK kvs)) (_:∀a,H a=none->Q (.ref a) (upd H a<|Rv a d))
def Cn:Rn X "dict.items" Mw:=by
 intro W s B H x vs v us Q I G rv h;obtain⟨d,kvs,rfl,rfl,hd,q⟩:=h;cases G;cases rv;obtain⟨z,lo,O,U,dd⟩:=fZ I.hok hd;refine VZ Xs dd.typeIs PySem.F.entry_dict_items (PySem.F.args_dict_items_1 _) (meets_dict_items (a8 X.prog X.w) d lo) ⟨⟨O,dd⟩,?_⟩;have new:(s.heap.push {cls:= .type "dict_items",data:= .fields #[.ref d]}).get? s.heap.objs.size=some {cls:= .type "dict_items",data:= .fields #[.ref d]}:=Vz _ M;refine⟨.ref s.heap.objs.size,_,I.laid (t':=s.toks) (λb o e=>Vr _ e) (Q4 _) (show O9 X.prog X.w _ _ _ (Rv s.heap.objs.size d) from⟨⟨_,new,M,M⟩,⟨_,new⟩,λh1 h2 p k=>?_⟩),M,q _<|I.hok.fresh (Q4 _)⟩;obtain⟨o,e,c⟩:=p;exact⟨o,k o e,c⟩
def Inv.freeze {H:Hp} {d:Addr} {kvs:List (Key×V)} (I:Inv X W B H s) (hd:H d=some (.dK kvs)) (ho:s.heap.get? d=some ob):Inv X W B (upd H d<|.frz ob<|.dK kvs) s:=by
 have own:∀b y,H b=some (.own y)->upd H d (.frz ob<|.dK kvs) b=some (.own y):=λb y q=>by rw[af (λz=>by rw[z,hd]at q;cases q)];exact q
 have tup:∀b xs,H b=some (.tup xs)->upd H d (.frz ob<|.dK kvs) b=some (.tup xs):=λb xs q=>by rw[af (λz=>by rw[z,hd]at q;cases q)];exact q
 have non:∀b,H b=none->upd H d (.frz ob<|.dK kvs) b=none:=λb q=>by rw[af (λz=>by rw[z,hd]at q;cases q)];exact q
 refine⟨I.ok,I.os,I.bare,⟨I.base.keep,I.base.slot,λb o e n hx=>non b<|I.base.free b o e n hx,I.base.there,λb xs e=>tup b xs<|I.base.tups b xs e,λb o u e=>?_,λb ps e=>?_⟩,I.loc,I.cell,non _ I.free,λx c e=>non c<|I.freeC x c e,λp G=>?_,λb o e=>?_,I.len⟩
 .have:=I.base.frzs b o u e;rwa[af (λz=>by rw[z,hd]at this;cases this)]
 .obtain⟨m,q⟩:=I.base.tbls b ps e;exact⟨m,by rw[af (λz=>by rw[z,hd]at q;cases q)];exact q⟩
 .obtain⟨h1,h2,O⟩:=I.pin p G;exact⟨h1,non _ h2,O⟩
 .by_cases z:b=d
  .subst z;rw[ag]at e;cases e;exact⟨ho,(I.hok b _ hd).stay (λ_ _ _ q=>q) (λc q=>own c b q) tup⟩
  .rw[af z]at e;exact(I.hok b o e).stay (λ_ _ _ q=>q) (λc q=>own c b q) tup
def Inv.thaw {H:Hp} {d:Addr} {kvs:List (Key×V)} (I:Inv X W B H s) (hd:H d=some (.frz ob<|.dK kvs)) (G:∀o u,X.H₀ d≠some (.frz o u)):Inv X W B (upd H d<|.dK kvs) s:=by
 have own:∀b y,H b=some (.own y)->upd H d (.dK kvs) b=some (.own y):=λb y q=>by rw[af (λz=>by rw[z,hd]at q;cases q)];exact q
 have tup:∀b xs,H b=some (.tup xs)->upd H d (.dK kvs) b=some (.tup xs):=λb xs q=>by rw[af (λz=>by rw[z,hd]at q;cases q)];exact q
 have non:∀b,H b=none->upd H d (.dK kvs) b=none:=λb q=>by rw[af (λz=>by rw[z,hd]at q;cases q)];exact q
 refine⟨I.ok,I.os,I.bare,⟨I.base.keep,I.base.slot,λb o e n hx=>non b<|I.base.free b o e n hx,I.base.there,λb xs e=>tup b xs<|I.base.tups b xs e,λb o u e=>?_,λb ps e=>?_⟩,I.loc,I.cell,non _ I.free,λx c e=>non c<|I.freeC x c e,λp O=>?_,λb o e=>?_,I.len⟩
 .have:=I.base.frzs b o u e;rwa[af (λz=>by rw[z]at e;exact G _ _ e)]
 .obtain⟨m,q⟩:=I.base.tbls b ps e;exact⟨m,by rw[af (λz=>by rw[z,hd]at q;cases q)];exact q⟩
 .obtain⟨h1,h2,U⟩:=I.pin p O;exact⟨h1,non _ h2,U⟩
 .by_cases z:b=d
  .subst z;rw[ag]at e;cases e;obtain⟨_,q⟩:=I.hok b _ hd;exact O9.stay (show O9 X.prog X.w H s.heap b (.dK kvs) from q) (λ_ _ _ q=>q) (λc q=>own c b q) tup
  .rw[af z]at e;exact(I.hok b o e).stay (λ_ _ _ q=>q) (λc q=>own c b q) tup
def Inv.noFrz {H:Hp} {d:Addr} {kvs:List (Key×V)} (I:Inv X W B H s) (hd:H d=some (.dK kvs)):∀o u,X.H₀ d≠some (.frz o u):=λo u e=>by
 have:=I.base.frzs d o u e;rw[hd]at this;cases this
def M9 (te:TE):TI:=λB H R=>te B H λx H1=>∃a d kvs,x= .ref a/\H1 a=some (Rv a d)/\H1 d=some (.dK kvs)/\∀ob,R (Itd ob d kvs) (upd H1 d<|.frz ob<|.dK kvs)
def Ce {x1} (hl:PE X l te):PI X (.Tuple elts x1 pos) l (M9 te):=by
 intro W s B H R I h;refine OI (hl W s B H _ I h) λv s1 O=>?_;obtain⟨x,H1,U,r1,q1⟩:=O;obtain⟨a,d,kvs,e,ha,hd,q⟩:=q1;subst e;cases r1;obtain⟨z,lo,vs,Y,dd⟩:=fZ U.hok hd;obtain⟨ep,G⟩:=dd.dictAt;obtain⟨vw,_,_⟩:=(show O9 X.prog X.w H1 s1.heap a (Rv a d) from U.hok a _ ha);obtain⟨ob,es,Z,rest⟩:=id G;refine wpAny_pyIter_items vw G ?_;have If:=U.freeze hd Z;refine⟨s1.heap.objs.size,[s1.heap.objs.size],_,_,_,M,If.kept (t':=s1.toks) λb o e=>Vr _ e,DD _ ⟨Y,λh e=>⟨ob,es,e,rest⟩⟩,⟨_,_,Vz _ M⟩,λb hb=>?_,q ob⟩;have e:b=s1.heap.objs.size:=by simpa using hb
 subst e;exact If.fpOk (Q4 _) (If.hok.fresh<|Q4 _)
inductive NI (t:TS) (D:tG) (B:St) (H:Hp):Prop
 |mk (d kvs:_) (_:H d=some (.dK kvs)) (_:t ⟨λσ' H'=>∃ob,H' d=some (.frz ob<|.dK kvs)/\D.nx σ' (upd H' d<|.dK kvs),λv H'=>∃ob,H' d=some (.frz ob<|.dK kvs)/\D.rt v (upd H' d<|.dK kvs),λσ' H'=>∃ob,H' d=some (.frz ob<|.dK kvs)/\D.bk σ' (upd H' d<|.dK kvs),λσ' H'=>∃ob,H' d=some (.frz ob<|.dK kvs)/\D.ct σ' (upd H' d<|.dK kvs)⟩ B H)
def vT {st:Stmt} {t:TS} (h:PS X st t):PS X st (NI t):=by
 intro W s B H D I ⟨d,kvs,hd,q⟩;have U:=I.noFrz hd;refine OI (h W s B H _ I q) λf s1 Y=>?_;cases f with
 |next=>obtain⟨z,Z,G,ob,e,O⟩:=Y;exact⟨z,_,G.thaw e U,O⟩
 |cont=>obtain⟨z,Z,G,ob,e,O⟩:=Y;exact⟨z,_,G.thaw e U,O⟩
 |brk=>obtain⟨z,Z,G,ob,e,O⟩:=Y;exact⟨z,_,G.thaw e U,O⟩
 |ret v=>obtain⟨x7,z,Z,G,r7,ob,e,O⟩:=Y;exact⟨x7,z,_,G.thaw e U,r7,O⟩
def xN (Pv:Nat->St->Hp->Prop) (O:Pv 0 B H) (hl:∀i B H,i<=kvs.length->Pv i B H->H d=some (.frz ob<|.dK kvs))
  (hs:∀i k v p B H,kvs[i]?=some (k,v)->Pv i B H->H p=none->g (.ref p) B (upd H p<|.tup [kV k,v]) λG H2=>tb ⟨Pv<|i+1,rt,nx,Pv<|i+1⟩ G H2) (hd:∀B H,Pv kvs.length B H->nx B H):
  ∃Jl:Nat->Nat->St->Hp->Prop,(∃m,Jl 0 m B H)/\∀i m B H,Jl i m B H->
   ((Itd ob d kvs).stop i H/\nx B H)\/((Itd ob d kvs).go i H/\∃N:St->Hp->Prop,(∀I H',N I H'->∃m',m'<m/\Jl (i+1) m' I H')/\∀x H',(Itd ob d kvs).yld i H x H'->g x B H' λG H2=>tb ⟨N,rt,nx,N⟩ G H2):=by
 refine⟨λi m B H=>m=kvs.length-i/\i<=kvs.length/\Pv i B H,⟨kvs.length,by simp,Qj _,O⟩,?_⟩;rintro i m B H ⟨rfl,hi,p⟩;have q:=hl i B H hi p;by_cases lt:i<kvs.length
 .refine .inr ⟨⟨q,lt⟩,Pv<|i+1,λI H' z=>⟨kvs.length-(i+1),(),M,lt,z⟩,λx H' y=>?_⟩;obtain⟨U,k,v,rfl,Y,e,rfl⟩:=y;exact hs i k v U B H e p Y
 .have e:i=kvs.length:=();subst e;exact .inl ⟨⟨q,Q4 _⟩,hd B H p⟩
def IY:bootBuiltins "sum"=some (.builtin "sum"):=by decide+kernel
section
variable (K:JK) (hK:X.K=K)
include hK
theorem zp:gb X (.builtin "len") (λxs H Q=>∃p ys,xs=[.ref p]/\(Fb K H p ys\/OX K H p ys)/\Q (.int ys.length) H):=by subst hK;exact aC
theorem Io:IxR X (rIxL K):=by subst hK;exact aU
theorem Bh:IxR X (rIxT K):=by subst hK;exact bB
end
def Af (hc:X.calm=true):gb X (.builtin "min") (λxs H Q=>∃(p:Addr) (ns:List Int),xs=[.ref p]/\Fb X.K H p (ns.map V.int)/\0<ns.length/\∀M',M'∈ns->(∀a∈ns,M'<=a)->Q (.int M') H):=by
 intro W s B H xs us Q I r h;obtain⟨p,ns,rfl,hq,G,q⟩:=h;obtain⟨u,rfl,U⟩:=mC r;cases U;obtain⟨its,rv,pl,hz⟩:=I.list hq;have hi:IntsAre its ns:=xI rv;obtain⟨xs,e⟩:=hi.allInts.items;have z:ns=xs.toList.map (·.1):=by
  rw[<-hi.numsOf,<-nums_intItems,<-e]
 have hsz:0<xs.size:=by
  have O:=G;rw[z,Q0,Qa]at O;exact O
 have hl:=pl.isList;rw[e]at hl;refine min_intList (I.ok.hd hc) hl hsz λv h' tk Y hk=>?_;obtain⟨t,rfl⟩:=intItems_at Y;obtain⟨h1,h2⟩:=argBest_lt (numAt xs) (xs.size-1);refine⟨.int _,H,I.kept (t':=tk) hk,⟨t,M⟩,q _ ?_ λa ha=>?_⟩
 .rw[z,numAt_eq];exact getD_mem<|by rw[Q0,Qa];lia
 .rw[z]at ha;obtain⟨j,Z,rfl⟩:=mem_getD ha;rw[Q0,Qa]at Z;rw[<-numAt_eq];exact h2 j ()
def zP {y:Int}:∀{ns:List Int} {m:Nat},m<ns.idxOf y->(h:m<ns.length)->ns[m]≠y
 | [],m,_,h=>by simp at h
 |a::r,m,lt,h=>by
  rw[List.idxOf_cons]at lt;by_cases c:a=y
  .rw[c]at lt;simp at lt
  .have:(a==y)=false:=VF.mpr c;rw[this]at lt;cases m with
   |zero=>exact c
   |succ j=>exact zP (ns:=r) (m:=j) (by simpa using lt)<|by simpa using h
def z8:∀(ns:List Int) (i:Nat),(ns.eraseIdx i).map V.int=(ns.map V.int).eraseIdx i
 | [],_=>rfl
 |_::_,0=>rfl
 |a::r,i+1=>by
  show V.int a::(r.eraseIdx i).map V.int=V.int a::(r.map V.int).eraseIdx i;rw[z8 r i]
inductive Km (x:V) (vs:List V) (H:Hp) (Q:VK):Prop
 |mk (l:Addr) (xs:List V) (k:Int) (y:V) (_:x= .ref l) (_:vs=[.int k,y]) (_:H l=some (.lst xs)) (_:0<=k) (_:k<=(xs.length:Int)) (_:xs.length<sizeLine) (_:Q .non (upd H l<|.lst (xs.take k.toNat++y::xs.drop k.toNat)))
def zQ:MtM X "list.insert" Km:=by
 intro W s B H x vs v us Q I Y rv h;obtain⟨l,xs,k,y,rfl,rfl,O,h0,hk,hz,q⟩:=h;cases Y;obtain⟨u1,u,rfl,⟨t,rfl⟩,Z⟩:=rv.two;obtain⟨z,its,n,r,hl,e⟩:=I.lstM O;have G:¬(!Builtin.List.listFitsIndex k)=true:=by
  have U:=xE;rw[fitsIndex_both () ()];exact Qe
 have hsz:its.toArray.size<=sizeLine:=by rw[Qi];lia
 refine call_meets F.slot_list_insert ⟨_,e,M⟩ F.entry_list_insert (F.args_list_insert_3 _ _ _) (AutoListH.list_insert_list_int_val_1 l its.toArray n k t u G hsz) ⟨e,?_⟩;refine⟨.non,_,I.lset (its':=its.take k.toNat++u::its.drop k.toNat) O e ?_ ((r.take k.toNat).append<|.cons Z<|r.drop k.toNat) ?_,M,q⟩
 .have e0:(if k<0 then(k+((its.toArray.size:Nat):Int)).toNat else min k.toNat its.toArray.size)=k.toNat:=by
   rw[Vo (),Qi];lia
  show(its.toArray.extract 0 _).push u++its.toArray.extract _=_;rw[e0];simp;exact Qv<|by rw[QH];lia
 .rw[Q8,Qo,Q6,QH];lia
inductive Kl (x:V) (vs:List V) (H:Hp) (Q:VK):Prop
 |mk (l:Addr) (ns:List Int) (y:Int) (_:x= .ref l) (_:vs=[.int y]) (_:H l=some (.lst<|ns.map V.int)) (_:y∈ns) (_:Q .non (upd H l<|.lst<|(ns.erase y).map V.int))
def FU:MtM X "list.remove" Kl:=by
 intro W s B H x vs v us Q I rx rv h;obtain⟨l,ns,y,rfl,rfl,hH,hy,q⟩:=h;cases rx;obtain⟨u,rfl,ru⟩:=rv.one;obtain⟨t,rfl⟩:=ru;obtain⟨z,its,n,r,hl,e⟩:=I.lstM hH;have hi:IntsAre its ns:=xI r;have at_:∀(m:Nat) (O:m<its.toArray.size),∃t',its.toArray[m]=Value.int (ns.getD m 0) t':=λm O=>by
  have G:m<ns.length:=by rw[Qi,<-hl,Q0]at O;exact O
  obtain⟨w,hw,Y⟩:=r.get (i:=m) (x:= .int<|ns.getD m 0) (by rw[Qn,Q3 G,Qk,Q3 G];rfl);obtain⟨t',rfl⟩:=Y;refine⟨t',?_⟩;have:=(Q2.mp hw).2;simpa using this
 have hx:ns.idxOf y<ns.length:=List.idxOf_lt_length_of_mem hy;have ga:∀m,m<ns.length->ns.getD m 0=ns[m]!:=λm O=>by simp[O]
 refine call_meets F.slot_list_remove ⟨_,e,M⟩ F.entry_list_remove (F.args_list_remove_2 _ _) (MeetsSeq.list_remove l its.toArray n (.int y t) (λv=>match v with| .int i _=>i==y|_=>false) (λv hv=>?_) (ns.idxOf y) (by rwa[Qi,<-hl,Q0]) ?_ (λm O lt=>?_)<|by rw[Qi];lia) ⟨e,?_⟩
 .obtain⟨m,O,Z⟩:=Array.getElem_of_mem hv;obtain⟨t',U⟩:=at_ m O
  rw[<-Z,U];exact MeetsSeq.EqGives.int _ _ _ _
 .obtain⟨t',U⟩:=at_ (ns.idxOf y) (by rwa[Qi,<-hl,Q0])
  rw[U];show(ns.getD (ns.idxOf y) 0==y)=true;rw[Qk,Q3 hx,Option.getD_some,List.getElem_idxOf hx];exact VT y
 .obtain⟨t',U⟩:=at_ m O
  rw[U];show(ns.getD m 0==y)=false;have G:m<ns.length:=();rw[Qk,Q3 G,Option.getD_some];exact VF.mpr<|λw=>zP lt G w
 .have ee:ns.erase y=ns.eraseIdx (ns.idxOf y):=(List.erase_eq_eraseIdx_of_idxOf M);have Z:(ns.eraseIdx<|ns.idxOf y).map V.int=(ns.map V.int).eraseIdx (ns.idxOf y):=z8 _ _;rw[ee,Z]at q;refine⟨.non,_,I.lset (its':=its.eraseIdx<|ns.idxOf y) hH e ?_ (r.eraseIdx<|ns.idxOf y) ?_,M,q⟩
  .show its.toArray.eraseIdxIfInBounds (ns.idxOf y)=(its.eraseIdx<|ns.idxOf y).toArray;rw[V5]
  .have:=uz (ns.map V.int) (ns.idxOf y);lia
def Itk (ob:Obj) (d:Addr) (kvs:List (Key×V)):It:=
 ⟨λi H=>H d=some (.frz ob<|.dK kvs)/\i<kvs.length,λi H x H'=>H'=H/\∃k v,kvs[i]?=some (k,v)/\x=kV k,λi H=>H d=some (.frz ob<|.dK kvs)/\kvs.length<=i⟩
def Fx (it:Addr) (D:NB P w ob d kvs vs ep):
  Db P w K tg (Itk ob d kvs) [it] it (λi h=>h.IsKeyIter it d i vs.length ep) where
 mem:=by simp
 obj:=λi h st b hb=>by
  have z:b=it:=by simpa using hb
  subst z;obtain⟨o,e,c,dd⟩:=st;exact⟨o,e,λv z=>by rw[dd]at z;cases z⟩
 keep:=λi h h' st k=>by
  obtain⟨o,e,r⟩:=st;exact⟨o,k it (by simp) _ e,r⟩
 item:=by
  intro X Y hw hK hc i W s B H E I hf st Z;subst Y hw hK;obtain⟨hq,hi⟩:=Z;obtain⟨f0,f1,f2,f3,f4,f5⟩:=hf it (by simp);obtain⟨G,_⟩:=I.hok d _ hq;have O:=D.2 s.heap G;obtain⟨⟨k,v⟩,hx⟩:∃kv,kvs[i]?=some kv:=⟨kvs[i],by simp[hi]⟩;obtain⟨u,hu,ru⟩:=KV.getI D.1 hx;refine wpAny_pyNext_dict_item st O hu λkey h' U st' sb=>?_;have I1:Inv X W B H {s with heap:=h'}:=I.turned (t':=s.toks) (λb o hb e=>(sb.2 b hb).trans e) f0 f1 f3 f4 f5;obtain⟨o,e,c,dd⟩:=id st';exact⟨key,M,zX (s:={s with heap:=h'}) e c dd (_) ⟨kV k,H,I1,Bf U,⟨M,k,v,hx,M⟩,st',λb hb=>(hf b hb).1⟩⟩
 done:=by
  intro X Y hw hK hc i W s B H E I hf st Z;subst Y hw hK;obtain⟨hq,hi⟩:=Z;obtain⟨G,_⟩:=I.hok d _ hq;have O:=D.2 s.heap G;obtain⟨f0,f1,f2,f3,f4,f5⟩:=hf it (by simp);have hl:kvs.length=vs.length:=D.1.length;exact wpAny_pyNext_dict_end (I.ok.hd hc) st O (by simp;lia) λh' eb=>⟨M,I.turned (t':=s.toks) (λb o hb e=>eb b o hb e) f0 f1 f3 f4 f5⟩
 self:=λ_ _ _ _ _ st h=>wpAny_pyIter_keyiter st h
def Ov (te:TE):TI:=λB H R=>te B H λx H1=>∃d kvs,x= .ref d/\H1 d=some (.dK kvs)/\∀ob,R (Itk ob d kvs) (upd H1 d<|.frz ob<|.dK kvs)
def Ks (hl:PE X l te):PI X tg l (Ov te):=by
 intro W s B H R I h;refine OI (hl W s B H _ I h) λv s1 O=>?_;obtain⟨x,H1,I1,r1,q1⟩:=O;obtain⟨d,kvs,e,hd,q⟩:=q1;subst e;cases r1;obtain⟨z,lo,vs,U,dd⟩:=fZ I1.hok hd;obtain⟨ep,G⟩:=dd.dictAt;obtain⟨ob,es,Y,rest⟩:=id G;refine wpAny_pyIter_dict lo G ?_;have Z:=I1.freeze hd Y;refine⟨s1.heap.objs.size,[s1.heap.objs.size],_,_,_,M,Z.kept (t':=s1.toks) λb o e=>Vr _ e,Fx _ ⟨U,λh e=>⟨ob,es,e,rest⟩⟩,⟨_,Vz _ M,M,M⟩,λb hb=>?_,q ob⟩;have e:b=s1.heap.objs.size:=by simpa using hb
 subst e;exact Z.fpOk (Q4 _)<|Z.hok.fresh (Q4 _)
def rc:gb X (.type "dict") (λxs H Q=>∃d kvs,xs=[.ref d]/\H d=some (.dK kvs)/\∀p,H p=none->Q (.ref p) (upd H p<|.dK kvs)):=by
 intro W s B H xs us Q I r h;obtain⟨d,kvs,rfl,hd,q⟩:=h;obtain⟨u,rfl,O⟩:=mC r;cases O;obtain⟨z,lo,vs,G,dd⟩:=fZ I.hok hd;refine kt_call_dict lo dd (by rwa[<-G.length]) λh' U hs=>?_;obtain⟨_,Y,_⟩:=xS (P:=X.prog) (w:=X.w) (H:=H) s.heap I.big;refine⟨.ref s.heap.objs.size,_,I.laid (a:=s.heap.objs.size) (o:= .dK kvs) (t':=s.toks) (λb o e=>(hs.2 b<|QK<|Vx e).trans<|Vr _ e) (Q4 _) ⟨z,Y,vs,G,U⟩,M,q _<|I.hok.fresh (Q4 _)⟩
def Gj (Pv:Nat->St->Hp->Prop) (O:Pv 0 B H) (hl:∀i B H,i<=kvs.length->Pv i B H->H d=some (.frz ob<|.dK kvs))
  (hs:∀i k v B H,kvs[i]?=some (k,v)->Pv i B H->g (kV k) B H λG H2=>tb ⟨Pv<|i+1,rt,nx,Pv<|i+1⟩ G H2) (hd:∀B H,Pv kvs.length B H->nx B H):
  ∃Jl:Nat->Nat->St->Hp->Prop,(∃m,Jl 0 m B H)/\∀i m B H,Jl i m B H->
   ((Itk ob d kvs).stop i H/\nx B H)\/((Itk ob d kvs).go i H/\∃N:St->Hp->Prop,(∀I H',N I H'->∃m',m'<m/\Jl (i+1) m' I H')/\∀x H',(Itk ob d kvs).yld i H x H'->g x B H' λG H2=>tb ⟨N,rt,nx,N⟩ G H2):=by
 refine⟨λi m B H=>m=kvs.length-i/\i<=kvs.length/\Pv i B H,⟨kvs.length,by simp,Qj _,O⟩,?_⟩;rintro i m B H ⟨rfl,hi,p⟩;have q:=hl i B H hi p;by_cases lt:i<kvs.length
 .refine .inr ⟨⟨q,lt⟩,Pv<|i+1,λI H' z=>⟨kvs.length-(i+1),(),M,lt,z⟩,λx H' y=>?_⟩;obtain⟨rfl,k,v,e,rfl⟩:=y;exact hs i k v B _ e p
 .have e:i=kvs.length:=();subst e;exact .inl ⟨⟨q,Q4 _⟩,hd B H p⟩
inductive Kk (x:V) (vs:List V) (H:Hp) (Q:VK):Prop
 |mk (a kvs k y:_) (_:x= .ref a) (_:vs=[kV k,y]) (_:H a=some (.dK kvs)) (_:kvs.length<sizeLine) (_:(∀v,aG kvs k=some v->Q v H)) (_:(aG kvs k=none->Q y (upd H a<|.dK<|bi kvs k y)))
def FT:Rn X "dict.setdefault" Kk:=by
 intro W s B H x vs v us Q I rx rv h;obtain⟨a,kvs,k,y,rfl,rfl,Y,hl,q1,q2⟩:=h;cases rx;obtain⟨u,r,rfl,ru,Z⟩:=uS rv;obtain⟨z,hd,ws,O,dd⟩:=fZ I.hok Y;have G:=O.val k;refine VZ Ve dd.typeIs PySem.F.entry_dict_setdefault (PySem.F.args_dict_setdefault_3 _ _ _) (kt_meets_setdefault (a8 X.prog X.w) a (sw ru) hd r) ⟨ws,dd,by rwa[<-O.length],λv hv=>?_,λhn h' U hs=>?_⟩
 .rw[hv]at G;cases e:aG kvs k with
  |none=>rw[e]at G;exact G.elim
  |some x=>
   rw[e]at G;exact⟨x,H,I.tok _,G,q1 x e⟩
 .rw[hn]at G;cases e:aG kvs k with
  |some x=>rw[e]at G;exact G.elim
  |none=>
   have he:∃q,h'.get? a=some q:=let⟨q,_,_,hq,_⟩:=U;⟨q,hq⟩
   have lp:=bW kvs k y;exact⟨y,_,pH I (by rw[Y];exact VG) hs he<|xR () hd (O.put k Z) U,Z,q2 e⟩
def ut (kvs more:List (Key×V)):List (Key×V):=more.foldl (λacc p=>bi acc p.1 p.2) kvs
def KV.mrg {more:List (Key×V)} {z:List (Key×Value)} (h:KV more z):∀{kvs:List (Key×V)} {G:List (Key×Value)},KV kvs G->KV (ut kvs more) (merged G z):=by
 induction h with
 |nil=>intro kvs G r;exact r
 |cons r t I=>
  rename_i p q ps qs
  intro kvs G rw;have e:p.1=q.1:=r.1;have:=I (rw.put p.1 r.2);rw[e]at this;show KV (ut (bi kvs p.1 p.2) ps) _;rwa[e]
def xw:∀{more kvs:List (Key×V)},(ut kvs more).length<=kvs.length+more.length
 | [],_=>Q4 _
 |p::r,kvs=>by
  have h1:=xw (more:=r) (kvs:=bi kvs p.1 p.2);have h2:=bW kvs p.1 p.2;show(ut (bi kvs p.1 p.2) r).length<=_;rw[Qo];lia
inductive rUpd (x:V) (vs:List V) (H:Hp) (Q:VK):Prop
 |mk (d o kvs more:_) (_:x= .ref d) (_:vs=[.ref o]) (_:d≠o) (_:H d=some (.dK kvs)) (_:H o=some (.dK more)) (_:kvs.length+more.length<=sizeLine) (_:Q .non (upd H d<|.dK<|ut kvs more))
def FS:Rn X "dict.update" rUpd:=by
 intro W s B H x vs v us Q I rx rv h;obtain⟨d,o,kvs,more,rfl,rfl,ne,hd,ho,hl,q⟩:=h;cases rx;obtain⟨u,rfl,ru⟩:=mC rv;cases ru;obtain⟨z,lo,ws,O,dd⟩:=fZ I.hok hd;obtain⟨z2,Y,Z,G,a0⟩:=fZ I.hok ho;refine VZ PySem.F.slot_dict_update dd.typeIs PySem.F.entry_dict_update (PySem.F.args_dict_update_2 _ _) (meets_dict_update (a8 X.prog X.w) d o ne Y) ⟨ws,Z,dd,a0,by rwa[<-O.length,<-G.length],λh' U _ hs=>?_⟩;have he:∃q,h'.get? d=some q:=let⟨q,_,_,hq,_⟩:=U;⟨q,hq⟩
 exact⟨.non,_,pH I (by rw[hd];exact VG) hs he<|xR (Qz xw hl) lo (G.mrg O) U,M,q⟩
end L2
namespace PySem
open PySem.Spec
variable {E:Value->Shared->Prop}
section
variable {prog:Program} {w:World} {A:Around} {s:Shared}
def IM:typeLookup (.type "list") "keys"=pure none:=am_miss_of_fast ∅
def IQ {a:Addr} {o:Obj} {xs:Array Value} {k:Nat} {Q:Option Value->Shared->Prop} (hx:s.heap.get? a=some o) (hc:o.cls= .type "list") (z:o.data= .seq xs k) (hd:o.dict=none) (O:A.handled=none)
  (h:∀h' tk,(∀b ob,s.heap.get? b=some ob->h'.get? b=some ob)->Q none {s with heap:=h',toks:=tk}):
  wpAny (model prog w) A (getAttr? (.ref a) "keys") Q E s:=by
 obtain⟨c,U,Y,Z⟩:=o;simp only at hc z hd;subst hc z hd;obtain⟨hp,g,d,tk,os⟩:=s;have I:∀G,(⟨hp,g,d,G,os⟩:Shared).TypeIs (.ref a) "list":=λ_=>⟨_,hx,M⟩;have f1:=sub_AttributeError;have f3:=F.slot_list_getattribute.lookup;have f4:=F.slot_list_getattribute.bind (.ref a);have f5:=am_list_getattr_none;unfold getAttr? getAttrBy? getAttrBy
 repeat (any_goals (first|assumption|exact I _|((with_reducible show wpAny _ _ (call (Value.builtin "list.__getattribute__") _ _) _ _ _);refine call_meets F.slot_list_getattribute (I _) am_entry_list_getattribute (F.args_list_getattribute_2 _ _) (meets_getattribute_miss_list a xs k Z "keys" _ IM ∅) ⟨hx,O,λh' G e hx'=>?_⟩)|wp_step))
 obtain⟨t',u',he⟩:=hx'.there;show wpAny _ _ (getattributeRaised _ _ _ _ _ _ _) _ _ _;unfold getattributeRaised
 repeat (any_goals (first|assumption|wp_step))
 exact h _ _ hx'.keeps
end
namespace F
def entry_dict_update_loop:entryFor table "dict.update.loop"=some Builtin.«dict.update.loop»:=entryFor_of_tree (by kernel_rfl)
def plain_dict_update_loop:plainId "dict.update.loop"=true:=by decide+kernel
end F
section
variable {prog:Program} {w:World} {K:Type} [DecidableEq K] {knd:KeyKind prog w K} {A:Around} {R:Result->Shared->Prop} {s:Shared}
def IL {E:Value->Shared->Prop} {p:Addr} {k v:Value} {Q:List Value->Shared->Prop} (z:s.heap.IsTuple p #[k,v]) (h:Q [k,v] s):wpAny (model prog w) A (Builtin.Dict.pairItems<|.ref p) Q E s:=by
 obtain⟨o,ho,hc,n,hd⟩:=z;have G:s.TypeIs (.ref p) "tuple":=⟨_,ho,hc⟩;unfold Builtin.Dict.pairItems;refine Vv<|wpAny_typeOf G ?_;have e:((Value.type "tuple"==Value.type "list")||(Value.type "tuple"==Value.type "tuple"))=true:=by decide
 rw[Vp e];obtain⟨z,g,d,tk,os⟩:=s;obtain⟨c,I,O,U⟩:=o;simp only at hc hd;subst hc hd
 repeat (any_goals (first|assumption|wp_step))
def IP {I ax D:Addr} {items:Array Value} {ps:List (K×Value)} {h₀:Heap} (hh:A.handled=none) (a1:ax≠I) (G:D≠I) (a2:D≠ax) (n0:h₀.get? D=none) (n1:h₀.get? I=none) (hl:ps.length<=sizeLine)
  (hi:∀(j:Nat) (v:Value),items[j]?=some v->∃p k key x,v= .ref p/\ps[j]?=some (k,x)/\knd.is k key=true/\h₀.IsTuple p #[key,x]) (hs:ps.length=items.size):
  ∀(n i:Nat) (s:Shared),items.size-i=n->i<=items.size->s.heap.IsListIter I ax i->s.heap.IsList ax items->(∀b o,h₀.get? b=some o->s.heap.get? b=some o)->s.heap.DictOf knd D (merged []<|ps.take i)->
   (∀h' tk,(∀b o,h₀.get? b=some o->h'.get? b=some o)->h'.DictOf knd D (merged [] ps)->R (.ok<|.ret .none) {s with heap:=h',toks:=tk})->
   codeAny (model prog w) A (.builtin "dict.update.loop" ⟨[.ref D,.ref I,rawInt i,.none],[]⟩) R s:=by
 intro n
 induction n with
 |zero=>
  intro i s hn hi' it il kp dd hR;have e:i=items.size:=();subst e;refine codeAny_builtin F.entry_dict_update_loop ?_;rw[Around.under_plainId F.plain_dict_update_loop _];show wpAny _ A.in1 (pyNext (.ref I)>>=_) _ _ s;have a3:A.in1.handled=none:=by simp[hh]
  refine Vv<|wpAny_pyNext_list_end a3 it il (by simp) λh' Y=>?_;show wpAny _ A.in1 (Builtin.Dict.addKeywords D []>>=_) _ _ _;refine Vv<|VD (VD ?_);rw[Qv (Zw hs)]at dd;refine hR h' s.toks (λb o e=>Y b o (λz=>by rw[z,n1]at e;cases e)<|kp b o e) ?_;exact dd.at λo e=>Y D o G e
 |succ n ih=>
  intro i s hn hi' it il kp dd hR;have O:i<items.size:=();refine codeAny_builtin F.entry_dict_update_loop ?_;rw[Around.under_plainId F.plain_dict_update_loop _];show wpAny _ A.in1 (pyNext (.ref I)>>=_) _ _ s;refine Vv<|wpAny_pyNext_list_item it il (x:=items[i]) (by simp[O]) λh' Z U=>?_;obtain⟨p,k,key,x,ev,ep,hk,tp⟩:=hi i items[i] (by simp[O]);rw[ev];have a0:∀b o,h₀.get? b=some o->h'.get? b=some o:=λb o e=>U.extBut b o (λz=>by rw[z,n1]at e;cases e) (kp b o e);have a4:h'.IsTuple p #[key,x]:=tp.at λo e=>a0 p o e;show wpAny _ A.in1 (holding [Value.ref p] _>>=_) _ _ _;refine Vv<|VS (Vv<|wpAny_tryCatch<|IL a4 ?_);show wpAny _ _ (holding [key,x]<|dictSet D key x) _ _ _;refine VS<|wpAny_dictSet_pairs hk (kvs:=merged []<|ps.take i) ?_ (λh2 d2 s2=>?_) ?_
  .exact dd.at λo e=>U.extBut D o G e
  .refine VD ⟨plainId_quiet F.plain_dict_update_loop _,ih (i+1) _ () O ?_ ?_ ?_ ?_ λh3 tk k3 d3=>hR h3 tk k3 d3⟩
   .exact Z.at λo e=>(s2.2 I<|Ne.symm G).trans e
   .exact(il.at λo e=>U.extBut ax o a1 e).at λo e=>(s2.2 ax<|Ne.symm a2).trans e
   .exact λb o e=>(s2.2 b<|λz=>by rw[z,n0]at e;cases e).trans (a0 b o e)
   .rwa[merged_take_succ _ _ _ _ ep]
  .have:=merged_length_le [] (ps.take i);rw[Q6]at this;simp only[Xg]at this;lia
end
variable {E Q:Value->Shared->Prop}
section
variable {prog:Program} {w:World} {K:Type} [DecidableEq K] {knd:KeyKind prog w K} {A:Around} {s:Shared}
def IR {l:Addr} {items:Array Value} {ps:List (K×Value)} (U:A.handled=none) (hl:PlainL s.heap l items) (hsz:ps.length<=sizeLine)
  (hi:∀(j:Nat) (v:Value),items[j]?=some v->∃p k key x,v= .ref p/\ps[j]?=some (k,x)/\knd.is k key=true/\s.heap.IsTuple p #[key,x]) (hs:ps.length=items.size)
  (h:∀h' tk,h'.DictOf knd s.heap.objs.size (merged [] ps)->(∀b o,s.heap.get? b=some o->h'.get? b=some o)->Q (.ref s.heap.objs.size) {s with heap:=h',toks:=tk}):
  wpAny (model prog w) A (call (.type "dict") [.ref l]) Q E s:=by
 refine callType_codes (Q₁:=λobj s₁=>obj= .ref s.heap.objs.size/\s₁={s with heap:=s.heap.push {cls:= .type "dict",data:= .dict #[]}}) F.kt_called_dict (F.kt_typeCall_dict_1 _) F.entry_dict_init (kt_code_dict_new _ ⟨M,M⟩) ?_;rintro obj s₁ ⟨rfl,rfl⟩;have z:(s.heap.push {cls:= .type "dict",data:= .dict #[]}).DictOf knd s.heap.objs.size []:=Heap.DictOf.new s.heap;obtain⟨o,n,ho,hc,hd,I⟩:=hl;have G:(s.heap.push {cls:= .type "dict",data:= .dict #[]}).get? l=some o:=Vr _ ho;have lD:l<s.heap.objs.size:=Vx ho;refine⟨z.typeIs,F.args_dict_init_2 _ _,?_⟩;unfold Builtin.«dict.__init__»;refine Vv ?_;unfold Builtin.Dict.selfAndRest;refine Vv<|wpAny_notOrdered_dict z.typeIs ?_;show wpAny _ _ (pure (s.heap.objs.size,[Value.ref l])) _ _ _;refine VD ?_;show wpAny _ _ (Builtin.Dict.updateFrom "dict.__init__" s.heap.objs.size (.ref l) [] .none) _ _ _;unfold Builtin.Dict.updateFrom;refine Vv<|wpAny_typeOf (show Shared.TypeIs _ (.ref l) "list" from⟨_,G,hc⟩) ?_;rw[Vp (_)];refine Vv<|IQ G hc I hd U λh1 Z O=>?_;simp only[Option.isNone_none,if_true];refine Vv<|W4 ?_;have l1:h1.IsList l items:=⟨_,O _ _ G,hc,n,I⟩;refine Vv<|wpAny_pyIter_list l1 ?_;have D1:h1.DictOf knd s.heap.objs.size []:=z.at λo e=>O _ _ e;have sl:l<h1.objs.size:=Vx (O _ _ G);have Y:s.heap.objs.size<h1.objs.size:=by obtain⟨o',_,_,e,_⟩:=D1;exact Vx e
 refine VD ⟨by first|rfl|exact plainId_quiet F.plain_dict_update_loop _,?_⟩;refine IP (knd:=knd) (h₀:=s.heap) (ax:=l) (by simp[U]) (QK sl) (QK Y) (XU lD) (VU<|Q4 _) (VU<|Z4 Y) hsz hi hs _ 0 _ M (Qj _) ?_ ?_ ?_ ?_ ?_
 .exact⟨_,Vz _ M,M,M⟩
 .exact l1.push _
 .exact λb o e=>Vr _ (O _ _<|Vr _ e)
 .exact D1.push _
 .exact λh' tk kp dd=>⟨M,h h' tk dd kp⟩
end
end PySem
namespace L2
open PySem PySem.Spec PyProof.Rows
variable {d:Addr} {X:Cx} {tg:Expr} {H:Hp} {hi lo st:Int} {R:It->Hp->Prop} {W:List (Addr×Obj)} {kvs:List (Key×V)} {vs:List (Key×Value)} {ob:Obj} {P:Program} {K:JK} {s:Shared} {B:St} {nx:St->Hp->Prop} {g:TG} {tb:TS} {rt:VK} {E:Value->Shared->Prop} {w:World}
def CL (I:Inv X W B H s):∀{ts:List (Addr×Key×V)} {us:List Value},GA (ts.map λe=>V.ref e.1) us->(∀e∈ts,OX X.K H e.1 [kV e.2.1,e.2.2])->∃ps:List (Key×Value),KV (ts.map (·.2)) ps/\∀(j:Nat) (v:Value),us[j]?=some v->∃p k key x,v= .ref p/\ps[j]?=some (k,x)/\(a8 X.prog X.w).is k key=true/\s.heap.IsTuple p #[key,x]
 | [],_,.nil,_=>⟨[],.nil,λj v h=>by cases j<;>cases h⟩
 |e::r,_,.cons h1 h2,tu=>by
  obtain⟨ps,kv,g⟩:=CL I h2 λy hy=>tu y (Qd _ hy);cases h1;obtain⟨its,rv,z,_⟩:=I.tuple (tu e Qb);obtain⟨a,b,rfl,ra,rb⟩:=Ma rv;refine⟨(e.2.1,b)::ps,.cons ⟨M,rb⟩ kv,λj v h=>?_⟩;cases j with
  |zero=>cases h;exact⟨_,_,_,_,M,M,sw ra,z⟩
  |succ j=>exact g j v h
def En (G:X.A.handled=none):gb X (.type "dict") (λxs H Q=>∃(a:Addr) (ts:List (Addr×Key×V)),xs=[.ref a]/\Fb X.K H a (ts.map λe=>V.ref e.1)/\(∀e∈ts,OX X.K H e.1 [kV e.2.1,e.2.2])/\∀p,H p=none->Q (.ref p) (upd H p (.dK (ut [] (ts.map (·.2)))))):=by
 intro W s B H xs us Q I r h;obtain⟨a,ts,rfl,hl,O,q⟩:=h;obtain⟨u,rfl,U⟩:=mC r;cases U;obtain⟨its,rv,pl,z⟩:=I.list hl;obtain⟨ps,kv,g⟩:=CL I rv O;have l1:ts.length=ps.length:=by have:=kv.length;rwa [Q0]at this
 have l2:ts.length=its.length:=by have:=rv.length;rwa [Q0]at this
 rw[Q0]at z;refine IR (knd:=a8 X.prog X.w) (ps:=ps) G pl () (λj v e=>g j v<|by simpa using e) (by rw[Qi];lia) λh' tk dd Y=>?_;obtain⟨_,Z,_⟩:=xS (P:=X.prog) (w:=X.w) (H:=H) s.heap I.big;have zz:(ut [] (ts.map (·.2))).length<=sizeLine:=by
  have:=xw (kvs:=[]) (more:=ts.map (·.2));rw[Q0]at this;simp only[Xg]at this;lia
 refine⟨.ref s.heap.objs.size,_,I.laid (a:=s.heap.objs.size) (o:= .dK (ut [] (ts.map (·.2)))) (t':=tk) Y (Q4 _) ⟨zz,Z,_,kv.mrg .nil,dd⟩,M,q _<|I.hok.fresh (Q4 _)⟩
inductive N6 (x y:V) (H:Hp) (Q:VK):Prop
 |mk (a b:Addr) (ka kb:List (Key×V)) (_:x= .ref a) (_:y= .ref b) (_:H a=some (.dK ka)) (_:H b=some (.dK kb)) (_:ka.length=kb.length) (_:(∀p∈ka,Fl p.2/\aG kb p.1=some p.2)) (_:Q (.bl true) H)
def Bo {A:Around} {I:List (Key×V)} {z:List (Key×Value)} (rb:KV I z):∀{ka:List (Key×V)} {O:List (Key×Value)},KV ka O->(∀p∈ka,Fl p.2/\aG I p.1=some p.2)->PySem.W.KeqHits A s z O true
 | [],_,.nil,_=> .nil
 |(k,v)::r,(k',u)::wr,.cons h1 h2,g=>by
  obtain⟨f,e⟩:=g (k,v) Qb;obtain⟨G,rv⟩:=h1;have G:k=k':=G;subst G;obtain⟨y,hy,U⟩:=PR.some_of (v:=v) (o:=valueAt z k) (by rw[<-e];exact rb.val k);exact .hit (e:=true) (b:=true) hy (Bn f rv U)<|Bo rb h2 λq hq=>g q (Qd _ hq)
def Kv (hu:X.A.units+20<cLine):Pa X (compareOp .Eq) N6:=by
 intro W s B H x y v u Q I rx ry h;obtain⟨a,b,ka,kb,rfl,rfl,ha,hb,l,g,q⟩:=h;cases rx;cases ry;obtain⟨z,lo,vs,O,dd⟩:=fZ I.hok ha;obtain⟨z2,U,Z,G,Y⟩:=fZ I.hok hb;have l1:ka.length=vs.length:=O.length;have l2:kb.length=Z.length:=G.length;have hl:vs.length=Z.length:=();refine PySem.W.keq_eq (r:=true) lo U dd Y () (λe=>Bo G O g) ⟨.bl true,H,I,?_,q⟩;show Value.bool _=Value.bool _;simp[hl]
inductive N0 (x y:V) (H:Hp) (Q:VK):Prop
 |mk (a b:Addr) (ka kb:List (Key×V)) (_:x= .ref a) (_:y= .ref b) (_:H a=some (.dK ka)) (_:H b=some (.dK kb)) (_:ka.length=kb.length) (_:(∀p∈ka,Fl p.2/\aG kb p.1=some p.2)) (_:Q (.bl false) H)
def Ku (hu:X.A.units+20<cLine):Pa X (compareOp .NotEq) N0:=by
 intro W s B H x y v u Q I rx ry h;obtain⟨a,b,ka,kb,rfl,rfl,ha,hb,l,g,q⟩:=h;cases rx;cases ry;obtain⟨z,lo,vs,O,dd⟩:=fZ I.hok ha;obtain⟨z2,U,Z,G,Y⟩:=fZ I.hok hb;have l1:ka.length=vs.length:=O.length;have l2:kb.length=Z.length:=G.length;have hl:vs.length=Z.length:=();refine PySem.W.keq_ne (r:=true) lo U dd Y () (λe=>Bo G O g) ⟨.bl false,H,I,?_,q⟩;show Value.bool _=Value.bool _;simp[hl]
inductive rNeE (x y:V) (H:Hp) (Q:VK):Prop
 |mk (a b:Addr) (kvs:List (Key×V)) (_:x= .ref a) (_:y= .ref b) (_:Rd H a (.dK kvs)) (_:Rd H b (.dK [])) (_:Q (.bl<|!decide (kvs.length=0)) H)
def MG (hu:X.A.units+20<cLine):Pa X (compareOp .NotEq) rNeE:=by
 intro W s B H x y v u Q I rx ry h;obtain⟨a,b,kvs,rfl,rfl,ha,hb,q⟩:=h;cases rx;cases ry;obtain⟨z,lo,vs,U,dd⟩:=qc I.hok ha;obtain⟨z2,Y,ws,G,Z⟩:=qc I.hok hb;cases G;have O:kvs.length=vs.length:=U.length;refine PySem.W.keq_ne (r:=true) lo Y dd Z () (λe=>?_) ⟨.bl<|!decide (kvs.length=0),H,I,?_,q⟩
 .have:vs=[]:=Xu.mp e;rw[this];exact .nil
 .show Value.bool _=Value.bool _;rw[O];congr 1;cases vs<;>simp
noncomputable def Rm (a d:Addr):HO:= .ext λh=>h.IsValuesView a d
def Itw (ob:Obj) (d:Addr) (kvs:List (Key×V)):It:=
 ⟨λi H=>H d=some (.frz ob<|.dK kvs)/\i<kvs.length,λi H x H'=>H'=H/\∃k,kvs[i]?=some (k,x),λi H=>H d=some (.frz ob<|.dK kvs)/\kvs.length<=i⟩
def Ft {ep:Nat} (it:Addr) (D:NB P w ob d kvs vs ep):
  Db P w K tg (Itw ob d kvs) [it] it (λi h=>h.IsValIter it d i vs.length ep) where
 mem:=by simp
 obj:=λi h st b hb=>by
  have z:b=it:=by simpa using hb
  subst z;obtain⟨o,e,c,dd⟩:=st;exact⟨o,e,λv z=>by rw[dd]at z;cases z⟩
 keep:=λi h h' st k=>by
  obtain⟨o,e,r⟩:=st;exact⟨o,k it (by simp) _ e,r⟩
 item:=by
  intro X U hw hK hc i W s B H E I hf st Y;subst U hw hK;obtain⟨hq,hi⟩:=Y;obtain⟨Z,f1,f2,f3,f4,f5⟩:=hf it (by simp);obtain⟨G,_⟩:=I.hok d _ hq;have O:=D.2 s.heap G;obtain⟨⟨k,v⟩,hx⟩:∃kv,kvs[i]?=some kv:=⟨kvs[i],by simp[hi]⟩;obtain⟨u,hu,ru⟩:=KV.getI D.1 hx;refine wpAny_pyNext_values_item st O hu λh' st' sb=>?_;have I1:Inv X W B H {s with heap:=h'}:=I.turned (t':=s.toks) (λb o hb e=>(sb.2 b hb).trans e) Z f1 f3 f4 f5;obtain⟨o,e,c,dd⟩:=id st';exact⟨u,M,zX (s:={s with heap:=h'}) e c dd (_) ⟨v,H,I1,ru,⟨M,k,hx⟩,st',λb hb=>(hf b hb).1⟩⟩
 done:=by
  intro X U hw hK hc i W s B H E I hf st Y;subst U hw hK;obtain⟨hq,hi⟩:=Y;obtain⟨G,_⟩:=I.hok d _ hq;have O:=D.2 s.heap G;obtain⟨Z,f1,f2,f3,f4,f5⟩:=hf it (by simp);have hl:kvs.length=vs.length:=D.1.length;exact wpAny_pyNext_values_end (I.ok.hd hc) st O (by simp;lia) λh' eb=>⟨M,I.turned (t':=s.toks) (λb o hb e=>eb b o hb e) Z f1 f3 f4 f5⟩
 self:=λ_ _ _ _ _ st h=>wpAny_pyIter_valiter st h
inductive NY (x:V) (vs:List V) (H:Hp) (Q:VK):Prop
 |mk (d kvs:_) (_:x= .ref d) (_:vs=[]) (_:H d=some (.dK kvs)) (_:∀a,H a=none->Q (.ref a) (upd H a<|Rm a d))
def ur:Rn X "dict.values" NY:=by
 intro W s B H x vs v us Q I G rv h;obtain⟨d,kvs,rfl,rfl,hd,q⟩:=h;cases G;cases rv;obtain⟨z,lo,O,U,dd⟩:=fZ I.hok hd;refine VZ ZQ dd.typeIs PySem.F.entry_dict_values (PySem.F.args_dict_values_1 _) (meets_dict_values (a8 X.prog X.w) d lo) ⟨⟨O,dd⟩,?_⟩;have new:(s.heap.push {cls:= .type "dict_values",data:= .fields #[.ref d]}).get? s.heap.objs.size=some {cls:= .type "dict_values",data:= .fields #[.ref d]}:=Vz _ M;refine⟨.ref s.heap.objs.size,_,I.laid (t':=s.toks) (λb o e=>Vr _ e) (Q4 _) (show O9 X.prog X.w _ _ _ (Rm s.heap.objs.size d) from⟨⟨_,new,M,M⟩,⟨_,new⟩,λh1 h2 p k=>?_⟩),M,q _<|I.hok.fresh (Q4 _)⟩;obtain⟨o,e,c⟩:=p;exact⟨o,k o e,c⟩
def Op (te:TE):TI:=λB H R=>te B H λx H1=>∃a d kvs,x= .ref a/\H1 a=some (Rm a d)/\H1 d=some (.dK kvs)/\∀ob,R (Itw ob d kvs) (upd H1 d<|.frz ob<|.dK kvs)
def Kr {l:Expr} {te:TE} (hl:PE X l te):PI X tg l (Op te):=by
 intro W s B H R I h;refine OI (hl W s B H _ I h) λv s1 O=>?_;obtain⟨x,H1,U,r1,q1⟩:=O;obtain⟨a,d,kvs,e,ha,hd,q⟩:=q1;subst e;cases r1;obtain⟨z,lo,vs,Y,dd⟩:=fZ U.hok hd;obtain⟨ep,G⟩:=dd.dictAt;obtain⟨vw,_,_⟩:=(show O9 X.prog X.w H1 s1.heap a (Rm a d) from U.hok a _ ha);obtain⟨ob,es,Z,rest⟩:=id G;refine wpAny_pyIter_values vw G ?_;have If:=U.freeze hd Z;refine⟨s1.heap.objs.size,[s1.heap.objs.size],_,_,_,M,If.kept (t':=s1.toks) λb o e=>Vr _ e,Ft _ ⟨Y,λh e=>⟨ob,es,e,rest⟩⟩,⟨_,Vz _ M,M,M⟩,λb hb=>?_,q ob⟩;have e:b=s1.heap.objs.size:=by simpa using hb
 subst e;exact If.fpOk (Q4 _)<|If.hok.fresh (Q4 _)
def IC (Pv:Nat->St->Hp->Prop) (O:Pv 0 B H) (hl:∀i B H,i<=kvs.length->Pv i B H->H d=some (.frz ob<|.dK kvs))
  (hs:∀i k v B H,kvs[i]?=some (k,v)->Pv i B H->g v B H λG H2=>tb ⟨Pv<|i+1,rt,nx,Pv<|i+1⟩ G H2) (hd:∀B H,Pv kvs.length B H->nx B H):
  ∃Jl:Nat->Nat->St->Hp->Prop,(∃m,Jl 0 m B H)/\∀i m B H,Jl i m B H->
   ((Itw ob d kvs).stop i H/\nx B H)\/((Itw ob d kvs).go i H/\∃N:St->Hp->Prop,(∀I H',N I H'->∃m',m'<m/\Jl (i+1) m' I H')/\∀x H',(Itw ob d kvs).yld i H x H'->g x B H' λG H2=>tb ⟨N,rt,nx,N⟩ G H2):=by
 refine⟨λi m B H=>m=kvs.length-i/\i<=kvs.length/\Pv i B H,⟨kvs.length,by simp,Qj _,O⟩,?_⟩;rintro i m B H ⟨rfl,hi,p⟩;have q:=hl i B H hi p;by_cases lt:i<kvs.length
 .refine .inr ⟨⟨q,lt⟩,Pv<|i+1,λI H' z=>⟨kvs.length-(i+1),(),M,lt,z⟩,λx H' y=>?_⟩;obtain⟨rfl,k,e⟩:=y;exact hs i k x B _ e p
 .have e:i=kvs.length:=();subst e;exact .inl ⟨⟨q,Q4 _⟩,hd B H p⟩
def EB:∀{kvs:List (Key×V)} {vs:List (Key×Value)} {ns:List Int},KV kvs vs->kvs.map (·.2)=ns.map V.int->∀(i:Nat) (k:Key) (v:Value),vs[i]?=some (k,v)->∃t:Tok,v= .int (ns.getD i 0) t
 | [],_,_,.nil,_,i,k,v,h=>by cases i<;>cases h
 |p::r,_,ns,.cons h1 h2,e,i,k,v,h=>by
  cases ns with
  |nil=>cases e
  |cons n ns=>
   obtain⟨z,e2⟩:=List.cons.inj e;cases i with
   |zero=>
    cases h;have z:p.2= .int n:=z;have:=h1.2;rw[z]at this;exact this
   |succ i=>exact EB h2 e2 i k v h
def Hb:∀ns:List Int,preSum (λi=>ns.getD i 0) ns.length=ns.sum
 | []=>rfl
 |n::r=>by
  rw[Qo,PySem.W.kdu_shift,Xo,<-Hb r];rfl
def Ae (hh:X.A.handled=none):gb X (.builtin "sum") (λxs H Q=>∃(a d:Addr) (kvs:List (Key×V)) (ns:List Int),xs=[.ref a]/\H a=some (Rm a d)/\H d=some (.dK kvs)/\kvs.map (·.2)=ns.map V.int/\Q (.int ns.sum) H):=by
 intro W s B H xs us Q I r h;obtain⟨a,d,kvs,ns,rfl,ha,hd,G,q⟩:=h;obtain⟨u,rfl,ru⟩:=mC r;cases ru;obtain⟨z,lo,vs,O,dd⟩:=fZ I.hok hd;obtain⟨ep,U⟩:=dd.dictAt;obtain⟨vw,_,_⟩:=(show O9 X.prog X.w H s.heap a (Rm a d) from I.hok a _ ha);have S:=PySem.W.kdl_values (prog:=X.prog) (w:=X.w) (r:=a) (d:=d) (knd:=a8 X.prog X.w) (kvs:=vs) (ep:=ep);have ok:s.heap.IsValuesView a d/\s.heap.DictAt (a8 X.prog X.w) d vs ep:=⟨vw,U⟩;have l1:vs.length=ns.length:=by
  have h1:=O.length;have h2:=VH List.length G;rw[Q0,Q0]at h2;lia
 refine call_sum_walkAnyS ?_;obtain⟨oI,St,Y,Jl,st⟩:=S.iter X.A.in1 s hh ok;refine Y _ _ ⟨s.heap.objs.size,_,_,_,vs.length,_,_,(λi=>ns.getD i 0),M,Jl.toS,st,λb hb=>?_,λi v ⟨k,e⟩=>EB O G i k v e,λs' t' Z=>?_⟩
 .show b<(s.heap.push oI).objs.size;rw[size_push'];rcases Qh.mp hb with e|hb
  .rw[e];exact ZA _
  .rw[Q7.mp hb];exact V0 (S.there _ ok).2
 .have hk:∀b o,s.heap.get? b=some o->s'.heap.get? b=some o:=λb o e=>
   Z.heap b o (λhI=>Vt (Vx e)<|by rw[Q7.mp hI];exact Zy _) (Vr _ e)
  rw[Moved.eq_with Z,l1,Hb];exact⟨.int _,H,I.kept (t':=s'.toks) hk,⟨t',M⟩,q⟩
def GB (lo st:Int) (n:Nat):It:=⟨λi _=>i<n,λi H x H'=>H'=H/\x= .int (lo+i*st),λi _=>n<=i⟩
def BR (it:Addr) (lo st:Int) (n:Nat):Db P w K tg (GB lo st n) [it] it (λi h=>IsRangeIter h it (lo+(i:Nat)*st) ((n:Int)-(i:Nat)) st) where
 mem:=by simp
 obj:=λi h G b hb=>by
  have e:b=it:=by simpa using hb
  subst e;exact⟨_,G,λv z=>by
   have z':Data.fields _=Data.cell v:=z;cases z'⟩
 keep:=λi h h' G k=>k it (by simp) _ G
 item:=by
  intro X O hw hK hc i W s B H E I hf G U;subst O hw hK;obtain⟨Y,Z,f2,f3,f4,f5⟩:=hf it (by simp);have Jl:=Walks.range (prog:=X.prog) (w:=X.w) (I.ok.hd hc) it lo st n;refine Jl.item i s _ _ U G λv h' tk hv st' kk=>?_;obtain⟨t,rfl⟩:=hv;have I1:Inv X W B H {s with heap:=h',toks:=tk}:=I.turned (λb o hb e=>kk b o (by simpa using hb) e) Y Z f3 f4 f5;exact⟨_,M,zX (s:={s with heap:=h',toks:=tk}) (n:="range_iterator") st' M M (_) ⟨.int<|lo+i*st,H,I1,⟨t,M⟩,⟨M,M⟩,st',λb hb=>(hf b hb).1⟩⟩
 done:=by
  intro X O hw hK hc i W s B H E I hf G U;subst O hw hK;obtain⟨Y,Z,f2,f3,f4,f5⟩:=hf it (by simp);exact wpAny_pyNext_range_end (I.ok.hd hc) G (by have:n<=i:=U;lia) λh' eb=>⟨M,I.turned (t':=s.toks) (λb o hb e=>eb b o hb e) Y Z f3 f4 f5⟩
 self:=λ_ _ _ _ _ G h=>wpAny_pyIter_rangeiter G h
noncomputable def qY (lo hi st:Int):Nat:=(Builtin.Range.rangeSize lo hi st).toNat
def pU (h:0<st):Builtin.Range.rangeSize lo hi st=if lo<hi then(hi-lo-1)/st+1 else 0:=by
 unfold Builtin.Range.rangeSize;rw[Vp h]
def AR (h:0<st) (z:0<=lo) (h1:0<=hi):0<=Builtin.Range.rangeSize lo hi st/\Builtin.Range.rangeSize lo hi st<=hi:=by
 rw[pU h];split
 .have a:0<=(hi-lo-1)/st:=Vf () ();have b:(hi-lo-1)/st<=hi-lo-1:=Int.ediv_le_self _ ();lia
 .lia
def FH {t u v:Tok} {tk:Nat} (I:Inv X W B H s) (h1:0<=lo) (h2:lo<2^30) (Y:0<=hi) (Z:hi<2^30) (U:0<st) (h6:st<2^30)
  (q:R (GB lo st<|qY lo hi st) H):W6 X (pyIter<|.ref s.heap.objs.size) (PIE X W B tg R) E {s with heap:=s.heap.push {cls:= .type "range",data:= .fields #[.int lo t,.int hi u,.int st v]},toks:=tk}:=by
 have bd:=AR (lo:=lo) (hi:=hi) U h1 Y;refine wpAny_pyIter_range (IsRange.new ..) ?_ ?_
 .unfold Builtin.Range.small;simp only[Builtin.Range.rangeFitsLong,QI,Bool.or_eq_true,VE,VB,U,if_true];generalize Builtin.Range.rangeSize lo hi st=n at bd⊢;have z:(2:Int)^63=9223372036854775808:=by decide
  have G:(2:Int)^30=1073741824:=by decide
  rw[G]at h2 Z h6
  try rw[z]
  lia
 have O:Inv X W B H {s with heap:=s.heap.push {cls:= .type "range",data:= .fields #[.int lo t,.int hi u,.int st v]},toks:=tk}:=I.kept λb o e=>Vr _ e;refine⟨(s.heap.push {cls:= .type "range",data:= .fields #[.int lo t,.int hi u,.int st v]}).objs.size,[(s.heap.push {cls:= .type "range",data:= .fields #[.int lo t,.int hi u,.int st v]}).objs.size],_,_,H,M,
  O.kept (t':=tk) λb o e=>Vr _ e,BR _ lo st<|qY lo hi st,?_,λb hb=>?_,q⟩
 .have e1:lo+((0:Nat):Int)*st=lo:=by simp
  have e2:((qY lo hi st:Nat):Int)-((0:Nat):Int)=Builtin.Range.rangeSize lo hi st:=by unfold qY;lia
  show IsRangeIter _ _ (lo+((0:Nat):Int)*st) (((qY lo hi st:Nat):Int)-((0:Nat):Int)) st;rw[e1,e2];exact Vz _ M
 .have e:b=(s.heap.push {cls:= .type "range",data:= .fields #[.int lo t,.int hi u,.int st v]}).objs.size:=by simpa using hb
  subst e;exact O.fpOk (Q4 _)<|O.hok.fresh (Q4 _)
def Oq (ta:TA):TI:=λB H R=>ta B H λvs H1=>∃i j k:Int,vs=[.int i,.int j,.int k]/\(0<=i/\i<2^30/\0<=j/\j<2^30/\0<k/\k<2^30)/\R (GB i k<|qY i j k) H1
def FJ {a b c:Expr} {ta:TA} {p pos:Pos} (Z:Gl X "range") (hm:X.mg "range"=none) (ha:PA X [a,b,c] ta) (hs:starEach [a,b,c] X.env=[(false,eval a X.env),(false,eval b X.env),(false,eval c X.env)]:=by rfl)
  (z:starEach [b,c] X.env=[(false,eval b X.env),(false,eval c X.env)]:=by rfl):PI X tg (.Call (.Name "range" p) [a,b,c] [] pos) (Oq ta):=by
 intro W s B H R I h;refine Call_<|uA I Z hm boot_range (PyProof.Rows.callWith_type1 (OI (ha pos W s B H _ I h) λus s1 O=>?_) (by rw[hs,z])<|by rw[z];rfl);obtain⟨vs,H1,I1,r1,U⟩:=O;obtain⟨i,j,k,e,⟨U,q2,q3,q4,q5,q6⟩,q⟩:=U;subst e;cases r1 with
 |cons r G=>
  cases G with
  |cons r' G=>
   cases G with
   |cons Y G=>
    cases G;obtain⟨t,rfl⟩:=r;obtain⟨t',rfl⟩:=r';obtain⟨a0,rfl⟩:=Y;exact call_range_3 () (FH I1 U q2 q3 q4 q5 q6 q)<|.inl (PyProof.noPylong_small ())
def CC {n:Nat} (Pv:Nat->St->Hp->Prop) (O:Pv 0 B H)
  (hs:∀i B H,i<n->Pv i B H->g (.int<|lo+i*st) B H λz H2=>tb ⟨Pv<|i+1,rt,nx,Pv<|i+1⟩ z H2) (hd:∀B H,Pv n B H->nx B H):
  ∃Jl:Nat->Nat->St->Hp->Prop,(∃m,Jl 0 m B H)/\∀i m B H,Jl i m B H->
   ((GB lo st n).stop i H/\nx B H)\/((GB lo st n).go i H/\∃N:St->Hp->Prop,(∀G H',N G H'->∃m',m'<m/\Jl (i+1) m' G H')/\∀x H',(GB lo st n).yld i H x H'->g x B H' λz H2=>tb ⟨N,rt,nx,N⟩ z H2):=by
 refine⟨λi m B H=>m=n-i/\i<=n/\Pv i B H,⟨n,by simp,Qj _,O⟩,?_⟩;rintro i m B H ⟨rfl,hi,p⟩;by_cases I:i<n
 .refine .inr ⟨I,Pv<|i+1,λG H' U=>⟨n-(i+1),(),M,I,U⟩,λx H' y=>?_⟩;obtain⟨e,y⟩:=y;subst e y;exact hs i B _ I p
 .have e:i=n:=();subst e;exact .inl ⟨Q4 _,hd B H p⟩
open Srt
section
variable {X:Cx}
def K3f (H:Hp) (a:Addr) (k:List Int):Prop:=∃i j m:Int,H a=some (.tup [.int i,.int j,.int m])/\k=[i,j,m]
def we {x y z:V} {its:List Value} (r:GA [x,y,z] its):∃u v w,its=[u,v,w]/\RelV x u/\RelV y v/\RelV z w:=by
 cases r with
 |cons r1 r=>
  obtain⟨v,w,rfl,h2,G⟩:=uS r;exact⟨_,v,w,M,r1,h2,G⟩
def zo:gb X (.builtin "sorted") (λvs H Q=>∃(p:Addr) (as:List Addr) (ky:Addr->List Int),vs=[.ref p]/\Fb X.K H p (as.map V.ref)/\(∀a∈as,K3f H a (ky a))/\
  ∀(l:Addr) (bs:List Addr),H l=none->bs.Perm as->bs.Pairwise (λa b=>HT.lexLt (ky b) (ky a)=false)->Q (.ref l) (upd H l<|.lst<|bs.map V.ref)):=by
 intro W s B H xs us Q I r h;obtain⟨p,as,ky,rfl,hq,hk,q⟩:=h;obtain⟨u,rfl,ru⟩:=mC r;cases ru;obtain⟨its,rv,pl,hz⟩:=I.list hq;refine FB (κ:=tuples'<|Value.type "int" !=Value.type "tuple") (ky:=kRef ky) I hz rv pl.isList (λh' k h2 Q' G=>?_) (λh' k x y u v E' Q' hx hy rx ry G=>?_) λl ys hl pm pw=>?_
 .have tups:∀(bs:List Addr) (U:List Value),(∀a∈bs,K3f H a (ky a))->GA (bs.map V.ref) U->∃fs:List Value,PySem.W.KatTups h' U fs/\(∀f∈fs,∃i t,f=Value.int i t)/\fs.length=U.length:=by
   intro bs
   induction bs with
   |nil=>intro U _ r;cases r;exact⟨[],.nil,λ_ h=>Vt h Z7,M⟩
   |cons a bs ih=>
    intro U hk r;cases r with
    |cons r1 r2=>
     cases r1;obtain⟨fs,t,hi,hl⟩:=ih _ (λb hb=>hk b<|Qd _ hb) r2;obtain⟨i,j,m,ha,_⟩:=hk a Qb;obtain⟨o,Y,n,O,e,c,d⟩:=DE I ha k;obtain⟨u1,u2,u3,rfl,q1,q2,q3⟩:=we O;obtain⟨Z,rfl⟩:=q1;refine⟨Value.int i Z::fs,.cons e c d M t,λf hf=>?_,by rw[Qo,Qo,hl]⟩;rcases Qh.mp hf with z|z
     .exact⟨i,Z,z⟩
     .exact hi f z
  obtain⟨fs,t,hi,hl⟩:=tups as its hk rv;refine PySem.W.kat_kind (T:= .type "int") t () (λv hv=>?_) ∅ G;obtain⟨i,t,rfl⟩:=hi v hv;exact PySem.W.Looks.of_pure M
 .obtain⟨a,ha,rfl⟩:=Q9.mp hx;obtain⟨b,hb,rfl⟩:=Q9.mp hy;cases rx;cases ry;obtain⟨i,j,m,ea,ka⟩:=hk a ha;obtain⟨i',j',m',eb,kb⟩:=hk b hb;have G:Q' (HT.lexLt (ky a)<|ky b) {s with heap:=h'}:=G;rw[ka,kb,HT.lexLt_cons,HT.lexLt_cons,HT.lexLt_cons,HT.lexLt_nil_nil]at G;obtain⟨o,a2,n,a0,e1,c1,d1⟩:=DE I ea k;obtain⟨u1,u2,u3,rfl,⟨Z,rfl⟩,⟨t2,rfl⟩,⟨t5,rfl⟩⟩:=we a0;obtain⟨o',Y,n',O,e2,c2,d2⟩:=DE I eb k;obtain⟨w1,w2,w3,rfl,⟨t3,rfl⟩,⟨t4,rfl⟩,⟨t6,rfl⟩⟩:=we O;refine PySem.W.kat_lt e1 d1 e2 d2<|V6 (SeqAt.EqAt.int_int _ _ _ _ _ _ _ _<|Vl (λe=>Vg ?_)<|λe=>Vm ?_)
  .rw[Vp (VB.mp e)]at G;refine V6<|SeqAt.EqAt.int_int _ _ _ _ _ _ _ _ (Vl (λe=>Vg ?_)<|λe=>Vm ?_)
   .rw[Vp (VB.mp e)]at G;refine V6<|SeqAt.EqAt.int_int _ _ _ _ _ _ _ _ (Vl (λe=>Vg ?_)<|λe=>Vm ?_)
    .rw[Vp (VB.mp e)]at G;exact PySem.W.kat_nil<|by simpa using G
    .rw[Vo (VF.mp e)]at G;exact PySem.W.kat_one _ _<|lt_int G
   .rw[Vo (VF.mp e)]at G;exact PySem.W.kat_one _ _<|lt_int G
  .rw[Vo (VF.mp e)]at G;exact oneLt_int G
 .obtain⟨bs,rfl,a1⟩:=FK pm;exact q l bs hl a1<|QP.mp pw
end
end L2
namespace L2
open PySem PySem.Spec PyProof.Rows
variable {tg:Expr} {K:JK}
def Itv (K:JK) (a:Addr) (n:Nat):It:=
 ⟨λi H=>i<n/\∃xs x,Fb K H a xs/\xs[n-1-i]?=some x,λi H x H'=>H'=H/\∀xs,Fb K H a xs->xs[n-1-i]?=some x,λi _=>n<=i⟩
def G1 {P:Program} {w:World} (a it:Addr) (n:Nat):Db P w K tg (Itv K a n) [it] it (λi h=>i<=n/\h.IsRevIter it a ((n:Int)-1-(i:Int))) where
 mem:=by simp
 obj:=λi h st b hb=>by
  have e:b=it:=by simpa using hb
  subst e;obtain⟨_,o,e,c,d⟩:=st;exact⟨o,e,λv z=>by rw[d]at z;cases z⟩
 keep:=λi h h' st k=>⟨st.1,st.2.at λo e=>k it (by simp) o e⟩
 item:=by
  intro X O hw hK hc i W s B H E I hf st U;subst O hw hK;obtain⟨hi,xs,x,hq,hx⟩:=U;obtain⟨its,rv,p,hz⟩:=I.list hq;obtain⟨u,hu,ru⟩:=rv.get hx;obtain⟨Y,Z,f2,f3,f4,f5⟩:=hf it (by simp);have e1:(n:Int)-1-(i:Int)=((n-1-i:Nat):Int):=();have G:=st.2;rw[e1]at G;refine wpAny_pyNext_rev_item G p.isList (x:=u) (by simpa using hu) λh' st' sb=>?_;have e2:((n-1-i:Nat):Int)-1=(n:Int)-1-((i+1:Nat):Int):=();rw[e2]at st';have I1:Inv X W B H {s with heap:=h'}:=I.turned (t':=s.toks) (λb o hb e=>(sb.2 b hb).trans e) Y Z f3 f4 f5;obtain⟨o,e,c,d⟩:=id st';exact⟨u,M,zX (s:={s with heap:=h'}) e c d (_) ⟨x,H,I1,ru,⟨M,λys hy=>by rwa[I.list_inj hy hq]⟩,⟨hi,st'⟩,λb hb=>(hf b hb).1⟩⟩
 done:=by
  intro X O hw hK hc i W s B H E I hf st U;subst O hw hK;obtain⟨Y,Z,f2,f3,f4,f5⟩:=hf it (by simp);have G:=st.2;have hn:n<=i:=U;have e:(n:Int)-1-(i:Int)= -1:=by have:=st.1;lia
  rw[e]at G;exact wpAny_pyNext_rev_end (I.ok.hd hc) G λh' eb=>⟨M,I.turned (t':=s.toks) (λb o hb e=>eb b o hb e) Y Z f3 f4 f5⟩
 self:=λ_ _ _ _ _ st h=>wpAny_pyIter_revIter st.2 h
section
variable {X:Cx}
def iRev (K:JK) (ta:TA):TI:=λB H R=>ta B H λvs H1=>∃a xs,vs=[.ref a]/\Fb K H1 a xs/\R (Itv K a xs.length) H1
def MB {a:Expr} {ta:TA} {p pos:Pos} (O:Gl X "reversed") (U:X.mg "reversed"=none) (ha:PA X [a] ta) (hs:starEach [a] X.env=[(false,eval a X.env)]:=by rfl):PI X tg (.Call (.Name "reversed" p) [a] [] pos) (iRev X.K ta):=by
 intro W s B H R I h;refine Call_<|uA I O U Boot.«reversed» (PyProof.Rows.callWith_type1 (OI (ha pos W s B H _ I h) λus s1 G=>?_) hs M);obtain⟨vs,H1,z,r1,Y⟩:=G;obtain⟨b,xs,e,hq,q⟩:=Y;subst e;cases r1 with
 |cons r Z=>
  cases Z;cases r;obtain⟨its,rv,p,hz⟩:=z.list hq;have hl:=rv.length;refine call_reversed_list p.isList ?_;refine wpAny_pyIter_revIter (l:=b) (i:=(its.toArray.size:Int)-1) ⟨_,Vz _ M,M,M⟩ ?_;refine⟨s1.heap.objs.size,[s1.heap.objs.size],_,_,H1,M,z.kept (t':=s1.toks) λb o e=>Vr _ e,G1 b _ xs.length,⟨Qj _,?_⟩,λb hb=>?_,q⟩
  .have e:(xs.length:Int)-1-((0:Nat):Int)=(its.toArray.size:Int)-1:=by simp;lia
   rw[e];exact⟨_,Vz _ M,M,M⟩
  .have e:b=s1.heap.objs.size:=by simpa using hb
   subst e;exact z.fpOk (Q4 _)<|z.hok.fresh (Q4 _)
end
def Gr {a D:Addr} {xs:List V} {te:TE} {tc:TT} {B:St} {H1:Hp} {Fin:Hp->Prop} (Pv:Nat->List V->Hp->Prop) (G:Pv 0 [] (upd H1 D<|.lst [])) (hl:∀i ys H,i<=xs.length->Pv i ys H->Fb K H a xs)
  (hs:∀i x ys H2,xs.reverse[i]?=some x->Pv i ys H2->H2 D=some (.lst ys)->tc (some x::B) H2 λb H4=>if b=true then te (some x::B) H4 (P7 xs.length i ys D Pv)else PZ xs.length i ys D Pv H4)
  (hd:∀ys H2,Pv xs.length ys H2->H2 D=some (.lst ys)->Fin H2):
  ∃Jl:Nat->Nat->List V->Hp->Prop,(∃m,Jl 0 m [] (upd H1 D<|.lst []))/\∀i m ys H2,Jl i m ys H2->H2 D=some (.lst ys)->
   ((Itv K a xs.length).stop i H2/\Fin H2)\/((Itv K a xs.length).go i H2/\∀x H3,(Itv K a xs.length).yld i H2 x H3->tc (some x::B) H3 λb H4=>if b=true then te (some x::B) H4 λy z=>z D=some (.lst ys)/\ys.length<sizeLine/\∃m',m'<m/\Jl (i+1) m' (ys++ [y]) (upd z D<|.lst<|ys++ [y])else H4 D=some (.lst ys)/\∃m',m'<m/\Jl (i+1) m' ys H4):=by
 refine⟨λi m ys H=>m=xs.length-i/\i<=xs.length/\Pv i ys H,⟨xs.length,by simp,Qj _,G⟩,?_⟩;rintro i m ys H ⟨rfl,hi,p⟩ hD;have q:=hl i ys H hi p;by_cases lt:i<xs.length
 .refine .inr ⟨⟨lt,xs,xs[xs.length-1-i]'(),q,Q3 _⟩,λx H' y=>?_⟩;obtain⟨e,y⟩:=y;subst e;exact hs i x ys _ (by rw[List.getElem?_reverse lt];exact y xs q) p hD
 .have e:i=xs.length:=();subst e;exact .inl ⟨Q4 _,hd ys H p hD⟩
open SeqAt
variable {A:Around} {xs:List V}
section
variable {X:Cx} {W:List (Addr×Obj)} {B:St} {H:Hp} {s:Shared}
inductive Mx (x:V) (vs:List V) (H:Hp) (Q:VK):Prop
 |mk (a kvs k y:_) (_:x= .ref a) (_:vs=[kV k,y]) (_:H a=some (.dK kvs)) (_:(∀v,aG kvs k=some v->Q v (upd H a<|.dK<|bM kvs k))) (_:(aG kvs k=none->Q y H))
def HI:Rn X "dict.pop" Mx:=by
 intro W s B H x vs v us Q I Y rv h;obtain⟨a,kvs,k,y,rfl,rfl,O,Z,q2⟩:=h;cases Y;obtain⟨u,r,rfl,U,rr⟩:=uS rv;cases l:aG kvs k with
 |some v=>exact LM I O U l (.inr ⟨r,M⟩) λw' s4 z G=>⟨v,_,z,G,Z v l⟩
 |none=>exact Ni I O U l λs4 z=>⟨y,H,z,rr,q2 l⟩
inductive N8 (x:V) (vs:List V) (H:Hp) (Q:VK):Prop
 |mk (a kvs:_) (_:x= .ref a) (_:vs=[]) (_:H a=some (.dK kvs)) (_:Q .non (upd H a<|.dK []))
def FV:Rn X "dict.clear" N8:=by
 intro W s B H x vs v us Q I U rv h;obtain⟨a,kvs,rfl,rfl,hd,q⟩:=h;cases U;cases rv;obtain⟨z,lo,Y,O,dd⟩:=fZ I.hok hd;refine VZ PySem.F.slot_dict_clear dd.typeIs PySem.F.entry_dict_clear (PySem.F.args_dict_clear_1 _) (meets_dict_clear (a8 X.prog X.w) a) ⟨Y,dd,by rwa[<-O.length],λh' G hs=>?_⟩;have he:∃q,h'.get? a=some q:=let⟨q,_,_,hq,_⟩:=G;⟨q,hq⟩
 exact⟨.non,_,pH I (by rw[hd];exact VG) hs he<|xR (Qj _) lo .nil G,M,q⟩
def qT:List V->List V->Bool
 | [],[]=>true
 |x::xs,y::ys=>RB x y&&qT xs ys
 |_,_=>false
def rp (H:Hp) (a:Addr):List V:=match H a with
 |some (.tup ys)=>ys
 |_=> []
def CF:∀(xs ys:List V),qT xs ys=((List.range<|min xs.length ys.length).all (λj=>RB (xs.getD j .non)<|ys.getD j .non)&&xs.length==ys.length)
 | [],[]=>rfl
 | [],y::ys=>by simp[qT]
 |x::xs,[]=>by simp[qT]
 |x::xs,y::ys=>by
  rw[qT,CF xs ys,Qo,Qo,Nat.succ_min_succ,List.range_succ_eq_map,List.all_cons,List.all_map,Bool.and_assoc];congr 1;congr 1;rw[Xf];simp
def Rs {A:Around} {us:List Value} (r:GA xs us) {j:Nat} (h:j<us.length):RelV (xs.getD j .non) us[j]:=by
 obtain⟨x,e,q⟩:=uQ r j h;rw[Qk,e];exact q
def rw_eq {p q:Addr} {ys:List V} (I:Inv X W B H s) (hu:A.units<cLine) (G:xs.all io=true) (O:ys.all io=true) (h1:OX X.K H p xs) (h2:OX X.K H q ys) (n:p≠q):EqAt A s (.ref p) (.ref q) (qT xs ys):=by
 obtain⟨U,r1,Y,_⟩:=I.tuple h1;obtain⟨Z,z,t2,_⟩:=I.tuple h2;have l1:=r1.length;have l2:=z.length;have:=RcAt.tuples (A:=A) (e:=λj=>RB (xs.getD j .non)<|ys.getD j .non) Y t2 hu (λj a b=>by
  have a:j<U.length:=by simpa using a
  have b:j<Z.length:=by simpa using b
  have e1:xs[j]?=some (xs.getD j .non):=by rw[Qk,Q3 ()];rfl
  have e2:ys[j]?=some (ys.getD j .non):=by rw[Qk,Q3 ()];rfl
  simpa using IJ (A:=A.in1) (s:=s) (Rs (A:=A) r1 a) (Rs (A:=A) z b) (QR.mp G _<|Q1 e1) (QR.mp O _<|Q1 e2))
 refine EqAt.of_refs n ?_;rw[CF];simpa[<-l1,<-l2]using this
inductive rInR (K:JK) (neg:Bool) (x y:V) (H:Hp) (Q:VK):Prop
 |mk (p l:Addr) (xs:List V) (as:List Addr) (_:x= .ref p) (_:y= .ref l) (_:H p=some (.tup xs)) (_:xs.all io=true) (_:Fb K H l (as.map V.ref)) (_:(∀a∈as,a≠p/\∃ys,H a=some (.tup ys)/\ys.all io=true)) (_:Q (.bl<|if neg then !(as.any λa=>qT (rp H a) xs)else as.any λa=>qT (rp H a) xs) H)
def KR (H:Hp) (xs:List V):Value->Bool
 | .ref a=>qT (rp H a) xs
 |_=>false
def M3 {l p:Addr} {as:List Addr} (I:Inv X W B H s) (hu:A.units<cLine) (G:H p=some (.tup xs)) (O:xs.all io=true) (U:∀a∈as,a≠p/\∃ys,H a=some (.tup ys)/\ys.all io=true):∀u∈(as.map Value.ref),EqAt A s u (.ref p) (KR H xs u):=λu z=>by
 obtain⟨a,ha,rfl⟩:=Q9.mp z;obtain⟨n,ys,e,f⟩:=U a ha;have:rp H a=ys:=by unfold rp;rw[e]
 show EqAt A s (.ref a) (.ref p) (qT (rp H a) xs);rw[this];exact rw_eq I hu f O (OX.of e) (OX.of G) n
def FM (K:JK) (hK:X.K=K) (hu:X.A.units+20<cLine):Pa X (compareOp .NotIn) (rInR K true):=by
 subst hK;intro W s B H x y v u Q I z G h;obtain⟨p,l,xs,as,rfl,rfl,O,U,hl,Y,q⟩:=h;cases z;cases G;obtain⟨its,r,pl,hz⟩:=I.list hl;cases BP r;refine SeqAt.notIn_listAt (KR H xs) (PlainL.isL pl) (λw hw=>M3 (l:=l) I (by first|lia|(show _+1<_;lia)) O U Y w<|by simpa using hw) ⟨.bl _,H,I,M,?_⟩;rw[show(as.map Value.ref).toArray.any (KR H xs)=(as.map Value.ref).any (KR H xs) by simp,List.any_map];exact q
end
end L2
namespace SW
open PySem L2
set_option maxHeartbeats 0
variable {C L a b c dd dx p q r tb:Addr} {E E' F F':Addr->Prop} {t:OJ} {X:OY} {o:HO} {x':OZ} {H H' H1:Hp} {Jl hi k lo m:Int} {R:Int->Bool} {T kv' ps qs:List (Int×V)} {kvs:List (Key×V)} {ls:List (List Int)} {fs:List (Str×V)} {A:List Addr} {ds l:List DR} {ks ns x y:List Int} {pa':List Pk} {ts:List Tp} {xs:List V} {i i0 j n:Nat} {K:JK} {st:O8} {B:St} {f:Str} {α β:Type} {a' av e v:V} {Q:VK}
structure Txt (K:JK) (mg:Str->Option Value) (t:OJ):Prop where
 Ct:mg "Token"=some (.ref t.gM)
 xz:mg "BySlots"=some (.ref t.aV)
 HN:mg "Up"=some (.ref t.dO)
 KD:mg "Down"=some (.ref t.b8)
 OF:mg "Page"=some (.ref t.bS)
 NF:mg "Copier"=some (.ref t.aW)
 NE:mg "Leaves"=some (.ref t.bH)
 Oi:mg "Makes"=some (.ref t.gN)
 Oh:mg "Slots"=some (.ref t.aY)
 Oj:mg "House"=some (.ref t.bc)
 Cw:mg "turned"=some (.ref t.C5)
 yf:OQ K "turned" "turned" wV t.C5 t.xT
 CY:Binds K t.xT ["number"] []
 FZ:mg "mark_of"=some (.ref t.Ap)
 Au:OQ K "mark_of" "mark_of" tY t.Ap t.uI
 Gw:Binds K t.uI ["key"] []
 Ec:mg "place_of"=some (.ref t.x6)
 yh:OQ K "place_of" "place_of" qH t.x6 t.qU
 Ep:Binds K t.qU ["key"] []
 zU:mg "slot_of"=some (.ref t.An)
 uR:OQ K "slot_of" "slot_of" tW t.An t.uG
 Ak:Binds K t.uG ["key","size"] []
 KL:mg "stretch_of"=some (.ref t.sQ)
 BE:OQ K "stretch_of" "stretch_of" kS t.sQ t.lT
 K4:Binds K t.lT ["slot","size"] []
 FY:mg "slot_at"=some (.ref t.Ao)
 At:OQ K "slot_at" "slot_at" tX t.Ao t.uH
 Gv:Binds K t.uH ["place","size"] []
 MN:mg "is_whole"=some (.ref t.x9)
 Ev:OQ K "is_whole" "is_whole" qI t.x9 t.qV
 Nm:Binds K t.qV ["thing"] []
 kG:mg "is_from"=some (.ref t.Ar)
 iH:OQ K "is_from" "is_from" t7 t.Ar t.uK
 kJ:Binds K t.uK ["thing","low"] []
 FX:mg "word_of"=some (.ref t.Am)
 As:OQ K "word_of" "word_of" tV t.Am t.uF
 Gu:Binds K t.uF ["bound"] []
 kA:OQ K "__init__" "Token.__init__" jK t.kx t.j2
 qf:Binds K t.j2 ["self","kind","at","end"] []
 Jn:OQ K "words" "Token.words" iQ t.dI t.ji
 dH:Binds K t.ji ["self"] []
 GT:Pw K "__init__" "BySlots.__init__" gY t.mO t.cT
 vO:Binds K t.cT ["self","at","end"] []
 GG:OQ K "holds" "BySlots.holds" gj t.kP t.gF
 kK:Binds K t.gF ["self","key"] []
 Nz:Pw K "__init__" "Up.__init__" qJ t.yb t.jh
 Er:Binds K t.jh ["self","at","end"] []
 LY:OQ K "holds" "Up.holds" nI t.u9 t.oG
 oO:Binds K t.oG ["self","key"] []
 Ln:Pw K "__init__" "Down.__init__" lG t.tx t.fW
 Bz:Binds K t.fW ["self","at","end"] []
 JY:OQ K "holds" "Down.holds" jV t.qv t.kt
 ku:Binds K t.kt ["self","key"] []
 Ol:mg "ask"=some (.ref t.LT)
 LX:Pw K "ask" "ask" Hh t.LT t.CN
 Es:js K t.CN ["house","token","many","sieve"] [.non]
 GL:mg "page_by_slots"=some (.ref t.mJ)
 vQ:OQ K "page_by_slots" "page_by_slots" gT t.mJ t.g9
 GN:Binds K t.g9 ["slots","token","many"] []
 HV:mg "page_by_keys"=some (.ref t.oS)
 yi:OQ K "page_by_keys" "page_by_keys" fu t.oS t.jc
 Jb:Binds K t.jc ["house","token","many"] []
 HW:mg "keys_of_page"=some (.ref t.oT)
 yj:OQ K "keys_of_page" "keys_of_page" fv t.oT t.jd
 Jc:Binds K t.jd ["leaves","token","many"] []
 LI:mg "keys_near"=some (.ref t.u0)
 Dd:OQ K "keys_near" "keys_near" nE t.u0 t.oB
 LQ:Binds K t.oB ["leaves","token","most"] []
 HU:mg "token_behind"=some (.ref t.oR)
 yg:OQ K "token_behind" "token_behind" iK t.oR t.i9
 Ja:Binds K t.i9 ["token","key"] []
 F6:mg "is_left"=some (.ref t.Aq)
 Av:OQ K "is_left" "is_left" tZ t.Aq t.uJ
 Gx:Binds K t.uJ ["token","key"] []
 HX:mg "change"=some (.ref t.Da)
 De:OQ K "change" "change" wX t.Da t.xU
 Je:Binds K t.xU ["table","row"] []
 Lk:OQ K "__init__" "Page.__init__" lw t.tm t.mj
 Lc:Binds K t.mj ["self","token"] []
 Lj:OQ K "read" "Page.read" lu t.tj t.mi
 Lb:Binds K t.mi ["self","house","many"] []
 GD:OQ K "in_piece" "Page.in_piece" gf t.kM t.gA
 Gy:Binds K t.gA ["self","key"] []
 GQ:OQ K "outcome" "Page.outcome" gV t.mL t.hV
 GO:Binds K t.hV ["self"] []
 Jr:Pw K "__init__" "Copier.__init__" iU t.o0 t.fX
 vP:js K t.fX ["self","house","token","stopped"] [.non]
 Du:OQ K "open_page" "Copier.open_page" dS t.iy t.eh
 Dq:Binds K t.eh ["self"] []
 Dt:Pw K "read_page" "Copier.read_page" dR t.iw t.cC
 Dp:Binds K t.cC ["self","many"] []
 Dg:OQ K "close_page" "Copier.close_page" dw t.gS t.dG
 CZ:Binds K t.dG ["self"] []
 GE:OQ K "follow" "Copier.follow" gh t.kN t.gB
 uO:Binds K t.gB ["self","steps"] []
 BK:OQ K "follow_mark" "Copier.follow_mark" cW t.f9 t.cY
 BJ:Binds K t.cY ["self","number"] []
 Aw:OQ K "follow_change" "Copier.follow_change" cG t.fh t.cI
 Al:Binds K t.cI ["self","row"] []
 Js:OQ K "copy" "Copier.copy" iV t.pc t.jn
 oQ:Binds K t.jn ["self"] []
 GF:OQ K "covers" "Copier.covers" gi t.kO t.gE
 uP:Binds K t.gE ["self","key"] []
 GS:OQ K "place" "Copier.place" gX t.mN t.hZ
 mH:Binds K t.hZ ["self"] []
 Jq:OQ K "left" "Copier.left" iT t.oZ t.jk
 jp:Binds K t.jk ["self"] []
 GR:OQ K "total" "Copier.total" gW t.mM t.hX
 GP:Binds K t.hX ["self"] []
 Jo:OQ K "__init__" "Leaves.__init__" iR t.oX t.jj
 Jh:Binds K t.jj ["self"] []
 JT:OQ K "add" "Leaves.add" gI t.qp t.kg
 JF:Binds K t.kg ["self","key"] []
 Fo:OQ K "discard" "Leaves.discard" fB t.jF t.fR
 Fg:Binds K t.fR ["self","key"] []
 JS:OQ K "has" "Leaves.has" jQ t.qo t.kf
 zt:Binds K t.kf ["self","key"] []
 Fn:OQ K "from_on" "Leaves.from_on" c7 t.jE t.fQ
 Ff:Binds K t.fQ ["self","key","most"] []
 Ds:OQ K "down_from" "Leaves.down_from" cz t.iu t.d9
 Do:Binds K t.d9 ["self","key","most"] []
 Fm:OQ K "leaf_of" "Leaves.leaf_of" fA t.jD t.fP
 dj:Binds K t.fP ["self","key"] []
 Dr:OQ K "part_leaf" "Leaves.part_leaf" dQ t.iq t.d8
 Dn:Binds K t.d8 ["self","at"] []
 Df:OQ K "join_small" "Leaves.join_small" du t.gR t.dF
 oP:Binds K t.dF ["self","at"] []
 JR:OQ K "__init__" "Makes.__init__" jP t.qm t.j9
 JE:Binds K t.j9 ["self"] []
 JQ:OQ K "note" "Makes.note" jO t.ql t.j8
 JD:Binds K t.j8 ["self","moment","value"] []
 uX:mg "empty_row"=some (.ref t.u7)
 pe:OQ K "empty_row" "empty_row" jv t.u7 t.oC
 uZ:Binds K t.oC ["size"] []
 JO:OQ K "__init__" "Slots.__init__" jM t.qj t.j6
 JB:Binds K t.j6 ["self"] []
 Lg:OQ K "put" "Slots.put" lg t.sX t.l9
 K9:Binds K t.l9 ["self","key","value"] []
 JP:OQ K "drop" "Slots.drop" jN t.qk t.j7
 JC:Binds K t.j7 ["self","key"] []
 Li:OQ K "get" "Slots.get" lq t.sZ t.mh
 La:Binds K t.mh ["self","key"] []
 Lh:OQ K "has" "Slots.has" lh t.sY t.mf
 Bx:Binds K t.mf ["self","key"] []
 JN:OQ K "rows" "Slots.rows" gH t.qi t.j5
 zr:Binds K t.j5 ["self"] []
 JM:OQ K "span" "Slots.span" eD t.qh t.j4
 JA:Binds K t.j4 ["self","low","high"] []
 JL:OQ K "stop" "Slots.stop" jL t.qg t.j3
 zq:Binds K t.j3 ["self","place"] []
 GC:OQ K "cell_of" "Slots.cell_of" gd t.kL t.gy
 gG:Binds K t.gy ["self","key"] []
 Fk:OQ K "lying_at" "Slots.lying_at" fw t.jC t.fO
 Fe:Binds K t.fO ["self","place"] []
 Ex:OQ K "move_slot" "Slots.move_slot" eS t.jq t.eU
 re:Binds K t.eU ["self"] []
 Ey:OQ K "begin_row" "Slots.begin_row" eT t.jr t.eV
 rf:Binds K t.eV ["self"] []
 JU:OQ K "__init__" "House.__init__" jR t.qq t.kh
 JG:Binds K t.kh ["self"] []
 Ll:OQ K "put" "House.put" lE t.tq t.mn
 By:Binds K t.mn ["self","key","value"] []
 JW:OQ K "drop" "House.drop" jT t.qt t.kq
 JI:Binds K t.kq ["self","key"] []
 Lm:OQ K "get" "House.get" lF t.tw t.mq
 Ld:Binds K t.mq ["self","key"] []
 Fp:OQ K "lay_mark" "House.lay_mark" fE t.jG t.fS
 sO:Binds K t.fS ["self"] []
 Jp:Pw K "diary" "House.diary" iS t.oY t.fV
 Ji:Binds K t.fV ["self","low"] []
 bV:js K t.fV ["self","low"] [(.int<|0)]
 JV:OQ K "held" "House.held" jS t.qr t.ko
 JH:Binds K t.ko ["self"] []
 JX:OQ K "done" "House.done" jU t.qu t.kr
 zu:Binds K t.kr ["self","row","value"] []
 xD:mg "_law_cell_at"=some (.ref t.oW)
 pf:OQ K "_law_cell_at" "_law_cell_at" iP t.oW t.jg
 xZ:Binds K t.jg ["_law_script","_law_k"] []
 Bd:mg "_law_mixed"=some (.ref t.sU)
 tE:OQ K "_law_mixed" "_law_mixed" kX t.sU t.lX
 Bv:Binds K t.lX ["_law_cell","_law_k"] []
 Bc:mg "_law_place"=some (.ref t.sT)
 tD:OQ K "_law_place" "_law_place" kW t.sT t.lW
 Bu:Binds K t.lW ["_law_key"] []
 MO:mg "_law_run"=some (.ref t.ya)
 Ew:OQ K "_law_run" "_law_run" iM t.ya t.qW
 Nn:Binds K t.qW ["_law_cell"] []
 oz:mg "_law_deed"=some (.ref t.u8)
 jH:OQ K "_law_deed" "_law_deed" nG t.u8 t.oE
 oN:Binds K t.oE ["_law_house_here","_law_kept","_law_cell"] []
 KO:mg "_law_house"=some (.ref t.sV)
 BH:OQ K "_law_house" "_law_house" kY t.sV t.lY
 K8:Binds K t.lY ["_law_cells"] []
 Dl:mg "_law_numbers_told"=some (.ref t.ip)
 pQ:OQ K "_law_numbers_told" "_law_numbers_told" dP t.ip t.d6
 Dm:Binds K t.d6 ["_law_kind","_law_cell"] []
 HY:mg "_law_numbers"=some (.ref t.oU)
 yk:OQ K "_law_numbers" "_law_numbers" iN t.oU t.je
 Jf:Binds K t.je ["_law_cell","_law_keys"] []
 KM:mg "_law_token"=some (.ref t.sR)
 BF:OQ K "_law_token" "_law_token" kT t.sR t.lU
 K5:Binds K t.lU ["_law_numbers_here"] []
 Be:mg "_law_holds"=some (.ref t.sW)
 tF:OQ K "_law_holds" "_law_holds" kZ t.sW t.lZ
 Bw:Binds K t.lZ ["_law_numbers_here","_law_key"] []
 HZ:mg "_law_covered"=some (.ref t.oV)
 yo:OQ K "_law_covered" "_law_covered" iO t.oV t.jf
 Jg:Binds K t.jf ["_law_begun","_law_rest","_law_key"] []
 KN:mg "_law_table"=some (.ref t.sS)
 BG:OQ K "_law_table" "_law_table" kU t.sS t.lV
 K7:Binds K t.lV ["_law_rows"] []
 vL:mg "_law_is_right"=some (.ref t.mK)
 mP:OQ K "_law_is_right" "_law_is_right" gU t.mK t.hJ
 vN:Binds K t.hJ ["_law_copier","_law_house_here","_law_begun"] []
 OH:mg "law"=some (.ref t.LS)
 OC:OQ K "law" "law" Hg t.LS t.E9
 vK:CV K t.aV "kind"
 gK:CV K t.aV "at"
 b5:CV K t.aV "end"
 bC:Pq K t.aV
 D7:Mk K t.aV t.mO
 qw:XIs K t.aV
 Ef:PySem.W.kitOne K (.ref t.aV) (.ref t.aV)=some true
 ux:bJ K t.aV "words" t.dI
 kF:bJ K t.aV "holds" t.kP
 D5:CV K t.dO "kind"
 ot:CV K t.dO "at"
 iG:CV K t.dO "end"
 f7:Pq K t.dO
 Od:Mk K t.dO t.yb
 mX:XIs K t.dO
 Jz:PySem.W.kitOne K (.ref t.dO) (.ref t.aV)=some false
 Im:PySem.W.kitOne K (.ref t.dO) (.ref t.dO)=some true
 Cu:bJ K t.dO "words" t.dI
 ou:bJ K t.dO "holds" t.u9
 AZ:CV K t.b8 "kind"
 gv:CV K t.b8 "at"
 gP:CV K t.b8 "end"
 b7:Pq K t.b8
 KC:Mk K t.b8 t.tx
 fk:XIs K t.b8
 GM:PySem.W.kitOne K (.ref t.b8) (.ref t.aV)=some false
 Ee:PySem.W.kitOne K (.ref t.b8) (.ref t.dO)=some false
 zn:bJ K t.b8 "words" t.dI
 jY:bJ K t.b8 "holds" t.qv
 p7:CV K t.bS "asked"
 cV:CV K t.bS "found"
 jX:CV K t.bS "ahead"
 p6:CV K t.bS "noted"
 eL:CV K t.bS "closing"
 bG:Pq K t.bS
 OE:Mk K t.bS t.tm
 KJ:bJ K t.bS "read" t.tj
 FW:bJ K t.bS "in_piece" t.kM
 GJ:bJ K t.bS "outcome" t.mL
 eO:CV K t.aW "house"
 vJ:CV K t.aW "first"
 dE:CV K t.aW "rest"
 cN:CV K t.aW "followed"
 dN:CV K t.aW "copied"
 b4:CV K t.aW "page"
 aF:Pq K t.aW
 ND:Mk K t.aW t.o0
 Dk:bJ K t.aW "open_page" t.iy
 Dj:bJ K t.aW "read_page" t.iw
 Cv:bJ K t.aW "close_page" t.gS
 uv:bJ K t.aW "follow" t.kN
 BI:bJ K t.aW "follow_mark" t.f9
 zT:bJ K t.aW "follow_change" t.fh
 oy:bJ K t.aW "copy" t.pc
 uw:bJ K t.aW "covers" t.kO
 mG:bJ K t.aW "place" t.mN
 i6:bJ K t.aW "left" t.oZ
 GK:bJ K t.aW "total" t.mM
 aH:CV K t.bH "leaves"
 aM:Pq K t.bH
 NC:Mk K t.bH t.oX
 Jw:bJ K t.bH "add" t.qp
 ER:bJ K t.bH "discard" t.jF
 zj:bJ K t.bH "has" t.qo
 EQ:bJ K t.bH "from_on" t.jE
 Di:bJ K t.bH "down_from" t.iu
 de:bJ K t.bH "leaf_of" t.jD
 Dh:bJ K t.bH "part_leaf" t.iq
 ox:bJ K t.bH "join_small" t.gR
 zf:CV K t.gN "made"
 CS:Pq K t.gN
 Of:Mk K t.gN t.qm
 Jv:bJ K t.gN "note" t.ql
 aX:CV K t.aY "table"
 bX:CV K t.aY "shifted"
 bN:CV K t.aY "kept"
 aK:Pq K t.aY
 Oe:Mk K t.aY t.qj
 KH:bJ K t.aY "put" t.sX
 Ju:bJ K t.aY "drop" t.qk
 KI:bJ K t.aY "get" t.sZ
 Ba:bJ K t.aY "has" t.sY
 zi:bJ K t.aY "rows" t.qi
 Jt:bJ K t.aY "span" t.qh
 zh:bJ K t.aY "stop" t.qg
 gw:bJ K t.aY "cell_of" t.kL
 EO:bJ K t.aY "lying_at" t.jC
 qP:bJ K t.aY "move_slot" t.jq
 qQ:bJ K t.aY "begin_row" t.jr
 lL:CV K t.bc "now"
 xt:CV K t.bc "floor"
 dD:CV K t.bc "slots"
 g7:CV K t.bc "leaves"
 gu:CV K t.bc "written"
 i4:CV K t.bc "marks"
 zg:CV K t.bc "past"
 uq:CV K t.bc "holders"
 aO:Pq K t.bc
 Og:Mk K t.bc t.qq
 Bb:bJ K t.bc "put" t.tq
 Jy:bJ K t.bc "drop" t.qt
 KK:bJ K t.bc "get" t.tw
 sk:bJ K t.bc "lay_mark" t.jG
 fI:bJ K t.bc "diary" t.oY
 Jx:bJ K t.bc "held" t.qr
 zl:bJ K t.bc "done" t.qu
 pZ:Jm K t.gM "__init__" (.ref t.kx)
 g_BITS:∃tk,mg "BITS"=some (.int 16 tk)
 g_PLACES:∃tk,mg "PLACES"=some (.int 65536 tk)
 g_STRETCHES_A_KEY:∃tk,mg "STRETCHES_A_KEY"=some (.int 4 tk)
 g_MOST_IN_LEAF:∃tk,mg "MOST_IN_LEAF"=some (.int 8 tk)
 g_LEAST_IN_TWO:∃tk,mg "LEAST_IN_TWO"=some (.int 5 tk)
 g_LEAST_SIZE:∃tk,mg "LEAST_SIZE"=some (.int 4 tk)
 g_GREATEST_SIZE:∃tk,mg "GREATEST_SIZE"=some (.int 256 tk)
 L4:mg "bool"=none
 Dv:mg "dict"=none
 NH:mg "int"=none
 dJ:mg "isinstance"=none
 bL:mg "len"=none
 L3:mg "list"=none
 GU:mg "max"=none
 BM:mg "min"=none
 pj:mg "range"=none
 LZ:mg "reversed"=none
 BL:mg "sorted"=none
 OG:mg "str"=none
 NG:mg "sum"=none
def FE:ar ["number","told","rest","step"] ["number"] (al wV):=OP
def DT:ar ["key"] ["key"] (al tY):=OP
def B9:ar ["key"] ["key"] (al qH):=OP
def DQ:ar ["key","size"] ["key","size"] (al tW):=OP
def yI:ar ["slot","size","low"] ["slot","size"] (al kS):=OP
def DS:ar ["place","size"] ["place","size"] (al tX):=OP
def Ca:ar ["thing"] ["thing"] (al qI):=OP
def DV:ar ["thing","low"] ["thing","low"] (al t7):=OP
def DP:ar ["bound"] ["bound"] (al tV):=OP
def wG:ar ["self","kind","at","end"] ["self","kind","at","end"] (al jK):=OP
def vt:ar ["self"] ["self"] (al iQ):=OP
def PN:ar ["self","at","end"] ["self","at","end"] (al gY):=OP
def rN:ar ["self","key"] ["self","key"] (al gj):=OP
def Pp:ar ["self","at","end"] ["self","at","end"] (al qJ):=OP
def AN:ar ["self","key"] ["self","key"] (al nI):=OP
def Pe:ar ["self","at","end"] ["self","at","end"] (al lG):=OP
def wU:ar ["self","key"] ["self","key"] (al jV):=OP
def Ri:ar ["house","token","many","sieve","page"] ["house","token","many","sieve"] (al Hh):=OP
def PP:ar ["slots","token","many","rows","reached","gone","stop"] ["slots","token","many"] (al gT):=OP
def vn:ar ["house","token","many","page"] ["house","token","many"] (al fu):=OP
def PV:ar ["leaves","token","many","most","held","page"] ["leaves","token","many"] (al fv):=OP
def AK:ar ["leaves","token","most"] ["leaves","token","most"] (al nE):=OP
def vk:ar ["token","key"] ["token","key"] (al iK):=OP
def DU:ar ["token","key"] ["token","key"] (al tZ):=OP
def FF:ar ["table","row"] ["table","row"] (al wX):=OP
def yT:ar ["self","token"] ["self","token"] (al lw):=OP
def yS:ar ["self","house","many","answer"] ["self","house","many"] (al lu):=OP
def rK:ar ["self","key"] ["self","key"] (al gf):=OP
def tR:ar ["self","table","row"] ["self"] (al gV):=OP
def PX:ar ["self","house","token","stopped"] ["self","house","token","stopped"] (al iU):=OP
def nC:ar ["self"] ["self"] (al dS):=OP
def PD:ar ["self","many","page"] ["self","many"] (al dR):=OP
def mT:ar ["self","page"] ["self"] (al dw):=OP
def rL:ar ["self","steps","rows","row"] ["self","steps"] (al gh):=OP
def kR:ar ["self","number","page"] ["self","number"] (al cW):=OP
def jJ:ar ["self","row","key","page"] ["self","row"] (al cG):=OP
def vz:ar ["self"] ["self"] (al iV):=OP
def rM:ar ["self","key"] ["self","key"] (al gi):=OP
def tT:ar ["self"] ["self"] (al gX):=OP
def vx:ar ["self"] ["self"] (al iT):=OP
def tS:ar ["self"] ["self"] (al gW):=OP
def vv:ar ["self"] ["self"] (al iR):=OP
def wP:ar ["self","key","at","leaf"] ["self","key"] (al gI):=OP
def qF:ar ["self","key","at"] ["self","key"] (al fB):=OP
def wO:ar ["self","key","at"] ["self","key"] (al jQ):=OP
def PL:ar ["self","key","most","told","at"] ["self","key","most"] (al c7):=OP
def P9:ar ["self","key","most","told","at"] ["self","key","most"] (al cz):=OP
def qE:ar ["self","key","low","high","middle"] ["self","key"] (al fA):=OP
def nB:ar ["self","at","leaf","middle"] ["self","at"] (al dQ):=OP
def mS:ar ["self","at","both"] ["self","at"] (al du):=OP
def wN:ar ["self"] ["self"] (al jP):=OP
def wM:ar ["self","moment","value"] ["self","moment","value"] (al jO):=OP
def AL:ar ["size"] ["size"] (al jv):=OP
def wK:ar ["self"] ["self"] (al jM):=OP
def yP:ar ["self","key","value","cell"] ["self","key","value"] (al lg):=OP
def wL:ar ["self","key"] ["self","key"] (al jN):=OP
def yR:ar ["self","key","cell"] ["self","key"] (al lq):=OP
def yQ:ar ["self","key"] ["self","key"] (al lh):=OP
def wJ:ar ["self"] ["self"] (al gH):=OP
def wI:ar ["self","low","high","found","reached","end","inside"] ["self","low","high"] (al eD):=OP
def wH:ar ["self","place","size"] ["self","place"] (al jL):=OP
def rJ:ar ["self","key","old","slot","new"] ["self","key"] (al gd):=OP
def qD:ar ["self","place","size","found","row","slot","key","value"] ["self","place"] (al fw):=OP
def pN:ar ["self","old","new","key","value"] ["self"] (al eS):=OP
def pO:ar ["self","size"] ["self"] (al eT):=OP
def wQ:ar ["self"] ["self"] (al jR):=OP
def yU:ar ["self","key","value"] ["self","key","value"] (al lE):=OP
def wS:ar ["self","key"] ["self","key"] (al jT):=OP
def yV:ar ["self","key"] ["self","key"] (al lF):=OP
def qG:ar ["self"] ["self"] (al fE):=OP
def PU:ar ["self","low"] ["self","low"] (al iS):=OP
def wR:ar ["self"] ["self"] (al jS):=OP
def wT:ar ["self","row","value","key"] ["self","row","value"] (al jU):=OP
def vq:ar ["_law_script","_law_k"] ["_law_script","_law_k"] (al iP):=OP
def yM:ar ["_law_cell","_law_k","_law_number"] ["_law_cell","_law_k"] (al kX):=OP
def yL:ar ["_law_key","_law_mark"] ["_law_key"] (al kW):=OP
def OS:ar ["_law_cell","_law_start","_law_number","_law_way","_law_step"] ["_law_cell"] (al iM):=OP
def AM:ar ["_law_house_here","_law_kept","_law_cell","_law_keys","_law_k","_law_value"] ["_law_house_here","_law_kept","_law_cell"] (al nG):=OP
def yN:ar ["_law_cells","_law_house_here","_law_kept","_law_cell"] ["_law_cells"] (al kY):=OP
def nz:ar ["_law_kind","_law_cell","_law_low","_law_high"] ["_law_kind","_law_cell"] (al dP):=OP
def vo:ar ["_law_cell","_law_keys","_law_kind","_law_number","_law_low","_law_high"] ["_law_cell","_law_keys"] (al iN):=OP
def yJ:ar ["_law_numbers_here"] ["_law_numbers_here"] (al kT):=OP
def yO:ar ["_law_numbers_here","_law_key","_law_kind","_law_at","_law_end"] ["_law_numbers_here","_law_key"] (al kZ):=OP
def vp:ar ["_law_begun","_law_rest","_law_key"] ["_law_begun","_law_rest","_law_key"] (al iO):=OP
def yK:ar ["_law_rows","_law_found","_law_row"] ["_law_rows"] (al kU):=OP
def tQ:ar ["_law_copier","_law_house_here","_law_begun","_law_rows","_law_place_here","_law_rest","_law_table_here","_law_due","_law_key","_law_told"] ["_law_copier","_law_house_here","_law_begun"] (al gU):=OP
def Ms:ar ["_law_script","_law_house_here","_law_kept","_law_begun","_law_cell","_law_copier","_law_number","_law_asked","_law_rest","_law_rows","_law_key","_law_closing","_law_k","_law_held","_law_kept_copy"] ["_law_script"] (al Hg):=OP
def Sc:V->Prop
 | .non=>True| .bl _=>True| .int _=>True| .str _=>True|_=>False
def T0 (z:Int):Sc (.int z):=VG
noncomputable def isW:V->Bool
 | .int _=>true|_=>false
def Fr (F F':Addr->Prop) (H H':Hp):Prop:=∀b o,¬F b->H b=some o->H' b=some o/\¬F' b
def Fr.refl:Fr F F H H:=λ_ _ n e=>⟨e,n⟩
def Fr.trans {z:Addr->Prop} {H'':Hp} (x:Fr F F' H H') (y:Fr F' z H' H''):Fr F z H H'':=λb o n e=>y b o (x b o n e).2 (x b o n e).1
def Fr.of_same (s:Fa H H'):Fr F F H H':=λb o n e=>⟨s b o e,n⟩
noncomputable def aB (kv:List (Int×V)):List (Key×V):=kv.map λp=>(Sum.inl p.1,p.2)
def O6 {kv:List (Int×V)}:aG (aB kv) (Sum.inl k:Key)=aG kv k:=by
 induction kv with
 |nil=>rfl
 |cons p r G=>
  show aG ((Sum.inl p.1,p.2)::aB r) (Sum.inl k:Key)=_;by_cases e:p.1=k
  .rw[br e,br (by show(Sum.inl p.1:Key)=_;rw[e])]
  .rw[bn e,bn (by show ¬(Sum.inl p.1:Key)=_;exact λz=>e<|Sum.inl.inj z),G]
def F9 {kv:List (Int×V)}:((aB kv).any λx=>decide (x.1=(Sum.inl k:Key)))=kv.any λx=>decide (x.1=k):=by
 rw[dt,dt,O6]
def b9 {kv:List (Int×V)}:bi (aB kv) (Sum.inl k:Key) v=aB (bi kv k v):=by
 unfold bi;rw[F9];by_cases c:(kv.any λx=>decide (x.1=k))=true
 .rw[Vp c,Vp c];unfold aB;rw[Qs,Qs];refine Z9 λp _=>?_;show(if(Sum.inl p.1:Key)=Sum.inl k then _ else _)=_;by_cases e:p.1=k
  .rw[Vp (by rw[e])];simp[e]
  .rw[Vo λz=>e (Sum.inl.inj z)];simp[e]
 .rw[Vo c,Vo c];unfold aB;rw[Qg];rfl
def lP {kv:List (Int×V)}:bM (aB kv) (Sum.inl k:Key)=aB (bM kv k):=by
 unfold bM aB;rw[List.filter_map];congr 1;refine V2 λp _=>?_;show decide ((Sum.inl p.1:Key)≠Sum.inl k)=_;by_cases e:p.1=k
 .rw[e];simp
 .have:¬(Sum.inl p.1:Key)=Sum.inl k:=λz=>e (Sum.inl.inj z);simp[e,this]
def bj {kv:List (Int×V)}:(aB kv).length=kv.length:=Q0 _
def nO {f:Str} {v:V}:∀fs:List (Str×V),(bK f v fs).length<=fs.length+1
 | []=>Q4 _
 |(g,x)::r=>by
  rw[bK];split
  .rw[Qo,Qo];lia
  .have:=nO (f:=f) (v:=v) r;rw[Qo,Qo];lia
section
variable {κ:Type} [DecidableEq κ] {kv:List (κ×V)} {k j:κ}
def eY:∀{kv:List (κ×V)},aG (bM kv k) j=if j=k then none else aG kv j
 | []=>by
  show aG ([]:List (κ×V)) j=_;rw[kB];split<;>rfl
 |p::r=>by
  by_cases e:p.1=k
  .rw[uE e,eY];by_cases z:j=k
   .rw[Vp z,Vp z]
   .rw[Vo z,Vo z,bn λy=>z (y.symm.trans e)]
  .rw[pG e];by_cases y:p.1=j
   .rw[br y,br y,Vo λz=>e (y.trans z)]
   .rw[bn y,bn y,eY]
def O0:∀{kv:List (κ×V)},k∈kv.map (·.1)↔(aG kv k).isSome=true
 | []=>by simp[kB]
 |p::r=>by
  by_cases e:p.1=k
  .rw[br e];simp[e]
  .rw[bn e,<-O0];simp[Ne.symm e]
def sv:(bi kv k v).map (·.1)=if(aG kv k).isSome=true then kv.map (·.1)else kv.map (·.1)++ [k]:=by
 unfold bi;rw[dt];by_cases c:(aG kv k).isSome=true
 .rw[Vp c,Vp c,Qs];refine Z9 λp _=>?_;show(if p.1=k then(p.1,v)else p).1=p.1;split<;>rfl
 .rw[Vo c,Vo c,Qg];rfl
def xq (h:(kv.map (·.1)).Nodup):((bi kv k v).map (·.1)).Nodup:=by
 cases e:aG kv k with
 |none=>exact KA v h e
 |some x=>rwa[sv,e]
def gO:∀{l S:List κ},l.Nodup->(∀x∈l,x∈S)->l.length<=S.length
 | [],_,_,_=>Qj _
 |x::xs,S,hn,hs=>by
  obtain⟨h1,h2⟩:=QQ.mp hn;have hx:x∈S:=hs x Qb;have:=gO (S:=S.erase x) h2 λy hy=>(List.mem_erase_of_ne λz=>h1<|by rwa[<-z]).mpr (hs y<|Qd _ hy);rw[List.length_erase_of_mem hx]at this;have:=List.length_pos_of_mem hx;rw[Qo];lia
def Oo {S:List κ} (z:(kv.map (·.1)).Nodup) (hs:∀x∈kv.map (·.1),x∈S):kv.length<=S.length:=by
 have:=gO z hs;rwa [Q0]at this
end
def RM (K:JK) (F:Addr->Prop) (H:Hp) (a:Addr) (xs:List V):Prop:=(Rd H a (.lst xs)/\¬F a)\/∀H',Fb K H' a xs
def RM.sq (h:RM K F H a xs):Fb K H a xs:=by
 rcases h with h|h
 .exact .inl h.1
 .exact h H
def RM.of (h:Fb K H a xs) (n:∀o,H a=some o->¬F a):RM K F H a xs:=by
 rcases h with h|h
 .rcases h with h|⟨o,h⟩
  .exact .inl ⟨.inl h,n _ h⟩
  .exact .inl ⟨.inr ⟨o,h⟩,n _ h⟩
 .exact .inr λ_=> .inr h
def RM.fr (h:RM K F H a xs) (f:Fr F F' H H'):RM K F' H' a xs:=by
 rcases h with⟨h,n⟩|h
 .rcases h with h|⟨o,h⟩
  .exact .inl ⟨.inl (f _ _ n h).1,(f _ _ n h).2⟩
  .exact .inl ⟨.inr ⟨o,(f _ _ n h).1⟩,(f _ _ n h).2⟩
 .exact .inr h
def RM.new (h:RM K F H a xs) (n:H p=none):RM K F (upd H p o) a xs:=h.fr (Fr.of_same<|ak n)
def RM.put (h:RM K F H a xs) (e:H p=some (.dK kvs)):RM K F (upd H p o) a xs:=by
 rcases h with⟨h,n⟩|h
 .rcases h with h|⟨u,h⟩
  .exact .inl ⟨.inl (by rwa[af (λz=>by rw[z,e]at h;cases h)]),n⟩
  .exact .inl ⟨.inr ⟨u,by rwa[af (λz=>by rw[z,e]at h;cases h)]⟩,n⟩
 .exact .inr h
structure O8 where
 kv:List (Int×V)
 size:Int
 nxt:Option Int
 mv:Int
noncomputable def O8.new:O8:=⟨[],4,none,0⟩
noncomputable def O8.one (s:O8):O8:=match s.nxt with
 |none=>s
 |some m=>if s.mv+1=s.size then{s with size:=m,nxt:=none,mv:=0}else{s with mv:=s.mv+1}
noncomputable def O8.three (s:O8):O8:=match s.nxt with
 |some _=>s
 |none=>if s.size<(s.kv.length:Int)/\s.size<256 then{s with nxt:=some (2*s.size),mv:=0}else if 4*(s.kv.length:Int)<s.size/\4<s.size then{s with nxt:=some (s.size/2),mv:=0}else s
def O8.put (s:O8) (k:Int) (v:V):O8:=O8.three {s.one with kv:=bi s.kv k v}
def O8.drop (s:O8) (k:Int):O8:=O8.three {s.one with kv:=bM s.kv k}
noncomputable def O8.rows (s:O8):List Int:=match s.nxt with
 |none=> [s.size]
 |some m=> [s.size,m]
noncomputable def O8.moved (s:O8):Int:=match s.nxt with
 |none=>0
 |some _=>s.mv
structure RC where
 tb:Addr
 r0:Addr
 r1:Addr
 A0:List Addr
 A1:List Addr
 C0:List (List<|Int×V)
 C1:List (List<|Int×V)
 n:Int
noncomputable def Pl (tb:Addr) (sh n:Int):List (Str×V):=[("table",.ref tb),("shifted",.int sh),("kept",.int n)]
def fJ {k:Str} {r:List (Str×V)}:((k,v)::r).lookup k=some v:=by
 have hb:(k==k)=true:=VB.mpr M;simp only[List.lookup,hb]
def bz {k m:Str} {r:List (Str×V)} (h:m≠k):((k,v)::r).lookup m=r.lookup m:=by
 have hb:(m==k)=false:=VF.mpr h;simp only[List.lookup,hb]
section
variable {tb':Addr} {sh sh' n n':Int} {m:Str}
def ju:(Pl tb sh n).lookup ("table":Str)=some (.ref tb):=fJ
def B8:(Pl tb sh n).lookup ("shifted":Str)=some (.int sh):=by unfold Pl;rw[bz ∅,fJ]
def rG:(Pl tb sh n).lookup ("kept":Str)=some (.int n):=by unfold Pl;rw[bz ∅,bz ∅,fJ]
def NoM (m:Str):Prop:=m≠("table":Str)/\m≠("shifted":Str)/\m≠("kept":Str)
instance:Decidable (NoM m):=by unfold NoM;infer_instance
def Lz (h:NoM m):(Pl tb sh n).lookup m=none:=by unfold Pl;rw[bz h.1,bz h.2.1,bz h.2.2];rfl
def Oa:bK ("table":Str) (.ref tb') (Pl tb sh n)=Pl tb' sh n:=by unfold Pl;rw[bK,Vp M]
def LD:bK ("shifted":Str) (.int sh') (Pl tb sh n)=Pl tb sh' n:=by unfold Pl;rw[bK,Vo ∅,bK,Vp M]
def LE:bK ("kept":Str) (.int n') (Pl tb sh n)=Pl tb sh n':=by unfold Pl;rw[bK,Vo ∅,bK,Vo ∅,bK,Vp M]
def rF:(Pl tb sh n).length<1000:=by show 3<1000;decide
end
structure ON (H:Hp) (r:Addr) (A:List Addr) (C:List (List<|Int×V)) (sz:Int):Prop where
 lst:H r=some (.lst<|A.map V.ref)
 la:(A.length:Int)=sz
 lc:(C.length:Int)=sz
 cell:∀(j:Nat) (b:Addr) (kv:List (Int×V)),A[j]?=some b->C[j]?=some kv->H b=some (.dK<|aB kv)
 ndk:∀(j:Nat) (kv:List (Int×V)),C[j]?=some kv->(kv.map (·.1)).Nodup
 inj:∀(i j:Nat) (b:Addr),A[i]?=some b->A[j]?=some b->i=j
 home:∀(j:Nat) (kv:List (Int×V)),C[j]?=some kv->∀p∈kv,p.1%65536%sz=(j:Int)
def ON.has {C:List (List<|Int×V)} {sz:Int} (h:ON H r A C sz) (hb:b∈A):∃(j:Nat) (kv:List (Int×V)),A[j]?=some b/\C[j]?=some kv/\H b=some (.dK<|aB kv):=by
 obtain⟨j,G,e⟩:=QF hb;have hc:j<C.length:=by have:=h.la;have:=h.lc;lia
 have z:A[j]?=some b:=by rw[Q3 G,e]
 have e2:C[j]?=some C[j]:=Q3 hc;exact⟨j,C[j],z,e2,h.cell j b _ z e2⟩
def ON.frame {C:List (List<|Int×V)} {sz:Int} (h:ON H r A C sz) (f:∀b,b=r\/b∈A->H' b=H b):ON H' r A C sz:=
 ⟨by rw[f r (.inl M)];exact h.lst,h.la,h.lc,λj b kv z e2=>by rw[f b (.inr<|Q1 z)];exact h.cell j b kv z e2,h.ndk,h.inj,h.home⟩
def ON.notr {C:List (List<|Int×V)} {sz:Int} (h:ON H r A C sz) (hb:b∈A) {x:Addr} (e:H x=some o) (ne:∀kvs,o≠ .dK kvs):b≠x:=λz=>by
 obtain⟨j,kv,_,_,q⟩:=h.has hb;rw[z,e]at q;cases q;exact ne _ M
def ON.set {C:List (List<|Int×V)} {sz:Int} (h:ON H r A C sz) (I:A[j]?=some c) (nd:(kv'.map (·.1)).Nodup) (O:∀p∈kv',p.1%65536%sz=(j:Int)):
  ON (upd H c<|.dK<|aB kv') r A (C.set j kv') sz:=by
 have hc:r≠c:=(h.notr (Q1 I) h.lst<|λ_ z=>by cases z).symm;refine⟨by rw[af hc];exact h.lst,h.la,by rw[QO];exact h.lc,λi b kv G e2=>?_,λi kv e=>?_,h.inj,λi kv e=>?_⟩
 .rw[QA]at e2;by_cases z:j=i
  .subst z;rw[I]at G;cases G;rw[Vp M]at e2;split at e2
   .cases e2;exact ag
   .cases e2
  .rw[Vo z]at e2;rw[af λy=>z (h.inj j i c I<|by rwa[<-y])];exact h.cell i b kv G e2
 .rw[QA]at e;by_cases z:j=i
  .rw[Vp z]at e;split at e
   .cases e;exact nd
   .cases e
  .rw[Vo z]at e;exact h.ndk i kv e
 .rw[QA]at e;by_cases z:j=i
  .subst z;rw[Vp M]at e;split at e
   .cases e;exact O
   .cases e
  .rw[Vo z]at e;exact h.home i kv e
def Pf (a:Addr) (st:O8) (d:RC):Addr->Prop:=λb=>b=a\/b=d.tb\/b=d.r0\/b∈d.A0\/(st.nxt.isSome=true/\b=d.r1)\/b∈d.A1
def IsCell (d:RC) (st:O8) (k:Int) (c:Addr) (kv:List (Int×V)):Prop:=
 (st.moved<=k%65536%st.size/\d.A0[(k%65536%st.size).toNat]?=some c/\d.C0[(k%65536%st.size).toNat]?=some kv)\/
 (∃m,st.nxt=some m/\k%65536%st.size<st.moved/\d.A1[(k%65536%m).toNat]?=some c/\d.C1[(k%65536%m).toNat]?=some kv)
structure OT (st:O8):Prop where
 pw:st.size∈([4,8,16,32,64,128,256]:List Int)
 nx:∀m,st.nxt=some m->m∈([4,8,16,32,64,128,256]:List Int)/\0<=st.mv/\st.mv<st.size/\(m=2*st.size\/2*m=st.size)
def nN {x:Int} (h:x∈([4,8,16,32,64,128,256]:List Int)):x=4\/x=8\/x=16\/x=32\/x=64\/x=128\/x=256:=by simpa using h
def bY {x:Int} (h:x∈([4,8,16,32,64,128,256]:List Int)):4<=x/\x<=256:=by
 rcases nN h with h|h|h|h|h|h|h<;>lia
structure P6 (t:OJ) (H:Hp) (a:Addr) (st:O8) (d:RC):Prop where
 obj:∃dx,H a=some (.ins t.aY dx<|Pl d.tb st.moved d.n)
 tbl:H d.tb=some (.lst<|match st.nxt with|none=> [.ref d.r0]|some _=> [.ref d.r0,.ref d.r1])
 row0:ON H d.r0 d.A0 d.C0 st.size
 row1:match st.nxt with|none=>d.A1=[]/\d.C1=[]|some m=>ON H d.r1 d.A1 d.C1 m
 dis:∀b,b∈d.A0->b∉d.A1
 tr:d.tb≠d.r0
 tr1:st.nxt.isSome=true->d.tb≠d.r1/\d.r0≠d.r1
 old:∀(j:Nat) (kv:List (Int×V)),d.C0[j]?=some kv->(j:Int)<st.moved->kv=[]
 new:∀(j:Nat) (kv:List (Int×V)),d.C1[j]?=some kv->∀p∈kv,p.1%65536%st.size<st.moved
 val:∀(k:Int) (c:Addr) (kv:List (Int×V)),IsCell d st k c kv->aG kv k=aG st.kv k
section
variable {d:RC}
def P6.frame (h:P6 t H a st d) (f:∀b,Pf a st d b->H' b=H b):P6 t H' a st d:=by
 obtain⟨dx,ho⟩:=h.obj;refine⟨⟨dx,by rwa[f a (.inl M)]⟩,by rw[f d.tb (.inr<|.inl M)];exact h.tbl,h.row0.frame λb hb=>f b ?_,?_,h.dis,h.tr,h.tr1,h.old,h.new,h.val⟩
 .rcases hb with hb|hb
  .exact .inr<|.inr (.inl hb)
  .exact .inr<|.inr (.inr<|.inl hb)
 .have r1:=h.row1;have z:=f;unfold Pf at z;cases e:st.nxt with
  |none=>rw[e]at r1;exact r1
  |some m=>
   rw[e]at r1;refine ON.frame (H:=H) r1 λb hb=>f b ?_;unfold Pf;rw[e];rcases hb with hb|hb
   .exact .inr<|.inr (.inr<|.inr<|.inl ⟨M,hb⟩)
   .exact .inr<|.inr (.inr<|.inr<|.inr hb)
def P6.dom (h:P6 t H a st d) (hb:Pf a st d b):∃o,H b=some o:=by
 obtain⟨dx,ho⟩:=h.obj;rcases hb with rfl|rfl|rfl|hb|⟨hs,rfl⟩|hb
 .exact⟨_,ho⟩
 .exact⟨_,h.tbl⟩
 .exact⟨_,h.row0.lst⟩
 .obtain⟨_,_,_,_,q⟩:=h.row0.has hb;exact⟨_,q⟩
 .have r1:=h.row1;cases e:st.nxt with
  |none=>rw[e]at hs;cases hs
  |some m=>rw[e]at r1;exact⟨_,r1.lst⟩
 .have r1:=h.row1;cases e:st.nxt with
  |none=>rw[e]at r1;rw[r1.1]at hb;cases hb
  |some m=>rw[e]at r1;obtain⟨_,_,_,_,q⟩:=r1.has hb;exact⟨_,q⟩
def P6.at (h:P6 t H a st d) {kv:List (Int×V)} (G:IsCell d st k c kv):H c=some (.dK<|aB kv)/\Pf a st d c/\(kv.map (·.1)).Nodup:=by
 rcases G with⟨_,z,e2⟩|⟨m,I,_,z,e2⟩
 .exact⟨h.row0.cell _ _ _ z e2,.inr<|.inr<|.inr<|.inl<|Q1 z,h.row0.ndk _ _ e2⟩
 .have r1:=h.row1;rw[I]at r1;exact⟨r1.cell _ _ _ z e2,.inr<|.inr<|.inr<|.inr<|.inr<|Q1 z,r1.ndk _ _ e2⟩
def uu (z:4<=m):0<=k%65536%m/\k%65536%m<m/\((k%65536%m).toNat:Int)=k%65536%m:=by
 have h1:=Qf (k%65536) (show m≠0 by lia);have h2:=Qc (k%65536) (show 0<m by lia);exact⟨h1,h2,Xi h1⟩
def dX {l:List α} {z:Int} (G:0<=z) (h1:z<(l.length:Int)):∃x,l[z.toNat]?=some x:=⟨l[z.toNat]'(),Q3 ()⟩
def P6.cell (h:P6 t H a st d) (z:OT st) (k:Int):∃c kv,IsCell d st k c kv:=by
 obtain⟨s4,_⟩:=bY z.pw;obtain⟨I,O,m2⟩:=uu (k:=k) s4;by_cases c:st.moved<=k%65536%st.size
 .obtain⟨x,G⟩:=dX (l:=d.A0) I (by rwa[h.row0.la]);obtain⟨y,e2⟩:=dX (l:=d.C0) I (by rwa[h.row0.lc]);exact⟨x,y,.inl ⟨c,G,e2⟩⟩
 .cases e:st.nxt with
  |none=>
   exfalso;have:st.moved=0:=by unfold O8.moved;rw[e]
   lia
  |some m=>
   obtain⟨Z,_⟩:=z.nx m e;obtain⟨s5,_⟩:=bY Z;obtain⟨U,Y,n2⟩:=uu (k:=k) s5;have r1:=h.row1;rw[e]at r1;obtain⟨x,G⟩:=dX (l:=d.A1) U (by rwa[r1.la]);obtain⟨y,e2⟩:=dX (l:=d.C1) U (by rwa[r1.lc]);exact⟨x,y,.inr ⟨m,e,(),G,e2⟩⟩
def IsCell.uniq {U:Addr} {kv:List (Int×V)} (x:IsCell d st k c kv) (y:IsCell d st k U kv'):c=U/\kv=kv':=by
 rcases x with⟨Y,O,e2⟩|⟨m,Z,Y,O,e2⟩<;>rcases y with⟨g0,z,G⟩|⟨m',I,g0,z,G⟩
 .rw[O]at z;rw[e2]at G;cases z;cases G;exact⟨M,M⟩
 .lia
 .lia
 .rw[Z]at I;cases I;rw[O]at z;rw[e2]at G;cases z;cases G;exact⟨M,M⟩
def P6.setN (h:P6 t H a st d) {n:Int}:P6 t (upd H a<|.ins t.aY dx<|Pl d.tb st.moved n) a st {d with n:=n}:=by
 obtain⟨I,ho⟩:=h.obj;have G:d.tb≠a:=cQ h.tbl ho (by intro z;cases z);refine⟨⟨dx,ag⟩,by show upd H a _ d.tb=_;rw[af G];exact h.tbl,h.row0.frame λb hb=>af ?_,?_,h.dis,h.tr,h.tr1,h.old,h.new,h.val⟩
 .rcases hb with rfl|hb
  .exact cQ h.row0.lst ho<|by intro z;cases z
  .exact h.row0.notr hb ho<|λ_ z=>by cases z
 .have r1:=h.row1;cases e:st.nxt with
  |none=>rw[e]at r1;exact r1
  |some m=>
   rw[e]at r1;refine ON.frame (H:=H) r1 λb hb=>af ?_;rcases hb with rfl|hb
   .exact cQ r1.lst ho<|by intro z;cases z
   .exact r1.notr hb ho<|λ_ z=>by cases z
def P6.setCell (h:P6 t H a st d) (z:OT st) {kv kvs:List (Int×V)} (ic:IsCell d st k c kv) (nd:(kv'.map (·.1)).Nodup) (hm:∀p∈kv',p∈kv\/p.1=k)
  (hk:aG kv' k=aG kvs k) (ho:∀j,j≠k->aG kv' j=aG kv j/\aG kvs j=aG st.kv j):
  ∃d',P6 t (upd H c<|.dK<|aB kv') a {st with kv:=kvs} d'/\d'.n=d.n/\∀b,Pf a {st with kv:=kvs} d' b↔Pf a st d b:=by
 obtain⟨hc,hf,_⟩:=h.at ic;obtain⟨dx,a1⟩:=h.obj;obtain⟨s4,_⟩:=bY z.pw;obtain⟨m0,m1,m2⟩:=uu (k:=k) s4;have na:a≠c:=cQ a1 hc (by intro z;cases z);have nt:d.tb≠c:=cQ h.tbl hc (by intro z;cases z);have nr:d.r0≠c:=cQ h.row0.lst hc (by intro z;cases z);have a0:∀(d':RC) (j:Int) (b:Addr) (x:List (Int×V)),IsCell d' {st with kv:=kvs} j b x->(∀y,IsCell d st j b y->(x=y/\b≠c)\/(x=kv'/\y=kv))->(∃y,IsCell d st j b y)->aG x j=aG kvs j:=λd' j b x hx f ⟨y,hy⟩=>by
  by_cases e:j=k
  .subst e;obtain⟨rfl,rfl⟩:=IsCell.uniq hy ic;rcases f y hy with⟨_,z⟩|⟨rfl,_⟩
   .exact Vt M z
   .exact hk
  .rw[(ho j e).2];rcases f y hy with⟨rfl,_⟩|⟨rfl,rfl⟩
   .exact h.val j b x hy
   .rw[(ho j e).1];exact h.val j b y hy
 rcases ic with⟨h0,e1,e2⟩|⟨m,em,h0,e1,e2⟩
 .have Y:c∈d.A0:=Q1 e1;have Z:∀p∈kv',p.1%65536%st.size=((k%65536%st.size).toNat:Int):=λp hp=>by
   rcases hm p hp with q|q
   .exact h.row0.home _ _ e2 p q
   .rw[q,m2]
  refine⟨{d with C0:=d.C0.set (k%65536%st.size).toNat kv'},⟨⟨dx,by rwa[af na]⟩,by show upd H c _ d.tb=_;rw[af nt];exact h.tbl,h.row0.set e1 nd Z,?_,h.dis,h.tr,h.tr1,λj x e lt=>?_,h.new,λj b x hx=>?_⟩,M,λb=>Iff.rfl⟩
  .have r1:=h.row1;show match st.nxt with|none=>_|some m=>_
   cases e:st.nxt with
   |none=>rw[e]at r1;exact r1
   |some m=>
    rw[e]at r1;refine ON.frame (H:=H) r1 λb hb=>af ?_;rcases hb with rfl|hb
    .exact cQ r1.lst hc<|by intro z;cases z
    .exact λy=>h.dis c Y (y▸hb)
  .have e:(d.C0.set (k%65536%st.size).toNat kv')[j]?=some x:=e;have lt:(j:Int)<st.moved:=lt;rw[QA]at e;by_cases q:(k%65536%st.size).toNat=j
   .exfalso;lia
   .rw[Vo q]at e;exact h.old j x e lt
  .refine a0 _ j b x hx (λy hy=>?_) ?_
   .rcases hx with⟨U,G,O⟩|⟨m',I,U,G,O⟩
    .have O:(d.C0.set (k%65536%st.size).toNat kv')[(j%65536%st.size).toNat]?=some x:=O;have G:d.A0[(j%65536%st.size).toNat]?=some b:=G;have U:st.moved<=j%65536%st.size:=U;rcases hy with⟨_,y1,y2⟩|⟨_,_,y0,_,_⟩
     .rw[QA]at O;by_cases q:(k%65536%st.size).toNat=(j%65536%st.size).toNat
      .rw[Vp q]at O;split at O
       .cases O;rw[<-q,e2]at y2;cases y2;exact .inr ⟨M,M⟩
       .cases O
      .rw[Vo q,y2]at O;cases O;exact .inl ⟨M,λw=>q<|h.row0.inj _ _ c e1 (by rwa[<-w])⟩
     .lia
    .have G:d.A1[(j%65536%m').toNat]?=some b:=G;have O:d.C1[(j%65536%m').toNat]?=some x:=O;have U:j%65536%st.size<st.moved:=U;have I:st.nxt=some m':=I;rcases hy with⟨y0,_,_⟩|⟨m2,e3,y0,y1,y2⟩
     .lia
     .rw[I]at e3;cases e3;rw[O]at y2;cases y2;exact .inl ⟨M,λw=>h.dis c Y<|w▸Q1 G⟩
   .obtain⟨b',y,hy⟩:=h.cell z j;have:b'=b:=by
     rcases hx with⟨U,G,O⟩|⟨m',I,U,G,O⟩<;>rcases hy with⟨y0,y1,y2⟩|⟨m3,e3,y0,y1,y2⟩
     .have G:d.A0[(j%65536%st.size).toNat]?=some b:=G;rw[y1]at G;exact Vq G
     .have U:st.moved<=j%65536%st.size:=U;lia
     .have U:j%65536%st.size<st.moved:=U;lia
     .have I:st.nxt=some m':=I;rw[I]at e3;cases e3;have G:d.A1[(j%65536%m').toNat]?=some b:=G;rw[y1]at G;exact Vq G
    subst this;exact⟨y,hy⟩
 .have r1:=h.row1;rw[em]at r1;have Y:c∈d.A1:=Q1 e1;obtain⟨pm,_⟩:=z.nx m em;obtain⟨s5,_⟩:=bY pm;obtain⟨n0,n1,n2⟩:=uu (k:=k) s5;have Z:∀p∈kv',p.1%65536%m=((k%65536%m).toNat:Int):=λp hp=>by
   rcases hm p hp with q|q
   .exact r1.home _ _ e2 p q
   .rw[q,n2]
  refine⟨{d with C1:=d.C1.set (k%65536%m).toNat kv'},⟨⟨dx,by rwa[af na]⟩,by show upd H c _ d.tb=_;rw[af nt];exact h.tbl,h.row0.frame λb hb=>af ?_,?_,h.dis,h.tr,h.tr1,h.old,λj x e p hp=>?_,λj b x hx=>?_⟩,M,λb=>Iff.rfl⟩
  .rcases hb with rfl|hb
   .exact nr
   .exact λy=>h.dis b hb (y▸Y)
  .show match st.nxt with|none=>_|some m=>_
   rw[em];exact r1.set e1 nd Z
  .have e:(d.C1.set (k%65536%m).toNat kv')[j]?=some x:=e;show p.1%65536%st.size<st.moved;rw[QA]at e;by_cases q:(k%65536%m).toNat=j
   .rw[Vp q]at e;split at e
    .cases e;rcases hm p hp with q|q
     .exact h.new _ _ e2 p q
     .rwa[q]
    .cases e
   .rw[Vo q]at e;exact h.new j x e p hp
  .refine a0 _ j b x hx (λy hy=>?_) ?_
   .rcases hx with⟨U,G,O⟩|⟨m',I,U,G,O⟩
    .have G:d.A0[(j%65536%st.size).toNat]?=some b:=G;have O:d.C0[(j%65536%st.size).toNat]?=some x:=O;have U:st.moved<=j%65536%st.size:=U;rcases hy with⟨_,y1,y2⟩|⟨_,_,y0,_,_⟩
     .rw[O]at y2;cases y2;exact .inl ⟨M,λw=>h.dis b (Q1 G)<|w▸Y⟩
     .lia
    .have I:st.nxt=some m':=I;rw[em]at I;cases I;have O:(d.C1.set (k%65536%m).toNat kv')[(j%65536%m).toNat]?=some x:=O;have G:d.A1[(j%65536%m).toNat]?=some b:=G;have U:j%65536%st.size<st.moved:=U;rcases hy with⟨y0,_,_⟩|⟨m2,e3,y0,y1,y2⟩
     .lia
     .rw[em]at e3;cases e3;rw[QA]at O;by_cases q:(k%65536%m).toNat=(j%65536%m).toNat
      .rw[Vp q]at O;split at O
       .cases O;rw[<-q,e2]at y2;cases y2;exact .inr ⟨M,M⟩
       .cases O
      .rw[Vo q,y2]at O;cases O;exact .inl ⟨M,λw=>q<|r1.inj _ _ c e1 (by rwa[<-w])⟩
   .obtain⟨b',y,hy⟩:=h.cell z j;have:b'=b:=by
     rcases hx with⟨U,G,O⟩|⟨m',I,U,G,O⟩<;>rcases hy with⟨y0,y1,y2⟩|⟨m3,e3,y0,y1,y2⟩
     .have G:d.A0[(j%65536%st.size).toNat]?=some b:=G;rw[y1]at G;exact Vq G
     .have U:st.moved<=j%65536%st.size:=U;lia
     .have U:j%65536%st.size<st.moved:=U;lia
     .have I:st.nxt=some m':=I;rw[I]at e3;cases e3;have G:d.A1[(j%65536%m').toNat]?=some b:=G;rw[y1]at G;exact Vq G
    subst this;exact⟨y,hy⟩
end
def xA {kv:List (Int×V)} {p:Int×V} (h:p∈bi kv k v):p∈kv\/p.1=k:=by
 unfold bi at h;split at h
 .obtain⟨q,hq,e⟩:=Q9.mp h;by_cases z:q.1=k
  .rw[Vp z]at e;rw[<-e];exact .inr z
  .rw[Vo z]at e;rw[<-e];exact .inl hq
 .rcases Q5.mp h with h|h
  .exact .inl h
  .rw[Q7.mp h];exact .inr M
def KF {kv:List (Int×V)} {p:Int×V} (h:p∈kv):(aG kv p.1).isSome=true:=O0.mp (Q9.mpr ⟨p,h,M⟩)
def g8 (m:Int) (C:List (List<|Int×V)) (p:Int×V):List (List<|Int×V):=C.set (p.1%65536%m).toNat (bi (C.getD (p.1%65536%m).toNat []) p.1 p.2)
def HK {C:List (List<|Int×V)} {p:Int×V}:(g8 m C p).length=C.length:=QO
def EN {m:Int}:∀{kv:List (Int×V)} {C:List (List<|Int×V)},(kv.foldl (g8 m) C).length=C.length
 | [],_=>rfl
 |p::r,C=>by rw[List.foldl_cons,EN,HK]
def Cp {C:List (List<|Int×V)} {p:Int×V} {y:List (Int×V)} (e:C[j]?=some y):(g8 m C p)[j]?=some (if(p.1%65536%m).toNat=j then bi y p.1 p.2 else y):=by
 unfold g8;rw[QA];by_cases z:(p.1%65536%m).toNat=j
 .have G:j<C.length:=(Q2.mp e).1;rw[Vp z,Vp z,Vp (by rwa[z]),Qk,z,e];rfl
 .rw[Vo z,Vo z,e]
def A9 {m:Int}:∀{kv:List (Int×V)} {C:List (List<|Int×V)} {j:Nat} {y:List (Int×V)},(kv.map (·.1)).Nodup->C[j]?=some y->∃x,(kv.foldl (g8 m) C)[j]?=some x/\
  (∀p∈x,p∈y\/p.1∈kv.map (·.1))/\∀k,aG x k=if(k%65536%m).toNat=j then(aG kv k).or (aG y k)else aG y k
 | [],C,j,y,_,e=>⟨y,e,λp G=> .inl G,λk=>by rw[kB];simp⟩
 |p::r,C,j,y,nd,e=>by
  obtain⟨I,O⟩:=QQ.mp (show(p.1::r.map (·.1)).Nodup from nd);obtain⟨x,h1,h2,U⟩:=A9 (m:=m) O (Cp (m:=m) (p:=p) e);refine⟨x,h1,λq hq=>?_,λk=>?_⟩
  .rcases h2 q hq with z|z
   .split at z
    .rcases xA z with z|z
     .exact .inl z
     .exact .inr<|Q9.mpr ⟨p,Qb,z.symm⟩
    .exact .inl z
   .exact .inr<|Qd _ z
  .rw[U k];by_cases z:(k%65536%m).toNat=j
   .rw[Vp z,Vp z];by_cases w:p.1=k
    .subst w;have:aG r p.1=none:=by
      cases q:aG r p.1 with
      |none=>rfl
      |some v=>exact Vt (vR q) I
     rw[this,br M,Vp z,eC,Vp M];rfl
    .rw[bn w];congr 1;split
     .rw[eC,Vo (Ne.symm w)]
     .rfl
   .rw[Vo z,Vo z];split
    .rename_i w
     rw[eC,Vo (λy=>z<|by rwa[y])]
    .rfl
def ON.mov {C:List (List<|Int×V)} {sz:Int} {y:List (Int×V)} (h:ON H r A C sz) (s4:4<=sz) (I:A[(k%65536%sz).toNat]?=some c) (G:C[(k%65536%sz).toNat]?=some y):
  ON (upd H c<|.dK<|aB<|bi y k v) r A (g8 sz C (k,v)) sz:=by
 have e:g8 sz C (k,v)=C.set (k%65536%sz).toNat (bi y k v):=by
  unfold g8;rw[Qk];show C.set (k%65536%sz).toNat (bi (C[(k%65536%sz).toNat]?.getD []) k v)=_;rw[G];rfl
 rw[e];obtain⟨Y,Z,O⟩:=uu (k:=k) s4;refine h.set I (xq<|h.ndk _ _ G) λp U=>?_;rcases xA U with z|z
 .exact h.home _ _ G p z
 .rw[z,O]
section
variable {d:RC}
def O8.moved_some (e:st.nxt=some m):st.moved=st.mv:=by unfold O8.moved;rw[e]
def O8.moved_none (e:st.nxt=none):st.moved=0:=by unfold O8.moved;rw[e]
def P6.movVal (h:P6 t H a st d) (z:OT st) (G:st.nxt=some m) {kv:List (Int×V)} (I:d.C0[st.mv.toNat]?=some kv) (hk:k%65536%st.size<=st.mv) {x:List (Int×V)}
  (ex:(kv.foldl (g8 m) d.C1)[(k%65536%m).toNat]?=some x):aG x k=aG st.kv k:=by
 obtain⟨pm,v0,v1,_⟩:=z.nx m G;obtain⟨s4,_⟩:=bY z.pw;obtain⟨s5,_⟩:=bY pm;have r1:=h.row1;rw[G]at r1;obtain⟨n0,n1,n2⟩:=uu (k:=k) s5;obtain⟨m0,m1,m2⟩:=uu (k:=k) s4;obtain⟨y,O⟩:=dX (l:=d.C1) n0 (by rwa[r1.lc]);obtain⟨c1,U⟩:=dX (l:=d.A1) n0 (by rwa[r1.la]);obtain⟨x',e',_,hv⟩:=A9 (m:=m) (h.row0.ndk _ _ I) O;rw[ex]at e';cases e';rw[hv k,Vp M];have hm:=O8.moved_some G;by_cases c:k%65536%st.size=st.mv
 .obtain⟨b0,Y⟩:=dX (l:=d.A0) m0 (by rwa[h.row0.la]);have Z:IsCell d st k b0 kv:= .inl ⟨(),Y,by rw[c];exact I⟩;have yn:aG y k=none:=by
   cases q:aG y k with
   |none=>rfl
   |some v=>
    obtain⟨p,hp,e⟩:=Q9.mp (vR q);have:=h.new _ _ O p hp;rw[e]at this;lia
  rw[h.val k b0 kv Z,yn];simp
 .have Z:IsCell d st k c1 y:= .inr ⟨m,G,(),U,O⟩;have kn:aG kv k=none:=by
   cases q:aG kv k with
   |none=>rfl
   |some v=>
    obtain⟨p,hp,e⟩:=Q9.mp (vR q);have:=h.row0.home _ _ I p hp;rw[e]at this;lia
  rw[kn,h.val k c1 y Z];rfl
def eI {l:List α} {x y:α} (e:(l.set i x)[j]?=some y):(i=j/\y=x)\/(i≠j/\l[j]?=some y):=by
 rw[QA]at e;by_cases z:i=j
 .rw[Vp z]at e;split at e
  .cases e;exact .inl ⟨z,M⟩
  .cases e
 .rw[Vo z]at e;exact .inr ⟨z,e⟩
def P6.one (h:P6 t H a st d) (z:OT st) (Y:st.nxt=some m) {kv:List (Int×V)} (ek:d.C0[st.mv.toNat]?=some kv) {b':Addr} (nl:st.mv+1≠st.size)
  (ha:H' a=some (.ins t.aY dx<|Pl d.tb (st.mv+1) d.n)) (ht:H' d.tb=H d.tb) (h0:H' d.r0=some (.lst<|(d.A0.set st.mv.toNat b').map V.ref)) (hb:H' b'=some (.dK [])) (hF:¬Pf a st d b')
  (hA:∀(j:Nat) b,d.A0[j]?=some b->j≠st.mv.toNat->H' b=H b) (hr:ON H' d.r1 d.A1 (kv.foldl (g8 m) d.C1) m):
  P6 t H' a st.one {d with A0:=d.A0.set st.mv.toNat b',C0:=d.C0.set st.mv.toNat [],C1:=kv.foldl (g8 m) d.C1}:=by
 obtain⟨pm,v0,v1,_⟩:=z.nx m Y;have a1:st.one={st with mv:=st.mv+1}:=by unfold O8.one;rw[Y];exact Vo nl
 have G:({st with mv:=st.mv+1}:O8).moved=st.mv+1:=O8.moved_some (st:={st with mv:=st.mv+1}) Y;have hm:=O8.moved_some Y;have a2:b'∉d.A0:=λq=>hF (.inr<|.inr<|.inr<|.inl q);have a3:b'∉d.A1:=λq=>hF (.inr<|.inr<|.inr<|.inr<|.inr q);rw[a1];have r1:=h.row1;rw[Y]at r1;refine⟨⟨dx,by rwa[G]⟩,by rw[ht];exact h.tbl,⟨h0,by rw[QO];exact h.row0.la,by rw[QO];exact h.row0.lc,λj b x Z e2=>?_,λj x e=>?_,λi j b Z e2=>?_,λj x e p hp=>?_⟩,?_,λb a4 hb1=>?_,h.tr,h.tr1,λj x e lt=>?_,λj x e p hp=>?_,λk c x ic=>?_⟩
 .rcases eI Z with⟨q,rfl⟩|⟨q,Z⟩
  .rcases eI e2 with⟨_,rfl⟩|⟨q2,_⟩
   .exact hb
   .exact Vt q q2
  .rcases eI e2 with⟨q2,_⟩|⟨_,e2⟩
   .exact Vt q2 q
   .rw[hA j b Z (Ne.symm q)];exact h.row0.cell j b x Z e2
 .rcases eI e with⟨_,rfl⟩|⟨_,e⟩
  .exact Z0
  .exact h.row0.ndk j x e
 .have Z:(d.A0.set st.mv.toNat b')[i]?=some b:=Z;have e2:(d.A0.set st.mv.toNat b')[j]?=some b:=e2;rcases eI Z with⟨q,y1⟩|⟨q,O⟩<;>rcases eI e2 with⟨q2,y2⟩|⟨q2,I⟩
  .exact q.symm.trans q2
  .rw[y1]at I;exact Vt (Q1 I) a2
  .rw[y2]at O;exact Vt (Q1 O) a2
  .exact h.row0.inj i j b O I
 .rcases eI e with⟨_,rfl⟩|⟨_,e⟩
  .cases hp
  .exact h.row0.home j x e p hp
 .show match st.nxt with|none=>_|some m=>_
  rwa[Y]
 .obtain⟨j,hj,e⟩:=QF (show b∈d.A0.set st.mv.toNat b' from a4);rcases eI (Q2.mpr ⟨hj,e⟩)with⟨_,rfl⟩|⟨_,e⟩
  .exact a3 hb1
  .exact h.dis b (Q1 e) hb1
 .rw[G]at lt;rcases eI e with⟨_,rfl⟩|⟨q,e⟩
  .rfl
  .exact h.old j x e ()
 .rw[G];show p.1%65536%st.size<st.mv+1;obtain⟨y,ey⟩:∃y,d.C1[j]?=some y:=by
   have hj:j<(kv.foldl (g8 m) d.C1).length:=(Q2.mp e).1;rw[EN]at hj;exact⟨_,Q3 hj⟩
  obtain⟨x',e',a0,_⟩:=A9 (m:=m) (h.row0.ndk _ _ ek) ey;have e:(kv.foldl (g8 m) d.C1)[j]?=some x:=e;rw[e]at e';cases e';rcases a0 p hp with q|q
  .have:=h.new j y ey p q;lia
  .obtain⟨p',a0,e3⟩:=Q9.mp q;have:=h.row0.home _ _ ek p' a0;rw[e3]at this;lia
 .show aG x k=aG st.kv k;rcases ic with⟨g0,O,I⟩|⟨m',U,g0,O,I⟩
  .rw[G]at g0;have g0:st.mv+1<=k%65536%st.size:=g0;have O:(d.A0.set st.mv.toNat b')[(k%65536%st.size).toNat]?=some c:=O;have I:(d.C0.set st.mv.toNat [])[(k%65536%st.size).toNat]?=some x:=I;rcases eI O with⟨q,_⟩|⟨_,O⟩
   .lia
   .rcases eI I with⟨q,_⟩|⟨_,I⟩
    .lia
    .exact h.val k c x<|.inl ⟨(),O,I⟩
  .rw[G]at g0;have U:st.nxt=some m':=U;rw[Y]at U;cases U;have g0:k%65536%st.size<st.mv+1:=g0;exact h.movVal z Y ek () I
def P6.last (h:P6 t H a st d) (z:OT st) (U:st.nxt=some m) {kv:List (Int×V)} (Y:d.C0[st.mv.toNat]?=some kv) {tb':Addr} (l:st.mv+1=st.size)
  (ha:H' a=some (.ins t.aY dx<|Pl tb' 0 d.n)) (Z:H' tb'=some (.lst [.ref d.r1])) (hn:tb'≠d.r1) (hr:ON H' d.r1 d.A1 (kv.foldl (g8 m) d.C1) m):
  P6 t H' a st.one ⟨tb',d.r1,d.r1,d.A1,[],kv.foldl (g8 m) d.C1,[],d.n⟩:=by
 have G:st.one={st with size:=m,nxt:=none,mv:=0}:=by unfold O8.one;rw[U];exact Vp l
 obtain⟨s4,_⟩:=bY z.pw;rw[G];refine⟨⟨dx,ha⟩,Z,hr,⟨M,M⟩,(λb _ q=>by cases q),hn,(λq=>by cases q),λj x e lt=>?_,(λj x e=>by simp at e),λk c x ic=>?_⟩
 .have lt:(j:Int)<0:=lt;lia
 .rcases ic with⟨g0,f1,I⟩|⟨m',O,_⟩
  .have I:(kv.foldl (g8 m) d.C1)[(k%65536%m).toNat]?=some x:=I;obtain⟨m0,m1,m2⟩:=uu (k:=k) s4;exact h.movVal z U Y () I
  .cases O
def P6.begin (h:P6 t H a st d) (Y:st.nxt=none) (ha:H' a=H a) (Z:H' d.tb=some (.lst [.ref d.r0,.ref r])) (h0:∀b,b=d.r0\/b∈d.A0->H' b=H b)
  (hr:ON H' r A (List.replicate m.toNat []) m) (nr:¬Pf a st d r) (nA:∀b∈A,¬Pf a st d b):P6 t H' a {st with nxt:=some m,mv:=0} {d with r1:=r,A1:=A,C1:=List.replicate m.toNat []}:=by
 obtain⟨dx,ho⟩:=h.obj;have O:=O8.moved_none Y;refine⟨⟨dx,by rw[ha];rw[O]at ho;exact ho⟩,Z,h.row0.frame h0,hr,λb q q2=>nA b q2<|.inr<|.inr<|.inr<|.inl q,h.tr,λ_=>⟨λq=>nr<|.inr<|.inl q.symm,λq=>nr<|.inr (.inr<|.inl q.symm)⟩,λj x e lt=>?_,λj x e p hp=>?_,λk c x ic=>?_⟩
 .have lt:(j:Int)<0:=lt;lia
 .have:=Zz (Q1 e);subst this;cases hp
 .rcases ic with⟨G,U,I⟩|⟨m',a0,G,U,I⟩
  .refine h.val k c x<|.inl ⟨?_,U,I⟩;rwa[O]
  .have G:k%65536%st.size<0:=G;have I:(List.replicate m.toNat ([]:List (Int×V)))[(k%65536%m').toNat]?=some x:=I;have:0<=k%65536%st.size:=by
    have z:(0:Int)<=st.size:=by rw[<-h.row0.la];lia
    rcases Int.lt_or_eq_of_le z with q|q
    .exact Qf _ ()
    .rw[<-q,Int.emod_zero];exact Qf _ (_)
   lia
def P6.fresh (ha:H a=some (.ins t.aY dx<|Pl tb 0 0)) (I:H tb=some (.lst [.ref r])) (O:ON H r A (List.replicate 4 []) 4) (n:tb≠r):P6 t H a O8.new ⟨tb,r,r,A,[],List.replicate 4 [],[],0⟩:=by
 refine⟨⟨dx,ha⟩,I,O,⟨M,M⟩,(λb _ q=>by cases q),n,(λq=>by cases q),λj x e lt=>?_,(λj x e=>by simp at e),λk c x U=>?_⟩
 .have lt:(j:Int)<0:=lt;lia
 .rcases U with⟨Y,Z,z⟩|⟨m',G,_⟩
  .have z:(List.replicate 4 ([]:List (Int×V)))[(k%65536%4).toNat]?=some x:=z;have:=Zz (Q1 z);subst this;rfl
  .cases G
def P6.short (h:P6 t H a st d) (z:OT st) {kv:List (Int×V)} (ic:IsCell d st k c kv):kv.length<=st.kv.length:=by
 obtain⟨_,_,nd⟩:=h.at ic;have sub:∀x∈kv.map (·.1),x∈st.kv.map (·.1):=λx hx=>by
  obtain⟨p,I,e⟩:=Q9.mp hx;subst e;refine O0.mpr ?_;have hs:=KF I;have:∃O,IsCell d st p.1 O kv:=by
   rcases ic with⟨g0,U,G⟩|⟨m,Y,g0,U,G⟩
   .obtain⟨s4,_⟩:=bY z.pw;obtain⟨m0,m1,m2⟩:=uu (k:=k) s4;have e:=h.row0.home _ _ G p I;rw[m2]at e;exact⟨c,.inl ⟨by rwa[e],by rwa[e],by rwa[e]⟩⟩
   .obtain⟨pm,_⟩:=z.nx m Y;obtain⟨s5,_⟩:=bY pm;obtain⟨n0,n1,n2⟩:=uu (k:=k) s5;have r1:=h.row1;rw[Y]at r1;have e:=r1.home _ _ G p I;rw[n2]at e;exact⟨c,.inr ⟨m,Y,h.new _ _ G p I,by rwa[e],by rwa[e]⟩⟩
  obtain⟨O,Z⟩:=this;rwa[<-h.val p.1 O kv Z]
 have:=gO nd sub;rw[Q0,Q0]at this;exact this
end
def Co {m:Int}:∀{kv:List (Int×V)} {C:List (List<|Int×V)} {j:Nat} {x y:List (Int×V)},C[j]?=some y->(kv.foldl (g8 m) C)[j]?=some x->x.length<=y.length+kv.length
 | [],C,j,x,y,e,f=>by
  have f:C[j]?=some x:=f;rw[e]at f;cases f;exact Q4 _
 |p::r,C,j,x,y,e,f=>by
  have h:=Co (m:=m) (Cp (m:=m) (p:=p) e) f;have l:=bW y p.1 p.2;rw[Qo];split at h<;>lia
section
variable {d:RC}
def P6.short0 (h:P6 t H a st d) (z:OT st) {kv:List (Int×V)} (e:d.C0[j]?=some kv):kv.length<=st.kv.length:=by
 cases kv with
 |nil=>exact Qj _
 |cons p r=>
  have O:=h.row0.home j _ e p Qb;have U:¬(j:Int)<st.moved:=λq=>by have:=h.old j _ e q;cases this
  have G:(p.1%65536%st.size).toNat=j:=();have I:j<d.A0.length:=by
   have:=h.row0.la;have:=h.row0.lc;have:=(Q2.mp e).1;lia
  exact h.short z (k:=p.1) (c:=d.A0[j])<|.inl ⟨(),by rw[G];exact Q3 I,by rwa[G]⟩
def P6.short1 (h:P6 t H a st d) (z:OT st) (G:st.nxt=some m) {kv:List (Int×V)} (e:d.C1[j]?=some kv):kv.length<=st.kv.length:=by
 have r1:=h.row1;rw[G]at r1;cases kv with
 |nil=>exact Qj _
 |cons p r=>
  have Y:=r1.home j _ e p Qb;have O:=h.new j _ e p Qb;have I:(p.1%65536%m).toNat=j:=();have U:j<d.A1.length:=by
   have:=r1.la;have:=r1.lc;have:=(Q2.mp e).1;lia
  exact h.short z (k:=p.1) (c:=d.A1[j])<|.inr ⟨m,G,O,by rw[I];exact Q3 U,by rwa[I]⟩
end
def OT.new:OT O8.new:=⟨(_),λm e=>by cases e⟩
def OT.kv {kvs:List (Int×V)} (z:OT st):OT {st with kv:=kvs}:=⟨z.pw,z.nx⟩
def OT.one (z:OT st):OT st.one:=by
 unfold O8.one;cases e:st.nxt with
 |none=>exact z
 |some m=>
  obtain⟨G,O,U,I⟩:=z.nx m e;show OT (if _ then _ else _);split
  .exact⟨G,λm' q=>by cases q⟩
  .rename_i c
   refine⟨z.pw,λm' q=>?_⟩;have q:some m=some m':=q;cases q;exact⟨G,by show 0<=st.mv+1;lia,by show st.mv+1<st.size;lia,I⟩
def N9 {x:Int} (h:x∈([4,8,16,32,64,128,256]:List Int)) (c:x<256):2*x∈([4,8,16,32,64,128,256]:List Int):=by
 rcases nN h with rfl|rfl|rfl|rfl|rfl|rfl|rfl<;>first|decide|exact Vt c (_)
def LC {x:Int} (h:x∈([4,8,16,32,64,128,256]:List Int)) (c:4<x):x/2∈([4,8,16,32,64,128,256]:List Int)/\2*(x/2)=x:=by
 rcases nN h with rfl|rfl|rfl|rfl|rfl|rfl|rfl<;>first|decide|exact Vt c (_)
def LB {x:Int} (h:x∈([4,8,16,32,64,128,256]:List Int)):0<x:=by
 rcases nN h with rfl|rfl|rfl|rfl|rfl|rfl|rfl<;>decide
def OT.three (z:OT st):OT st.three:=by
 unfold O8.three;cases e:st.nxt with
 |some m=>exact z
 |none=>
  show OT (if _ then _ else _);split
  .rename_i c
   refine⟨z.pw,λm' q=>?_⟩;cases q;exact⟨N9 z.pw c.2,Zg _,LB z.pw,.inl M⟩
  .split
   .rename_i c
    refine⟨z.pw,λm' q=>?_⟩;cases q;exact⟨(LC z.pw c.2).1,Zg _,LB z.pw,.inr (LC z.pw c.2).2⟩
   .exact z
def PK (_K:JK) (t:OJ) (H:Hp) (a:Addr) (F:Addr->Prop) (st:O8):Prop:=
 ∃d,P6 t H a st d/\(∀b,F b↔Pf a st d b)/\d.n=(st.kv.length:Int)/\(st.kv.map (·.1)).Nodup/\OT st
def PK.ins (h:PK K t H a F st):∃dx fs,H a=some (.ins t.aY dx fs)/\∀m,NoM m->fs.lookup m=none:=by
 obtain⟨d,hb,_⟩:=h;obtain⟨dx,ho⟩:=hb.obj;exact⟨dx,_,ho,λm z=>Lz z⟩
def PK.dom (h:PK K t H a F st) (hb:F b):∃o,H b=some o:=by
 obtain⟨d,h1,h2,_⟩:=h;exact h1.dom<|(h2 b).mp hb
def PK.frame (h:PK K t H a F st) (f:∀b,F b->H' b=H b):PK K t H' a F st:=by
 obtain⟨d,h1,h2,z⟩:=h;exact⟨d,h1.frame λb hb=>f b<|(h2 b).mpr hb,h2,z⟩
def PK.same (h:PK K t H a F st) (s:Fa H H'):PK K t H' a F st:=h.frame λb hb=>by
 obtain⟨o,e⟩:=h.dom hb;rw[e];exact s b o e
def PK.out (h:PK K t H a F st) (e:H p=none):¬F p:=λz=>by
 obtain⟨o,q⟩:=h.dom z;rw[q]at e;cases e
def PK.upd (h:PK K t H a F st) (e:¬F p):PK K t (L2.upd H p o) a F st:=h.frame λb hb=>af λz=>e (z▸hb)
def PK.new (h:PK K t H a F st) (e:H p=none):PK K t (L2.upd H p o) a F st:=h.upd (h.out e)
def wq (K:JK) (t:OJ):Sp:=λvs H Q _=>∃(a dx:Addr),vs=[.ref a]/\H a=some (.ins t.aY dx [])/\H dx=some (.own a)/\∀H' F,PK K t H' a F O8.new->Fr (λb=>b=a\/b=dx) F H H'->Q .non H'
def yz (K:JK) (t:OJ):Sp:=λvs H Q _=>∃(a:Addr) (k i:Int) (F:Addr->Prop) (st:O8),vs=[.ref a,.int k,.int i]/\PK K t H a F st/\0<=k/\st.kv.length<4096/\
 ∀H' F',PK K t H' a F' (st.put k<|.int i)->Fr F F' H H'->Q .non H'
def wt (K:JK) (t:OJ):Sp:=λvs H Q E=>∃(a:Addr) (k:Int) (F:Addr->Prop) (st:O8),vs=[.ref a,.int k]/\PK K t H a F st/\0<=k/\
 ((aG st.kv k).isSome=true->st.kv.length<4096/\∀H' F',PK K t H' a F' (st.drop k)->Fr F F' H H'->Q .non H')/\(aG st.kv k=none->False)
def yB (K:JK) (t:OJ):Sp:=λvs H Q E=>∃(a:Addr) (k:Int) (F:Addr->Prop) (st:O8),vs=[.ref a,.int k]/\PK K t H a F st/\0<=k/\
 (∀v,aG st.kv k=some v->∀H' F',PK K t H' a F' st->Fr F F' H H'->Q v H')/\(aG st.kv k=none->False)
def yA (K:JK) (t:OJ):Sp:=λvs H Q _=>∃(a:Addr) (k:Int) (F:Addr->Prop) (st:O8),vs=[.ref a,.int k]/\PK K t H a F st/\0<=k/\
 ∀H' F',PK K t H' a F' st->Fr F F' H H'->Q (.bl (aG st.kv k).isSome) H'
def wn (K:JK) (t:OJ):Sp:=λvs H Q _=>∃(a:Addr) (F:Addr->Prop) (st:O8),vs=[.ref a]/\PK K t H a F st/\
 ∀H' F' l,PK K t H' a F' st->Fr F F' H H'->H l=none->¬F' l->H' l=some (.lst<|st.rows.map V.int)->Q (.ref l) H'
def dn (l:List Int):Prop:=l.Pairwise (· < ·)
structure P1 (ls:List (List Int)):Prop where
 ne:∀l∈ls,l≠[]
 le:∀l∈ls,l.length<=8
 nb:∀(i:Nat) (x y:List Int),ls[i]?=some x->ls[i+1]?=some y->5<=x.length+y.length
 up:dn ls.flatten
def P1.nil:P1 []:=⟨(λ_ h=>by cases h),(λ_ h=>by cases h),(λi x y e=>by simp at e),VJ⟩
def Nj (e:ls[i]?=some x):ls=ls.take i++x::ls.drop (i+1):=by
 obtain⟨h,e⟩:=Q2.mp e;rw[<-e,<-Zc h,QM]
def iA (e:ls[i]?=some x):ls.flatten=(ls.take i).flatten++(x++(ls.drop<|i+1).flatten):=by
 conv=>lhs;rw[Nj e]
 rw[Zl,Zi]
def Px {a b c:List Int}:dn (a++(b++c))↔dn a/\dn b/\dn c/\(∀x∈a,∀y∈b,x<y)/\(∀x∈a,∀y∈c,x<y)/\∀x∈b,∀y∈c,x<y:=by
 unfold dn;rw[Ql,Ql];constructor
 .rintro ⟨h1,⟨h2,I,O⟩,G⟩;exact⟨h1,h2,I,λx hx y hy=>G x hx y<|Xc _ hy,λx hx y hy=>G x hx y<|Qw _ hy,O⟩
 .rintro ⟨h1,h2,I,O,G,U⟩;refine⟨h1,⟨h2,I,U⟩,λx hx y hy=>?_⟩;rcases Q5.mp hy with z|z
  .exact O x hx y z
  .exact G x hx y z
structure PH (ls:List (List Int)) (k:Int) (i:Nat):Prop where
 le:i<=ls.length
 lo:∀(j:Nat) (x:List Int),j<i->ls[j]?=some x->∀y∈x,y<k
 hi:∀x,ls[i]?=some x->∃y∈x,k<=y
def BU {y:Int} (h:y∈(ls.take i).flatten):∃(j:Nat) (x:List Int),j<i/\ls[j]?=some x/\y∈x:=by
 obtain⟨x,hx,hy⟩:=V7.mp h;obtain⟨j,z,e⟩:=QF hx;rw[Q6]at z;rw[Zx]at e;exact⟨j,x,(),Q2.mpr ⟨(),e⟩,hy⟩
def PH.ahead (h:PH ls k i):∀y∈(ls.take i).flatten,y<k:=λy hy=>by
 obtain⟨j,x,z,e,hx⟩:=BU hy;exact h.lo j x z e y hx
def PH.behind (o:P1 ls) (h:PH ls k i):∀y∈(ls.drop<|i+1).flatten,k<y:=λy hy=>by
 cases e:ls[i]? with
 |none=>
  have:ls.length<=i:=Zu.mp e;rw[Zo ()]at hy;cases hy
 |some x=>
  obtain⟨z,hz,le⟩:=h.hi x e;have up:=o.up;rw[iA e]at up;have:=(Px.mp up).2.2.2.2.2 z hz y hy;lia
def PH.mem (o:P1 ls) (h:PH ls k i):k∈ls.flatten↔∃x,ls[i]?=some x/\k∈x:=by
 constructor
 .intro hk;cases e:ls[i]? with
  |none=>
   have l:ls.length<=i:=Zu.mp e;have:ls.take i=ls:=Qv l;have:=h.ahead k (by rwa[this]);lia
  |some x=>
   rw[iA e]at hk;rcases Q5.mp hk with z|z
   .have:=h.ahead k z;lia
   .rcases Q5.mp z with z|z
    .exact⟨x,M,z⟩
    .have:=h.behind o k z;lia
 .rintro ⟨x,e,hk⟩;exact V7.mpr ⟨x,Q1 e,hk⟩
def CP:∀{l:List Int} {k:Int},dn l->k∉l->(∀x∈l.take (l.filter<|λz=>decide (z<k)).length,x<k)/\∀x∈l.drop (l.filter<|λz=>decide (z<k)).length,k<x
 | [],k,_,_=>⟨λx h=>by simp at h,λx h=>by simp at h⟩
 |a::r,k,up,nk=>by
  obtain⟨h1,h2⟩:=Zd.mp up;have nr:k∉r:=λz=>nk (Qd _ z);have O:a≠k:=λz=>nk (by rw[z];exact Qb);by_cases c:a<k
  .obtain⟨G,I⟩:=CP h2 nr;rw[X7,Vp (by simpa using c),Qo,XO,List.drop_succ_cons];refine⟨λx hx=>?_,I⟩;rcases Qh.mp hx with rfl|hx
   .exact c
   .exact G x hx
  .have:(a::r).filter (λz=>decide (z<k))=[]:=by
    rw[ZZ];intro x hx;rcases Qh.mp hx with rfl|hx
    .simpa using c
    .have:=h1 x hx;simp;lia
   rw[this];refine⟨λx hx=>by simp at hx,λx hx=>?_⟩;have hx:x∈a::r:=by simpa using hx
   rcases Qh.mp hx with rfl|hx
   .lia
   .have:=h1 x hx;lia
noncomputable def gQ (l:List Int) (k:Int):List Int:=l.take (l.filter<|λz=>decide (z<k)).length++k::l.drop (l.filter<|λz=>decide (z<k)).length
def Iq {l:List Int}:(gQ l k).length=l.length+1:=by
 have h:=Qp (λz=>decide (z<k)) l;unfold gQ;rw[Q8,Qo,Q6,QH];lia
def R5 {l:List Int} {x:Int}:x∈gQ l k↔x=k\/x∈l:=by
 unfold gQ;rw[Q5,Qh];have:x∈l↔x∈l.take (l.filter<|λz=>decide (z<k)).length\/x∈l.drop (l.filter<|λz=>decide (z<k)).length:=by
  rw[<-Q5,QM]
 rw[this];constructor
 .rintro (h|h|h)
  .exact .inr<|.inl h
  .exact .inl h
  .exact .inr<|.inr h
 .rintro (h|h|h)
  .exact .inr<|.inl h
  .exact .inl h
  .exact .inr<|.inr h
def Gf {l:List Int} (up:dn l) (G:k∉l):dn (gQ l k):=by
 obtain⟨h1,h2⟩:=CP up G;have up':dn (l.take (l.filter<|λz=>decide (z<k)).length++l.drop (l.filter<|λz=>decide (z<k)).length):=by rwa[QM]
 obtain⟨I,O,U⟩:=Ql.mp up';unfold gQ;refine Ql.mpr ⟨I,Zd.mpr ⟨h2,O⟩,λx hx y hy=>?_⟩;rcases Qh.mp hy with rfl|hy
 .exact h1 x hx
 .exact U x hx y hy
structure Rf (ls:List (List Int)) (k:Int) (i:Nat) (x:List Int):Prop where
 at_:ls[i]?=some x
 lo:∀y∈(ls.take i).flatten,y<k
 hi:∀y∈(ls.drop<|i+1).flatten,k<y
def PH.add (o:P1 ls) (h:PH ls k i) (ne:ls≠[]):∃x,Rf ls k (min i<|ls.length-1) x:=by
 have hl:0<ls.length:=Za.mpr ne;by_cases c:i<ls.length
 .have:min i (ls.length-1)=i:=();rw[this];exact⟨ls[i],Q3 c,h.ahead,h.behind o⟩
 .have le:=h.le;have:min i (ls.length-1)=ls.length-1:=();rw[this];have z:ls.length-1<ls.length:=();refine⟨ls[ls.length-1],Q3 z,λy hy=>?_,λy hy=>?_⟩
  .obtain⟨j,x,G,e,hx⟩:=BU hy;exact h.lo j x () e y hx
  .rw[Zo ()]at hy;cases hy
def AI (e:ls[i]?=some x):ls.set i y=ls.take i++y::ls.drop (i+1):=by
 have hi:=(Q2.mp e).1;rw[List.set_eq_take_append_cons_drop,Vp hi]
def rH (e:ls[i]?=some x):(ls.set i y).flatten=(ls.take i).flatten++(y++(ls.drop<|i+1).flatten):=by
 rw[AI e,Zl,Zi]
def Rf.set (o:P1 ls) (h:Rf ls k i x) (G:k∉ls.flatten):dn (ls.set i<|gQ x k).flatten/\∀z,z∈(ls.set i<|gQ x k).flatten↔z=k\/z∈ls.flatten:=by
 have up:=o.up;rw[iA h.at_]at up G;obtain⟨I,O,U,Y,Z,u6⟩:=Px.mp up;have nx:k∉x:=λz=>G (Qw _<|Xc _ z);rw[rH h.at_,iA h.at_];refine⟨Px.mpr ⟨I,Gf O nx,U,λa ha b hb=>?_,Z,λa ha b hb=>?_⟩,λz=>?_⟩
 .rcases R5.mp hb with rfl|hb
  .exact h.lo a ha
  .exact Y a ha b hb
 .rcases R5.mp ha with rfl|ha
  .exact h.hi b hb
  .exact u6 a ha b hb
 .rw[Q5,Q5,Q5,Q5,R5];constructor
  .rintro (h|(h|h)|h)
   .exact .inr<|.inl h
   .exact .inl h
   .exact .inr<|.inr (.inl h)
   .exact .inr<|.inr (.inr h)
  .rintro (h|h|h|h)
   .exact .inr<|.inl (.inl h)
   .exact .inl h
   .exact .inr<|.inl (.inr h)
   .exact .inr<|.inr h
def sC {z:List Int} (e:ls[i]?=some x) (f:(ls.set i y)[j]?=some z):(i=j/\z=y)\/(i≠j/\ls[j]?=some z):=by
 rw[QA]at f;by_cases c:i=j
 .rw[Vp c]at f;split at f
  .cases f;exact .inl ⟨c,M⟩
  .cases f
 .rw[Vo c]at f;exact .inr ⟨c,f⟩
def vV {z:List Int} (e:ls[i]?=some x) (h:z∈ls.set i y):z=y\/z∈ls:=by
 obtain⟨j,G,I⟩:=QF h;rcases sC e (Q2.mpr ⟨G,I⟩)with⟨_,q⟩|⟨_,q⟩
 .exact .inl q
 .exact .inr<|Q1 q
def P1.grown (o:P1 ls) (e:ls[i]?=some x) (l1:x.length<=y.length) (O:y.length<=8) (up:dn (ls.set i y).flatten):P1 (ls.set i y):=by
 have hx:=o.ne x (Q1 e);have px:0<x.length:=Za.mpr hx;refine⟨λl hl=>?_,λl hl=>?_,λj a b f g=>?_,up⟩
 .rcases vV e hl with rfl|hl
  .exact Zv ()
  .exact o.ne l hl
 .rcases vV e hl with rfl|hl
  .exact O
  .exact o.le l hl
 .rcases sC e f with⟨c,h1⟩|⟨c,z⟩<;>rcases sC e g with⟨G,h2⟩|⟨G,I⟩
  .lia
  .subst c;have:=o.nb i x b e I;rw[h1];lia
  .rw[G]at e;have:=o.nb j a x z e;rw[h2];lia
  .exact o.nb j a b z I
def P1.parted {a b:List Int} (o:P1 ls) (e:ls[i]?=some x) (U:a.length=4) (Y:b.length=5) (up:dn (ls.set i<|a++b).flatten):
  P1 ((ls.set i a).take (i+1)++b::(ls.set i a).drop (i+1))/\((ls.set i a).take (i+1)++b::(ls.set i a).drop (i+1)).flatten=(ls.set i<|a++b).flatten:=by
 have hi:=(Q2.mp e).1;have lt:(ls.take i).length=i:=by rw[Q6];lia
 have O:(ls.set i a).take (i+1)++b::(ls.set i a).drop (i+1)=ls.take i++a::b::ls.drop (i+1):=by
  rw[AI (y:=a) e];have h1:(ls.take i++a::ls.drop (i+1)).take (i+1)=ls.take i++ [a]:=by
   rw[List.take_append,lt,Qv ()];have:i+1-i=1:=();rw[this];rfl
  have h2:(ls.take i++a::ls.drop (i+1)).drop (i+1)=ls.drop (i+1):=by
   rw[List.drop_append,lt,Zo ()];have:i+1-i=1:=();rw[this];rfl
  rw[h1,h2,Qm];rfl
 have e2:(ls.take i++a::b::ls.drop (i+1)).flatten=(ls.set i<|a++b).flatten:=by
  rw[rH e,Zl,Zi,Zi,Qm]
 rw[O];refine⟨⟨λl hl=>?_,λl hl=>?_,λj p q f g=>?_,by rwa[e2]⟩,e2⟩
 .rcases Q5.mp hl with h|h
  .exact o.ne l<|QC h
  .rcases Qh.mp h with rfl|h
   .exact Zv ()
   .rcases Qh.mp h with rfl|h
    .exact Zv ()
    .exact o.ne l<|Xe h
 .rcases Q5.mp hl with h|h
  .exact o.le l<|QC h
  .rcases Qh.mp h with rfl|h
   .lia
   .rcases Qh.mp h with rfl|h
    .lia
    .exact o.le l<|Xe h
 .have look:∀(j:Nat) (p:List Int),(ls.take i++a::b::ls.drop (i+1))[j]?=some p->(j<i/\ls[j]?=some p)\/(j=i/\p=a)\/(j=i+1/\p=b)\/(i+2<=j/\ls[j-1]?=some p):=λj p f=>by
   rw[XG,lt]at f;split at f
   .rename_i c
    rw[ZD,Vp c]at f;exact .inl ⟨c,f⟩
   .rename_i c
    rcases(show j=i\/j=i+1\/i+2<=j by lia)with rfl|rfl|h
    .have:j-j=0:=();rw[this]at f;cases f;exact .inr<|.inl ⟨M,M⟩
    .have:i+1-i=1:=();rw[this]at f;cases f;exact .inr<|.inr (.inl ⟨M,M⟩)
    .obtain⟨n,rfl⟩:∃n,j=i+2+n:=⟨j-(i+2),()⟩;have:i+2+n-i=n+1+1:=();rw[this,Xv,Xv,ZC]at f;refine .inr<|.inr (.inr ⟨h,?_⟩);have:i+2+n-1=i+1+n:=();rw[this];exact f
  have pos:∀(j:Nat) (p:List Int),ls[j]?=some p->1<=p.length:=λj p f=>Za.mpr (o.ne p<|Q1 f);rcases look j p f with⟨c,z⟩|⟨c,h1⟩|⟨c,h1⟩|⟨c,z⟩<;>rcases look (j+1) q g with⟨I,G⟩|⟨I,h2⟩|⟨I,h2⟩|⟨I,G⟩<;>(try rw[h1])<;>(try rw[h2])<;>(try lia)
  .exact o.nb j p q z G
  .have:=pos j p z;lia
  .have:j+1-1=j-1+1:=();rw[this]at G;exact o.nb (j-1) p q z G
def lvF (L:Addr):List (Str×V):=[("leaves",.ref L)]
def dh:(lvF L).lookup ("leaves":Str)=some (.ref L):=by
 have hb:(("leaves":Str)==("leaves":Str))=true:=VB.mpr M;unfold lvF;simp only[List.lookup,hb]
def LJ {m:Str} (h:m≠("leaves":Str)):(lvF L).lookup m=none:=by
 have hb:(m==("leaves":Str))=false:=VF.mpr h;unfold lvF;simp only[List.lookup,hb]
structure Pc (t:OJ) (H:Hp) (a L:Addr) (A:List Addr) (ls:List (List Int)):Prop where
 obj:∃dx,H a=some (.ins t.bH dx<|lvF L)
 lst:H L=some (.lst<|A.map V.ref)
 len:A.length=ls.length
 leaf:∀(j:Nat) (b:Addr) (l:List Int),A[j]?=some b->ls[j]?=some l->H b=some (.lst<|l.map V.int)
 inj:∀(i j:Nat) (b:Addr),A[i]?=some b->A[j]?=some b->i=j
 nL:L∉A
def Pt (a L:Addr) (A:List Addr):Addr->Prop:=λb=>b=a\/b=L\/b∈A
def Pc.at (h:Pc t H a L A ls) (e:ls[i]?=some x):∃c,A[i]?=some c/\H c=some (.lst<|x.map V.int):=by
 have hi:i<A.length:=by rw[h.len];exact(Q2.mp e).1
 exact⟨A[i],Q3 hi,h.leaf i _ x (Q3 hi) e⟩
def Pc.has (h:Pc t H a L A ls) (hb:b∈A):∃(j:Nat) (l:List Int),A[j]?=some b/\ls[j]?=some l/\H b=some (.lst<|l.map V.int):=by
 obtain⟨j,z,e⟩:=QF hb;have hc:j<ls.length:=by rwa[<-h.len]
 have G:A[j]?=some b:=by rw[Q3 z,e]
 exact⟨j,ls[j],G,Q3 hc,h.leaf j b _ G<|Q3 hc⟩
def Pc.frame (h:Pc t H a L A ls) (f:∀b,Pt a L A b->H' b=H b):Pc t H' a L A ls:=by
 obtain⟨dx,ho⟩:=h.obj;exact⟨⟨dx,by rwa[f a (.inl M)]⟩,by rw[f L (.inr<|.inl M)];exact h.lst,h.len,λj b l z e2=>by rw[f b (.inr<|.inr<|Q1 z)];exact h.leaf j b l z e2,h.inj,h.nL⟩
def Pc.dom (h:Pc t H a L A ls) (hb:Pt a L A b):∃o,H b=some o:=by
 obtain⟨dx,ho⟩:=h.obj;rcases hb with rfl|rfl|hb
 .exact⟨_,ho⟩
 .exact⟨_,h.lst⟩
 .obtain⟨_,_,_,_,q⟩:=h.has hb;exact⟨_,q⟩
def Pc.same (h:Pc t H a L A ls) (s:Fa H H'):Pc t H' a L A ls:=h.frame λb hb=>by
 obtain⟨o,e⟩:=h.dom hb;rw[e,s b o e]
def Pc.out (h:Pc t H a L A ls) (n:H p=none):¬Pt a L A p:=λz=>by
 obtain⟨o,e⟩:=h.dom z;rw[n]at e;cases e
def Pc.write (h:Pc t H a L A ls) (G:A[i]?=some c) (ex:ls[i]?=some x):Pc t (upd H c<|.lst<|y.map V.int) a L A (ls.set i y):=by
 obtain⟨dx,ho⟩:=h.obj;have hc:=h.leaf i c x G ex;have O:=Q1 G;refine⟨⟨dx,by rwa[af (cQ ho hc<|by intro z;cases z)]⟩,by rw[af (λz=>h.nL<|by rwa[z])];exact h.lst,by rw[QO];exact h.len,λj b l I e2=>?_,h.inj,h.nL⟩;rw[QA]at e2;by_cases z:i=j
 .subst z;rw[G]at I;cases I;rw[Vp M]at e2;split at e2
  .cases e2;exact ag
  .cases e2
 .rw[Vo z]at e2;rw[af (λy=>z<|h.inj i j c G<|by rw[<-y];exact I)];exact h.leaf j b l I e2
def Pc.swap (h:Pc t H a L A ls) {n:Addr} (Z:A[i]?=some c) (ex:ls[i]?=some x) (U:H n=some (.lst<|y.map V.int)) (I:¬Pt a L A n):Pc t (upd H L<|.lst<|(A.set i n).map V.ref) a L (A.set i n) (ls.set i y):=by
 obtain⟨dx,ho⟩:=h.obj;have nA:n∉A:=λz=>I (.inr<|.inr z);have O:n≠L:=λz=>I (.inr<|.inl z);refine⟨⟨dx,by rwa[af (cQ ho h.lst<|by intro z;cases z)]⟩,ag,by rw[QO,QO];exact h.len,λj b l G e2=>?_,λj k b G e2=>?_,λz=>?_⟩
 .rw[QA]at G e2;by_cases z:i=j
  .rw[Vp z]at G e2;split at G
   .cases G;split at e2
    .cases e2;rwa[af O]
    .cases e2
   .cases G
  .rw[Vo z]at G e2;rw[af (λy=>h.nL<|by rw[<-y];exact Q1 G)];exact h.leaf j b l G e2
 .rw[QA]at G e2;by_cases z:i=j
  .rw[Vp z]at G;split at G
   .cases G;by_cases w:i=k
    .exact z.symm.trans w
    .rw[Vo w]at e2;exact Vt (Q1 e2) nA
   .cases G
  .rw[Vo z]at G;by_cases w:i=k
   .rw[Vp w]at e2;split at e2
    .cases e2;exact Vt (Q1 G) nA
    .cases e2
   .rw[Vo w]at e2;exact h.inj j k b G e2
 .obtain⟨j,Y,e⟩:=QF z;have G:=Q2.mpr ⟨Y,e⟩;rw[QA]at G;by_cases w:i=j
  .rw[Vp w]at G;split at G
   .cases G;exact O M
   .cases G
  .rw[Vo w]at G;exact h.nL<|Q1 G
def PJ {l:List α} {x y:α} (hi:i<=l.length) (e:(l.take i++x::l.drop i)[j]?=some y):(j<i/\l[j]?=some y)\/(j=i/\y=x)\/(i<j/\l[j-1]?=some y):=by
 have lt:(l.take i).length=i:=by rw[Q6];lia
 rw[XG,lt]at e;split at e
 .rename_i c
  rw[ZD,Vp c]at e;exact .inl ⟨c,e⟩
 .rename_i c
  rcases(show j=i\/i<j by lia)with rfl|h
  .have:j-j=0:=();rw[this]at e;cases e;exact .inr<|.inl ⟨M,M⟩
  .obtain⟨n,rfl⟩:∃n,j=i+1+n:=⟨j-(i+1),()⟩;have:i+1+n-i=n+1:=();rw[this,Xv,ZC]at e;have:i+1+n-1=i+n:=();exact .inr<|.inr ⟨h,by rwa[this]⟩
def Pc.insert (h:Pc t H a L A ls) {n:Addr} (hi:i<=A.length) (hn:H n=some (.lst<|y.map V.int)) (Z:¬Pt a L A n):
  Pc t (upd H L<|.lst<|(A.take i++n::A.drop i).map V.ref) a L (A.take i++n::A.drop i) (ls.take i++y::ls.drop i):=by
 obtain⟨dx,ho⟩:=h.obj;have nA:n∉A:=λz=>Z (.inr<|.inr z);have nL:n≠L:=λz=>Z (.inr<|.inl z);have U:i<=ls.length:=by rwa[<-h.len]
 refine⟨⟨dx,by rwa[af (cQ ho h.lst<|by intro z;cases z)]⟩,ag,?_,λj b l Y e2=>?_,λj k b Y e2=>?_,λz=>?_⟩
 .have:=h.len;rw[Q8,Q8,Qo,Qo,Q6,Q6,QH,QH];lia
 .rcases PJ hi Y with⟨O,G⟩|⟨O,G⟩|⟨O,G⟩<;>rcases PJ U e2 with⟨c2,I⟩|⟨c2,I⟩|⟨c2,I⟩<;>(try lia)
  .rw[af (λy=>h.nL<|by rw[<-y];exact Q1 G)];exact h.leaf j b l G I
  .rwa[G,I,af nL]
  .rw[af (λy=>h.nL<|by rw[<-y];exact Q1 G)];exact h.leaf (j-1) b l G I
 .rcases PJ hi Y with⟨O,G⟩|⟨O,G⟩|⟨O,G⟩<;>rcases PJ hi e2 with⟨c2,I⟩|⟨c2,I⟩|⟨c2,I⟩
  .exact h.inj j k b G I
  .rw[I]at G;exact Vt (Q1 G) nA
  .have:=h.inj _ _ b G I;lia
  .rw[G]at I;exact Vt (Q1 I) nA
  .lia
  .rw[G]at I;exact Vt (Q1 I) nA
  .have:=h.inj _ _ b G I;lia
  .rw[I]at G;exact Vt (Q1 G) nA
  .have:=h.inj _ _ b G I;lia
 .rcases Q5.mp z with z|z
  .exact h.nL<|QC z
  .rcases Qh.mp z with z|z
   .exact nL z.symm
   .exact h.nL<|Xe z
def pF {l:List α} {y:α} (e:(l.eraseIdx i)[j]?=some y):(j<i/\l[j]?=some y)\/(i<=j/\l[j+1]?=some y):=by
 rw[List.getElem?_eraseIdx]at e;split at e
 .rename_i c;exact .inl ⟨c,e⟩
 .rename_i c;exact .inr ⟨(),e⟩
def Pc.erase (h:Pc t H a L A ls):Pc t (upd H L<|.lst<|(A.eraseIdx i).map V.ref) a L (A.eraseIdx i) (ls.eraseIdx i):=by
 obtain⟨dx,ho⟩:=h.obj;refine⟨⟨dx,by rwa[af (cQ ho h.lst<|by intro z;cases z)]⟩,ag,?_,λj b l O e2=>?_,λj k b O e2=>?_,λz=>h.nL<|Ze z⟩
 .rw[XH,XH,h.len]
 .have Y:b∈A:=Ze (Q1 O);rw[af (λy=>h.nL<|by rwa[<-y])];rcases pF O with⟨U,G⟩|⟨U,G⟩<;>rcases pF e2 with⟨c2,I⟩|⟨c2,I⟩<;>(try lia)
  .exact h.leaf j b l G I
  .exact h.leaf (j+1) b l G I
 .rcases pF O with⟨U,G⟩|⟨U,G⟩<;>rcases pF e2 with⟨c2,I⟩|⟨c2,I⟩
  .exact h.inj j k b G I
  .have:=h.inj _ _ b G I;lia
  .have:=h.inj _ _ b G I;lia
  .have:=h.inj _ _ b G I;lia
def zF (up:dn ls.flatten) (ex:ls[i]?=some x) (z:ls[j]?=some y) (h:i<j):∀p∈x,∀q∈y,p<q:=λp G q hq=>by
 rw[iA ex]at up;refine(Px.mp up).2.2.2.2.2 p G q<|V7.mpr ⟨y,?_,hq⟩;refine Q1 (i:=j-(i+1)) ?_;rw[ZC];have:i+1+(j-(i+1))=j:=();rwa[this]
def Kj (up:dn ls.flatten) (ex:ls[i]?=some x):dn x:=by
 rw[iA ex]at up;exact(Px.mp up).2.1
def Ii (up:dn x) (ne:x≠[]):∃m,x[x.length-1]?=some m/\m∈x/\∀y∈x,y<=m:=by
 have hl:=Za.mpr ne;have z:x.length-1<x.length:=();refine⟨x[x.length-1],Q3 z,Zq z,λy hy=>?_⟩;obtain⟨j,G,e⟩:=QF hy;rcases(show j=x.length-1\/j<x.length-1 by lia)with h|h
 .subst h;rw[e];exact Zg _
 .have:=QX.mp up j (x.length-1) G z h;rw[e]at this;lia
structure SL (ls:List (List Int)) (E:Nat->Prop):Prop where
 ne:∀l∈ls,l≠[]
 le:∀l∈ls,l.length<=8
 nb:∀(i:Nat) (x y:List Int),ls[i]?=some x->ls[i+1]?=some y->E i\/5<=x.length+y.length
 up:dn ls.flatten
def SL.ok {E:Nat->Prop} (h:SL ls E) (no:∀i,¬E i):P1 ls:=⟨h.ne,h.le,λi x y z e2=>(h.nb i x y z e2).resolve_left<|no i,h.up⟩
noncomputable def qa (ls:List (List Int)) (i:Nat):List (List Int):=match ls[i]?,ls[i+1]? with
 |some x,some y=>if x.length+y.length<5 then(ls.set i<|x++y).eraseIdx (i+1)else ls
 |_,_=>ls
def xH (h:ls.length<=i+1):qa ls i=ls:=by
 unfold qa;have:ls[i+1]?=none:=Zu.mpr h;rw[this];split
 .rename_i h2;cases h2
 .rfl
def CA (ex:ls[i]?=some x) (z:ls[i+1]?=some y):qa ls i=if x.length+y.length<5 then(ls.set i<|x++y).eraseIdx (i+1)else ls:=by
 unfold qa;rw[ex,z]
def Gd:(qa ls i).length<=ls.length/\ls.length<=(qa ls i).length+1:=by
 unfold qa;split
 .split
  .rw[XH,QO];split<;>lia
  .lia
 .lia
def xG {z v:List Int} (e:((ls.set i z).eraseIdx<|i+1)[j]?=some v):(j<i/\ls[j]?=some v)\/(j=i/\v=z)\/(i<j/\ls[j+1]?=some v):=by
 rw[List.getElem?_eraseIdx]at e;split at e
 .rename_i c
  rw[QA]at e;by_cases h:i=j
  .rw[Vp h]at e;split at e
   .cases e;exact .inr<|.inl ⟨h.symm,M⟩
   .cases e
  .rw[Vo h]at e;exact .inl ⟨(),e⟩
 .rename_i c
  rw[QA,Vo ()]at e;exact .inr<|.inr ⟨(),e⟩
def Gc (ex:ls[i]?=some x) (z:ls[i+1]?=some y):((ls.set i<|x++y).eraseIdx<|i+1).flatten=ls.flatten:=by
 have hi:=(Q2.mp ex).1;have lt:(ls.take i).length=i:=by rw[Q6];lia
 have hy:ls.drop (i+1)=y::ls.drop (i+2):=by
  obtain⟨h,e⟩:=Q2.mp z;rw[<-e,<-Zc h]
 have G:(ls.set i<|x++y).eraseIdx (i+1)=ls.take i++(x++y)::ls.drop (i+2):=by
  rw[AI ex,hy,XT (),lt];have:i+1-i=1:=();rw[this];rfl
 rw[G,iA ex,hy,Zl,Zi,Zi,Qm]
def SL.join {E:Nat->Prop} (h:SL ls E) (I:∀j,E j->j=i\/j+1=i):SL (qa ls i) (λj=>j+1=i/\E j)/\(qa ls i).flatten=ls.flatten:=by
 cases ex:ls[i]? with
 |none=>
  have hl:ls.length<=i:=Zu.mp ex;rw[xH ()];refine⟨⟨h.ne,h.le,λj x y G e2=>?_,h.up⟩,M⟩;rcases h.nb j x y G e2 with z|z
  .rcases I j z with rfl|w
   .rw[ex]at G;cases G
   .exact .inl ⟨w,z⟩
  .exact .inr z
 |some x=>
  cases O:ls[i+1]? with
  |none=>
   have hl:ls.length<=i+1:=Zu.mp O;rw[xH hl];refine⟨⟨h.ne,h.le,λj x' y G e2=>?_,h.up⟩,M⟩;rcases h.nb j x' y G e2 with z|z
   .rcases I j z with rfl|w
    .rw[O]at e2;cases e2
    .exact .inl ⟨w,z⟩
   .exact .inr z
  |some y=>
   rw[CA ex O];by_cases c:x.length+y.length<5
   .rw[Vp c];have fl:=Gc ex O;have mem:∀v∈(ls.set i<|x++y).eraseIdx (i+1),v=x++y\/v∈ls:=λv Z=>by
     obtain⟨j,hj,e⟩:=QF Z;rcases xG (Q2.mpr ⟨hj,e⟩)with⟨_,q⟩|⟨_,q⟩|⟨_,q⟩
     .exact .inr<|Q1 q
     .exact .inl q
     .exact .inr<|Q1 q
    have px:=Za.mpr (h.ne x<|Q1 ex);have a0:(x++y).length=x.length+y.length:=Q8;refine⟨⟨λv Z=>?_,λv Z=>?_,λj u v G e2=>?_,by rw[fl];exact h.up⟩,fl⟩
    .rcases mem v Z with rfl|q
     .exact Zv ()
     .exact h.ne v q
    .rcases mem v Z with rfl|q
     .lia
     .exact h.le v q
    .rcases xG G with⟨c1,U⟩|⟨c1,U⟩|⟨c1,U⟩<;>rcases xG e2 with⟨c2,Y⟩|⟨c2,Y⟩|⟨c2,Y⟩<;>(try lia)
     .rcases h.nb j u v U Y with z|z
      .rcases I j z with w|w
       .lia
       .lia
      .exact .inr z
     .rcases h.nb j u x U (by rwa[c2])with z|z
      .exact .inl ⟨c2,z⟩
      .rw[Y];exact .inr ()
     .have e3:ls[i+1+1]?=some v:=by rwa[<-c1]
      rcases h.nb (i+1) y v O e3 with z|z
      .rcases I (i+1) z with w|w<;>lia
      .rw[U];exact .inr ()
     .rcases h.nb (j+1) u v U Y with z|z
      .rcases I (j+1) z with w|w<;>lia
      .exact .inr z
   .rw[Vo c];refine⟨⟨h.ne,h.le,λj u v G e2=>?_,h.up⟩,M⟩;rcases h.nb j u v G e2 with z|z
    .rcases I j z with w|w
     .subst w;rw[ex]at G;rw[O]at e2;cases G;cases e2;exact .inr ()
     .exact .inl ⟨w,z⟩
    .exact .inr z
def D4 {l:List Int} (h:dn l):l.Nodup:=h.imp λh=>Int.ne_of_lt h
def P1.gone (o:P1 ls) (ex:ls[i]?=some x) (hk:k∈x):dn (ls.set i<|x.erase k).flatten/\∀z,z∈(ls.set i<|x.erase k).flatten↔z≠k/\z∈ls.flatten:=by
 have up:=o.up;rw[iA ex]at up;obtain⟨U,G,Y,I,Z,O⟩:=Px.mp up;have sub:(x.erase k).Sublist x:=List.erase_sublist;have nx:=D4 G;rw[rH ex,iA ex];refine⟨Px.mpr ⟨U,G.sublist sub,Y,λa ha b hb=>I a ha b<|sub.subset hb,Z,λa ha b hb=>O a (sub.subset ha) b hb⟩,λz=>?_⟩;rw[Q5,Q5,Q5,Q5,nx.mem_erase_iff];constructor
 .rintro (h|⟨h1,h2⟩|h)
  .have:=I z h k hk;exact⟨(),.inl h⟩
  .exact⟨h1,.inr<|.inl h2⟩
  .have:=O k hk z h;exact⟨(),.inr<|.inr h⟩
 .rintro ⟨h0,h|h|h⟩
  .exact .inl h
  .exact .inr<|.inl ⟨h0,h⟩
  .exact .inr<|.inr h
def P1.shrunk (o:P1 ls) (ex:ls[i]?=some x) (G:y≠[]) (U:y.length<=x.length) (up:dn (ls.set i y).flatten):SL (ls.set i y) (λj=>j=i\/j+1=i):=by
 have hx:=o.le x (Q1 ex);refine⟨λl hl=>?_,λl hl=>?_,λj a b f g=>?_,up⟩
 .rcases vV ex hl with rfl|hl
  .exact G
  .exact o.ne l hl
 .rcases vV ex hl with rfl|hl
  .lia
  .exact o.le l hl
 .rcases sC ex f with⟨c,_⟩|⟨c,I⟩
  .exact .inl<|.inl c.symm
  .rcases sC ex g with⟨z,_⟩|⟨z,O⟩
   .exact .inl<|.inr z.symm
   .exact .inr<|o.nb j a b I O
def P1.out (o:P1 ls) (ex:ls[i]?=some x) (U:x.length=1) (up:dn (ls.set i []).flatten):P1 (ls.eraseIdx i)/\(ls.eraseIdx i).flatten=(ls.set i []).flatten:=by
 have hi:=(Q2.mp ex).1;have lt:(ls.take i).length=i:=by rw[Q6];lia
 have I:ls.eraseIdx i=ls.take i++ls.drop (i+1):=List.eraseIdx_eq_take_drop_succ _ _;have fl:(ls.eraseIdx i).flatten=(ls.set i []).flatten:=by
  rw[I,rH ex,Zl];rfl
 refine⟨⟨λl hl=>o.ne l<|Ze hl,λl hl=>o.le l<|Ze hl,λj a b f g=>?_,by rwa[fl]⟩,fl⟩;rcases pF f with⟨O,z⟩|⟨O,z⟩<;>rcases pF g with⟨c2,G⟩|⟨c2,G⟩
 .exact o.nb j a b z G
 .have e2:j+1=i:=();subst e2;have h1:=o.nb j a x z ex;have h2:=o.nb (j+1) x b ex G;lia
 .lia
 .exact o.nb (j+1) a b z G
def Pn (_K:JK) (t:OJ) (H:Hp) (a:Addr) (F:Addr->Prop) (ks:List Int):Prop:=∃L A ls,Pc t H a L A ls/\P1 ls/\ls.flatten=ks/\∀b,F b↔Pt a L A b
def Pn.ins (h:Pn K t H a F ks):∃dx fs,H a=some (.ins t.bH dx fs)/\∀m,m≠("leaves":Str)->fs.lookup m=none:=by
 obtain⟨L,A,ls,hb,_⟩:=h;obtain⟨dx,ho⟩:=hb.obj;exact⟨dx,_,ho,λm z=>LJ z⟩
def Pn.dom (h:Pn K t H a F ks) (hb:F b):∃o,H b=some o:=by
 obtain⟨L,A,ls,h1,_,_,h2⟩:=h;exact h1.dom<|(h2 b).mp hb
def Pn.frame (h:Pn K t H a F ks) (f:∀b,F b->H' b=H b):Pn K t H' a F ks:=by
 obtain⟨L,A,ls,h1,z,G,h2⟩:=h;exact⟨L,A,ls,h1.frame λb hb=>f b<|(h2 b).mpr hb,z,G,h2⟩
def Pn.out (h:Pn K t H a F ks) (e:H p=none):¬F p:=λz=>by
 obtain⟨o,q⟩:=h.dom z;rw[q]at e;cases e
def vf (K:JK) (t:OJ):Sp:=λvs H Q _=>∃(a dx:Addr),vs=[.ref a]/\H a=some (.ins t.bH dx [])/\H dx=some (.own a)/\∀H' F,Pn K t H' a F []->Fr (λb=>b=a\/b=dx) F H H'->Q .non H'
def ww (K:JK) (t:OJ):Sp:=λvs H Q _=>∃(a:Addr) (k:Int) (F:Addr->Prop) (ks:List Int),vs=[.ref a,.int k]/\Pn K t H a F ks/\∀H' F',Pn K t H' a F' ks->Fr F F' H H'->Q (.bl<|decide (k∈ks)) H'
def wx (K:JK) (t:OJ):Sp:=λvs H Q E=>∃(a:Addr) (k:Int) (F:Addr->Prop) (ks:List Int),vs=[.ref a,.int k]/\Pn K t H a F ks/\ks.length<4096/\
 (k∉ks->∀H' F' ks',Pn K t H' a F' ks'->(∀z,z∈ks'↔z=k\/z∈ks)->Fr F F' H H'->Q .non H')/\(k∈ks->False)
def qB (K:JK) (t:OJ):Sp:=λvs H Q E=>∃(a:Addr) (k:Int) (F:Addr->Prop) (ks:List Int),vs=[.ref a,.int k]/\Pn K t H a F ks/\ks.length<4096/\
 (k∈ks->∀H' F' ks',Pn K t H' a F' ks'->(∀z,z∈ks'↔z≠k/\z∈ks)->Fr F F' H H'->Q .non H')/\(k∉ks->False)
def P1.short (o:P1 ls):ls.length<=ls.flatten.length:=by
 have h:=o.ne;clear o
 induction ls with
 |nil=>exact Q4 _
 |cons x r z=>
  have:=Za.mpr (h x Qb);have:=z λl hl=>h l (Qd _ hl);rw[Zi,Q8,Qo];lia
def qA (K:JK) (t:OJ):Sp:=λvs H Q _=>∃(a:Addr) (k n:Int) (F:Addr->Prop) (ks:List Int),vs=[.ref a,.int k,.int n]/\Pn K t H a F ks/\ks.length<4096/\0<=n/\
 ∀(H':Hp) (l:Addr),Fa H H'->H l=none->H' l=some (.lst<|((ks.filter λz=>decide (k<=z)).take n.toNat).map V.int)->Q (.ref l) H'
def jo {n:Int} (h:0<=n):pP xs none (some n)=xs.take n.toNat:=by
 unfold pP HT.sIx;simp only[Z1,Nat.sub_zero];rw[Vo ()];rcases Nat.le_total n.toNat xs.length with c|c
 .rw[Zk c]
 .rw[V8 c,QB,Qv c]
def Gi (o:P1 ls) (h:PH ls k i0):∀z∈(ls.take i0).flatten,¬k<=z:=λz hz=>by
 have:=h.ahead z hz;lia
noncomputable def fj (k:Option Int) (z:Int):Bool:=match k with|none=>true|some k=>decide (z<=k)
def vDn:Option Int->V|none=> .non|some k=> .int k
def m9 (K:JK) (t:OJ):Sp:=λvs H Q _=>∃(a:Addr) (k:Option Int) (n:Int) (F:Addr->Prop) (ks:List Int),vs=[.ref a,vDn k,.int n]/\Pn K t H a F ks/\ks.length<4096/\0<=n/\
 ∀(H':Hp) (l:Addr),Fa H H'->H l=none->H' l=some (.lst<|((ks.reverse.filter<|fj k).take n.toNat).map V.int)->Q (.ref l) H'
noncomputable def O8.low (s:O8):Int:=match s.nxt with
 |none=>s.size
 |some m=>if m<s.size then m else s.size
def Ia {M':Int} (h:M'∈st.rows) (l:∀x∈st.rows,M'<=x):M'=st.low:=by
 unfold O8.rows at h l;unfold O8.low;cases e:st.nxt with
 |none=>rw[e]at h;simpa using h
 |some m=>
  rw[e]at h l;have h:M'=st.size\/M'=m:=by simpa using h
  have l1:=l st.size (by simp);have z:=l m (by simp);show M'=if m<st.size then m else st.size
  split<;>lia
def jZ (z:OT st):st.low∈([4,8,16,32,64,128,256]:List Int):=by
 unfold O8.low;cases e:st.nxt with
 |none=>exact z.pw
 |some m=>
  show(if m<st.size then m else st.size)∈_;split
  .exact(z.nx m e).1
  .exact z.pw
def AS {x:Int} (h:x∈([4,8,16,32,64,128,256]:List Int)):∃a b,Row x a b:=by
 rcases nN h with h|h|h|h|h|h|h<;>subst h
 .exact⟨_,_,qK (k:=0) (_)⟩
 .exact⟨_,_,qK (k:=1) (_)⟩
 .exact⟨_,_,qK (k:=2) (_)⟩
 .exact⟨_,_,qK (k:=3) (_)⟩
 .exact⟨_,_,qK (k:=4) (_)⟩
 .exact⟨_,_,qK (k:=5) (_)⟩
 .exact⟨_,_,qK (k:=6) (_)⟩
def AB {S p:Int} {a b:Nat} (R:Row S a b) (G:0<=p) (h1:p<65536):tz (tz p%S)+65536/S=(p/(65536/S)+1)*(65536/S):=by
 have hs:=R.st_has (m:=tz p) (tI p);rw[EC G h1]at hs;have I:=R.slot (s:=tz p%S) (R.mod0 _) (R.mod1 _);have w:=R.width;have z:=R.wpos';rw[I.1,<-w]at hs⊢;have:p/(65536/S)=rz a (tz p%S):=by
  have k0:=Qf p (QU z);have O:=Qc p z;have k2:=XD p (65536/S);exact R.between z (x:=p/(65536/S)) (y:=rz a<|tz p%S) (p:=p) () () hs.1 hs.2
 rw[this,Int.add_mul,Int.one_mul,XX]
def wk (K:JK) (t:OJ):Sp:=λvs H Q _=>∃(a:Addr) (p:Int) (F:Addr->Prop) (st:O8),vs=[.ref a,.int p]/\PK K t H a F st/\0<=p/\p<65536/\
 ∀H' F',PK K t H' a F' st->Fr F F' H H'->Q (.int<|(p/(65536/st.low)+1)*(65536/st.low)) H'
structure zw (kd:Str) (fs:List (Str×V)) (a e:V):Prop where
 ki:fs.lookup ("kind":Str)=some (.str kd)
 at_:fs.lookup ("at":Str)=some a
 end_:fs.lookup ("end":Str)=some e
 wo:fs.lookup ("words":Str)=none
 ho:fs.lookup ("holds":Str)=none
def okS (a e:V):Prop:=∃i j,a= .int i/\e= .int j/\0<=i/\i<=j/\j<=65536
def R6 (a e:V):Prop:=∃i,a= .int i/\0<=i/\(e= .non\/∃j,e= .int j/\i<=j)
def R8 (a e:V):Prop:=∃j,e= .int j/\0<=j/\(a= .non\/∃i,a= .int i/\j<=i)
def Pu (p:Addr) (H H':Hp):Prop:=∀b o,H b=some o->b≠p->H' b=some o
def BZ:Sp:=λvs H Q _=>∃x,vs=[x]/\Sc x/\Q (.bl<|isW x) H
noncomputable def isF (lo:Int):V->Bool
 | .int i=>decide (lo<=i)|_=>false
def DM:Sp:=λvs H Q _=>∃x lo,vs=[x,.int lo]/\Sc x/\Q (.bl<|isF lo x) H
noncomputable def wr:V->Str
 | .int i=>toString i|_=>"-"
def DH:Sp:=λvs H Q _=>∃x,vs=[x]/\(x= .non\/∃i:Int,x= .int i/\i.natAbs.log2<1920)/\Q (.str<|wr x) H
def iJ (K:JK):Sp:=λvs H Q _=>∃(p C dx:Addr) (kd:Str) (a e:V),vs=[.ref p,.str kd,a,e]/\H p=some (.ins C dx [])/\Pq K C/\CV K C "kind"/\CV K C "at"/\CV K C "end"/\∀H' fs,Pu p H H'->H' p=some (.ins C dx fs)->zw kd fs a e->Q .non H'
def ED (C N:Addr) (kd:Str) (ok:V->V->Prop):Sp:=λvs H Q E=>∃(p dx:Addr) (a e:V),vs=[.ref p,a,e]/\H p=some (.ins C dx [])/\Sc a/\Sc e/\
 (ok a e->∀H' fs,Pu p H H'->H' p=some (.ins C dx fs)->zw kd fs a e->Q .non H')/\(¬ok a e->False)
def tP (t:OJ):Sp:=ED t.aV t.pK "slots" okS
def B6 (t:OJ):Sp:=ED t.dO t.pK "up" R6
def yG (t:OJ):Sp:=ED t.b8 t.pK "down" R8
def Ph (kd:Int) (a e:V):Prop:=(kd=0/\okS a e)\/(kd=1/\R6 a e)\/(kd=2/\R8 a e)
def hS:V->V->Int->Bool
 | .int i,.int j,k=>decide (i<=tz (k%65536))&&decide (tz (k%65536)<j)
 |_,_,_=>false
noncomputable def hU:V->V->Int->Bool
 | .int i,.int j,k=>decide (i<=k)&&decide (k<j)
 | .int i,.non,k=>decide (i<=k)
 |_,_,_=>false
noncomputable def hD:V->V->Int->Bool
 | .int i,.int j,k=>decide (j<=k)&&decide (k<=i)
 | .non,.int j,k=>decide (j<=k)
 |_,_,_=>false
def hN (kd:Int):V->V->Int->Bool:=if kd=0 then hS else if kd=1 then hU else hD
def Re:V->Prop
 | .int i=>i<10^80|_=>True
def L7 (kd:Str) (a e:V):Str:=Txt.join (" ":Str) [kd,wr a,wr e]
def DN (C:Addr) (kd:Str) (ok:V->V->Prop) (h:V->V->Int->Bool):Sp:=λvs H Q _=>∃(p dx:Addr) (fs:List (Str×V)) (a e:V) (k:Int),vs=[.ref p,.int k]/\H p=some (.ins C dx fs)/\zw kd fs a e/\ok a e/\0<=k/\∀H',Fa H H'->Q (.bl<|h a e k) H'
def ft (t:OJ):Sp:=DN t.aV "slots" okS hS
def dL (t:OJ):Sp:=DN t.dO "up" R6 hU
def cE (t:OJ):Sp:=DN t.b8 "down" R8 hD
def RY (t:OJ) (kd:Int):Addr:=if kd=0 then t.aV else if kd=1 then t.dO else t.b8
noncomputable def SK (kd:Int):Str:=if kd=0 then "slots" else if kd=1 then "up" else "down"
def cP (t:OJ):Sp:=λvs H Q _=>∃(p dx:Addr) (kd:Int) (fs:List (Str×V)) (a e:V),vs=[.ref p]/\H p=some (.ins (RY t kd) dx fs)/\zw (SK kd) fs a e/\Ph kd a e/\Re a/\Re e/\∀H',Fa H H'->Q (.str<|L7 (SK kd) a e) H'
def tU {x:Addr} (h1:H x=none) (h2:H dx=none) (k:Pu x (upd (upd H dx<|.own x) x<|.ins C dx []) H'):Fa H H':=λb o q=>by
 refine k b o ?_<|am q h1;rw[af (am q h1),af (am q h2)];exact q
def spHN (t:OJ) (kd:Int):Sp:=if kd=0 then ft t else if kd=1 then dL t else cE t
def PB (t:OJ) (H:Hp) (p:Addr) (kd:Int) (a e:V):Prop:=∃(dx:Addr) (fs:List (Str×V)),H p=some (.ins (RY t kd) dx fs)/\zw (SK kd) fs a e
def PB.same {kd:Int} {a:V} (h:PB t H p kd a e) (s:Fa H H'):PB t H' p kd a e:=by
 obtain⟨dx,fs,h1,h2⟩:=h;exact⟨dx,fs,s _ _ h1,h2⟩
def Ph.sc {kd:Int} {a:V} (h:Ph kd a e):Sc a/\Sc e:=by
 rcases h with⟨_,i,j,rfl,rfl,_⟩|⟨_,i,rfl,_,rfl|⟨j,rfl,_⟩⟩|⟨_,j,rfl,_,rfl|⟨i,rfl,_⟩⟩<;>exact⟨VG,VG⟩
def Ph.kd {kd:Int} {a:V} (h:Ph kd a e):kd=0\/kd=1\/kd=2:=by
 rcases h with⟨h,_⟩|⟨h,_⟩|⟨h,_⟩
 .exact .inl h
 .exact .inr<|.inl h
 .exact .inr<|.inr h
def Ph.s {a:V} (h:Ph 0 a e):okS a e:=by
 rcases h with⟨_,h⟩|⟨h,_⟩|⟨h,_⟩
 .exact h
 .cases h
 .cases h
def Ph.u {a:V} (h:Ph 1 a e):R6 a e:=by
 rcases h with⟨h,_⟩|⟨_,h⟩|⟨h,_⟩
 .cases h
 .exact h
 .cases h
def Ph.d {a:V} (h:Ph 2 a e):R8 a e:=by
 rcases h with⟨h,_⟩|⟨h,_⟩|⟨_,h⟩
 .cases h
 .cases h
 .exact h
def dHN {kd:Int} (h:kd=0\/kd=1\/kd=2):SI (D1 t.aV<|ft t) (SI (D1 t.dO<|dL t)<|D1 t.b8<|cE t) (RY t kd) (spHN t kd):=by
 rcases h with rfl|rfl|rfl
 .exact .inl ⟨M,M⟩
 .exact .inr<|.inl ⟨M,M⟩
 .exact .inr<|.inr ⟨M,M⟩
def dWN {kd:Int} (h:kd=0\/kd=1\/kd=2):SI (D1 t.aV<|cP t) (SI (D1 t.dO<|cP t)<|D1 t.b8<|cP t) (RY t kd) (cP t):=by
 rcases h with rfl|rfl|rfl
 .exact .inl ⟨M,M⟩
 .exact .inr<|.inl ⟨M,M⟩
 .exact .inr<|.inr ⟨M,M⟩
def AG {kd:Int} {a:V} {E:XK} (ho:Ph kd a e) (h:H p=some (.ins (RY t kd) dx fs)) (f:zw (SK kd) fs a e) (z:0<=k)
  (q:∀H',Fa H H'->Q (.bl<|hN kd a e k) H'):spHN t kd [.ref p,.int k] H Q E:=by
 rcases ho.kd with rfl|rfl|rfl
 .exact⟨p,dx,fs,a,e,k,M,h,f,ho.s,z,q⟩
 .exact⟨p,dx,fs,a,e,k,M,h,f,ho.u,z,q⟩
 .exact⟨p,dx,fs,a,e,k,M,h,f,ho.d,z,q⟩
set_option exponentiation.threshold 2000 in
def Om {i:Int} (G:0<=i) (h1:i<10^80):i.natAbs.log2<1920:=by
 rcases ZB i.natAbs with z|z
 .rw[z];decide
 .refine(Nat.log2_lt<|XU z).mpr ?_;have:i.natAbs<10^80:=();exact Nat.lt_trans this<|Qy (show 10^80<2^300 by decide) (Nat.pow_le_pow_right (_) (_))
def few (a:V):Prop:=(a= .non\/∃i:Int,a= .int i/\i.natAbs.log2<1920)/\(wr a).length<=81
def E2:few .non:=⟨.inl M,∅⟩
def jA {i:Int} (z:0<=i) (h1:Re (.int i)):few (.int i):=by
 have h1:i<10^80:=h1;refine⟨.inr ⟨i,M,Om z h1⟩,?_⟩;show(Str.ofString<|toString i).length<=81;have h:(toString i).length<=80+1:=PySem.int_text_length_le10 (_) ();rw[Str.ofString_eq_toList];show((toString i).toList.map Char.toNat).toArray.size<=81;rwa[Qi,Q0]
def Ph.few {kd:Int} {a:V} (h:Ph kd a e) (G:Re a) (I:Re e):few a/\few e:=by
 rcases h with⟨_,i,j,rfl,rfl,z,h1,_⟩|⟨_,i,rfl,z,rfl|⟨j,rfl,h1⟩⟩|⟨_,j,rfl,z,rfl|⟨i,rfl,h1⟩⟩
 .exact⟨jA z G,jA () I⟩
 .exact⟨jA z G,E2⟩
 .exact⟨jA z G,jA () I⟩
 .exact⟨E2,jA z I⟩
 .exact⟨jA () G,jA z I⟩
structure Tp where
 p:Addr
 k:Int
 v:V
def Tp.kv (e:Tp):Int×V:=(e.k,e.v)
structure PgA (H H':Hp) (F F':Addr->Prop) (r g:Addr) (v:V) (ts:List Tp):Prop where
 tu:H' r=some (.tup [.ref g,v])
 li:H' g=some (.lst<|ts.map λe=>V.ref e.p)
 rw:∀e∈ts,H' e.p=some (.tup [.int e.k,e.v])/\¬F' e.p
 nr:(¬F r->H r=none)/\¬F' r
 ng:(¬F g->H g=none)/\¬F' g
section
variable {P:Program} {w:World} {mg:Str->Option Value} {base:Heap}
variable {K:JK} {t:OJ} (T:Txt K mg t)
def Fz:Sp:=λvs H Q _=>∃n:Int,vs=[.int n]/\0<=n/\Q (.int<|tz n) H
def DK:Sp:=λvs H Q _=>∃k:Int,vs=[.int k]/\Q (.int<|k%65536) H
def BY:Sp:=λvs H Q _=>∃k:Int,vs=[.int k]/\Q (.int<|tz<|k%65536) H
def DI:Sp:=λvs H Q _=>∃k n:Int,vs=[.int k,.int n]/\0<n/\Q (.int<|k%65536%n) H
def DJ:Sp:=λvs H Q _=>∃p n:Int,vs=[.int p,.int n]/\0<=p/\0<n/\Q (.int<|tz p%n) H
def yq:Sp:=λvs H Q _=>∃s n:Int,vs=[.int s,.int n]/\0<=s/\0<n/\n<1073741824/\∀p,H p=none->Q (.ref p) (upd H p<|.tup [.int (tz s),.int (tz s+65536/n)])
def ug:CU P w K mg base OL 1 t.C5 t.xT ["number"] Fz:=by
 obtain⟨G,z⟩:=T.g_BITS;refine T.yf.okl FE λs H vs Q E O h _=>?_;intro X;obtain⟨n,rfl,U,k⟩:=h;refine aj (OM 1 ae)
   (aj (OM 2 BC)
   (aj (dW VC M (iF {_} T.pj (ac (c8 (v:= .int 16) {_} z ⟨_,M⟩) ai)) (Pr 3)
    (nP (OM 1<|ao bx (ao cM M2 ae)<|ao aT O1 ae)
    (az<|OM 2<|ao aP O1 ae)))
   (aA (aD M2) ?_)))
 intros
 have I:((n.toNat/2^0:Nat):Int)=n:=by rw[Nat.pow_zero,Nat.div_one];lia
 refine⟨_,M,16,M,(_),(_),zZ (n:=16) (λi B H'=>∃v,H'=H/\B=[some (.int n),some (.int ((rv i n.toNat:Nat):Int)),some (.int ((n.toNat/2^i:Nat):Int)),v]) ?_ ?_ ?_⟩
 .refine⟨none,M,?_⟩;rw[I];rfl
 .rintro i B H' hi ⟨v,rfl,rfl⟩;refine⟨_,M,_,_,M,M,.inr ⟨(_),(_)⟩,_,M,_,_,M,M,(by show(0:Int)<2;decide),_,_,M,M,_,M,_,_,M,M,⟨(_),(_)⟩,?_⟩;refine⟨some<|.int<|0+(i:Int),M,?_⟩;rw[<-Fu i n.toNat,<-Fv i n.toNat];rfl
 .rintro B H' ⟨v,rfl,rfl⟩;unfold tz at k;exact⟨_,M,k⟩
def xb:CU P w K mg base OL 1 t.Ap t.uI ["key"] DK:=by
 obtain⟨G,z⟩:=T.g_PLACES;refine T.Au.okl DT λs H vs Q E I h _=>?_;intro X;obtain⟨n,rfl,k⟩:=h;refine⟨_,(az<|aD<|ao aT BC<|c8 (v:= .int 65536) {_} z ⟨_,M⟩)
  ,?_⟩
 exact⟨_,M,_,_,M,M,(by show(0:Int)<65536;decide),k⟩
def uU:CU P w K mg base OL 2 t.x6 t.qU ["key"] BY:=by
 refine T.yh.okl B9 λs H vs Q E z h _=>?_;intro X;obtain⟨n,rfl,k⟩:=h;refine⟨_,(az<|aD<|aL (ug T) z.mo {_} T.Cw T.yf.kp T.CY .nil ay (ac (aL (xb T) z.mo {_} T.FZ T.Au.kp T.Gw .nil ay (ac BC ai)) ai))
  ,?_⟩
 exact⟨_,M,_,M,_,M,Qf _ (_),k⟩
def w9:CU P w K mg base OL 2 t.An t.uG ["key","size"] DI:=by
 refine T.uR.okl DQ λs H vs Q E z h _=>?_;intro X;obtain⟨n,m,rfl,G,k⟩:=h;refine⟨_,(az<|aD<|ao aT (aL (xb T) z.mo {_} T.FZ T.Au.kp T.Gw .nil ay (ac BC ai)) M2)
  ,?_⟩
 exact⟨_,M,_,M,_,M,_,_,M,M,G,k⟩
def xa:CU P w K mg base OL 2 t.Ao t.uH ["place","size"] DJ:=by
 refine T.At.okl DS λs H vs Q E z h _=>?_;intro X;obtain⟨n,m,rfl,G,I,k⟩:=h;refine⟨_,(az<|aD<|ao aT (aL (ug T) z.mo {_} T.Cw T.yf.kp T.CY .nil ay (ac BC ai)) M2)
  ,?_⟩
 exact⟨_,M,_,M,G,_,M,_,_,M,M,I,k⟩
def yY:CU P w K mg base OL 2 t.sQ t.lT ["slot","size"] yq:=by
 obtain⟨G,z⟩:=T.g_PLACES;refine T.BE.okl yI λs H vs Q E I h _=>?_;intro X;obtain⟨n,m,rfl,O,U,h1,k⟩:=h;refine aj (OM 2<|aL (ug T) I.mo {_} T.Cw T.yf.kp T.CY .nil ay (ac BC ai))
   (aA (aD<|bO<|ac O1<|ac (ao bx O1<|ao aP (c8 (v:= .int 65536) {_} z ⟨_,M⟩) M2) ai) ?_)
 intros
 exact⟨_,M,_,M,O,_,M,_,M,_,M,_,_,M,M,⟨U,h1⟩,_,_,M,M,(by show 2<=sizeLine;decide),λp Y=>k p Y⟩
def FC (h:n<=4096):n<sizeLine:=Xj h (_)
def AE:Sp:=λvs H Q _=>∃n:Int,vs=[.int n]/\0<=n/\n<=1000/\∀H' r A,Fa H H'->H r=none->(∀b∈A,H b=none)->ON H' r A (List.replicate n.toNat []) n->Q (.ref r) H'
def rX:CU P w K mg base OL 1 t.u7 t.oC ["size"] AE:=by
 refine T.pe.okl AL λs H vs Q E hr h _=>?_;intro X;obtain⟨n,rfl,n0,n1,q⟩:=h;refine⟨_,(az<|aD<|pB M (OO.of (M':=["slot"]) (N:=["size"]) (N':=["size"]) (dsc:=al jv) M M ∅) (iF {_} T.pj (ac BC ai))<|λ_ _ _ _ _=>eE)
  ,?_⟩
 refine⟨_,M,n,M,(),(),λD hD=>?_⟩;refine qX (n:=n.toNat) (lo:=0) (λi ys H3=>Fa H H3/\∃as:List Addr,ys=as.map V.ref/\as.length=i/\(∀b∈as,H b=none/\b≠D/\H3 b=some (.dK []))/\∀(x y:Nat) (b:Addr),as[x]?=some b->as[y]?=some b->x=y)
  ⟨ak hD,[],M,M,(λb hb=>by cases hb),λx y b e=>by simp at e⟩ (λi ys H3 hi ⟨s3,as,Y,Z,hb,inj⟩ G=>?_) (λys H3 ⟨s3,as,Y,Z,hb,inj⟩ G=>?_)
 .intro c O;have cD:c≠D:=(am G O).symm;have I:c∉as:=λz=>by
   have:=(hb c z).2.2;rw[O]at this;cases this
  have nH:H c=none:=by
   cases e:H c with
   |none=>rfl
   |some o=>rw[s3 c o e]at O;cases O
  refine P7.mk hi (by rwa[af cD.symm]) (by rw[Y,Q0];exact cU ()) ⟨cm (s3.trans<|ak O) hD,as++ [c],by rw[Y,Qg];rfl,by rw[Q8,Z];rfl,λb a0=>?_,λx y b e1 e2=>?_⟩
  .rcases Q5.mp a0 with z|z
   .obtain⟨h1,h2,h3⟩:=hb b z;exact⟨h1,h2,by rwa[af h2,af (λw=>I<|by rw[<-w];exact z)]⟩
   .rw[Q7.mp z];exact⟨nH,cD,by rw[af cD,ag]⟩
  .have U:∀x:Nat,(as++ [c])[x]?=some b->as[x]?=some b\/(x=as.length/\b=c):=λx e=>by
    rw[XG]at e;split at e
    .exact .inl e
    .rename_i w
     have:x-as.length=0:=by
      rcases ZB (x-as.length)with z|z
      .exact z
      .rw[XC (by simp;lia)]at e;cases e
     rw[this]at e;cases e;exact .inr ⟨(),M⟩
   rcases U x e1 with f1|⟨f1,g1⟩<;>rcases U y e2 with f2|⟨f2,g2⟩
   .exact inj x y b f1 f2
   .subst g2;exact Vt (Q1 f1) I
   .subst g1;exact Vt (Q1 f2) I
   .lia
 .refine q H3 D as s3 hD (λb z=>(hb b z).1) ⟨by rw[G,Y],by rw[Z];lia,by rw[Zs];lia,λj b kv e1 e2=>?_,λj kv e=>?_,inj,λj kv e p hp=>?_⟩
  .rw[Zz (Q1 e2)];exact(hb b<|Q1 e1).2.2
  .rw[Zz (Q1 e)];exact Z0
  .rw[Zz (Q1 e)]at hp;cases hp
def rB (t:OJ):Sp:=λvs H Q _=>∃(a:Addr) (k:Int) (st:O8) (d:RC),vs=[.ref a,.int k]/\P6 t H a st d/\OT st/\∀c kv,IsCell d st k c kv->Q (.ref c) H
def pL (t:OJ):Sp:=λvs H Q _=>∃(a:Addr) (st:O8) (d:RC),vs=[.ref a]/\P6 t H a st d/\OT st/\st.kv.length<4096/\∀H' d',P6 t H' a st.one d'->d'.n=d.n->Fr (Pf a st d) (Pf a st.one d') H H'->Q .non H'
def pM (t:OJ):Sp:=λvs H Q _=>∃(a:Addr) (st:O8) (d:RC),vs=[.ref a]/\P6 t H a st d/\OT st/\d.n=(st.kv.length:Int)/\∀H' d',P6 t H' a st.three d'->d'.n=d.n->Fr (Pf a st d) (Pf a st.three d') H H'->Q .non H'
def xC {z:Int} (G:0<=z) (e:A[z.toNat]?=some c):RF (A.map V.ref) z=some (.ref c):=by
 obtain⟨j,rfl⟩:=Z6 G;refine sP ?_;rw[Qn];have e:A[j]?=some c:=e;rw[e];rfl
def db:CU P w K mg base OL 3 t.kL t.gy ["self","key"] (rB t):=by
 refine T.GC.okl rJ λs H vs Q E U h _=>?_;intro X;obtain⟨a,k,st,d,rfl,hb,z,q⟩:=h;refine aj (OM 2<|aS aU (au BC M) ae<|λ_ _=>M)
   (aj (OM 3<|aL (w9 T) U.mo {_} T.zU T.uR.kp T.Ak .nil ay (ac M2<|ac (aE aC {_} T.bL bf (ac O1 ai)) ai))
   (aj (aQ (aq zN OR (au BC M)<|aw _)
    (az<|aD<|aS aU O1 OR<|λ_ _=>M)
    aI)
   (aj (OM 4<|aS aU (au BC M) ae<|λ_ _=>M)
   (aA (aD<|aS aU PF (aL (w9 T) U.mo {_} T.zU T.uR.kp T.Ak .nil ay (ac M2<|ac (aE aC {_} T.bL bf (ac PF ai)) ai))<|λ_ _=>M) ?_))))
 intros
 obtain⟨dx,ho⟩:=hb.obj;obtain⟨s4,s5⟩:=bY z.pw;obtain⟨I,Y,m2⟩:=uu (k:=k) s4;have t0:∃xs,H d.tb=some (.lst xs)/\RF xs 0=some (.ref d.r0):=by
  refine⟨_,hb.tbl,?_⟩;cases st.nxt<;>rfl
 obtain⟨xs,hx,x0⟩:=t0;have a0:∀{Q':VK},Q' (.ref d.tb) H->tFld K (Mf 0) "table" [some (.ref a),some (.int k),none,none,none] H Q':=λ{Q'} q=>⟨_,M,a,_,dx,_,_,M,ho,T.aK,T.aX,ju,q⟩;have Z:((d.A0.map V.ref).length:Int)=st.size:=by rw[Q0];exact hb.row0.la
 refine⟨_,M,a,_,dx,_,_,M,ho,T.aK,T.aX,ju,d.tb,_,_,_,M,M,Fb.of hx,x0,?_⟩;refine⟨_,M,_,M,d.r0,_,M,.inl<|Fb.of hb.row0.lst,k,_,M,by rw[Z];lia,?_⟩;dsimp only;rw[Z];refine⟨_,M,_,M,a,_,dx,_,_,M,ho,T.aK,T.bX,B8,_,_,M,M,_,M,bQ (λc=>?_)<|λc=>?_⟩
 .have c:=Vw c;obtain⟨x,G⟩:=dX (l:=d.A0) I (by rwa[hb.row0.la]);obtain⟨y,e2⟩:=dX (l:=d.C0) I (by rwa[hb.row0.lc]);exact⟨_,M,_,M,d.r0,_,_,_,M,M,Fb.of hb.row0.lst,xC I G,q x y<|.inl ⟨c,G,e2⟩⟩
 .have c:¬st.moved<=k%65536%st.size:=λz=>c (Vy z);cases e:st.nxt with
  |none=>rw[O8.moved_none e]at c;exact Vt I c
  |some m=>
   have hm:=O8.moved_some e;obtain⟨pm,_⟩:=z.nx m e;obtain⟨s6,_⟩:=bY pm;obtain⟨O,n1,n2⟩:=uu (k:=k) s6;have r1:=hb.row1;rw[e]at r1;have ht:=hb.tbl;rw[e]at ht;have lb:((d.A1.map V.ref).length:Int)=m:=by rw[Q0];exact r1.la
   obtain⟨x,G⟩:=dX (l:=d.A1) O (by rwa[r1.la]);obtain⟨y,e2⟩:=dX (l:=d.C1) O (by rwa[r1.lc]);refine⟨_,M,a,_,dx,_,_,M,ho,T.aK,T.aX,ju,d.tb,_,_,_,M,M,Fb.of ht,M,?_⟩;refine⟨_,M,_,M,_,M,d.r1,_,M,.inl<|Fb.of r1.lst,k,_,M,by rw[lb];lia,?_⟩;dsimp only;rw[lb];exact⟨d.r1,_,_,_,M,M,Fb.of r1.lst,xC O G,q x y<|.inr ⟨m,e,(),G,e2⟩⟩
def bg (h:n<=100000):n<sizeLine:=Xj h (_)
def MZ {z:Int} (G:0<=z) (h1:z<n):RZ n z=some z.toNat:=by unfold RZ;rw[Vp G,Vp h1]
def uy {kv:List (Int×V)} {k:Key} (e:(aB kv)[i]?=some (k,v)):∃n:Int,k=Sum.inl n/\kv[i]?=some (n,v):=by
 unfold aB at e;rw[Qn]at e;cases q:kv[i]? with
 |none=>rw[q]at e;cases e
 |some p=>rw[q]at e;cases e;exact⟨p.1,M,M⟩
def G3 {kv:List (Int×V)} {C:List (List<|Int×V)} {p:Int×V} (e:kv[i]?=some p):(kv.take<|i+1).foldl (g8 m) C=g8 m ((kv.take i).foldl (g8 m) C) p:=by
 rw[Qq,e,X0];rfl
def ig:CU P w K mg base OL 3 t.jq t.eU ["self"] (pL t):=by
 refine T.Ex.okl pN λs H vs Q E hr h _=>?_;intro X;obtain⟨a,st,d,rfl,hb,z,hl,q⟩:=h;refine aj (aQ (aq bP (aE aC {_} T.bL bf (ac (au BC M) ai)) ae<|aw _)
    (az pA)
    aI)
   (aj (OM 1<|aS aU (au BC M) ae<|λ_ _=>M)
   (aj (OM 2<|aS aU (au BC M) ae<|λ_ _=>M)
   (bU (λx=>(vT (dW VC M (Ce<|ud QD Xs PySem.F.type_dict_items Cn<|aS aU M2 (au BC M)<|λ_ _=>M) (w5 M<|dA (Pr 3)<|dA (Pr 4) rS)
    x))) ?_)))
 refine aA (jw (i8 hr) (aS aU O1 (aL (w9 T) hr.mo {_} T.zU T.uR.kp T.Ak .nil ay (ac OR<|ac (aE aC {_} T.bL bf (ac O1 ai)) ai))<|λ_ _=>M) OR PF M) ?_
 intros
 refine aj (ub eE<|DZ M2 (au BC M) wE)
   (aj (iE BC ae xJ)
   (aA (aQ (aq bP (au BC M) (aE aC {_} T.bL bf (ac M2 ai))<|aw _)
    (nP (bh BC (bZ<|ac O1 ai) M)
    (az<|bh BC ae M))
    aI) ?_))
 intros
 obtain⟨dx,ho⟩:=hb.obj;have ht:=hb.tbl;cases e:st.nxt with
 |none=>
  rw[e]at ht;refine⟨_,M,a,_,dx,_,_,M,ho,T.aK,T.aX,ju,d.tb,_,M,.inl<|Fb.of ht,M,_,M,fK M ?_⟩;have e1:st.one=st:=by unfold O8.one;rw[e]
  rw[e1]at q;exact q H d hb M Fr.refl
 |some m=>
  rw[e]at ht;refine⟨_,M,a,_,dx,_,_,M,ho,T.aK,T.aX,ju,d.tb,_,M,.inl<|Fb.of ht,M,_,M,a9 (λz=>by cases z) ?_⟩;refine⟨_,M,a,_,dx,_,_,M,ho,T.aK,T.aX,ju,d.tb,_,_,_,M,M,Fb.of ht,M,?_⟩;refine⟨_,M,a,_,dx,_,_,M,ho,T.aK,T.aX,ju,d.tb,_,_,_,M,M,Fb.of ht,M,?_⟩;obtain⟨pm,v0,v1,_⟩:=z.nx m e;obtain⟨s4,s5⟩:=bY z.pw;obtain⟨s6,s7⟩:=bY pm;have hm:=O8.moved_some e;rw[hm]at ho;have r1:=hb.row1;rw[e]at r1;obtain⟨c0,ec⟩:=dX (l:=d.A0) v0 (by rwa[hb.row0.la]);obtain⟨kv,ek⟩:=dX (l:=d.C0) v0 (by rwa[hb.row0.lc]);have I:=hb.row0.cell _ _ _ ec ek;have lb:((d.A1.map V.ref).length:Int)=m:=by rw[Q0];exact r1.la
  have a5:c0∉d.A1:=hb.dis c0 (Q1 ec);have an:d.r1≠c0:=cQ r1.lst I (by intro z;cases z);have bc:=hb.short0 z ek;have aa:∀b,b=d.r1\/b∈d.A1->∃o,H b=some o:=λb hb1=>by
   rcases hb1 with rfl|hb1
   .exact⟨_,r1.lst⟩
   .obtain⟨_,_,_,_,w⟩:=r1.has hb1;exact⟨_,w⟩
  refine⟨c0,aB kv,I,_,M,_,M,a,_,dx,_,_,M,ho,T.aK,T.bX,B8,d.r0,_,_,_,M,M,Fb.of hb.row0.lst,xC v0 ec,.inr<|.inr<|.inl ⟨M,.inl ⟨_,I⟩⟩,c0,aB kv,M,M,I,λvw nv=>?_⟩;have b4:upd H vw (Rv vw c0) c0=some (.dK<|aB kv):=by rw[af (am I nv)];exact I
  refine⟨vw,c0,aB kv,M,ag,b4,λob=>?_⟩;refine xN (λi B H'=>∃v3 v4,B=[some (.ref a),some (.ref d.r0),some (.ref d.r1),v3,v4]/\ON H' d.r1 d.A1 ((kv.take i).foldl (g8 m) d.C1) m/\H' c0=some (.frz ob<|.dK<|aB kv)/\∀b o,b∉d.A1->b≠c0->H b=some o->H' b=some o)
   ⟨_,_,M,?_,ag,λb o _ n2 e=>?_⟩ (λi B H' _ ⟨_,_,_,_,hf,_⟩=>hf) (λi k v p B H' ei ⟨v3,v4,ab,hr,hf,hk⟩ np=>?_) (λB H' ⟨v3,v4,ab,hr,hf,hk⟩=>?_)
  .refine ON.frame (H:=H) r1 λb hb1=>?_;obtain⟨o,w⟩:=aa b hb1;have n2:b≠c0:=by
    rcases hb1 with rfl|hb1
    .exact an
    .exact λz=>a5 (z▸hb1)
   rw[af n2,af (am w nv)]
  .rwa[af n2,af (am e nv)]
  .subst ab;obtain⟨n,rfl,en⟩:=uy ei;have a0:ON (upd H' p<|.tup [kV (Sum.inl n),v]) d.r1 d.A1 ((kv.take i).foldl (g8 m) d.C1) m:=hr.frame λb hb1=>af λw=>by
    have:∃o,H' b=some o:=by
     rcases hb1 with rfl|hb1
     .exact⟨_,hr.lst⟩
     .obtain⟨_,_,_,_,w⟩:=hr.has hb1;exact⟨_,w⟩
    obtain⟨o,q⟩:=this;rw[w,np]at q;cases q
   obtain⟨n0,n1,n2⟩:=uu (k:=n) s6;obtain⟨c,e1⟩:=dX (l:=d.A1) n0 (by rwa[a0.la]);obtain⟨y,e2⟩:=dX (l:=(kv.take i).foldl (g8 m) d.C1) n0 (by rwa[a0.lc]);obtain⟨y0,e3⟩:=dX (l:=d.C1) n0 (by rwa[r1.lc]);have yl:=Co e3 e2;have be:=hb.short1 z e e3;have tl:(kv.take i).length<=kv.length:=by rw[Q6];lia
   have hc:=a0.cell _ _ _ e1 e2;have cA:c∈d.A1:=Q1 e1;refine⟨p,_,M,OX.of ag,M,_,_,M,_,_,M,M,?_⟩;refine⟨_,M,_,M,_,M,_,M,d.r1,_,M,.inl<|Fb.of a0.lst,n,_,M,by rw[lb];lia,?_⟩;dsimp only;rw[lb];refine⟨d.r1,_,_,_,M,M,Fb.of a0.lst,xC n0 e1,_,M,c,_,M,Pm.k (k:=Sum.inl n) hc (by rw[bj];exact bg ()),?_⟩;rw[b9];have pn:∀b o,H' b=some o->b≠p:=λb o q=>am q np;refine⟨_,_,M,?_,?_,λb o nA nc q=>?_⟩
   .rw[G3 en];exact a0.mov s6 e1 e2
   .rwa[af (λw=>a5<|by rw[w];exact cA),af (pn _ _ hf)]
   .have q:=hk b o nA nc q;rw[af (λw=>nA<|by rw[w];exact cA),af (pn _ _ q)];exact q
  .subst ab;rw[bj,QB]at hr;refine⟨ob,hf,λb' O=>?_⟩;have hF:∀b,¬Pf a st d b->b∉d.A1/\b≠c0/\b≠a/\b≠d.r0/\b≠d.tb/\b≠d.r1:=λb n=>
    ⟨λq=>n<|.inr<|.inr<|.inr<|.inr<|.inr q,λq=>n<|.inr<|.inr<|.inr<|.inl<|q▸Q1 ec,λq=>n<|.inl q,λq=>n<|.inr<|.inr<|.inl q,λq=>n<|.inr<|.inl q,λq=>n<|.inr (.inr<|.inr<|.inr<|.inl ⟨by rw[e];rfl,q⟩)⟩
   have a2:∀b o,H b=some o->(∀kvs,o≠ .dK kvs)->b∉d.A1:=λb o q ne w=>(r1.notr w q ne) M;have K1:∀b o,b∉d.A1->b≠c0->H b=some o->upd H' c0 (.dK<|aB kv) b=some o:=λb o n1 n2 q=>by rw[af n2];exact hk b o n1 n2 q
   have a1:ON (upd H' c0<|.dK<|aB kv) d.r1 d.A1 (kv.foldl (g8 m) d.C1) m:=hr.frame λb hb1=>af (by
    rcases hb1 with rfl|hb1
    .exact an
    .exact λw=>a5<|w▸hb1)
   have ax:upd H' c0 (.dK<|aB kv) c0=some (.dK<|aB kv):=ag;generalize upd H' c0 (.dK<|aB kv)=H3 at O K1 a1 ax⊢;have U:=K1 a _ (a2 _ _ ho<|λ_ w=>by cases w) (cQ ho I<|by intro w;cases w) ho;have a3:=hb.row0.lst;have G:=K1 d.r0 _ (a2 _ _ a3<|λ_ w=>by cases w) (cQ a3 I<|by intro w;cases w) a3;have ah:=K1 d.tb _ (a2 _ _ ht<|λ_ w=>by cases w) (cQ ht I<|by intro w;cases w) ht;have b5:¬Pf a st d b':=λw=>by
    rcases w with w|w|w|w|⟨_,w⟩|w
    .rw[w,U]at O;cases O
    .rw[w,ah]at O;cases O
    .rw[w,G]at O;cases O
    .obtain⟨j,b7,f1,f2,f3⟩:=hb.row0.has w;by_cases y:b'=c0
     .rw[y,ax]at O;cases O
     .rw[K1 b' _ (hb.dis b' w) y f3]at O;cases O
    .rw[w,a1.lst]at O;cases O
    .obtain⟨_,_,_,_,w'⟩:=a1.has w;rw[w']at O;cases O
   have lA:((d.A0.map V.ref).length:Int)=st.size:=by rw[Q0];exact hb.row0.la
   have bo:∀{x:Addr} {o:HO},H3 x=some o->x≠b':=λq=>am q O;refine⟨_,M,_,M,a,_,dx,_,_,M,(by rwa[af (bo U)]),T.aK,T.bX,B8,d.r0,_,_,_,M,M,(by rwa[af (bo G)]),MZ v0 (by rwa[lA]),?_⟩;have g0:H3 d.r1=some (.lst<|d.A1.map V.ref):=a1.lst;have ra:d.r0≠a:=cQ a3 ho (by intro w;cases w);have b8:d.r0≠d.r1:=(hb.tr1<|by rw[e];rfl).2;have t1:d.tb≠d.r1:=(hb.tr1<|by rw[e];rfl).1;have ta:d.tb≠a:=cQ ht ho (by intro w;cases w);have b1:d.r1≠a:=cQ r1.lst ho (by intro w;cases w);have Z:∀b∈d.A1,b≠b'/\b≠d.r0/\b≠a:=λb w=>by
    obtain⟨_,_,_,_,f⟩:=a1.has w;exact⟨bo f,cQ f G (by intro w;cases w),cQ f U<|by intro w;cases w⟩
   have es:(d.A0.map V.ref).set st.mv.toNat (V.ref b')=(d.A0.set st.mv.toNat b').map V.ref:=by rw[List.map_set]
   rw[es];have b2:upd (upd H3 b'<|.dK []) d.r0 (.lst<|(d.A0.set st.mv.toNat b').map V.ref) a=some (.ins t.aY dx<|Pl d.tb st.mv d.n):=by rwa[af ra.symm,af (bo U)]
   refine⟨_,M,a,_,dx,_,_,M,b2,T.aK,T.bX,B8,_,_,M,M,dx,_,b2,rF,?_⟩;rw[LD];have a4:∀{o:HO},upd (upd (upd H3 b'<|.dK []) d.r0<|.lst<|(d.A0.set st.mv.toNat b').map V.ref) a o d.r0=some (.lst<|(d.A0.set st.mv.toNat b').map V.ref):=by
    intro o;rw[af ra,ag]
   have lS:(((d.A0.set st.mv.toNat b').map V.ref).length:Int)=st.size:=by rw[Q0,QO];exact hb.row0.la
   refine⟨_,M,a,_,dx,_,_,M,ag,T.aK,T.bX,B8,_,M,d.r0,_,M,.inl<|Fb.of a4,M,_,M,?_⟩;rw[lS];have Y:∀{o:HO},ON (upd (upd (upd H3 b'<|.dK []) d.r0<|.lst<|(d.A0.set st.mv.toNat b').map V.ref) a o) d.r1 d.A1 (kv.foldl (g8 m) d.C1) m:=λ{o}=>a1.frame λb hb1=>by
    have:b≠b'/\b≠d.r0/\b≠a:=by
     rcases hb1 with rfl|hb1
     .exact⟨bo g0,b8.symm,b1⟩
     .exact Z b hb1
    rw[af this.2.2,af this.2.1,af this.1]
   have K6:∀{o':HO} (b:Addr) (o:HO),¬Pf a st d b->H b=some o->upd (upd (upd H3 b'<|.dK []) d.r0<|.lst<|(d.A0.set st.mv.toNat b').map V.ref) a o' b=some o:=λ{o'} b o n q=>by
    obtain⟨f1,f2,f3,f4,_⟩:=hF b n;have q3:=K1 b o f1 f2 q;rwa[af f3,af f4,af (bo q3)]
   refine bQ (λc=>?_)<|λc=>?_
   .have c:st.mv+1=st.size:=V.int.inj (Vw c);refine⟨_,M,(by show 1<=sizeLine;decide),λtb' nt=>⟨_,M,a,_,dx,_,M,(by rw[af (am ag nt)];exact ag),T.aK,T.aX,rF,?_⟩⟩;rw[Oa];refine⟨_,M,a,_,dx,_,M,ag,T.aK,T.bX,rF,?_⟩;rw[LD,eG];have ba:tb'≠a:=(am ag nt).symm;have bb:tb'≠d.r1:=(am (Y (o:= .ins t.aY dx<|Pl d.tb (st.mv+1) d.n)).lst nt).symm;refine q _ _ (hb.last z e ek (tb':=tb') (dx:=dx) c ag (by rw[af ba];exact ag) bb ?_) M<|λb o n w=>?_
    .refine(Y (o:= .ins t.aY dx<|Pl d.tb (st.mv+1) d.n)).frame λb hb1=>?_;have:b≠a:=by
      rcases hb1 with rfl|hb1
      .exact b1
      .exact(Z b hb1).2.2
     rw[af this,af (λw=>?_)];obtain⟨o,f⟩:∃o,upd (upd (upd H3 b'<|.dK []) d.r0<|.lst<|(d.A0.set st.mv.toNat b').map V.ref) a (.ins t.aY dx<|Pl d.tb (st.mv+1) d.n) b=some o:=by
      rcases hb1 with rfl|hb1
      .exact⟨_,Y.lst⟩
      .obtain⟨_,_,_,_,f⟩:=Y.has hb1;exact⟨_,f⟩
     rw[w,nt]at f;cases f
    .obtain⟨f1,f2,f3,f4,f5,f6⟩:=hF b n;have k6:=K6 (o':= .ins t.aY dx<|Pl d.tb (st.mv+1) d.n) b o n w;have bt:b≠tb':=am k6 nt;refine⟨by rwa[af f3,af bt],λy=>?_⟩;rcases y with y|y|y|y|⟨_,y⟩|y
     .exact f3 y
     .exact bt y
     .exact f6 y
     .exact f1 y
     .exact f6 y
     .cases y
   .have c:st.mv+1≠st.size:=λw=>c (Vy<|by rw[w]);refine q _ _ (hb.one z e ek (b':=b') (dx:=dx) c ag (by rw[af ta,af hb.tr,af (bo ah),ah,hb.tbl,e]) a4 ?_ b5 (λj b f1 f2=>?_) Y) M<|λb o n w=>⟨K6 b o n w,λy=>?_⟩
    .have n1:b'≠a:=(bo U).symm;have n2:b'≠d.r0:=(bo G).symm;rw[af n1,af n2];exact ag
    .have bA:=Q1 f1;obtain⟨_,b7,_,_,f⟩:=hb.row0.has bA;have nc:b≠c0:=λw=>f2 (hb.row0.inj j _ c0 (w▸f1) ec);have f3:=K1 b _ (hb.dis b bA) nc f;rw[af (cQ f3 U<|by intro w;cases w),af (cQ f3 G<|by intro w;cases w),af (bo f3),f3,f]
    .obtain⟨f1,f2,f3,f4,f5,f6⟩:=hF b n;rcases y with y|y|y|y|⟨_,y⟩|y
     .exact f3 y
     .exact f5 y
     .exact f4 y
     .obtain⟨j,hj,ej⟩:=QF (show b∈d.A0.set st.mv.toNat b' from y);rcases eI (Q2.mpr ⟨hj,ej⟩)with⟨_,g⟩|⟨_,g⟩
      .have:=K1 b o f1 f2 w;rw[g,O]at this;cases this
      .exact n<|.inr (.inr<|.inr<|.inl<|Q1 g)
     .exact f6 y
     .exact f1 y
def ii:CU P w K mg base OL 2 t.jr t.eV ["self"] (pM t):=by
 obtain⟨O,G⟩:=T.g_GREATEST_SIZE;obtain⟨Y,I⟩:=T.g_LEAST_SIZE;refine T.Ey.okl pO λs H vs Q E hr h _=>?_;intro X;obtain⟨a,st,d,rfl,hb,z,hn,q⟩:=h;refine aj (aQ (aq bP (aE aC {_} T.bL bf (ac (au BC M) ai)) ae<|aw _)
    (az pA)
    aI)
   (aj (OM 1<|aE aC {_} T.bL bf (ac (aS aU (au BC M) ae<|λ_ _=>M) ai))
   (LF (λx y=>aQ (PW.pt<|dU (aq w6 (au BC M) M2<|aw _)<|cJ<|aq eF M2 (c8 (v:= .int 256) {_} G ⟨_,M⟩)<|aw _) x y) ?_))
 refine aA (aN<|dC Qr Z2 Z3 eZ (au BC M)<|ac (aL (rX T) hr.mo {_} T.uX T.pe.kp T.uZ .nil ay (ac (ao cM M2 ae) ai)) ai) ?_
 intros
 refine oo (λx=>aQ (PW.pt<|dU (aq eF (ao cM ae<|au BC M) M2<|aw _)<|cJ<|aq w6 M2 (c8 (v:= .int 4) {_} I ⟨_,M⟩)<|aw _) x aI) ?_;refine aA (aN<|dC Qr Z2 Z3 eZ (au BC M)<|ac (aL (rX T) hr.mo {_} T.uX T.pe.kp T.uZ .nil ay (ac (ao aP M2 ae) ai)) ai) ?_
 intros
 obtain⟨dx,ho⟩:=hb.obj;have U:=hb.tbl;cases e:st.nxt with
 |some m=>
  rw[e]at U;refine⟨_,M,a,_,dx,_,_,M,ho,T.aK,T.aX,ju,d.tb,_,M,.inl<|Fb.of U,M,_,M,fK M ?_⟩;have e1:st.three=st:=by unfold O8.three;rw[e]
  rw[e1]at q;exact q H d hb M Fr.refl
 |none=>
  rw[e]at U;refine⟨_,M,a,_,dx,_,_,M,ho,T.aK,T.aX,ju,d.tb,_,M,.inl<|Fb.of U,M,_,M,a9 (λz=>by cases z) ?_⟩;have la:((d.A0.map V.ref).length:Int)=st.size:=by rw[Q0];exact hb.row0.la
  obtain⟨a3,a4⟩:=bY z.pw;refine⟨_,M,a,_,dx,_,_,M,ho,T.aK,T.aX,ju,d.tb,_,_,_,M,M,Fb.of U,M,d.r0,_,M,.inl<|Fb.of hb.row0.lst,?_⟩;dsimp only;rw[la];have fin:∀{m:Int} {H':Hp} {r:Addr} {A:List Addr},st.three={st with nxt:=some m,mv:=0}->Fa H H'->H r=none->(∀b∈A,H b=none)->ON H' r A (List.replicate m.toNat []) m->H' d.tb=some (.lst [.ref d.r0])/\Q .non (upd H' d.tb<|.lst<|[.ref d.r0]++ [.ref r]):=λ{m H' r A} e3 s nr nA hr=>by
   have a0:=s _ _ U;have Z:∀b,Pf a st d b->∃o,H b=some o:=λb w=>hb.dom w;have a1:¬Pf a st d r:=λw=>by obtain⟨o,q⟩:=Z r w;rw[nr]at q;cases q
   have a2:∀b∈A,¬Pf a st d b:=λb hA w=>by obtain⟨o,q⟩:=Z b w;rw[nA b hA]at q;cases q
   refine⟨a0,?_⟩;have sb:=hb.begin (H':=upd H' d.tb<|.lst [.ref d.r0,.ref r]) e (m:=m) (r:=r) (A:=A) (by rw[af (cQ ho U<|by intro w;cases w),s _ _ ho,ho]) ag (λb hb1=>?_) (hr.frame λb hb1=>af ?_) a1 a2
   .rw[<-e3]at sb;refine q _ _ sb M λb o n w=>⟨?_,λy=>?_⟩
    .rw[af (λv=>n<|.inr<|.inl v)];exact s _ _ w
    .rw[e3]at y;rcases y with y|y|y|y|⟨_,y⟩|y
     .exact n<|.inl y
     .exact n<|.inr (.inl y)
     .exact n<|.inr (.inr<|.inl y)
     .exact n<|.inr (.inr<|.inr<|.inl y)
     .have y:b=r:=y;rw[y,nr]at w;cases w
     .rw[nA b y]at w;cases w
   .obtain⟨o,q⟩:=Z b (by
     rcases hb1 with w|w
     .exact .inr<|.inr (.inl w)
     .exact .inr<|.inr<|.inr<|.inl w)
    have:b≠d.tb:=by
     rcases hb1 with w|w
     .rw[w];exact hb.tr.symm
     .exact hb.row0.notr w U<|λ_ z=>by cases z
    rw[af this,s _ _ q,q]
   .rcases hb1 with w|w
    .rw[w];exact λv=>by rw[v,U]at nr;cases nr
    .exact λv=>by have:=nA b w;rw[v,U]at this;cases this
  by_cases cA:st.size<d.n/\st.size<256
  .have e3:st.three={st with nxt:=some (2*st.size),mv:=0}:=by
    unfold O8.three;rw[e];exact Vp<|by rwa[<-hn]
   refine⟨_,M,a,_,dx,_,_,M,ho,T.aK,T.bN,rG,_,M,_,_,M,M,_,M,mW cA.1 ⟨_,M,_,_,M,M,_,M,mW cA.2 ?_⟩⟩;refine⟨_,M,a,_,dx,_,_,M,ho,T.aK,T.aX,ju,.inl ⟨M,_,Fb.of U⟩,_,M,_,_,M,M,.inr ⟨(_),(_)⟩,_,M,(),(),λH' r A s nr nA hr=>?_⟩;obtain⟨f1,f2⟩:=fin (m:=st.size*2) (by rw[e3,XX]) s nr nA hr;exact⟨d.tb,_,_,M,M,f1,cU (by show 1<=1000;decide),f2⟩
  .by_cases cB:4*d.n<st.size/\4<st.size
   .have e3:st.three={st with nxt:=some (st.size/2),mv:=0}:=by
     unfold O8.three;rw[e];exact(Vo<|by rwa[<-hn]).trans<|Vp (by rwa[<-hn])
    have c1:¬st.size<d.n:=();refine⟨_,M,a,_,dx,_,_,M,ho,T.aK,T.bN,rG,_,M,_,_,M,M,_,M,a9 c1 ?_⟩;refine⟨_,M,a,_,dx,_,_,M,ho,T.aK,T.bN,rG,_,_,M,M,.inl ⟨(_),(_)⟩,_,M,_,_,M,M,_,M,mW cB.1 ⟨_,M,_,_,M,M,_,M,mW cB.2 ?_⟩⟩;refine⟨_,M,a,_,dx,_,_,M,ho,T.aK,T.aX,ju,.inl ⟨M,_,Fb.of U⟩,_,M,_,_,M,M,⟨(_),(_)⟩,_,M,(),(),λH' r A s nr nA hr=>?_⟩;obtain⟨f1,f2⟩:=fin (m:=st.size/2) e3 s nr nA hr;exact⟨d.tb,_,_,M,M,f1,cU (by show 1<=1000;decide),f2⟩
   .have e3:st.three=st:=by
     unfold O8.three;rw[e];exact(Vo<|by rwa[<-hn]).trans<|Vo (by rwa[<-hn])
    rw[e3]at q;have q0:=q H d hb M Fr.refl;by_cases c1:st.size<d.n
    .have c2:¬st.size<256:=λw=>cA ⟨c1,w⟩;have c3:¬4*d.n<st.size:=();refine⟨_,M,a,_,dx,_,_,M,ho,T.aK,T.bN,rG,_,M,_,_,M,M,_,M,mW c1 ⟨_,M,_,_,M,M,_,M,a9 c2 ?_⟩⟩;exact⟨_,M,a,_,dx,_,_,M,ho,T.aK,T.bN,rG,_,_,M,M,.inl ⟨(_),(_)⟩,_,M,_,_,M,M,_,M,a9 c3 q0⟩
    .refine⟨_,M,a,_,dx,_,_,M,ho,T.aK,T.bN,rG,_,M,_,_,M,M,_,M,a9 c1 ?_⟩;refine⟨_,M,a,_,dx,_,_,M,ho,T.aK,T.bN,rG,_,_,M,M,.inl ⟨(_),(_)⟩,_,M,_,_,M,M,_,M,?_⟩;by_cases c3:4*d.n<st.size
     .exact mW c3 ⟨_,M,_,_,M,M,_,M,a9 (λw=>cB ⟨c3,w⟩) q0⟩
     .exact a9 c3 q0
section
variable {d:RC}
def P6.put (h:P6 t H a st d) (z:OT st) {kv:List (Int×V)} (G:IsCell d st k c kv) (v:V):
  ∃d',P6 t (upd H c<|.dK<|aB<|bi kv k v) a {st with kv:=bi st.kv k v} d'/\d'.n=d.n/\∀b,Pf a {st with kv:=bi st.kv k v} d' b↔Pf a st d b:=
 h.setCell z G (xq (h.at G).2.2) (λ_ O=>xA O) (by rw[eC,eC,Vp M,Vp M]) λj I=>⟨by rw[eC,Vo I],by rw[eC,Vo I]⟩
def P6.drop (h:P6 t H a st d) (z:OT st) {kv:List (Int×V)} (G:IsCell d st k c kv):
  ∃d',P6 t (upd H c<|.dK<|aB<|bM kv k) a {st with kv:=bM st.kv k} d'/\d'.n=d.n/\∀b,Pf a {st with kv:=bM st.kv k} d' b↔Pf a st d b:=
 h.setCell z G (sf (h.at G).2.2) (λ_ O=> .inl<|Aa O) (by rw[eY,eY,Vp M,Vp M]) λj I=>⟨by rw[eY,Vo I],by rw[eY,Vo I]⟩
def P6.insM (h:P6 t H a st d):∃dx fs,H a=some (.ins t.aY dx fs)/\∀m,NoM m->fs.lookup m=none:=by
 obtain⟨dx,ho⟩:=h.obj;exact⟨dx,_,ho,λm z=>Lz z⟩
def O8.one_kv:st.one.kv=st.kv:=by
 unfold O8.one;cases st.nxt with
 |none=>rfl
 |some m=>show(if _ then _ else _:O8).kv=_;split<;>rfl
def O8.three_kv:st.three.kv=st.kv:=by
 unfold O8.three;cases st.nxt with
 |some m=>rfl
 |none=>show(if _ then _ else _:O8).kv=_;split;rfl;split<;>rfl
def ET {kv:List (Int×V)}:((bi kv k v).length:Int)=if(aG kv k).isSome=true then(kv.length:Int)else kv.length+1:=by
 have:=VH List.length (sv (kv:=kv) (k:=k) (v:=v));rw[Q0]at this;split
 .rename_i c;rw[Vp c,Q0]at this;lia
 .rename_i c;rw[Vo c,Q8,Q0]at this;simp at this;lia
end
def pW:CU P w K mg base OL 4 t.sY t.mf ["self","key"] (yA K t):=by
 refine T.Lh.okl yQ λs H vs Q E G h _=>?_;intro X;obtain⟨a,k,F,st,rfl,⟨d,hb,O,U,nd,z⟩,Z,q⟩:=h;refine⟨_,(az<|aD<|Hz<|D0 (i8 G) M2<|aR BC T.aK T.gw (db T) G.mo T.gG .nil ay<|ac M2 ai)
  ,?_⟩
 obtain⟨dx,fs,hi,Y⟩:=hb.insM;refine⟨_,M,_,M,a,dx,fs,M,hi,Y _ ∅,_,M,a,k,st,d,M,hb,z,λc kv I=>?_⟩;obtain⟨hc,_,_⟩:=hb.at I;refine⟨c,_,M,Pb.k (k:=Sum.inl k) hc,?_⟩;rw[O6,hb.val k c kv I];exact q H F ⟨d,hb,O,U,nd,z⟩ Fr.refl
def za:CU P w K mg base OL 4 t.sZ t.mh ["self","key"] (yB K t):=by
 refine T.Li.okl yR λs H vs Q E G h _=>?_;intro X;obtain⟨a,k,F,st,rfl,⟨d,hb,U,Y,nd,z⟩,h0,Z,q2⟩:=h;refine aj (OM 2<|aR BC T.aK T.gw (db T) G.mo T.gG .nil ay<|ac M2 ai)
   (aj (aQ (DX<|zJ (i8 G) M2 O1)
    (az eJ)
    aI)
   (aA (aD<|EJ (i8 G) O1 M2<|λ_ _=>M) ?_))
 intros
 have hA:PK K t H a F st:=⟨d,hb,U,Y,nd,z⟩;obtain⟨dx,fs,hi,hm⟩:=hb.insM;refine⟨_,M,a,dx,fs,M,hi,hm _ ∅,_,M,a,k,st,d,M,hb,z,λc kv I=>?_⟩;obtain⟨hc,_,_⟩:=hb.at I;have O:=hb.val k c kv I;refine⟨_,M,_,M,c,_,M,Pb.k (k:=Sum.inl k) hc,?_⟩;rw[O6,O];cases e:aG st.kv k with
 |none=>
  refine⟨_,M,cH ?_⟩;exact(q2 e).elim
 |some v=>
  refine⟨_,M,cu ?_⟩;refine⟨_,M,_,M,c,v,M,?_,Z v e H F hA Fr.refl⟩;have:=Pb.k (k:=Sum.inl k) hc;rw[O6,O,e]at this;exact this
def y9:CU P w K mg base OL 4 t.sX t.l9 ["self","key","value"] (yz K t):=by
 refine T.Lg.okl yP λs H vs Q E hr h _=>?_;intro X;obtain⟨a,k,i,F,st,rfl,⟨d,hb,hF,hn,nd,z⟩,h0,hl,q⟩:=h;refine aj (aN<|aZ BC T.aK T.qP (ig T) hr.mo T.re .nil ay)
   (aj (OM 3<|aR BC T.aK T.gw (db T) hr.mo T.gG .nil ay<|ac M2 ai)
   (aj (aQ (DX<|zJ (i8 hr) M2 OR)
    (az<|iE BC ae xJ)
    aI)
   (aj (jw (i8 hr) OR M2 O1 M)
   (aA (aN<|aZ BC T.aK T.qQ (ii T) hr.mo T.rf .nil ay) ?_))))
 intros
 obtain⟨dx,fs,hi,hm⟩:=hb.insM;refine⟨_,M,a,dx,fs,M,hi,hm _ ∅,a,st,d,M,hb,z,hl,λH1 Y hb1 e1 O=>?_⟩;obtain⟨ah,an,ax,b1⟩:=hb1.insM;have z1:=z.one;refine⟨_,M,a,ah,an,M,ax,b1 _ ∅,_,M,a,k,st.one,Y,M,hb1,z1,λc kv ic=>?_⟩;obtain⟨hc,cF,_⟩:=hb1.at ic;have hv:=hb1.val k c kv ic;have sh:=hb1.short z1 ic;rw[O8.one_kv]at hv sh;obtain⟨U,Z⟩:=hb1.obj;have na:a≠c:=cQ Z hc (by intro w;cases w);have key:∀(H2:Hp) (n2:Int),P6 t H2 a st.one {Y with n:=n2}->Fr (Pf a st d) (Pf a st.one Y) H H2->n2=((bi st.kv k<|.int i).length:Int)->∃I,P6 t (upd H2 c<|.dK<|aB<|bi kv k<|.int i) a {st.one with kv:=bi st.one.kv k (.int i)} I/\I.n=((bi st.one.kv k<|.int i).length:Int)/\
   ∀H4 d4,P6 t H4 a (O8.three {st.one with kv:=bi st.one.kv k (.int i)}) d4->d4.n=I.n->Fr (Pf a {st.one with kv:=bi st.one.kv k (.int i)} I) (Pf a (O8.three {st.one with kv:=bi st.one.kv k (.int i)}) d4) (upd H2 c<|.dK<|aB<|bi kv k<|.int i) H4->Q .non H4:=λH2 n2 a0 b2 b4=>by
  obtain⟨I,G,e3,f3⟩:=a0.put z1 (kv:=kv) ic (.int i);have a1:I.n=((bi st.one.kv k<|.int i).length:Int):=by rwa[e3,O8.one_kv]
  refine⟨I,G,a1,λH4 d4 aa e4 ab=>?_⟩;rw[O8.one_kv]at aa ab f3 a1;refine q H4 _ ⟨d4,aa,λb=>Iff.rfl,?_,?_,?_⟩ ?_
  .show d4.n=((O8.three _).kv.length:Int);rw[O8.three_kv,e4,a1]
  .show((O8.three _).kv.map (·.1)).Nodup;rw[O8.three_kv];exact xq nd
  .exact(z1.kv).three
  .have step:Fr (Pf a st.one Y) (Pf a {st.one with kv:=bi st.kv k (.int i)} I) H2 (upd H2 c<|.dK<|aB<|bi kv k<|.int i):=λb o n w=>⟨by rwa[af (λy=>n<|by rw[y];exact cF)],λy=>n<|(f3 b).mp y⟩;exact Fr.trans (λb o n w=>b2 b o (λy=>n<|(hF b).mpr y) w)<|Fr.trans step ab
 refine⟨_,M,_,M,c,_,M,Pb.k (k:=Sum.inl k) hc,?_⟩;rw[O6,hv];have kl:(aB kv).length<sizeLine:=by rw[bj];exact FC ()
 cases e:aG st.kv k with
 |none=>
  refine⟨_,M,cH ?_⟩;refine⟨_,M,a,_,U,_,_,M,Z,T.aK,T.bN,rG,_,_,M,M,U,_,Z,rF,?_⟩;rw[LE];have a0:=hb1.setN (dx:=U) (n:=Y.n+1);have b5:upd H1 a (.ins t.aY U<|Pl Y.tb st.one.moved<|Y.n+1) c=some (.dK<|aB kv):=by rwa[af na.symm]
  obtain⟨I,G,n3,fin⟩:=key _ _ a0 (λb o n w=>⟨by rw[af (λy=>(O b o n w).2<|.inl y)];exact(O b o n w).1,(O b o n w).2⟩) (by rw[ET,e,e1,hn];rfl);refine⟨_,M,_,M,_,M,c,_,M,Pm.k (k:=Sum.inl k) b5 kl,?_⟩;rw[b9];obtain⟨a2,a3,a4,a5⟩:=G.insM;exact⟨_,M,a,a2,a3,M,a4,a5 _ ∅,a,_,I,M,G,z1.kv,n3,fin⟩
 |some v=>
  refine⟨_,M,cu ?_⟩;obtain⟨I,G,n3,fin⟩:=key H1 Y.n hb1 O (by rw[ET,e,e1,hn];rfl);refine⟨_,M,_,M,_,M,c,_,M,Pm.k (k:=Sum.inl k) hc kl,?_⟩;rw[b9];obtain⟨a2,a3,a4,a5⟩:=G.insM;exact⟨_,M,a,a2,a3,M,a4,a5 _ ∅,a,_,I,M,G,z1.kv,n3,fin⟩
def xi:CU P w K mg base OL 5 t.qk t.j7 ["self","key"] (wt K t):=by
 refine T.JP.okl wL λs H vs Q E Y h _=>?_;intro X;obtain⟨a,k,F,st,rfl,hA,h0,q1,q2⟩:=h;refine aj (aQ (lJ<|cx<|aR BC T.aK T.Ba (pW T) Y.mo T.Bx .nil ay<|ac M2 ai)
    (az eJ)
    aI)
   (aj (aN<|aZ BC T.aK T.qP (ig T) Y.mo T.re .nil ay)
   (aj (aN<|dC QD Zt X2 A7 (aR BC T.aK T.gw (db T) Y.mo T.gG .nil ay<|ac M2 ai)<|ac M2 ai)
   (aj (iE BC ae M1)
   (aA (aN<|aZ BC T.aK T.qQ (ii T) Y.mo T.rf .nil ay) ?_))))
 intros
 obtain⟨dx,fs,hi,hm⟩:=hA.ins;refine⟨_,M,a,dx,fs,M,hi,hm _ ∅,_,M,a,k,F,st,M,hA,h0,λH0 F0 a0 a1=>?_⟩;cases e:aG st.kv k with
 |none=>
  refine⟨_,M,cH ?_⟩;exact(q2 e).elim
 |some v=>
  refine⟨_,M,cu ?_⟩;obtain⟨d,hb,hF,hn,nd,z⟩:=a0;obtain⟨dx,fs,hi,hm⟩:=hb.insM;obtain⟨hl,q1⟩:=q1 (by rw[e];rfl);refine⟨_,M,a,dx,fs,M,hi,hm _ ∅,a,st,d,M,hb,z,hl,λH1 d1 hb1 e1 a2=>?_⟩;obtain⟨a3,a4,a5,aa⟩:=hb1.insM;have Z:=z.one;refine⟨_,M,a,a3,a4,M,a5,aa _ ∅,_,M,a,k,st.one,d1,M,hb1,Z,λc kv ic=>?_⟩;obtain⟨hc,cF,_⟩:=hb1.at ic;have hv:=hb1.val k c kv ic;rw[O8.one_kv,e]at hv;obtain⟨d3,G,e3,f3⟩:=hb1.drop Z ic;rw[O8.one_kv]at G f3;refine⟨.inr<|.inr<|.inl ⟨M,.inl ⟨_,hc⟩⟩,_,M,c,_,Sum.inl k,v,M,M,hc,O6.trans hv,?_⟩;rw[lP];obtain⟨I,O⟩:=G.obj;refine⟨_,M,a,_,I,_,_,M,O,T.aK,T.bN,rG,_,_,M,M,I,_,O,rF,?_⟩;rw[LE];have U:=G.setN (dx:=I) (n:=d3.n-1);obtain⟨ab,ah,an,ax⟩:=U.insM;have dl:=Ab nd (vR e);have n4:d3.n-1=((bM st.kv k).length:Int):=by rw[e3,e1,hn];lia
  refine⟨_,M,a,ab,ah,M,an,ax _ ∅,a,_,_,M,U,Z.kv,n4,λH5 d5 b1 e5 b2=>?_⟩;refine q1 H5 _ ⟨d5,b1,λb=>Iff.rfl,?_,?_,Z.kv.three⟩ ?_
  .show d5.n=((O8.three _).kv.length:Int);rwa[O8.three_kv,e5]
  .show((O8.three _).kv.map (·.1)).Nodup;rw[O8.three_kv];exact sf nd
  .refine a1.trans<|Fr.trans (λb o n w=>a2 b o (λy=>n<|(hF b).mpr y) w) (Fr.trans (λb o n w=>?_) b2);exact⟨by rwa[af (λy=>n<|.inl y),af (λy=>n<|by rw[y];exact cF)],λy=>n<|(f3 b).mp y⟩
def nW:CU P w K mg base OL 1 t.qi t.j5 ["self"] (wn K t):=by
 refine T.JN.okl wJ λs H vs Q E U h _=>?_;intro X;obtain⟨a,F,st,rfl,⟨d,hb,hF,hn,nd,z⟩,q⟩:=h;refine⟨_,(az<|aD<|pB M (OO.of (M':=["row"]) (N:=["self"]) (N':=["self"]) (dsc:=al gH) M M ∅) (cK<|au BC M)<|λ_ _ _ _ _=>(aE (zp K M) {_} T.bL bf (ac BC ai)))
  ,?_⟩
 have hA:PK K t H a F st:=⟨d,hb,hF,hn,nd,z⟩;obtain⟨dx,ho⟩:=hb.obj;have Y:∃xs,H d.tb=some (.lst xs)/\xs.length=st.rows.length/\∀(i:Nat) (x:V),xs[i]?=some x->∃r rs,x= .ref r/\H r=some (.lst rs)/\st.rows[i]?=some (rs.length:Int):=by
  have G:=hb.tbl;have l0:((d.A0.map V.ref).length:Int)=st.size:=by rw[Q0];exact hb.row0.la
  unfold O8.rows;have r1:=hb.row1;cases e:st.nxt with
  |none=>
   rw[e]at G;refine⟨_,G,M,λi x hx=>?_⟩;cases i with
   |zero=>cases hx;exact⟨d.r0,_,M,hb.row0.lst,by rw[l0];rfl⟩
   |succ j=>simp at hx
  |some m=>
   rw[e]at G r1;have l1:((d.A1.map V.ref).length:Int)=m:=by rw[Q0];exact r1.la
   refine⟨_,G,M,λi x hx=>?_⟩;cases i with
   |zero=>cases hx;exact⟨d.r0,_,M,hb.row0.lst,by rw[l0];rfl⟩
   |succ j=>
    cases j with
    |zero=>cases hx;exact⟨d.r1,_,M,r1.lst,by rw[l1];rfl⟩
    |succ j=>simp at hx
 obtain⟨xs,G,lx,look⟩:=Y;refine⟨_,M,a,_,dx,_,_,M,ho,T.aK,T.aX,ju,d.tb,M,⟨_,Fb.of G⟩,λD hD=>?_⟩;refine uL (K:=K) (a:=d.tb) (xs:=xs) (λi ys H3=>H3=upd H D (.lst ys)/\ys=(st.rows.take i).map V.int) ⟨M,M⟩ (λi ys H3 _ w=>Fb.of<|by rwa[w.1,af (am G hD)]) (λi x ys H3 hx w I=>?_)<|λys H3 w I=>?_
 .obtain⟨O,e2⟩:=w;obtain⟨r,rs,rfl,U,hs⟩:=look i x hx;have hi:i<xs.length:=(Q2.mp hx).1;have Z:H3 r=some (.lst rs):=by rwa[O,af (am U hD)]
  refine⟨_,M,r,_,M,.inl<|Fb.of Z,P7.mk hi I ?_ ⟨?_,?_⟩⟩
  .rw[e2,Q0,Q6];have:st.rows.length<=2:=by(unfold O8.rows;cases st.nxt<;>simp)
   exact cU ()
  .rw[O,eG]
  .rw[e2,Qq,hs,Qg];rfl
 .obtain⟨O,e2⟩:=w;rw[lx,QB]at e2;subst e2;subst O;exact q _ F D (hA.new hD) (Fr.of_same<|ak hD) hD (hA.out hD) ag
def Mr {sh n:Int}:bK ("kept":Str) (.int n) (bK ("shifted":Str) (.int sh)<|bK ("table":Str) (.ref tb) [])=Pl tb sh n:=by
 have z:bK ("table":Str) (.ref tb) []=[(("table":Str),V.ref tb)]:=M;rw[z,bK,Vo ∅,bK,bK,Vo ∅,bK,Vo ∅,bK];rfl
def xh:CU P w K mg base OL 2 t.qj t.j6 ["self"] (wq K t):=by
 obtain⟨G,z⟩:=T.g_LEAST_SIZE;refine T.JO.okl wK λs H vs Q E I h _=>?_;intro X;obtain⟨a,dx,rfl,ha,hd,q⟩:=h;refine aj (bh BC (bZ<|ac (aL (rX T) I.mo {_} T.uX T.pe.kp T.uZ .nil ay (ac (c8 (v:= .int 4) {_} z ⟨_,M⟩) ai)) ai) M)
   (aj (bh BC ae M)
   (aA (bh BC ae M) ?_))
 intros
 refine⟨4,M,(_),(_),λH' r A s nr nA I=>⟨(by show 1<=sizeLine;decide),λtb Y=>?_⟩⟩;have O:=s _ _ ha;have U:a≠tb:=am O Y;refine⟨_,M,a,_,dx,[],M,(by rwa[af U]),T.aK,T.aX,(by show 0<1000;decide),?_⟩;refine⟨_,M,a,_,dx,_,M,ag,T.aK,T.bX,?_,?_⟩
 .show 1<1000;decide
 refine⟨_,M,a,_,dx,_,M,ag,T.aK,T.bN,?_,?_⟩
 .have h1:=nO (f:="shifted") (v:= .int 0) (bK "table" (.ref tb) []);have h2:=nO (f:="table") (v:= .ref tb) [];have h3:([]:List (Str×V)).length=0:=M;lia
 rw[Mr,eG,eG];have a0:tb≠r:=(am I.lst Y).symm;have sb:=P6.fresh (t:=t) (H:=upd (upd H' tb<|.lst [.ref r]) a<|.ins t.aY dx<|Pl tb 0 0) (a:=a) (tb:=tb) (r:=r) (A:=A) (dx:=dx) ag (by rw[af U.symm];exact ag) (I.frame λb hb1=>?_) a0
 .refine q _ _ ⟨_,sb,λb=>Iff.rfl,M,Z0,OT.new⟩ λb o n w=>?_;have Z:b≠a:=λy=>n (.inl y);have w1:=s _ _ w;have n2:b≠tb:=am w1 Y;refine⟨by rwa[af Z,af n2],λy=>?_⟩;rcases y with y|y|y|y|⟨y,_⟩|y
  .exact Z y
  .exact n2 y
  .have y:b=r:=y;rw[y,nr]at w;cases w
  .rw[nA b y]at w;cases w
  .cases y
  .cases y
 .have:∃o,H' b=some o:=by
   rcases hb1 with rfl|hb1
   .exact⟨_,I.lst⟩
   .obtain⟨_,_,_,_,w⟩:=I.has hb1;exact⟨_,w⟩
  obtain⟨o,w⟩:=this;have n2:b≠tb:=am w Y;have Z:b≠a:=λy=>by
   rcases hb1 with y2|y2
   .rw[<-y2,y,ha]at nr;cases nr
   .have:=nA b y2;rw[y,ha]at this;cases this
  rw[af Z,af n2]
def nV:CU P w K mg base OL 3 t.qg t.j3 ["self","place"] (wk K t):=by
 refine T.JL.okl wH λs H vs Q E G h _=>?_;intro X;obtain⟨a,p,F,st,rfl,I,U,Z,q⟩:=h;refine aj (OM 2<|aE (Af M) {_} T.BM uN (ac (aZ BC T.aK T.zi (nW T) G.mo T.zr .nil ay) ai))
   (aA (aD<|aS bB (aL (yY T) G.mo {_} T.KL T.BE.kp T.K4 .nil ay (ac (aL (xa T) G.mo {_} T.FY T.At.kp T.Gv .nil ay (ac M2<|ac O1 ai))<|ac O1 ai)) ae<|λ_ _=>M) ?_)
 intros
 have z:OT st:=let⟨_,_,_,_,_,z⟩:=I;z
 obtain⟨s4,s5⟩:=bY (jZ z);obtain⟨x,y,R⟩:=AS (jZ z);obtain⟨dx,fs,hi,hm⟩:=I.ins;refine⟨_,M,a,dx,fs,M,hi,hm _ ∅,a,F,st,M,I,λH1 F1 l sA fr nl oF hl=>⟨l,st.rows,M,Fb.of hl,?_,λM' hM O=>?_⟩⟩
 .unfold O8.rows;cases st.nxt<;>simp
 .have eM:=Ia hM O;subst eM;refine⟨_,M,_,M,p,_,M,U,(),_,M,_,_,M,Qf _ (),(),(),λtp Y=>?_⟩;rw[AB R U Z];exact⟨tp,_,_,_,M,M,OX.of ag,M,q _ F1 (sA.new Y)<|fr.trans (Fr.of_same<|ak Y)⟩
structure Rw where
 r:Addr
 A:List Addr
 C:List (List<|Int×V)
 s:Int
noncomputable def fY (st:O8) (d:RC):List Rw:=match st.nxt with|none=> [⟨d.r0,d.A0,d.C0,st.size⟩]|some m=> [⟨d.r0,d.A0,d.C0,st.size⟩,⟨d.r1,d.A1,d.C1,m⟩]
def P4 (k:Int):Int:=tz (k%65536)
def vW {st:Int} {x:Nat} (h:0<st):x<qY lo hi st↔lo+(x:Int)*st<hi:=by
 unfold qY;rw[pU h];by_cases c:lo<hi
 .rw[Vp c];have a:0<=(hi-lo-1)/st:=Vf () ();have e:(x:Int)<=(hi-lo-1)/st↔(x:Int)*st<=hi-lo-1:=Int.le_ediv_iff_mul_le h;lia
 .rw[Vo c];have:0<=(x:Int)*st:=Xl () ();lia
def bD {kv:List (Int×V)} (nd:(kv.map (·.1)).Nodup) (h:(k,v)∈kv):aG kv k=some v:=by
 induction kv with
 |nil=>cases h
 |cons p r z=>
  rw[Qt,QQ]at nd;by_cases e:p.1=k
  .rw[br e];rcases Qh.mp h with h|h
   .rw[<-h]
   .exact Vt (Zm (f:=(·.1)) h)<|by rw[<-e]at*;exact nd.1
  .rw[bn e];rcases Qh.mp h with h|h
   .rw[<-h]at e;exact Vt M e
   .exact z nd.2 h
def bE {kv:List (Int×V)} (h:aG kv k=some v):(k,v)∈kv:=by
 induction kv with
 |nil=>rw[kB]at h;cases h
 |cons p r z=>
  by_cases e:p.1=k
  .rw[br e]at h;cases h;rw[<-e];exact Qb
  .rw[bn e]at h;exact Qd _<|z h
def vY {d:RC} {ri:Nat} {R:Rw} {kv:List (Int×V)} (hb:P6 t H a st d) (U:(fY st d)[ri]?=some R) (hk:R.C[j]?=some kv) (Y:(k,v)∈kv):
  k%65536%R.s=(j:Int)/\(kv.map (·.1)).Nodup/\∃c,IsCell d st k c kv:=by
 have O:∀{A:List Addr} {C:List (List<|Int×V)} {r:Addr} {s:Int} {x:Nat},ON H r A C s->C[x]?=some kv->∃b,A[x]?=some b:=λ{A C r s x} ro h=>by
  have h1:=(Q2.mp h).1;have h2:=ro.la;have h3:=ro.lc;exact⟨A[x]'(),Q3 _⟩
 have Z:kv≠[]:=λz=>by rw[z]at Y;cases Y
 have I:=hb.row1;have zero:(j:Int)<st.moved->d.C0[j]?=some kv->False:=λh1 h2=>Z (hb.old _ _ h2 h1);unfold fY at U;cases en:st.nxt with
 |none=>
  rw[en]at U;cases ri with
  |zero=>
   cases U;have G:=hb.row0.home _ _ hk _ Y;obtain⟨b,eb⟩:=O hb.row0 hk;refine⟨G,hb.row0.ndk _ _ hk,b,.inl ⟨?_,by rwa[G],by rwa[G]⟩⟩;rw[G,O8.moved_none en];lia
  |succ j=>simp at U
 |some m=>
  rw[en]at U I;cases ri with
  |zero=>
   cases U;have G:=hb.row0.home _ _ hk _ Y;obtain⟨b,eb⟩:=O hb.row0 hk;refine⟨G,hb.row0.ndk _ _ hk,b,.inl ⟨?_,by rwa[G],by rwa[G]⟩⟩;rw[G];exact Int.not_lt.mp λy=>zero y hk
  |succ j'=>
   cases j' with
   |zero=>
    cases U;have G:=I.home _ _ hk _ Y;obtain⟨b,eb⟩:=O I hk;exact⟨G,I.ndk _ _ hk,b,.inr ⟨_,en,hb.new _ _ hk _ Y,by rwa[G],by rwa[G]⟩⟩
   |succ j=>simp at U
noncomputable def pR (C:List (List<|Int×V)) (s m:Int) (x:Nat):List (Int×V):=C.getD (s+(x:Int)*m).toNat []
def Ki (s m:Int) (R:Rw):List (Int×V):=(List.range<|qY s R.s m).flatMap (pR R.C s m)
def MP (st:O8) (d:RC) (s:Int):List (Int×V):=(fY st d).flatMap (Ki s st.low)
def ua {d:RC} (z:OT st) {R:Rw} (h:R∈fY st d):R.s=st.low\/R.s=2*st.low:=by
 unfold fY at h;unfold O8.low;cases e:st.nxt with
 |none=>rw[e]at h;rw[Q7.mp h];exact .inl M
 |some m=>
  rw[e]at h;obtain⟨_,_,_,nx⟩:=z.nx m e;have p:=bY z.pw;show R.s=(if m<st.size then m else st.size)\/R.s=2*(if m<st.size then m else st.size);rcases Qh.mp h with h|h
  .rw[h];show st.size=_\/st.size=_;split<;>lia
  .rw[Q7.mp h];show m=_\/m=_;split<;>lia
def ES {x r:Int} (h:r=m\/r=2*m):x%r%m=x%m:=by
 rcases h with rfl|rfl
 .exact Int.emod_emod_of_dvd _<|Int.dvd_refl _
 .exact Int.emod_emod_of_dvd _ ⟨2,()⟩
def KG {d:RC} {s:Int} (hb:P6 t H a st d) (z:OT st) (nd:(st.kv.map (·.1)).Nodup) (s0:0<=s) (s1:s<st.low) (k:Int) (v:V):
  (k,v)∈MP st d s↔(k,v)∈st.kv/\k%65536%st.low=s:=by
 have lp:=bY (jZ z);constructor
 .intro h;obtain⟨R,G,h⟩:=ZM.mp h;obtain⟨x,hx,h⟩:=ZM.mp h;have hx:=Vh.mp hx;have O:=ua z G;obtain⟨ri,U,Y⟩:=QF G;have Y:(fY st d)[ri]?=some R:=by rw[Q3 U,Y]
  unfold pR at h;have xs:=(vW ()).mp hx;have xm:0<=(x:Int)*st.low:=Xl () ();cases Z:R.C[(s+(x:Int)*st.low).toNat]? with
  |none=>rw[Qk,Z]at h;cases h
  |some kv=>
   rw[Qk,Z]at h;have h:(k,v)∈kv:=h;obtain⟨h1,h2,c,I⟩:=vY hb Y Z h;refine⟨bE (by rw[<-hb.val k c kv I];exact bD h2 h),?_⟩;rw[<-ES O,h1,Xi (),Int.add_mul_emod_self_right];exact Int.emod_eq_of_lt s0 s1
 .rintro ⟨h,hs⟩;obtain⟨c,kv,ic⟩:=hb.cell z k;have hv:=hb.val k c kv ic;rw[bD nd h]at hv;have hm:=bE hv;have fin:∀R:Rw,R∈fY st d->R.C[(k%65536%R.s).toNat]?=some kv->(k,v)∈MP st d s:=λR G hk=>by
   have O:=ua z G;have j0:0<=k%65536%R.s:=Qf _ ();have j1:k%65536%R.s<R.s:=Qc _ ();have jm:=ES (x:=k%65536) O;rw[hs]at jm;have dv:=XD (k%65536%R.s) st.low;have q0:0<=k%65536%R.s/st.low:=Vf j0 ();have eq:s+((k%65536%R.s/st.low).toNat:Int)*st.low=k%65536%R.s:=by
    rw[Xi q0,XX];lia
   refine ZM.mpr ⟨R,G,ZM.mpr ⟨(k%65536%R.s/st.low).toNat,Vh.mpr<|(vW ()).mpr (by rwa[eq]),?_⟩⟩;unfold pR;rwa[eq,Qk,hk]
  rcases ic with⟨_,_,I⟩|⟨m,en,_,_,I⟩
  .refine fin ⟨d.r0,d.A0,d.C0,st.size⟩ ?_ I;unfold fY;cases st.nxt<;>simp
  .refine fin ⟨d.r1,d.A1,d.C1,m⟩ ?_ I;unfold fY;rw[en];simp
def pD {C:List (List<|Int×V)} {s:Int} {x:Nat} {p:Int×V} (h:p∈pR C s m x):∃kv,C[(s+(x:Int)*m).toNat]?=some kv/\p∈kv:=by
 unfold pR at h;cases z:C[(s+(x:Int)*m).toNat]? with
 |none=>rw[Qk,z]at h;cases h
 |some kv=>
  rw[Qk,z]at h;exact⟨kv,M,h⟩
def FQ {d:RC} {s:Int} (hb:P6 t H a st d) (z:OT st) (s0:0<=s):((MP st d s).map (·.1)).Nodup:=by
 have lp:=bY (jZ z);refine QP.mpr ?_;have row:∀R∈fY st d,(Ki s st.low R).Pairwise (λp q=>p.1≠q.1):=λR O=>by
  obtain⟨ri,U,G⟩:=QF O;have G:(fY st d)[ri]?=some R:=by rw[Q3 U,G]
  refine List.pairwise_flatMap.mpr ⟨λx _=>?_,?_⟩
  .unfold pR;cases Y:R.C[(s+(x:Int)*st.low).toNat]? with
   |none=>rw[Qk,Y];exact VJ
   |some kv=>
    rw[Qk,Y];show List.Pairwise _ kv;cases ke:kv with
    |nil=>exact VJ
    |cons p r=>
     have:=(vY hb G Y (k:=p.1) (v:=p.2)<|by rw[ke];exact Qb).2.1;rw[ke]at this;exact QP.mp this
  .refine(List.pairwise_lt_range (n:=qY s R.s st.low)).imp λ{x y} a3 p I q hq e=>?_;obtain⟨kv,h1,h2⟩:=pD I;obtain⟨kv',Z,h4⟩:=pD hq;have a1:=(vY hb G h1 h2).1;have a2:=(vY hb G Z h4).1;have m1:(x:Int)*st.low<(y:Int)*st.low:=Int.mul_lt_mul_of_pos_right () ();have m0:0<=(x:Int)*st.low:=Xl () ();rw[e,a2]at a1;lia
 refine List.pairwise_flatMap.mpr ⟨row,?_⟩;have a0:=hb.row1;unfold fY;cases en:st.nxt with
 |none=>exact Zh _ _
 |some m=>
  refine Zd.mpr ⟨λR O p I q hq e=>?_,Zh _ _⟩;rw[Q7.mp O]at hq;obtain⟨x,_,I⟩:=ZM.mp I;obtain⟨y,_,hq⟩:=ZM.mp hq;obtain⟨kv,h1,h2⟩:=pD I;obtain⟨kv',Z,h4⟩:=pD hq;have n1:=hb.new _ _ Z _ h4;have n2:=hb.row0.home _ _ h1 _ h2;have n3:¬((s+(x:Int)*st.low).toNat:Int)<st.moved:=λc=>by
   have:=hb.old _ _ h1 c;rw[this]at h2;cases h2
  rw[<-e,n2]at n1;exact n3 n1
structure Ly (X:List Addr) (H H':Hp) (l:Addr) (ts:List Tp) (L:List (Int×V)):Prop where
 sm:∀c o,c∉X->H c=some o->H' c=some o
 li:H' l=some (.lst<|ts.map λe=>V.ref e.p)
 tu:∀e∈ts,H' e.p=some (.tup [.int (P4 e.k),.int e.k,e.v])/\H e.p=none
 eq:ts.map Tp.kv=L
section
variable {X:List Addr} {H'':Hp} {l:Addr} {L:List (Int×V)}
def Ly.same (h:Ly X H H' l ts L) (s:Fa H' H''):Ly X H H'' l ts L:=⟨λc o n e=>s _ _<|h.sm c o n e,s _ _ h.li,λe he=>⟨s _ _ (h.tu e he).1,(h.tu e he).2⟩,h.eq⟩
def Ly.add (h:Ly X H H' l ts L) (s:Fa H' H'') (G:H' p=none) (U:H l=none) (Y:∀c∈X,∃o,H c=some o/\∃o',H' c=some o') (Z:H'' p=some (.tup [.int (P4 k),.int k,v])):
  Ly X H (upd H'' l<|.lst<|ts.map (λe=>V.ref e.p)++ [.ref p]) l (ts++ [⟨p,k,v⟩]) (L++ [(k,v)]):=by
 have pl:p≠l:=λz=>by rw[z,h.li]at G;cases G
 have I:H p=none:=by
  cases q:H p with
  |none=>rfl
  |some o=>
   by_cases c:p∈X
   .obtain⟨_,_,o',O⟩:=Y p c;rw[G]at O;cases O
   .rw[h.sm _ _ c q]at G;cases G
 have h2:=h.same s;refine⟨λc o n e=>?_,by rw[ag,Qg];rfl,λe he=>?_,by rw[Qg,h.eq];rfl⟩
 .rw[af λz=>by rw[z,U]at e;cases e];exact h2.sm c o n e
 .rcases Q5.mp he with he|he
  .have q:=h2.tu e he;exact⟨by rw[af λz=>by rw[z,h2.li]at q;cases q.1];exact q.1,q.2⟩
  .rw[Q7.mp he];exact⟨by rwa[af pl],I⟩
def Ly.freeze {o':HO} (h:Ly [] H H' l ts L) (hb:H b=some o) (bl:b≠l):Ly [b] H (upd H' b o') l ts L:=
 ⟨λc o n e=>by rw[af λz=>n (by rw[z];exact Qb)];exact h.sm c o (by simp) e,by rw[af bl.symm];exact h.li,
  λe he=>⟨by rw[af λz=>by have:=(h.tu e he).2;rw[z,hb]at this;cases this];exact(h.tu e he).1,(h.tu e he).2⟩,h.eq⟩
def Ly.thaw (h:Ly [b] H H' l ts L) (hb:H b=some o) (bl:b≠l):Ly [] H (upd H' b o) l ts L:=by
 refine⟨λc o' _ e=>?_,by rw[af bl.symm];exact h.li,λe he=>⟨by rw[af λz=>by have:=(h.tu e he).2;rw[z,hb]at this;cases this];exact(h.tu e he).1,(h.tu e he).2⟩,h.eq⟩;by_cases z:c=b
 .rwa[z,ag,<-hb,<-z]
 .rw[af z];exact h.sm c o' (by simpa using z) e
end
def qy (K:JK) (t:OJ):Sp:=λvs H Q _=>∃(a:Addr) (p:Int) (F:Addr->Prop) (st:O8),vs=[.ref a,.int p]/\PK K t H a F st/\0<=p/\p<65536/\st.kv.length<4096/\
 ∀(H':Hp) (F':Addr->Prop) (l:Addr) (ts:List Tp),PK K t H' a F' st->Fr F F' H H'->¬F' l->H' l=some (.lst<|ts.map λe=>V.ref e.p)->(∀e∈ts,H' e.p=some (.tup [.int (P4 e.k),.int e.k,e.v])/\¬F' e.p)->
  (∀k v,(k,v)∈ts.map Tp.kv↔(k,v)∈st.kv/\k%65536%st.low=tz p%st.low)->((ts.map Tp.kv).map (·.1)).Nodup->Q (.ref l) H'
def Me {d:RC} (hb:P6 t H a st d) (sz:OT st):∃xs,H d.tb=some (.lst xs)/\xs.length=(fY st d).length/\(fY st d).length<=2/\
  ∀(i:Nat) (x:V),xs[i]?=some x->∃R:Rw,x= .ref R.r/\(fY st d)[i]?=some R/\ON H R.r R.A R.C R.s/\R.s<=256/\∀(j:Nat) (kv:List (Int×V)),R.C[j]?=some kv->kv.length<=st.kv.length:=by
 have pw:=bY sz.pw;have z:=hb.tbl;have r1:=hb.row1;unfold fY;cases e:st.nxt with
 |none=>
  rw[e]at z;refine⟨_,z,M,by simp,λi x hx=>?_⟩;cases i with
  |zero=>cases hx;exact⟨_,M,M,hb.row0,pw.2,λj kv h=>hb.short0 sz h⟩
  |succ j=>simp at hx
 |some m=>
  rw[e]at z r1;refine⟨_,z,M,by simp,λi x hx=>?_⟩;cases i with
  |zero=>cases hx;exact⟨_,M,M,hb.row0,pw.2,λj kv h=>hb.short0 sz h⟩
  |succ j=>
   cases j with
   |zero=>cases hx;exact⟨_,M,M,r1,(bY (sz.nx m e).1).2,λj kv h=>hb.short1 sz e h⟩
   |succ j=>simp at hx
def IE {RR:List Rw} {f:Rw->List (Int×V)} {R:Rw} (e:RR[i]?=some R):(RR.take<|i+1).flatMap f=(RR.take i).flatMap f++f R:=by
 rw[Qq,e,List.flatMap_append];simp
def El {f:Nat->List (Int×V)} {x:Nat}:(List.range<|x+1).flatMap f=(List.range x).flatMap f++f x:=by
 rw[List.range_succ,List.flatMap_append];simp
def Fy {kv:List (Int×V)} {p:Int×V} (e:kv[i]?=some p):kv.take (i+1)=kv.take i++ [p]:=by
 rw[Qq,e];rfl
def qM:CU P w K mg base OL 3 t.jC t.fO ["self","place"] (qy K t):=by
 refine T.Fk.okl qD λs H vs Q E hr h _=>?_;intro X;obtain⟨a,p,F,st,rfl,hA,p0,p1,b4,q⟩:=h;refine aj (OM 2<|aE (Af M) {_} T.BM uN (ac (aZ BC T.aK T.zi (nW T) hr.mo T.zr .nil ay) ai))
   (aj (OM 3<|bZ ai)
   (bU (λx=>(dW VC M (cK<|au BC M) (Pr 4)
    x)) ?_))
 refine oo (λx=>(dW VC M (FJ {_} T.pj (ac (aL (xa T) hr.mo {_} T.FY T.At.kp T.Gv .nil ay (ac M2<|ac O1 ai))<|ac (aE aC {_} T.bL bf (ac PF ai))<|ac O1 ai)) (Pr 5)
    x)) ?_
 refine oo (λx=>(vT (dW VC M (Ce<|ud QD Xs PySem.F.type_dict_items Cn<|aS aU PF Pj<|λ_ _=>M) (w5 M<|dA (Pr 6)<|dA (Pr 7) rS)
    x))) ?_
 refine aA (aN<|dC Qr Z2 Z3 eZ OR<|ac (bO<|ac (aL (uU T) hr.mo {_} T.Ec T.yh.kp T.Ep .nil ay (ac RN ai))<|ac RN<|ac SN ai) ai) ?_
 intros
 refine aA (aD OR) ?_
 intros
 have z:OT st:=let⟨_,_,_,_,_,z⟩:=hA;z
 obtain⟨s4,s5⟩:=bY (jZ z);obtain⟨dx,fs,hi,hm⟩:=hA.ins;refine⟨_,M,a,dx,fs,M,hi,hm _ ∅,a,F,st,M,hA,λH1 F1 lr sA fr b5 oF a4=>⟨lr,st.rows,M,Fb.of a4,?_,λM' hM a5=>?_⟩⟩
 .unfold O8.rows;cases st.nxt<;>simp
 have eM:=Ia hM a5;subst eM;have sB:=sA;obtain⟨d,hb,hF,hn,nd,_⟩:=sB;obtain⟨aa,ho⟩:=hb.obj;obtain⟨xs,ht,lx,l2,look⟩:=Me hb z;have g0:0<=tz p%st.low:=Qf _ ();have g1:tz p%st.low<st.low:=Qc _ ();have U:st.low>0:=();refine⟨Qj _,λl nl=>?_⟩;have y0:Ly [] H1 (upd H1 l<|.lst []) l [] []:=⟨λc o _ e=>ak nl _ _ e,ag,(λe he=>by cases he),M⟩;generalize upd H1 l (.lst [])=H2 at y0⊢;generalize hs:tz p%st.low=I at g0 g1 q;refine⟨_,M,a,_,aa,_,_,M,y0.sm _ _ (by simp) ho,T.aK,T.aX,ju,d.tb,M,⟨_,Fb.of<|y0.sm _ _ (by simp) ht⟩,fc (K:=K) (a:=d.tb) (xs:=xs) (λi B H'=>∃(v4 v5 Y Z:Option V) (ts:List Tp),B=[some (.ref a),some (.int p),some (.int st.low),some (.ref l),v4,v5,Y,Z]/\Ly [] H1 H' l ts (((fY st d).take i).flatMap<|Ki I st.low)/\ts.length<=8192*i)
  ⟨_,_,_,_,[],M,y0,by simp⟩ (λi B H' _ w=>by obtain⟨_,_,_,_,_,_,c,_⟩:=w;exact Fb.of<|c.sm _ _ (by simp) ht) (λi x B H' hx w=>?_) (λB H' w=>?_)⟩
 .obtain⟨v4,v5,Y,Z,ts,G,c,lt⟩:=w;subst G;obtain⟨R,rfl,hR,ro,b2,ab⟩:=look i x hx;have hr:=c.sm _ _ (by simp) ro.lst;have iL:=(Q2.mp hx).1;have lA:((R.A.map V.ref).length:Int)=R.s:=by rw[Q0];exact ro.la
  have rl:=ua z (Q1 hR);have a1:∀y:Nat,y<qY I R.s st.low->y<2:=λy hy=>by
   have:=(vW U).mp hy;refine Nat.lt_of_not_le λy2=>?_;have:(2:Int)*st.low<=(y:Int)*st.low:=V9 () ();lia
  have b7:qY I R.s st.low<=2:=by
   by_cases c0:qY I R.s st.low=0
   .lia
   .have:=a1 (qY I R.s st.low-1) ();lia
  refine⟨_,M,_,M,p,_,M,p0,U,_,M,R.r,_,M,.inl<|Fb.of hr,_,M,_,_,_,M,?_,?_⟩
  .rw[hs,lA];exact⟨(),(),(),(),(),()⟩
  rw[hs,lA];generalize ah:((fY st d).take i).flatMap (Ki I st.low)=L0 at c;refine CC (n:=qY I R.s st.low) (λx B H'=>∃(v5 Y Z:Option V) (ts:List Tp),B=[some (.ref a),some (.int p),some (.int st.low),some (.ref l),some (.ref R.r),v5,Y,Z]/\Ly [] H1 H' l ts (L0++(List.range x).flatMap (pR R.C I st.low))/\ts.length<=8192*i+4096*x)
   ⟨_,_,_,ts,M,by simpa using c,()⟩ (λx B H' hx w=>?_) (λB H' w=>?_)
  .obtain⟨v5,Y,Z,ts,G,c,lt⟩:=w;subst G;have b8:=(vW U).mp hx;have x2:=a1 x hx;have xm:0<=(x:Int)*st.low:=Xl () ();have la:=ro.la;have lc:=ro.lc;have eb:R.A[(I+(x:Int)*st.low).toNat]?=some (R.A[(I+(x:Int)*st.low).toNat]'()):=Q3 ();have ek:R.C[(I+(x:Int)*st.low).toNat]?=some (R.C[(I+(x:Int)*st.low).toNat]'()):=Q3 ();generalize R.A[(I+(x:Int)*st.low).toNat]'()=b at eb;generalize R.C[(I+(x:Int)*st.low).toNat]'()=kv at ek;have O:=ro.cell _ _ _ eb ek;have ba:=ab _ _ ek;have a0:=c.sm _ _ (by simp) O;have an:=c.sm _ _ (by simp) ro.lst;have bl:b≠l:=λz=>by rw[z,nl]at O;cases O
   refine⟨b,aB kv,a0,_,M,_,M,R.r,_,_,_,M,M,Fb.of an,xC () eb,.inr<|.inr<|.inl ⟨M,.inl ⟨_,a0⟩⟩,b,aB kv,M,M,a0,λvw nv=>?_⟩;have ax:upd H' vw (Rv vw b) b=some (.dK<|aB kv):=by rwa[af (am a0 nv)]
   refine⟨vw,b,aB kv,M,ag,ax,λob=>?_⟩;have cF:=(c.same<|ak (o:=Rv vw b) nv).freeze (o':= .frz ob<|.dK<|aB kv) O bl;generalize b1:L0++(List.range x).flatMap (pR R.C I st.low)=L1 at cF;refine xN (λy B H''=>∃(Y Z:Option V) (ts:List Tp),B=[some (.ref a),some (.int p),some (.int st.low),some (.ref l),some (.ref R.r),some (.int<|I+(x:Int)*st.low),Y,Z]/\Ly [b] H1 H'' l ts (L1++kv.take y)/\H'' b=some (.frz ob<|.dK<|aB kv)/\ts.length<=8192*i+4096*x+y)
    ⟨_,_,ts,M,by simpa using cF,ag,()⟩ (λy B H'' _ w=>by obtain⟨_,_,_,_,_,hf,_⟩:=w;exact hf) (λy k v p' B H'' ei w np=>?_) (λB H'' w=>?_)
   .obtain⟨Y,Z,ts,G,c,hf,lt⟩:=w;subst G;obtain⟨n,rfl,en⟩:=uy ei;have yl:=(Q2.mp en).1;refine⟨p',_,M,OX.of ag,M,_,_,M,_,_,M,M,?_⟩;have c3:=c.same (ak (o:= .tup [kV (Sum.inl n),v]) np);have a2:=ak (o:= .tup [kV (Sum.inl n),v]) np _ _ hf;generalize upd H'' p' (.tup [kV (Sum.inl n),v])=H3 at c3 a2⊢;refine⟨_,M,.inl ⟨M,_,Fb.of c3.li⟩,_,M,n,M,_,M,_,M,(by show 3<=sizeLine;decide),λp2 a3=>?_⟩;have s4:Fa H3 (upd H3 p2<|.tup [.int (tz<|n%65536),kV (Sum.inl n),v]):=ak a3;have e4:upd H3 p2 (.tup [.int (tz<|n%65536),kV (Sum.inl n),v]) p2=some (.tup [.int (P4 n),.int n,v]):=ag;generalize upd H3 p2 (.tup [.int (tz<|n%65536),kV (Sum.inl n),v])=H4 at s4 e4⊢;refine⟨l,_,_,M,M,s4 _ _ c3.li,bg (by rw[Q0];lia),?_⟩;refine⟨_,_,ts++ [⟨p2,n,v⟩],M,?_,?_,?_⟩
    .rw[Fy en,<-Qm];exact c3.add s4 a3 nl (λc hc=>by rw[Q7.mp hc];exact⟨_,O,_,a2⟩) e4
    .rw[af bl];exact s4 _ _ a2
    .rw[Q8,QZ];lia
   .obtain⟨Y,Z,ts,G,c,hf,lt⟩:=w;subst G;rw[bj,QB]at c;rw[bj]at lt;refine⟨ob,hf,_,_,_,ts,M,?_,()⟩;rw[El,<-Qm,show pR R.C I st.low x=kv by unfold pR;rw[Qk,ek];rfl];rw[b1];exact c.thaw O bl
  .obtain⟨v5,Y,Z,ts,G,c,lt⟩:=w;subst G;exact⟨_,_,_,_,ts,M,by rw[IE hR,ah];exact c,()⟩
 .obtain⟨v4,v5,Y,Z,ts,G,c,lt⟩:=w;subst G;rw[lx,QB]at c;have e:=c.eq;have sm:Fa H1 H':=λb o e=>c.sm b o (by simp) e;refine⟨_,M,q H' F1 l ts (sA.same sm) (fr.trans<|Fr.of_same sm) (sA.out nl) c.li (λe he=>⟨(c.tu e he).1,sA.out (c.tu e he).2⟩) (λk v=>?_) ?_⟩
  .rw[e];exact KG hb z nd g0 g1 k v
  .rw[e];exact FQ hb z g0
def AO {S p:Int} {a b:Nat} (R:Row S a b) (G:0<=p) (h1:p<65536) (hS:S<=65536):k%65536%S=tz p%S↔P4 k/(65536/S)=p/(65536/S):=by
 have I:=R.wpos';have z:=AB R G h1;have k0:0<=k%65536:=Qf _ (_);have O:k%65536<65536:=Qc _ (_);have e2:=AB R (p:=P4 k) (tI _) (Lp _);rw[show tz (P4 k)=k%65536 from EC k0 O]at e2;have U:=R.mod0 (k%65536);have Z:=R.mod1 (k%65536);have Y:=R.mod0 (tz p);have y1:=R.mod1 (tz p);constructor
 .intro e;rw[e,z]at e2;have:=Int.eq_of_mul_eq_mul_right (QU I) e2;lia
 .intro e;rw[e,<-z]at e2;exact L9 U () Y () ()
def MA (k:Int):0<=P4 k/\P4 k<65536:=⟨tI _,Lp _⟩
def AT {f:α->β}:∀{ts:List α} {l:List β},l.Perm (ts.map f)->∃us:List α,us.Perm ts/\us.map f=l:=by
 intro ts l h;generalize e:ts.map f=m at h
 induction h generalizing ts with
 |nil=>exact⟨[],by rw[List.map_eq_nil_iff.mp e],M⟩
 |cons x _ I=>
  cases ts with
  |nil=>cases e
  |cons y ts=>
   rw[Qt]at e;injection e with e1 e2;obtain⟨us,h1,h2⟩:=I e2;exact⟨y::us,h1.cons y,by rw[Qt,h2,e1]⟩
 |swap x y l=>
  cases ts with
  |nil=>cases e
  |cons a ts=>
   cases ts with
   |nil=>cases e
   |cons b ts=>
    rw[Qt,Qt]at e;injection e with e1 e2;injection e2 with e2 e3;exact⟨b::a::ts,List.Perm.swap a b ts,by rw[Qt,Qt,e1,e2,e3]⟩
 |trans _ _ z G=>
  obtain⟨us,h1,h2⟩:=G e;obtain⟨O,U,Y⟩:=z h2;exact⟨O,U.trans h1,Y⟩
def uc (x y:Int×V):Prop:=P4 x.1<P4 y.1\/(P4 x.1=P4 y.1/\x.1<y.1)
def wm (K:JK) (t:OJ):Sp:=λvs H Q _=>∃(a:Addr) (lo hi:Int) (F:Addr->Prop) (st:O8),vs=[.ref a,.int lo,.int hi]/\PK K t H a F st/\st.kv.length<4096/\(∀p∈st.kv,∃i:Int,p.2= .int i)/\
 ∀(H':Hp) (F':Addr->Prop) (l:Addr) (ts:List Tp),PK K t H' a F' st->Fr F F' H H'->¬F' l->(¬F l->H l=none)->H' l=some (.lst<|ts.map λe=>V.ref e.p)->(∀e∈ts,H' e.p=some (.tup [.int e.k,e.v])/\¬F' e.p)->
  (ts.map Tp.kv).Pairwise uc->(∀k v,(k,v)∈ts.map Tp.kv↔(k,v)∈st.kv/\lo<=P4 k/\P4 k<hi)->Q (.ref l) H'
def E4 {x q:Int} (h:0<Jl):x/Jl=q↔q*Jl<=x/\x<(q+1)*Jl:=by
 constructor
 .rintro rfl;exact⟨Int.ediv_mul_le x<|QU h,Xh x h⟩
 .rintro ⟨h1,h2⟩;have a:=(Int.le_ediv_iff_mul_le h).mpr h1;have b:=(Int.ediv_lt_iff_lt_mul h).mpr h2;lia
def ky3 (H:Hp) (b:Addr):List Int:=match H b with
 |some (.tup [.int i,.int j,.int m])=> [i,j,m]
 |_=> []
def Ed {i j:Int} (h:H b=some (.tup [.int i,.int j,.int m])):ky3 H b=[i,j,m]:=by
 unfold ky3;rw[h]
def none_of {H2:Hp} (s:Fa H H2) (n:H2 p=none):H p=none:=by
 cases e:H p with
 |none=>rfl
 |some o=>rw[s _ _ e]at n;cases n
def sF (f:Fr F F' H H') (n:¬F b) (e:H' b=none):H b=none:=by
 cases q:H b with
 |none=>rfl
 |some o=>rw[(f _ _ n q).1]at e;cases e
def Fr.upd_new (f:Fr F F' H H') (n:¬F b->H b=none):Fr F F' H (upd H' b o):=λc u G e=>⟨by rw[af λz=>by rw[z]at G e;rw[n G]at e;cases e];exact(f c u G e).1,(f c u G e).2⟩
def Hn (z:(ts.map λe=>V.ref e.p)[n]?=some v):∃e:Tp,v= .ref e.p/\ts[n]?=some e:=by
 rw[Qn]at z;cases G:ts[n]? with
 |none=>rw[G]at z;cases z
 |some e=>rw[G]at z;cases z;exact⟨e,M,M⟩
structure Rh (K:JK) (t:OJ) (H H':Hp) (a l:Addr) (F F':Addr->Prop) (st:O8) (ts:List Tp) (b0 c:Int):Prop where
 sl:PK K t H' a F' st
 fr:Fr F F' H H'
 ol:¬F' l
 li:H' l=some (.lst<|ts.map λe=>V.ref e.p)
 tu:∀e∈ts,H' e.p=some (.tup [.int (P4 e.k),.int e.k,e.v])/\¬F' e.p
 me:∀k v,(k,v)∈ts.map Tp.kv↔(k,v)∈st.kv/\b0<=P4 k/\P4 k<c
 nd:((ts.map Tp.kv).map (·.1)).Nodup
section
variable {l l1:Addr} {F1:Addr->Prop} {ts1:List Tp} {b0 c:Int}
def Rh.len (h:Rh K t H H' a l F F' st ts b0 c):ts.length<=st.kv.length:=by
 have:=gO h.nd (S:=st.kv.map (·.1)) λx hx=>by
  obtain⟨p,z,rfl⟩:=Q9.mp hx;exact Zm ((h.me p.1 p.2).mp z).1
 simpa using this
def Rh.move (h:Rh K t H H' a l F F' st ts b0 c) (s1:PK K t H1 a F1 st) (z:Fr F' F1 H' H1):Rh K t H H1 a l F F1 st ts b0 c:=
 ⟨s1,h.fr.trans z,(z _ _ h.ol h.li).2,(z _ _ h.ol h.li).1,λe he=>z _ _ (h.tu e he).2 (h.tu e he).1,h.me,h.nd⟩
def Rh.step {r:Int} (h:Rh K t H H' a l F F' st ts b0 (r/Jl*Jl)) (nl:H l=none) (W0:0<Jl) (hb:b0<=r/Jl*Jl) (s1:PK K t H1 a F1 st) (Z:Fr F' F1 H' H1) (u1:∀e∈ts1,H1 e.p=some (.tup [.int (P4 e.k),.int e.k,e.v])/\¬F1 e.p)
  (m1:∀k v,(k,v)∈ts1.map Tp.kv↔(k,v)∈st.kv/\P4 k/Jl=r/Jl) (n1:((ts1.map Tp.kv).map (·.1)).Nodup):
  Rh K t H (upd H1 l<|.lst<|ts.map (λe=>V.ref e.p)++ts1.map (λe=>V.ref e.p)) a l F F1 st (ts++ts1) b0 ((r/Jl+1)*Jl):=by
 obtain⟨l1,G⟩:=Z _ _ h.ol h.li;have e1:(r/Jl+1)*Jl=r/Jl*Jl+Jl:=by rw[Int.add_mul,Int.one_mul]
 have I:∀{p:Addr} {xs:List V},H1 p=some (.tup xs)->p≠l:=λ{p xs} e z=>by rw[z,l1]at e;cases e
 refine⟨s1.upd G,λb o n e=>?_,G,by rw[ag,Qg],λe he=>?_,λk v=>?_,?_⟩
 .obtain⟨O,Y⟩:=(h.fr.trans Z) b o n e;exact⟨by rwa[af λz=>by rw[z,nl]at e;cases e],Y⟩
 .rcases Q5.mp he with he|he
  .obtain⟨O,Y⟩:=h.tu e he;obtain⟨U,g4⟩:=Z _ _ Y O;exact⟨by rwa[af (I U)],g4⟩
  .obtain⟨U,g4⟩:=u1 e he;exact⟨by rwa[af (I U)],g4⟩
 .rw[Qg,Q5,h.me,m1,E4 W0,e1];constructor
  .rintro (⟨x,y,z⟩|⟨x,y,z⟩)
   .exact⟨x,y,()⟩
   .exact⟨x,(),z⟩
  .rintro ⟨x,y,z⟩;by_cases d:P4 k<r/Jl*Jl
   .exact .inl ⟨x,y,d⟩
   .exact .inr ⟨x,(),z⟩
 .rw[Qg,Qg];refine V3.mpr ⟨h.nd,n1,λx hx y hy e=>?_⟩;obtain⟨p,hp,rfl⟩:=Q9.mp hx;obtain⟨q,hq,rfl⟩:=Q9.mp hy;have O:=(h.me p.1 p.2).mp hp;have Y:=(E4 W0).mp ((m1 q.1 q.2).mp hq).2;rw[e]at O;lia
end
def NT {fs us:List Tp} (up:us.Perm fs) (z:∀e∈fs,∃i:Int,H e.p=some (.tup [.int (P4 e.k),.int e.k,.int i])) (nd:(fs.map (·.k)).Nodup) (pw:(us.map (·.p)).Pairwise (λa b=>HT.lexLt (ky3 H b) (ky3 H a)=false)):(us.map Tp.kv).Pairwise uc:=by
 have I:us.Pairwise (λe f=>e.k≠f.k):=(up.pairwise_iff<|λh=>h.symm).mpr (QP.mp nd);refine QP.mpr<|((QP.mp pw).and I).imp_of_mem λ{e f} he hf h=>?_;obtain⟨i,te⟩:=z e (up.mem_iff.mp he);obtain⟨j,O⟩:=z f (up.mem_iff.mp hf);obtain⟨h1,h2⟩:=h;rw[Ed te,Ed O,HT.lexLt_cons,HT.lexLt_cons]at h1;show P4 e.k<P4 f.k\/(P4 e.k=P4 f.k/\e.k<f.k);by_cases G:P4 f.k=P4 e.k
 .rw[Vp G,Vo (Ne.symm h2)]at h1;have:=VM h1;lia
 .rw[Vo G]at h1;have:=VM h1;lia
def xg:CU P w K mg base OL 4 t.qh t.j4 ["self","low","high"] (wm K t):=by
 obtain⟨a4,O⟩:=T.g_PLACES;refine T.JM.okl wI λs H vs Q E hr h _=>?_;intro X;obtain⟨a,lo,hi,F,st,rfl,hA,b2,hint,q⟩:=h;refine aj (OM 3<|bZ ai)
   (aj (OM 4<|aE (pJ M) {_} T.GU Bs (ac M2<|ac ae ai))
   (aj (OM 5<|aE (pI M) {_} T.BM uN (ac O1<|ac (c8 (v:= .int 65536) {_} O ⟨_,M⟩) ai))
   (bU (λx=>(nQ VC (aq eF PF Pj<|aw _)
    x)) ?_)))
 refine aj (aN<|dC Qr ZR ZS pC OR<|ac (aR BC T.aK T.EO (qM T) hr.mo T.Fe .nil ay<|ac PF ai) ai)
   (aA (OM 4<|aR BC T.aK T.zh (nV T) hr.mo T.zq .nil ay<|ac PF ai) ?_)
 intros
 refine aj (OM 6<|aE zo {_} T.BL uM (ac (rW M (OO.of (M':=["one"]) (N:=["self","low","high","found","reached","end","inside"]) (N':=["self","low","high","found","reached","end","inside"]) (dsc:=al eD) M M ∅) (cK OR) (λ_ _ _ _ _=>(Ht nT eF O1 (aS (Bh K M) BC ae<|λ_ _=>M) OR))<|λ_ _ _ _ _=>BC) ai))
   (aA (aD<|pB M (OO.of (M':=["one"]) (N:=["self","low","high","found","reached","end","inside"]) (N':=["self","low","high","found","reached","end","inside"]) (dsc:=al eD) M M ∅) (cK RN)<|λ_ _ _ _ _=>(bO<|ac (aS (Bh K M) BC ae<|λ_ _=>M)<|ac (aS (Bh K M) BC ae<|λ_ _=>M) ai)) ?_)
 intros
 have z:OT st:=let⟨_,_,_,_,_,z⟩:=hA;z
 obtain⟨s4,s5⟩:=bY (jZ z);obtain⟨x,y,R⟩:=AS (jZ z);have W0:=R.wpos';have a3:∀{p k:Int},0<=p->p<65536->(k%65536%st.low=tz p%st.low↔P4 k/(65536/st.low)=p/(65536/st.low)):=λh0 h1=>AO R h0 h1 ();refine⟨Qj _,λl nl=>?_⟩;refine⟨_,M,_,_,M,_,M,_,_,M,?_⟩;have r1:0<=(if(0:Int)>lo then 0 else lo)/\lo<=(if(0:Int)>lo then 0 else lo)/\((if(0:Int)>lo then 0 else lo)=0\/(if(0:Int)>lo then 0 else lo)=lo):=by split<;>lia
 have r2:(if(65536:Int)<hi then 65536 else hi)<=65536/\((if(65536:Int)<hi then 65536 else hi)=65536\/(if(65536:Int)<hi then 65536 else hi)=hi):=by split<;>lia
 dsimp only;generalize (if(0:Int)>lo then 0 else lo)=r0 at r1⊢;generalize (if(65536:Int)<hi then 65536 else hi)=e0 at r2⊢;generalize eW:65536/st.low=Jl at W0 a3;have I0:Rh K t H (upd H l<|.lst []) a l F F st [] (r0/Jl*Jl) (r0/Jl*Jl):=⟨hA.new nl,Fr.of_same<|ak nl,hA.out nl,ag,(λe he=>by cases he),(λk v=>⟨λh=>by(cases h),λh=>()⟩),Z0⟩;generalize upd H l (.lst [])=H1 at I0⊢;refine⟨λm B H'=>∃(r:Int) (F':Addr->Prop) (ts:List Tp),m=(e0-r).toNat/\B=[some (.ref a),some (.int lo),some (.int hi),some (.ref l),some (.int r),some (.int e0),none]/\Rh K t H H' a l F F' st ts (r0/Jl*Jl) (r/Jl*Jl)/\r0<=r/\(r=r0\/r/Jl*Jl=r),⟨_,r0,F,[],M,M,I0,Zg _,.inl M⟩,λm B H' w=>?_⟩;obtain⟨r,F',ts,rfl,b4,I,rr,rm⟩:=w;subst b4;refine⟨_,M,_,M,_,_,M,M,_,M,bQ (λc=>?_)<|λc=>?_⟩
 .have c:=Vw c;obtain⟨dx,fs,ah,hm⟩:=I.sl.ins;refine⟨λan H2=>∃(r':Int) (F2:Addr->Prop) (a5:List Tp),r<r'/\an=[some (.ref a),some (.int lo),some (.int hi),some (.ref l),some (.int r'),some (.int e0),none]/\Rh K t H H2 a l F F2 st a5 (r0/Jl*Jl) (r'/Jl*Jl)/\r'/Jl*Jl=r',λan H2 w=>?_,?_⟩
  .obtain⟨r',F2,a5,lt,e,I2,g⟩:=w;exact⟨_,(),r',F2,a5,M,e,I2,(),.inr g⟩
  refine⟨_,M,.inl ⟨M,_,Fb.of I.li⟩,_,M,a,dx,fs,M,ah,hm _ ∅,_,M,a,r,F',st,M,I.sl,(),(),b2,λH2 F2 l1 ts1 s2 f2 o2 e2 u2 m2 n2=>?_⟩;have b5:r0/Jl*Jl<=r/Jl*Jl:=V9 (Int.ediv_le_ediv W0 rr) ();have I2:=I.step nl W0 b5 s2 f2 u2 (λk v=>by rw[m2,a3 () ()]) n2;have ln:=I2.len;rw[Q8]at ln;refine⟨l,l1,_,_,M,M,(f2 _ _ I.ol I.li).1,e2,by rw[Q0,Q0];exact Z4<|bg (),?_⟩;generalize upd H2 l (.lst<|ts.map (λe=>V.ref e.p)++ts1.map (λe=>V.ref e.p))=H3 at I2⊢;obtain⟨b7,b8,aa,ba⟩:=I2.sl.ins;refine⟨_,M,a,b7,b8,M,aa,ba _ ∅,_,M,a,r,F2,st,M,I2.sl,(),(),λH4 F4 s4 f4=>?_⟩;rw[eW];have ed:(r/Jl+1)*Jl/Jl*Jl=(r/Jl+1)*Jl:=by rw[Int.mul_ediv_cancel _ (QU W0)]
  exact⟨(r/Jl+1)*Jl,F4,ts++ts1,Xh r W0,M,by rw[ed];exact I2.move s4 f4,ed⟩
 .have c:¬r<e0:=λy=>c (Vy y);have hl:=I.li;have ln:=I.len;refine⟨_,M,l,M,⟨_,Fb.of hl⟩,λD hD=>?_⟩;refine mw (K:=K) (a:=l) (xs:=ts.map λe=>V.ref e.p) (λn ys H3=>H3=upd H' D (.lst ys)/\ys=((ts.take n).filter λe=>decide (lo<=P4 e.k)&&decide (P4 e.k<hi)).map (λe=>V.ref e.p)) ⟨M,M⟩
   (λn ys H3 _ w=>Fb.of<|by rwa[w.1,af (am hl hD)]) (λn v ys H3 hv w U=>?_) (λys H3 w U=>?_)
  .obtain⟨e1,e2⟩:=w;have hn:=(Q2.mp hv).1;obtain⟨e,rfl,Y⟩:=Hn hv;have te:=(I.tu e<|Q1 Y).1;have bb:H3 e.p=some (.tup [.int (P4 e.k),.int e.k,e.v]):=by rwa[e1,af (am te hD)]
   have yl:ys.length<=ts.length:=by
    rw[e2,Q0];have h1:=Qp (λe:Tp=>decide (lo<=P4 e.k)&&decide (P4 e.k<hi)) (ts.take n);have h2:(ts.take n).length<=ts.length:=by rw[Q6];lia
    lia
   refine⟨_,M,_,M,e.p,_,_,_,M,M,OX.of bb,M,_,_,M,M,_,M,?_⟩;by_cases c1:lo<=P4 e.k
   .refine mW c1 ⟨_,M,_,_,M,M,_,M,?_⟩;by_cases c2:P4 e.k<hi
    .refine mW c2 ⟨_,M,P7.mk hn U (bg ()) ⟨by rw[e1,eG],?_⟩⟩;rw[e2,Qq,Y,QE,Qg];simp[c1,c2]
    .refine a9 c2<|PZ.mk hn U ⟨e1,?_⟩;rw[e2,Qq,Y,QE];simp[c1,c2]
   .refine a9 c1 ⟨_,M,cu<|PZ.mk hn U ⟨e1,?_⟩⟩;rw[e2,Qq,Y,QE];simp[c1]
  .obtain⟨e1,e2⟩:=w;rw[Q0,QB]at e2;have s3:Fa H' H3:=by rw[e1];exact ak hD
   have Z:(ts.filter λe=>decide (lo<=P4 e.k)&&decide (P4 e.k<hi)).Sublist ts:=ZO;have fm:∀e,e∈(ts.filter λe=>decide (lo<=P4 e.k)&&decide (P4 e.k<hi))↔e∈ts/\lo<=P4 e.k/\P4 e.k<hi:=λe=>by
    rw[Qu,QI,VE,VE]
   generalize (ts.filter λe=>decide (lo<=P4 e.k)&&decide (P4 e.k<hi))=fs at e2 Z fm;have ax:∀e∈fs,(e.k,e.v)∈st.kv:=λe he=>((I.me e.k e.v).mp<|Zm (f:=Tp.kv) ((fm e).mp he).1).1;have t3:∀e∈fs,∃i:Int,e.v= .int i/\H3 e.p=some (.tup [.int (P4 e.k),.int e.k,.int i]):=λe he=>by
    obtain⟨i,ei⟩:=hint _ (ax e he);have te:=s3 _ _ (I.tu e ((fm e).mp he).1).1;have ei:e.v= .int i:=ei;rw[ei]at te;exact⟨i,ei,te⟩
   refine⟨D,fs.map (·.p),ky3 H3,M,Fb.of (by rw[U,e2,Qs];rfl),λb hb=>?_,λl2 bs bc pm pw=>?_⟩
   .obtain⟨e,he,rfl⟩:=Q9.mp hb;obtain⟨i,_,te⟩:=t3 e he;exact⟨_,_,_,te,Ed te⟩
   obtain⟨us,up,ue⟩:=AT pm;subst ue;have um:∀e,e∈us↔e∈fs:=λe=>up.mem_iff;have nk:(fs.map (·.k)).Nodup:=by
    have h0:=I.nd;rw[Qs]at h0;exact h0.sublist<|Z.map _
   have a1:=NT up (λe he=>(t3 e he).imp λ_ h=>h.2) nk pw;have ab:∀k v,(k,v)∈us.map Tp.kv↔(k,v)∈st.kv/\lo<=P4 k/\P4 k<hi:=λk v=>by
    constructor
    .intro h;obtain⟨e,he,Y⟩:=Q9.mp h;cases Y;have he:=(um e).mp he;exact⟨ax e he,((fm e).mp he).2⟩
    .rintro ⟨h1,h2,h3⟩;have pb:=MA k;have b1:=Int.ediv_mul_le r0 (QU W0);have h4:(k,v)∈ts.map Tp.kv:=(I.me k v).mpr ⟨h1,(),()⟩;obtain⟨e,he,Y⟩:=Q9.mp h4;cases Y;exact Q9.mpr ⟨e,(um e).mpr<|(fm e).mpr ⟨he,h2,h3⟩,M⟩
   have ul:us.length<=ts.length:=by rw[up.length_eq];exact Z.length_le
   have e8:upd H3 l2 (.lst ((us.map (·.p)).map V.ref)) l2=some (.lst<|us.map λe=>V.ref e.p):=by rw[ag,Qs];rfl
   have s8:Fa H' (upd H3 l2 (.lst ((us.map (·.p)).map V.ref))):=s3.trans (ak bc);have t8:∀e∈us,upd H3 l2 (.lst ((us.map (·.p)).map V.ref)) e.p=some (.tup [.int (P4 e.k),.int e.k,e.v]):=λe he=>s8 _ _ (I.tu e ((fm e).mp<|(um e).mp he).1).1;generalize upd H3 l2 (.lst ((us.map (·.p)).map V.ref))=H8 at e8 s8 t8⊢;refine⟨_,M,l2,M,⟨_,Fb.of e8⟩,λD2 a2=>?_⟩;refine uL (K:=K) (a:=l2) (xs:=us.map λe=>V.ref e.p) (λn ys H9=>Fa H8 H9/\∃ws:List Tp,ys=ws.map (λe=>V.ref e.p)/\ws.map Tp.kv=(us.take n).map Tp.kv/\∀e∈ws,e.p≠D2/\H8 e.p=none/\H9 e.p=some (.tup [.int e.k,e.v]))
    ⟨ak a2,[],M,M,λe he=>by cases he⟩ (λn ys H9 _ w=>Fb.of<|w.1 _ _ e8) (λn v ys H9 hv w G=>?_) (λys H9 w G=>?_)
   .obtain⟨s9,ws,ey,ek,ew⟩:=w;have hn:=(Q2.mp hv).1;obtain⟨e,rfl,Y⟩:=Hn hv;have te:=s9 _ _ (t8 e<|Q1 Y);refine⟨_,M,e.p,_,_,_,M,M,OX.of te,M,_,M,e.p,_,_,_,M,M,OX.of te,M,(by show 2<=sizeLine;decide),λp2 a0=>?_⟩;have pd:p2≠D2:=λz=>by rw[z,G]at a0;cases a0
    have wl:ws.length<=us.length:=by
     have:=VH List.length ek;rw[Q0,Q0,Q6]at this;lia
    refine P7.mk hn (by rwa[af pd.symm]) (bg<|by rw[ey,Q0];lia) ⟨cm (s9.trans<|ak a0) a2,ws++ [⟨p2,e.k,e.v⟩],by rw[ey,Qg];rfl,?_,λf hf=>?_⟩
    .rw[Qg,ek,Qq,Y,Qg];rfl
    .rcases Q5.mp hf with hf|hf
     .obtain⟨g1,g2,g3⟩:=ew f hf;exact⟨g1,g2,by rw[af g1];exact ak a0 _ _ g3⟩
     .rw[Q7.mp hf];exact⟨pd,none_of s9 a0,by rw[af pd];exact ag⟩
   .obtain⟨s9,ws,ey,ek,ew⟩:=w;rw[Q0,QB]at ek;have sm:=s8.trans s9;refine q H9 F' D2 ws (I.sl.same sm) (I.fr.trans<|Fr.of_same sm) (I.sl.out<|none_of s8 a2) (λnF=>sF (I.fr.trans<|Fr.of_same s8) nF a2) (by rw[G,ey]) (λe he=>?_) (by rwa[ek]) (by rwa[ek]);obtain⟨_,g2,g3⟩:=ew e he;exact⟨g3,I.sl.out<|none_of s8 g2⟩
def gL (e:A[j]?=some c):RF (A.map V.ref) (j:Int)=some (.ref c):=by
 refine sP ?_;rw[Qn,e];rfl
def Fh (ne:x≠[]) (e:x[x.length-1]?=some m):RF (x.map V.int) (-1)=some (.int m):=by
 have hl:=Za.mpr ne;unfold RF RZ;rw[Q0,Vo (_),Vp ()];show(x.map V.int)[((-1:Int)+(x.length:Int)).toNat]?=_;have:((-1:Int)+(x.length:Int)).toNat=x.length-1:=();rw[this,Qn,e];rfl
def EW (h:i<A.length):RZ (A.map V.ref).length (i:Int)=some i:=by
 unfold RZ;rw[Vp (),Vp (by rw[Q0];lia)];rfl
def qS:∀(A:List Addr) (i:Nat),(A.map V.ref).eraseIdx i=(A.eraseIdx i).map V.ref
 | [],_=>rfl
 |_::_,0=>rfl
 |a::r,i+1=>by
  show V.ref a::(r.map V.ref).eraseIdx i=V.ref a::(r.eraseIdx i).map V.ref;rw[qS r i]
def z7:∀(ls:List (List Int)) (i:Nat) (y:List Int),(ls.set i y).eraseIdx i=ls.eraseIdx i
 | [],_,_=>rfl
 |_::_,0,_=>rfl
 |x::r,i+1,y=>by
  show x::(r.set i y).eraseIdx i=x::r.eraseIdx i;rw[z7 r i y]
def LU (a:Addr) (k:Int) (ls:List (List Int)) (H:Hp):Nat->St->Hp->Prop:=λm B H'=>∃(lo hi:Nat) (v4:Option V),m=hi-lo/\H'=H/\B=[some (.ref a),some (.int k),some (.int (lo:Int)),some (.int (hi:Int)),v4]/\lo<=hi/\hi<=ls.length/\
 (∀(j:Nat) (x:List Int),j<lo->ls[j]?=some x->∀y∈x,y<k)/\∀(j:Nat) (x:List Int),hi<=j->ls[j]?=some x->∃y∈x,k<=y
def qz (t:OJ):Sp:=λvs H Q _=>∃(a:Addr) (k:Int) (L:Addr) (A:List Addr) (ls:List (List Int)),vs=[.ref a,.int k]/\Pc t H a L A ls/\(∀l∈ls,l≠[])/\dn ls.flatten/\∀i:Nat,PH ls k i->Q (.int (i:Int)) H
def b3:CU P w K mg base OL 1 t.jD t.fP ["self","key"] (qz t):=by
 refine T.Fm.okl qE λs H vs Q E hr h _=>?_;intro X;obtain⟨a,k,L,A,ls,rfl,hb,ne,up,q⟩:=h;refine aj (OM 2 ae)
   (aj (OM 3<|aE aC {_} T.bL bf (ac (au BC M) ai))
   (bU (λx=>(nQ VC (aq eF O1 OR<|aw _)
    x)) ?_))
 refine aj (OM 4<|ao aP (ao bx O1 OR) ae)
   (aA (aQ (aq eF (aS aU (aS aU (au BC M) PF<|λ_ _=>M) (Hx DA ae)<|λ_ _=>M) M2<|aw _)
    (az<|OM 2<|ao bx PF ae)
    (az<|OM 3 PF)) ?_)
 intros
 refine aA (aD O1) ?_
 intros
 obtain⟨dx,ho⟩:=hb.obj;have lA:((A.map V.ref).length:Int)=(ls.length:Int):=by rw[Q0,hb.len]
 refine⟨_,M,a,_,dx,_,_,M,ho,T.aM,T.aH,dh,L,_,M,.inl<|Fb.of hb.lst,?_⟩;dsimp only;rw[lA];refine⟨LU a k ls H,⟨_,0,ls.length,none,M,M,M,Qj _,Q4 _,λj x h=>Vt h (),λj x h e=>?_⟩,?_⟩
 .have:=(Q2.mp e).1;lia
 rintro m B H' ⟨lo,hi,v4,rfl,rfl,rfl,h1,h2,h3,h4⟩;refine⟨_,M,_,M,_,_,M,M,_,M,bQ (λc=>?_)<|λc=>?_⟩
 .have c:lo<hi:=by have:=Vw c;lia
  refine⟨λU H''=>∃m',m'<hi-lo/\LU a k ls H' m' U H'',λ_ _ h=>h,?_⟩;refine⟨_,M,_,M,_,_,M,M,_,_,M,M,⟨(_),(_)⟩,?_⟩;obtain⟨G,em,m1,m2⟩:∃G:Nat,((lo:Int)+(hi:Int))/2=(G:Int)/\lo<=G/\G<hi:=⟨(lo+hi)/2,(),(),()⟩;dsimp only;rw[em];have hm:G<ls.length:=();have ex:ls[G]?=some ls[G]:=Q3 hm;obtain⟨b,eb,Y⟩:=hb.at ex;have I:=ne _ (Zq hm);obtain⟨g,eg,Z,O⟩:=Ii (Kj up ex) I;refine⟨_,M,a,_,dx,_,_,M,ho,T.aM,T.aH,dh,_,M,L,_,_,_,M,M,Fb.of hb.lst,gL eb,_,M,b,_,_,_,M,M,Fb.of Y,Fh I eg,_,M,_,_,M,M,_,M,bQ (λc2=>?_)<|λc2=>?_⟩
  .have c2:=Vw c2;refine⟨_,M,_,_,M,M,hi-(G+1),(),G+1,hi,_,M,M,M,(),h2,λj x hj e y hy=>?_,h4⟩;rcases(show j<G\/j=G by lia)with h|h
   .have:=zF up e ex h y hy g Z;lia
   .subst h;rw[ex]at e;cases e;have:=O y hy;lia
  .have c2:¬g<k:=λz=>c2 (Vy z);refine⟨_,M,G-lo,(),lo,G,_,M,M,M,(),(),h3,λj x hj e=>?_⟩;rcases(show j=G\/G<j by lia)with h|h
   .subst h;rw[ex]at e;cases e;exact⟨g,Z,()⟩
   .obtain⟨y,hy⟩:=List.exists_mem_of_ne_nil x (ne x<|Q1 e);have:=zF up ex e h g Z y hy;exact⟨y,hy,()⟩
 .have c:¬lo<hi:=λz=>c (Vy ());have:lo=hi:=();subst this;exact⟨_,M,q lo ⟨h2,h3,λx e=>h4 lo x (Q4 _) e⟩⟩
def CB {k:Int}:∀{x:List Int},inV (.int k) (x.map V.int)=decide (k∈x)
 | []=>rfl
 |a::r=>by
  have G:=CB (k:=k) (x:=r);unfold inV at G⊢;rw[Qt,X9,G];have:RB (.int a) (.int k)=decide (k=a):=by
   show(_:Bool)=_;by_cases c:a=k
   .subst c;simp[RB]
   .have I:¬k=a:=λz=>c z.symm;simp[RB,c,I]
  rw[this];by_cases c:k=a
  .simp[c]
  .simp[c]
def Gk:(x.map V.int).all io=true:=by
 rw[List.all_map];exact QR.mpr λ_ _=>rfl
def nZ:CU P w K mg base OL 2 t.qo t.kf ["self","key"] (ww K t):=by
 refine T.JS.okl wO λs H vs Q E Z h _=>?_;intro X;obtain⟨a,k,F,ks,rfl,I,q⟩:=h;refine aj (OM 2<|aR BC T.aM T.de (b3 T) Z.mo T.dj .nil ay<|ac M2 ai)
   (aA (aD<|gp (bF eF O1 (aE aC {_} T.bL bf (ac (au BC M) ai))<|aw _)<|dB<|bF FN M2 (aS aU (au BC M) O1<|λ_ _=>M) M) ?_)
 intros
 obtain⟨dx,fs,hi,hm⟩:=I.ins;have q:=q H F I Fr.refl;obtain⟨L,A,ls,hb,ok,U,hF⟩:=I;obtain⟨G,ho⟩:=hb.obj;have lA:((A.map V.ref).length:Int)=(ls.length:Int):=by rw[Q0,hb.len]
 refine⟨_,M,a,dx,fs,M,hi,hm _ ∅,_,M,a,k,L,A,ls,M,hb,ok.ne,ok.up,λi Y=>?_⟩;refine⟨_,M,_,M,a,_,G,_,_,M,ho,T.aM,T.aH,dh,L,_,M,.inl<|Fb.of hb.lst,_,_,M,M,_,M,bQ (λc=>?_)<|λc=>?_⟩
 .have c:=Vw c;have hi:i<ls.length:=();have ex:ls[i]?=some ls[i]:=Q3 hi;obtain⟨b,eb,O⟩:=hb.at ex;refine⟨_,M,_,M,a,_,G,_,_,M,ho,T.aM,T.aH,dh,_,M,L,_,_,_,M,M,Fb.of hb.lst,gL eb,b,_,M,.inl<|Fb.of O,M,Gk,?_⟩;show Q (.bl<|inV (.int k)<|ls[i].map V.int) H;rw[CB];have:k∈ls[i]↔k∈ks:=by
   rw[<-U,Y.mem ok];constructor
   .exact λz=>⟨_,ex,z⟩
   .rintro ⟨x,e,z⟩;rw[ex]at e;cases e;exact z
  rw[decide_eq_decide.mpr this];exact q
 .have c:¬(i:Int)<((A.map V.ref).length:Int):=λz=>c (Vy z);have:k∉ks:=λz=>by
   rw[<-U,Y.mem ok]at z;obtain⟨x,e,_⟩:=z;have:=(Q2.mp e).1;lia
  rw[VA this]at q;exact q
def vH:CU P w K mg base OL 1 t.oX t.jj ["self"] (vf K t):=by
 refine T.Jo.okl vv λs H vs Q E Y h _=>?_;intro X;obtain⟨a,dx,rfl,ha,hd,q⟩:=h;refine⟨_,(az<|bh BC (bZ ai) M)
  ,?_⟩
 refine⟨Qj _,λL G=>⟨_,M,a,_,dx,[],M,(by rwa[af (am ha G)]),T.aM,T.aH,(by show 0<1000;decide),?_⟩⟩;have U:=am ha G;refine q _ (Pt a L []) ⟨L,[],[],⟨⟨dx,ag⟩,by rw[af U.symm];exact ag,M,(λj b l e=>by simp at e),(λi j b e=>by simp at e),(λz=>by cases z)⟩,P1.nil,M,λb=>Iff.rfl⟩ λb o n w=>?_;have I:b≠a:=λy=>n (.inl y);have O:b≠L:=am w G;refine⟨by rwa[af I,af O],λy=>?_⟩;rcases y with y|y|y
 .exact I y
 .exact O y
 .cases y
def m7 (t:OJ):Sp:=λvs H Q _=>∃(a L:Addr) (A:List Addr) (ls:List (List Int)) (i:Nat) (x:List Int),vs=[.ref a,.int (i:Int)]/\Pc t H a L A ls/\ls[i]?=some x/\x.length=9/\ls.length<5000/\
 ∀H' A',Pc t H' a L A' ((ls.set i<|x.take 4).take (i+1)++x.drop 4::(ls.set i<|x.take 4).drop (i+1))->Fr (Pt a L A) (Pt a L A') H H'->Q .non H'
def nY:CU P w K mg base OL 1 t.iq t.d8 ["self","at"] (m7 t):=by
 refine T.Dr.okl nB λs H vs Q E hr h _=>?_;intro X;obtain⟨a,L,A,ls,i,x,rfl,hb,ex,lx,ll,q⟩:=h;refine aj (OM 2<|aS aU (au BC M) M2<|λ_ _=>M)
   (aj (OM 3<|ao aP (aE aC {_} T.bL bf (ac O1 ai)) ae)
   (aj (ub (cn c6 O1 gJ<|b6 OR)<|DZ (au BC M) M2 wE)
   (aA (aN<|dC Qr PySem.F.slot_list_insert PySem.F.type_list_insert zQ (au BC M)<|ac (ao bx M2 ae)<|ac (cn c6 O1 (b6 OR) gJ) ai) ?_)))
 intros
 obtain⟨dx,ho⟩:=hb.obj;obtain⟨c,ec,hc⟩:=hb.at ex;have b2:i<A.length:=(Q2.mp ec).1;have a0:((x.map V.int).length:Int)=9:=by rw[Q0,lx];rfl
 refine⟨_,M,a,_,dx,_,_,M,ho,T.aM,T.aH,dh,_,M,L,_,_,_,M,M,Fb.of hb.lst,gL ec,?_⟩;refine⟨_,M,c,_,M,.inl<|Fb.of hc,_,_,M,M,⟨(_),(_)⟩,?_⟩;dsimp only;rw[a0];have a1:pP (x.map V.int) none (some<|9/2)=(x.take 4).map V.int:=by
  unfold pP;rw[Q0,lx];show((x.map V.int).drop 0).take (4-0)=_;rw[Z1,Z8]
 have a2:pP (x.map V.int) (some<|9/2) none=(x.drop 4).map V.int:=by
  unfold pP;rw[Q0,lx];show((x.map V.int).drop 4).take (9-4)=_;rw[Xa,Qv (by rw[QH,Q0,lx];exact Q4 _)]
 refine⟨_,M,_,M,_,M,c,_,M,Fb.of hc,λG O=>?_⟩;rw[a1];have s1:Fa H (upd H G<|.lst<|(x.take 4).map V.int):=ak O;have hb1:=hb.same s1;have a3:upd H G (.lst<|(x.take 4).map V.int) G=some (.lst<|(x.take 4).map V.int):=ag;have b4:=hb.out O;have a4:=s1 _ _ ho;have a5:=s1 _ _ hc;have aa:=s1 _ _ hb.lst;generalize upd H G (.lst<|(x.take 4).map V.int)=H1 at s1 hb1 a3 a4 a5 aa⊢;refine⟨_,M,a,_,dx,_,_,M,a4,T.aM,T.aH,dh,_,M,L,_,_,_,M,M,aa,EW b2,?_⟩;have es:(A.map V.ref).set i (V.ref G)=(A.set i G).map V.ref:=by rw[List.map_set]
 rw[es];have I:=hb1.swap ec ex a3 b4;have cL:c≠L:=λz=>hb.nL (z▸Q1 ec);have ab:upd H1 L (.lst<|(A.set i G).map V.ref) c=some (.lst<|x.map V.int):=by rwa[af cL]
 obtain⟨b5,ah⟩:=I.obj;have U:=I.lst;have f2:Fr (Pt a L A) (Pt a L<|A.set i G) H (upd H1 L<|.lst<|(A.set i G).map V.ref):=λb o n w=>by
  have w1:=s1 _ _ w;refine⟨by rwa[af (λy=>n<|.inr<|.inl y)],λy=>?_⟩;rcases y with y|y|y
  .exact n<|.inl y
  .exact n<|.inr (.inl y)
  .rcases List.mem_or_eq_of_mem_set y with y|y
   .exact n<|.inr (.inr y)
   .rw[y,O]at w;cases w
 generalize upd H1 L (.lst<|(A.set i G).map V.ref)=H2 at I ab ah U f2⊢;refine⟨_,M,a,_,b5,_,_,M,ah,T.aM,T.aH,dh,.inl ⟨M,_,Fb.of U⟩,_,M,_,_,M,M,_,M,_,M,_,M,c,_,M,Fb.of ab,λZ Y=>?_⟩;rw[a2];have s3:Fa H2 (upd H2 Z<|.lst<|(x.drop 4).map V.int):=ak Y;have an:=I.same s3;have ax:upd H2 Z (.lst<|(x.drop 4).map V.int) Z=some (.lst<|(x.drop 4).map V.int):=ag;have b7:=I.out Y;have b1:=s3 _ _ U;generalize upd H2 Z (.lst<|(x.drop 4).map V.int)=H3 at s3 an ax b1⊢;have lS:(A.set i G).length=A.length:=QO;refine⟨L,_,_,_,M,M,b1,(),(by rw[Q0,lS];lia),(by rw[Q0,lS,hb.len];exact bg ()),?_⟩;have ei:((i:Int)+1).toNat=i+1:=();have b8:=an.insert (i:=i+1) (by rw[lS];lia) ax b7;rw[ei];have em:((A.set i G).map V.ref).take (i+1)++V.ref Z::((A.set i G).map V.ref).drop (i+1)=((A.set i G).take (i+1)++Z::(A.set i G).drop (i+1)).map V.ref:=by
  rw[Qg,Qt,Z8,Xa]
 rw[em];refine q _ _ b8<|f2.trans (λb o n w=>?_);have w3:=s3 _ _ w;refine⟨by rwa[af (λy=>n<|.inr<|.inl y)],λy=>?_⟩;rcases y with y|y|y
 .exact n<|.inl y
 .exact n<|.inr (.inl y)
 .rcases Q5.mp y with y|y
  .exact n<|.inr (.inr<|QC y)
  .rcases Qh.mp y with y|y
   .rw[y,Y]at w;cases w
   .exact n<|.inr (.inr<|Xe y)
def Pc.insM (h:Pc t H a L A ls):∃dx fs,H a=some (.ins t.bH dx fs)/\∀m,m≠("leaves":Str)->fs.lookup m=none:=by
 obtain⟨dx,ho⟩:=h.obj;exact⟨dx,_,ho,λm z=>LJ z⟩
def xl:CU P w K mg base OL 3 t.qp t.kg ["self","key"] (wx K t):=by
 obtain⟨I,G⟩:=T.g_MOST_IN_LEAF;refine T.JT.okl wP λs H vs Q E hr h _=>?_;intro X;obtain⟨a,k,F,ks,rfl,hA,hl,q1,q2⟩:=h;refine aj (aQ (cx<|aR BC T.aM T.zj (nZ T) hr.mo T.zt .nil ay<|ac M2 ai)
    (az eJ)
    aI)
   (bU (λx=>aQ (aq bP (aE aC {_} T.bL bf (ac (au BC M) ai)) ae<|aw _) x aI) ?_)
 refine aj (aN<|dC Qr Z2 Z3 eZ (au BC M)<|ac (bZ<|ac M2 ai) ai)
   (aA pA ?_)
 intros
 refine aj (OM 2<|aE (pI M) {_} T.BM uN (ac (aR BC T.aM T.de (b3 T) hr.mo T.dj .nil ay<|ac M2 ai)<|ac (ao iX (aE aC {_} T.bL bf (ac (au BC M) ai)) ae) ai))
   (aj (OM 3<|aS aU (au BC M) O1<|λ_ _=>M)
   (aj (aN<|dC Qr PySem.F.slot_list_insert PySem.F.type_list_insert zQ OR<|ac (aE aC {_} T.bL bf (ac (rW M (OO.of (M':=["one"]) (N:=["self","key","at","leaf"]) (N':=["self","key","at","leaf"]) (dsc:=al gI) M M ∅) (cK OR) (λ_ _ _ _ _=>(aq eF BC O1<|aw _))<|λ_ _ _ _ _=>BC) ai))<|ac M2 ai)
   (aA (aQ (aq w6 (aE aC {_} T.bL bf (ac OR ai)) (c8 (v:= .int 8) {_} G ⟨_,M⟩)<|aw _)
    (az<|aN<|aR BC T.aM T.Dh (nY T) hr.mo T.Dn .nil ay<|ac O1 ai)
    aI) ?_)))
 intros
 obtain⟨dx,fs,hi,hm⟩:=hA.ins;refine⟨_,M,a,dx,fs,M,hi,hm _ ∅,_,M,a,k,F,ks,M,hA,λH0 F0 a5 a0=>?_⟩;by_cases ck:k∈ks
 .rw[Vy ck];refine⟨_,M,cH ?_⟩;exact(q2 ck).elim
 rw[VA ck];refine⟨_,M,cu ?_⟩;have q:=q1 ck;obtain⟨L,A,ls,hb,ok,ef,hF⟩:=a5;obtain⟨O,ho⟩:=hb.obj;have lA:((A.map V.ref).length:Int)=(ls.length:Int):=by rw[Q0,hb.len]
 have sh:=ok.short;rw[ef]at sh;have fr:Fr F (Pt a L A) H H0:=λb o n e=>⟨(a0 b o n e).1,λy=>(a0 b o n e).2<|(hF b).mpr y⟩;have nk:k∉ls.flatten:=by rwa[ef]
 by_cases ce:ls=[]
 .subst ce;have eA:A=[]:=Xu.mp hb.len;subst eA;refine⟨_,M,a,_,O,_,_,M,ho,T.aM,T.aH,dh,L,_,M,.inl<|Fb.of hb.lst,M,_,M,fK M ?_⟩;refine⟨_,M,a,_,O,_,_,M,ho,T.aM,T.aH,dh,.inl ⟨M,_,Fb.of hb.lst⟩,_,M,(by show 1<=sizeLine;decide),λn nn=>?_⟩;have s1:Fa H0 (upd H0 n<|.lst [.int k]):=ak nn;have hb1:=hb.same s1;have aa:upd H0 n (.lst [.int k]) n=some (.lst<|([k]:List Int).map V.int):=ag;have nF:=hb.out nn;have ab:=s1 _ _ hb.lst;refine⟨L,_,_,M,M,ab,cU (by show 0<=1000;decide),?_⟩;have ah:=hb1.insert (i:=0) (Qj _) aa nF;have an:P1 [[k]]:=⟨(λl hl=>by rw[Q7.mp hl];simp),(λl hl=>by rw[Q7.mp hl];simp),(λi x y e1 e2=>by simp at e2),by show dn [k];exact Zh _ _⟩;refine q _ (Pt a L [n]) [k] ⟨L,[n],[[k]],ah,an,M,λb=>Iff.rfl⟩ (λz=>?_)<|fr.trans λb o n' w=>?_
  .rw[<-ef];simp
  .have w1:=s1 _ _ w;refine⟨by rwa[af (λy=>n'<|.inr<|.inl y)],λy=>?_⟩;rcases y with y|y|y
   .exact n'<|.inl y
   .exact n'<|.inr (.inl y)
   .rw[Q7.mp y,nn]at w;cases w
 .have bt:=Za.mpr ce;refine⟨_,M,a,_,O,_,_,M,ho,T.aM,T.aH,dh,L,_,M,.inl<|Fb.of hb.lst,M,_,M,a9 (λw=>?_) ?_⟩
  .have:=V.int.inj w;lia
  obtain⟨ax,b1,b2,b4⟩:=hb.insM;refine⟨_,M,a,ax,b1,M,b2,b4 _ ∅,_,M,a,k,L,A,ls,M,hb,ok.ne,ok.up,λi li=>?_⟩;refine⟨_,M,a,_,O,_,_,M,ho,T.aM,T.aH,dh,L,_,M,.inl<|Fb.of hb.lst,_,_,M,M,_,_,M,?_⟩;obtain⟨x,ad⟩:=li.add ok ce;have em:(if((A.map V.ref).length:Int)-1<(i:Int)then((A.map V.ref).length:Int)-1 else(i:Int))=((min i (ls.length-1):Nat):Int):=by
   rw[lA];split<;>lia
  dsimp only;rw[em];generalize min i (ls.length-1)=j at ad⊢;obtain⟨c,ec,hc⟩:=hb.at ad.at_;have jl:j<ls.length:=(Q2.mp ad.at_).1;have x8:=ok.le x (Q1 ad.at_);refine⟨_,M,a,_,O,_,_,M,ho,T.aM,T.aH,dh,_,M,L,_,_,_,M,M,Fb.of hb.lst,gL ec,?_⟩;refine⟨_,M,.inl ⟨M,_,Fb.of hc⟩,_,M,c,M,⟨_,Fb.of hc⟩,λD hD=>?_⟩;refine mw (K:=K) (a:=c) (xs:=x.map V.int) (λn ys H3=>H3=upd H0 D (.lst ys)/\ys=((x.take n).filter<|λz=>decide (z<k)).map V.int) ⟨M,M⟩ (λn ys H3 _ w=>Fb.of<|by rwa[w.1,af (am hc hD)]) (λn v ys H3 hv w U=>?_)<|λys H3 w U=>?_
  .obtain⟨e1,e2⟩:=w;obtain⟨g,rfl,eg⟩:∃g:Int,v= .int g/\x[n]?=some g:=by
    rw[Qn]at hv;cases e:x[n]? with
    |none=>rw[e]at hv;cases hv
    |some g=>rw[e]at hv;cases hv;exact⟨g,M,M⟩
   have hn:n<(x.map V.int).length:=(Q2.mp hv).1;refine⟨_,M,_,M,_,_,M,M,_,M,?_⟩;have fl:ys.length<=8:=by
    rw[e2,Q0];have h1:=Qp (λz=>decide (z<k)) (x.take n);have h2:(x.take n).length<=x.length:=by rw[Q6];lia
    lia
   by_cases cg:g<k
   .refine mW cg ⟨_,M,P7.mk hn U (cU ()) ⟨by rw[e1,eG],?_⟩⟩;rw[e2,Qq,eg,QE,Qg];simp[cg]
   .refine a9 cg<|PZ.mk hn U ⟨e1,?_⟩;rw[e2,Qq,eg,QE];simp[cg]
  .obtain⟨e1,e2⟩:=w;rw[Q0,QB]at e2;have s3:Fa H0 H3:=by rw[e1];exact ak hD
   have b5:=hb.same s3;have b7:=s3 _ _ hc;have yl:(ys.length:Int)=((x.filter<|λz=>decide (z<k)).length:Int):=by rw[e2,Q0]
   have bv:=Qp (λz=>decide (z<k)) x;refine⟨D,_,M,.inl<|Fb.of U,_,M,c,_,_,_,M,M,b7,(),(by rw[Q0];lia),(by rw[Q0];exact cU ()),?_⟩;have ei:(x.map V.int).take (ys.length:Int).toNat++V.int k::(x.map V.int).drop (ys.length:Int).toNat=(gQ x k).map V.int:=by
    rw[yl,QJ];unfold gQ;rw[Qg,Qt,Z8,Xa]
   dsimp only;rw[ei];have Y:=b5.write (y:=gQ x k) ec ad.at_;have il:=Iq (l:=x) (k:=k);obtain⟨a1,Z⟩:=ad.set ok nk;have cF:Pt a L A c:= .inr (.inr<|Q1 ec);have f4:Fr (Pt a L A) (Pt a L A) H0 (upd H3 c<|.lst<|(gQ x k).map V.int):=λb o n w=>⟨by rw[af (λy=>n<|by rwa[y])];exact s3 _ _ w,n⟩;have a2:upd H3 c (.lst<|(gQ x k).map V.int) c=some (.lst<|(gQ x k).map V.int):=ag;generalize upd H3 c (.lst<|(gQ x k).map V.int)=H4 at Y f4 a2⊢;refine⟨_,M,c,_,M,.inl<|Fb.of a2,_,_,M,M,_,M,?_⟩;have ll:((gQ x k).map V.int).length=x.length+1:=by rw[Q0,il]
   by_cases c9:x.length=8
   .refine mW (by rw[ll];lia) ?_;obtain⟨b8,ba,bb,bc⟩:=Y.insM;have e5:(ls.set j<|gQ x k)[j]?=some (gQ x k):=by rw[QA,Vp M,Vp jl]
    refine⟨_,M,a,b8,ba,M,bb,bc _ ∅,_,M,a,L,A,_,j,_,M,Y,e5,(),by rw[QO];lia,λH6 A6 a3 f6=>?_⟩;have er:(ls.set j<|gQ x k).set j ((gQ x k).take 4)=ls.set j ((gQ x k).take 4):=List.set_set _;rw[er]at a3;have be:dn (ls.set j<|(gQ x k).take 4++(gQ x k).drop 4).flatten:=by rwa[QM]
    obtain⟨bl,a4⟩:=ok.parted ad.at_ (a:=(gQ x k).take 4) (b:=(gQ x k).drop 4) (by rw[Q6];lia) (by rw[QH];lia) be;rw[QM]at a4;refine q H6 _ _ ⟨L,A6,_,a3,bl,M,λb=>Iff.rfl⟩ (λz=>?_)<|fr.trans (f4.trans f6);rw[a4,Z,ef]
   .refine a9 (by rw[ll];lia) ?_;have bo:=ok.grown ad.at_ (y:=gQ x k) () () a1;exact q H4 _ _ ⟨L,A,_,Y,bo,M,λb=>Iff.rfl⟩ (λz=>by rw[Z,ef])<|fr.trans f4
def mQ (t:OJ):Sp:=λvs H Q _=>∃(a L:Addr) (A:List Addr) (ls:List (List Int)) (i:Int),vs=[.ref a,.int i]/\Pc t H a L A ls/\-1<=i/\i<(ls.length:Int)/\(∀l∈ls,l.length<=8)/\ls.length<5000/\
 ∀H' A' ls',Pc t H' a L A' ls'->ls'=(if 0<=i then qa ls i.toNat else ls)->Fr (Pt a L A) (Pt a L A') H H'->Q .non H'
def HR {n:Addr} (h:b∈A.set i n):b∈A\/b=n:=List.mem_or_eq_of_mem_set h
def mU:CU P w K mg base OL 1 t.gR t.dF ["self","at"] (mQ t):=by
 obtain⟨I,z⟩:=T.g_LEAST_IN_TWO;refine T.Df.okl mS λs H vs Q E hr h _=>?_;intro X;obtain⟨a,L,A,ls,i,rfl,hb,i0,i1,l8,ll,q⟩:=h;refine aj (aQ (PW.pt<|ie (aq eF M2 ae<|aw _)<|gZ<|aq bP (ao bx M2 ae) (aE aC {_} T.bL bf (ac (au BC M) ai))<|aw _)
    (az pA)
    aI)
   (aj (OM 2<|ao MI (aS aU (au BC M) M2<|λ_ _=>M)<|aS aU (au BC M) (ao bx M2 ae)<|λ_ _=>M)
   (oo (λx=>aQ (aq eF (aE aC {_} T.bL bf (ac O1 ai)) (c8 (v:= .int 5) {_} z ⟨_,M⟩)<|aw _) x aI) ?_))
 refine aj (ub O1<|DZ (au BC M) M2 wE)
   (aA (aN<|dC Qr PySem.F.slot_list_pop PySem.F.type_list_pop Cm (au BC M)<|ac (ao bx M2 ae) ai) ?_)
 intros
 obtain⟨dx,ho⟩:=hb.obj;have lA:((A.map V.ref).length:Int)=(ls.length:Int):=by rw[Q0,hb.len]
 by_cases c0:i<0
 .refine⟨_,M,_,_,M,M,_,M,mW c0 ?_⟩;exact cH<|q H A ls hb (by rw[Vo ()]) Fr.refl
 refine⟨_,M,_,_,M,M,_,M,a9 c0 ?_⟩;obtain⟨n,rfl⟩:=Z6 (show 0<=i by lia);have en:((n:Int)).toNat=n:=QJ n;rw[Vp (),en]at q;refine⟨_,M,_,_,M,M,_,M,a,_,dx,_,_,M,ho,T.aM,T.aH,dh,L,_,M,.inl<|Fb.of hb.lst,M,_,M,?_⟩;by_cases c1:n+1=ls.length
 .refine fK (VH V.int<|by rw[lA];lia) ?_;exact q H A ls hb (xH ()).symm Fr.refl
 refine a9 (λw=>c1<|by have:=V.int.inj w;rw[lA]at this;lia) ?_;have hn:n<ls.length:=();have U:n+1<ls.length:=();have ex:ls[n]?=some ls[n]:=Q3 hn;have ey:ls[n+1]?=some ls[n+1]:=Q3 U;have x8:=l8 _ (Zq hn);have y8:=l8 _ (Zq U);generalize ls[n]=x at ex x8;generalize ls[n+1]=y at ey y8;obtain⟨c,ec,hc⟩:=hb.at ex;obtain⟨d,ed,hd⟩:=hb.at ey;have ah:(n:Int)+1=((n+1:Nat):Int):=M;refine⟨_,M,a,_,dx,_,_,M,ho,T.aM,T.aH,dh,_,M,L,_,_,_,M,M,Fb.of hb.lst,gL ec,_,M,a,_,dx,_,_,M,ho,T.aM,T.aH,dh,_,M,_,_,M,M,L,_,_,_,M,M,Fb.of hb.lst,gL ed,c,d,_,_,M,M,hc,hd,Z4<|cU (by rw[Q0,Q0];lia),λG Y=>?_⟩;rw[<-Qg];have s1:Fa H (upd H G<|.lst<|(x++y).map V.int):=ak Y;have hb1:=hb.same s1;have Z:upd H G (.lst<|(x++y).map V.int) G=some (.lst<|(x++y).map V.int):=ag;have nF:=hb.out Y;have a1:=s1 _ _ ho;have a2:=s1 _ _ hb.lst;generalize upd H G (.lst<|(x++y).map V.int)=H1 at s1 hb1 Z a1 a2⊢;refine⟨_,M,G,_,M,.inl<|Fb.of Z,_,_,M,M,_,M,?_⟩;have a3:(((x++y).map V.int).length:Int)=(x.length:Int)+(y.length:Int):=by rw[Q0,Q8];rfl
 rw[CA ex ey]at q;by_cases c5:x.length+y.length<5
 .refine mW (by rw[a3];lia) ?_;rw[Vp c5]at q;have nA:n<A.length:=by rwa[hb.len]
  refine⟨_,M,_,M,a,_,dx,_,_,M,a1,T.aM,T.aH,dh,_,M,L,_,_,_,M,M,a2,EW nA,?_⟩;have es:(A.map V.ref).set n (V.ref G)=(A.set n G).map V.ref:=by rw[List.map_set]
  rw[es];have O:=hb1.swap ec ex Z nF;obtain⟨a5,a4⟩:=O.obj;have a0:=O.lst;have f2:Fr (Pt a L A) (Pt a L<|A.set n G) H (upd H1 L<|.lst<|(A.set n G).map V.ref):=λb o n' w=>by
   have w1:=s1 _ _ w;refine⟨by rwa[af (λy=>n'<|.inr<|.inl y)],λy=>?_⟩;rcases y with y|y|y
   .exact n'<|.inl y
   .exact n'<|.inr (.inl y)
   .rcases HR y with y|y
    .exact n'<|.inr (.inr y)
    .rw[y,Y]at w;cases w
  generalize upd H1 L (.lst<|(A.set n G).map V.ref)=H2 at O a4 a0 f2⊢;have lS:((A.set n G).map V.ref).length=ls.length:=by rw[Q0,QO,hb.len]
  have aa:n+1<(A.set n G).length:=by rwa[QO,hb.len]
  have sx:seqIndex? ((n:Int)+1) ((A.set n G).map V.ref).length=some (n+1):=by
   have:=seqIndex_of (k:=(n:Int)+1) (n:=((A.set n G).map V.ref).length) () (by rw[lS];lia);rw[this];congr 1
  refine⟨_,M,a,_,a5,_,_,M,a4,T.aM,T.aH,dh,.inl ⟨M,_,Fb.of a0⟩,_,M,_,_,M,M,L,_,_,n+1,_,M,M,a0,(),(),sx,(by rw[Qn,Q3 aa];rfl),?_⟩;have ab:=O.erase (i:=n+1);have em:((A.set n G).map V.ref).eraseIdx (n+1)=((A.set n G).eraseIdx<|n+1).map V.ref:=qS _ _;rw[em];refine q _ _ _ ab M<|f2.trans λb o n' w=>?_;refine⟨by rwa[af (λy=>n'<|.inr<|.inl y)],λy=>?_⟩;rcases y with y|y|y
  .exact n'<|.inl y
  .exact n'<|.inr (.inl y)
  .exact n'<|.inr (.inr<|Ze y)
 .refine a9 (by rw[a3];lia) ?_;rw[Vo c5]at q;exact q H1 A ls hb1 M<|Fr.of_same s1
def qO:CU P w K mg base OL 3 t.jF t.fR ["self","key"] (qB K t):=by
 refine T.Fo.okl qF λs H vs Q E hr h _=>?_;intro X;obtain⟨a,k,F,ks,rfl,hA,hl,q1,q2⟩:=h;refine aj (aQ (lJ<|cx<|aR BC T.aM T.zj (nZ T) hr.mo T.zt .nil ay<|ac M2 ai)
    (az eJ)
    aI)
   (aj (OM 2<|aR BC T.aM T.de (b3 T) hr.mo T.dj .nil ay<|ac M2 ai)
   (aj (aN<|dC Qr PySem.F.slot_list_remove PySem.F.type_list_remove FU (aS aU (au BC M) O1<|λ_ _=>M)<|ac M2 ai)
   (bU (λx=>aQ (aq bP (aE aC {_} T.bL bf (ac (aS aU (au BC M) O1<|λ_ _=>M) ai)) ae<|aw _) x aI) ?_)))
 refine aj (aN<|dC Qr PySem.F.slot_list_pop PySem.F.type_list_pop Cm (au BC M)<|ac O1 ai)
   (aA pA ?_)
 intros
 refine aj (aN<|aR BC T.aM T.ox (mU T) hr.mo T.oP .nil ay<|ac O1 ai)
   (aA (aN<|aR BC T.aM T.ox (mU T) hr.mo T.oP .nil ay<|ac (ao iX O1 ae) ai) ?_)
 intros
 obtain⟨dx,fs,hi,hm⟩:=hA.ins;refine⟨_,M,a,dx,fs,M,hi,hm _ ∅,_,M,a,k,F,ks,M,hA,λH0 F0 aa a1=>?_⟩;by_cases ck:k∈ks
 case neg=>
  rw[VA ck];refine⟨_,M,cH ?_⟩;exact(q2 ck).elim
 rw[Vy ck];refine⟨_,M,cu ?_⟩;have q:=q1 ck;obtain⟨L,A,ls,hb,ok,ef,hF⟩:=aa;obtain⟨ab,ho⟩:=hb.obj;have sh:=ok.short;rw[ef]at sh;have fr:Fr F (Pt a L A) H H0:=λb o n e=>⟨(a1 b o n e).1,λy=>(a1 b o n e).2<|(hF b).mpr y⟩;obtain⟨ah,an,ax,b1⟩:=hb.insM;refine⟨_,M,a,ah,an,M,ax,b1 _ ∅,_,M,a,k,L,A,ls,M,hb,ok.ne,ok.up,λi li=>?_⟩;obtain⟨x,ex,hx⟩:=(li.mem ok).mp (by rwa[ef]);obtain⟨c,ec,hc⟩:=hb.at ex;have il:i<ls.length:=(Q2.mp ex).1;have bw:i<A.length:=by rwa[hb.len]
 refine⟨_,M,a,_,ab,_,_,M,ho,T.aM,T.aH,dh,_,M,L,_,_,_,M,M,Fb.of hb.lst,gL ec,.inl ⟨M,_,Fb.of hc⟩,_,M,c,x,k,M,M,hc,hx,?_⟩;have hb1:=hb.write (y:=x.erase k) ec ex;obtain⟨up1,G⟩:=ok.gone ex hx;have cF:Pt a L A c:= .inr (.inr<|Q1 ec);have f1:Fr (Pt a L A) (Pt a L A) H0 (upd H0 c<|.lst<|(x.erase k).map V.int):=λb o n w=>⟨by rwa[af (λy=>n<|by rw[y];exact cF)],n⟩;have a2:upd H0 c (.lst<|(x.erase k).map V.int) c=some (.lst<|(x.erase k).map V.int):=ag;obtain⟨a3,Y⟩:=hb1.obj;have O:=hb1.lst;generalize upd H0 c (.lst<|(x.erase k).map V.int)=H1 at hb1 f1 a2 Y O⊢;have le:=List.length_erase_of_mem hx;refine⟨_,M,a,_,a3,_,_,M,Y,T.aM,T.aH,dh,_,M,L,_,_,_,M,M,Fb.of O,gL ec,c,_,M,.inl<|Fb.of a2,M,_,M,?_⟩;have px:=List.length_pos_of_mem hx;by_cases c0:x.length=1
 .refine fK (VH V.int<|by rw[Q0,le,c0];rfl) ?_;have en:x.erase k=[]:=Xu.mp ();rw[en]at up1 G hb1;have sx:seqIndex? (i:Int) (A.map V.ref).length=some i:=by
   have:=seqIndex_of (k:=(i:Int)) (n:=(A.map V.ref).length) () (by rw[Q0];lia);rw[this,QJ]
  refine⟨_,M,a,_,a3,_,_,M,Y,T.aM,T.aH,dh,.inl ⟨M,_,Fb.of O⟩,_,M,L,_,_,i,_,M,M,O,(),(),sx,(by rw[Qn,ec];rfl),?_⟩;have I:=hb1.erase (i:=i);have e2:(ls.set i ([]:List Int)).eraseIdx i=ls.eraseIdx i:=z7 _ _ _;rw[e2]at I;rw[qS];obtain⟨b2,b4⟩:=ok.out ex c0 up1;refine q _ _ _ ⟨L,_,_,I,b2,M,λb=>Iff.rfl⟩ (λz=>by rw[b4,G,ef])<|(fr.trans f1).trans λb o n w=>?_;refine⟨by rwa[af (λy=>n<|.inr<|.inl y)],λy=>?_⟩;rcases y with y|y|y
  .exact n<|.inl y
  .exact n<|.inr (.inl y)
  .exact n<|.inr (.inr<|Ze y)
 .refine a9 (λw=>c0<|by have:=V.int.inj w;rw[Q0,le]at this;lia) ?_;have ny:x.erase k≠[]:=Zv ();have w1:=ok.shrunk ex ny () up1;obtain⟨b5,b7,b8,ba⟩:=hb1.insM;have Z:(ls.set i<|x.erase k).length=ls.length:=QO;refine⟨_,M,a,b5,b7,M,b8,ba _ ∅,_,M,a,L,A,_,(i:Int),M,hb1,(),by rw[Z];lia,w1.le,by rw[Z];lia,λH2 A2 U I e2 f2=>?_⟩;rw[Vp (),QJ]at e2;obtain⟨w2,a4⟩:=w1.join (i:=i) (λj h=>h);rw[<-e2]at w2 a4;have l2:i<=U.length/\U.length<=ls.length:=by
   have:=Gd (ls:=ls.set i<|x.erase k) (i:=i);rw[<-e2,Z]at this;lia
  obtain⟨bb,bc,be,bl⟩:=I.insM;refine⟨_,M,a,bb,bc,M,be,bl _ ∅,_,M,_,_,M,M,a,L,A2,U,(i:Int)-1,M,I,(),(),w2.le,(),λH3 A3 a0 bo e3 f3=>?_⟩;have fin:P1 a0/\a0.flatten=U.flatten:=by
   by_cases ci:i=0
   .subst ci;rw[Vo ()]at e3;subst e3;exact⟨w2.ok λj h=>(),M⟩
   .have ei:((i:Int)-1).toNat=i-1:=();rw[Vp (),ei]at e3;obtain⟨w3,a5⟩:=w2.join (i:=i-1) (λj h=>());rw[<-e3]at w3 a5;exact⟨w3.ok λj h=>(),a5⟩
  obtain⟨bt,bv⟩:=fin;refine q H3 _ _ ⟨L,A3,a0,bo,bt,M,λb=>Iff.rfl⟩ (λz=>by rw[bv,a4,G,ef])<|((fr.trans f1).trans f2).trans f3
def LV (a l:Addr) (k n:Int) (ls:List (List Int)) (H:Hp):Nat->St->Hp->Prop:=λm B H'=>∃(i:Nat),m=ls.length-i/\Fa H H'/\H l=none/\B=[some (.ref a),some (.int k),some (.int n),some (.ref l),some (.int (i:Int))]/\i<=ls.length/\H' l=some (.lst<|(((ls.take i).flatten).filter λz=>decide (k<=z)).map V.int)
def uD (e:ls[i]?=some x):(ls.take<|i+1).flatten=(ls.take i).flatten++x:=by
 rw[Qq,e,Zl];simp
def sI (ls:List (List Int)) (i:Nat):ls.flatten=(ls.take i).flatten++(ls.drop i).flatten:=by rw[<-Zl,QM]
def qN:CU P w K mg base OL 2 t.jE t.fQ ["self","key","most"] (qA K t):=by
 refine T.Fn.okl PL λs H vs Q E hr h _=>?_;intro X;obtain⟨a,k,n,F,ks,rfl,hA,hl,n0,q⟩:=h;refine aj (OM 3<|bZ ai)
   (aj (OM 4<|aR BC T.aM T.de (b3 T) hr.mo T.dj .nil ay<|ac M2 ai)
   (bU (λx=>(nQ VC (PW.pt<|dU (aq eF PF (aE aC {_} T.bL bf (ac (au BC M) ai))<|aw _)<|cJ<|aq eF (aE aC {_} T.bL bf (ac OR ai)) O1<|aw _)
    x)) ?_))
 refine aj (aN<|dC Qr ZR ZS pC OR<|ac (rW M (OO.of (M':=["one"]) (N:=["self","key","most","told","at"]) (N':=["self","key","most","told","at"]) (dsc:=al c7) M M ∅) (cK<|aS aU (au BC M) PF<|λ_ _=>M) (λ_ _ _ _ _=>(aq zN BC O1<|aw _))<|λ_ _ _ _ _=>BC) ai)
   (aA (DY (i:=4) PL.nd M (Or.inl M) ae Ip) ?_)
 intros
 refine aA (aD<|cn c6 OR gJ<|b6 O1) ?_
 intros
 obtain⟨L,A,ls,hb,ok,ef,hF⟩:=hA;refine⟨Qj _,λl Z=>?_⟩;have s0:Fa H (upd H l<|.lst []):=ak Z;have e0:upd H l (.lst []) l=some (.lst<|([]:List Int).map V.int):=ag;have O:=hb.same s0;generalize upd H l (.lst [])=H0 at s0 e0 O⊢;obtain⟨a3,a4,a5,aa⟩:=O.insM;refine⟨_,M,a,a3,a4,M,a5,aa _ ∅,_,M,a,k,L,A,ls,M,O,ok.ne,ok.up,λi0 li=>?_⟩;have f0:((ls.take i0).flatten).filter (λz=>decide (k<=z))=[]:=ZZ.mpr λz hz=>by
  have:=Gi ok li z hz;simpa using this
 have lA:((A.map V.ref).length:Int)=(ls.length:Int):=by rw[Q0,hb.len]
 refine⟨LV a l k n ls H,⟨_,i0,M,s0,Z,M,li.le,by rwa[f0]⟩,?_⟩;rintro m B H' ⟨i,rfl,s1,_,rfl,il,e1⟩;have hb1:=hb.same s1;obtain⟨a0,a1⟩:=hb1.obj;have fin:∀(done:((((ls.take i).flatten).filter λz=>decide (k<=z)).take n.toNat)=(ks.filter λz=>decide (k<=z)).take n.toNat),∀p,H' p=none->Q (.ref p) (upd H' p<|.lst<|pP ((((ls.take i).flatten).filter λz=>decide (k<=z)).map V.int) none<|some n):=λdone p np=>by
  refine q _ p (s1.trans<|ak np) ?_ ?_
  .cases e:H p with
   |none=>rfl
   |some o=>rw[s1 _ _ e]at np;cases np
  .rw[ag,jo n0,<-Z8,done]
 refine⟨_,M,_,M,a,_,a0,_,_,M,a1,T.aM,T.aH,dh,L,_,M,.inl<|Fb.of hb1.lst,_,_,M,M,_,M,?_⟩;by_cases c:i<ls.length
 .refine mW (by rw[lA];lia) ?_;refine⟨_,M,l,_,M,.inl<|Fb.of e1,_,M,_,_,M,M,_,M,?_⟩;by_cases c2:((((((ls.take i).flatten).filter λz=>decide (k<=z)).map V.int).length:Nat):Int)<n
  .refine mW c2 ?_;refine⟨λab H''=>∃m',m'<ls.length-i/\LV a l k n ls H m' ab H'',λ_ _ h=>h,?_⟩;have ex:ls[i]?=some ls[i]:=Q3 c;obtain⟨b,eb,G⟩:=hb1.at ex;have lb:l≠b:=λz=>by
    obtain⟨b',a2,h'⟩:=hb.at ex;rw[eb]at a2;cases a2;rw[<-z,Z]at h';cases h'
   have an:=Qp (λz=>decide (k<=z)) (ls.take i).flatten;have ah:(ls.take i).flatten.length+ls[i].length<=ks.length:=by
    rw[<-ef,sI ls (i+1),uD ex,Q8,Q8];lia
   refine⟨_,M,.inl ⟨M,_,Fb.of e1⟩,_,M,a,_,a0,_,_,M,a1,T.aM,T.aH,dh,_,M,L,_,_,_,M,M,Fb.of hb1.lst,gL eb,b,M,⟨_,Fb.of G⟩,λD hD=>?_⟩;generalize ls[i]=x at ex G ah⊢;refine mw (K:=K) (a:=b) (xs:=x.map V.int) (λm ys H3=>H3=upd H' D (.lst ys)/\ys=((x.take m).filter<|λz=>decide (k<=z)).map V.int) ⟨M,M⟩ (λm ys H3 _ w=>Fb.of<|by rwa[w.1,af (am G hD)]) (λm v ys H3 Y w I=>?_)<|λys H3 w I=>?_
   .obtain⟨w1,U⟩:=w;obtain⟨g,rfl,eg⟩:∃g:Int,v= .int g/\x[m]?=some g:=by
     rw[Qn]at Y;cases e:x[m]? with
     |none=>rw[e]at Y;cases Y
     |some g=>rw[e]at Y;cases Y;exact⟨g,M,M⟩
    have hn:m<(x.map V.int).length:=(Q2.mp Y).1;refine⟨_,M,_,M,_,_,M,M,_,M,?_⟩;have fl:ys.length<=100000:=by
     rw[U,Q0];have h1:=Qp (λz=>decide (k<=z)) (x.take m);have h2:(x.take m).length<=x.length:=by rw[Q6];lia
     lia
    by_cases cg:k<=g
    .refine mW cg ⟨_,M,P7.mk hn I (bg fl) ⟨by rw[w1,eG],?_⟩⟩;rw[U,Qq,eg,QE,Qg];simp[cg]
    .refine a9 cg<|PZ.mk hn I ⟨w1,?_⟩;rw[U,Qq,eg,QE];simp[cg]
   .obtain⟨w1,U⟩:=w;rw[Q0,QB]at U;have s3:Fa H' H3:=by rw[w1];exact ak hD
    have e3:=s3 _ _ e1;have ax:=Qp (λz=>decide (k<=z)) x;have hsz:((((ls.take i).flatten).filter λz=>decide (k<=z)).map V.int).length+ys.length<=sizeLine:=by
     rw[U,Q0,Q0];exact Z4<|bg ()
    refine⟨l,D,_,_,M,M,e3,I,hsz,?_⟩;have hE:(((ls.take i).flatten).filter λz=>decide (k<=z)).map V.int++ys=(((ls.take<|i+1).flatten).filter λz=>decide (k<=z)).map V.int:=by
     rw[U,uD ex,QE,Qg]
    rw[hE];refine⟨_,M,_,_,M,M,_,?_,i+1,M,?_,Z,M,c,ag⟩
    .lia
    .exact cm (s1.trans s3) Z
  .refine a9 c2 ?_;refine⟨_,M,_,M,_,M,l,_,M,Fb.of e1,fin ?_⟩;have:ks.filter (λz=>decide (k<=z))=((ls.take i).flatten).filter (λz=>decide (k<=z))++((ls.drop i).flatten).filter (λz=>decide (k<=z)):=by rw[<-ef,sI ls i,QE]
   rw[this,QG];rw[Q0]at c2;lia
 .refine a9 (by rw[lA];lia) ?_;have ei:i=ls.length:=();subst ei;refine⟨_,M,_,M,_,M,l,_,M,Fb.of e1,fin ?_⟩;rw[QB,ef]
def WDn (a l:Addr) (k:Option Int) (n:Int) (ls:List (List Int)) (H:Hp):Nat->St->Hp->Prop:=λm B H'=>Fa H H'/\H l=none/\m<=ls.length/\B=[some (.ref a),some (vDn k),some (.int n),some (.ref l),some (.int<|(m:Int)-1)]/\H' l=some (.lst<|(((ls.drop m).flatten).reverse.filter<|fj k).map V.int)
def KS {c:Prop} [Decidable c] {D:tG} {A:Prop} (Pv:St->Hp->Prop) (main:∀z H',Pv z H'->D.nx z H') (G:c->(∀z H',Pv z H'->D.nx z H')->A) (I:Pv B H):if c then A else mZ D B H:=bQ (λh=>G h main) (λ_=>main _ _ I)
def Gm (e:ls[i]?=some x):((ls.drop i).flatten).reverse=((ls.drop<|i+1).flatten).reverse++x.reverse:=by
 obtain⟨h,e⟩:=Q2.mp e;rw[Zc h,e,Zi,List.reverse_append]
def Gn (ok:P1 ls) (G:PH ls k i0):((ls.drop<|i0+1).flatten).reverse.filter (fj<|some k)=[]:=ZZ.mpr λz hz=>by
 have:=G.behind ok z (ZN.mp hz);simp only[fj,VE];lia
def IS {len:Nat}:(if((len:Int)-1<(i0:Int))then((len:Int)-1)else(i0:Int))=((min (i0+1) len:Nat):Int)-1:=by
 split<;>lia
def Go (ok:P1 ls) (z:PH ls k i0):((ls.drop<|min (i0+1) ls.length).flatten).reverse.filter (fj<|some k)=[]:=by
 rcases Nat.le_total (i0+1) ls.length with c|c
 .rw[Zk c];exact Gn ok z
 .rw[V8 c,List.drop_length];rfl
def oe:CU P w K mg base OL 2 t.iu t.d9 ["self","key","most"] (m9 K t):=by
 refine T.Ds.okl P9 λs H vs Q E hr h _=>?_;intro X;obtain⟨a,k,n,F,ks,rfl,hA,hl,n0,q⟩:=h;refine aj (OM 3<|bZ ai)
   (aj (OM 4<|ao iX (aE aC {_} T.bL bf (ac (au BC M) ai)) ae)
   (bU (λx=>aQ (aq jy M2 a7<|aw _) x aI) ?_))
 refine aA (OM 4<|aE (pI M) {_} T.BM uN (ac (aR BC T.aM T.de (b3 T) hr.mo T.dj .nil ay<|ac M2 ai)<|ac PF ai)) ?_
 intros
 refine bU (λx=>(nQ VC (PW.pt<|dU (aq zN PF ae<|aw _)<|cJ<|aq eF (aE aC {_} T.bL bf (ac OR ai)) O1<|aw _)
    x)) ?_
 refine aj (aN<|dC Qr ZR ZS pC OR<|ac (rW M (OO.of (M':=["one"]) (N:=["self","key","most","told","at"]) (N':=["self","key","most","told","at"]) (dsc:=al cz) M M ∅) (MB {_} T.LZ (ac (aS aU (au BC M) PF<|λ_ _=>M) ai)) (λ_ _ _ _ _=>(PW.pt<|ie (aq cX O1 a7<|aw _)<|gZ<|aq nT BC O1<|aw _))<|λ_ _ _ _ _=>BC) ai)
   (aA (DY (i:=4) P9.nd M (Or.inl M) ae M0) ?_)
 intros
 refine aA (aD<|cn c6 OR gJ<|b6 O1) ?_
 intros
 obtain⟨L,A,ls,hb,ok,ef,hF⟩:=hA;refine⟨Qj _,λl nl=>?_⟩;have s0:Fa H (upd H l<|.lst []):=ak nl;have e0:upd H l (.lst []) l=some (.lst<|([]:List Int).map V.int):=ag;have z:=hb.same s0;generalize upd H l (.lst [])=H0 at s0 e0 z⊢;obtain⟨a1,a2⟩:=z.obj;have lA:((A.map V.ref).length:Int)=(ls.length:Int):=by rw[Q0,hb.len]
 refine⟨_,M,a,_,a1,_,_,M,a2,T.aM,T.aH,dh,L,_,M,.inl<|Fb.of z.lst,_,_,M,M,?_⟩;rw[lA];refine⟨_,M,M,_,M,KS (λG H'=>∃m,WDn a l k n ls H m G H') (λG H' wW=>?main) (λc key=>?A) ⟨ls.length,s0,nl,Q4 _,M,by rwa[List.drop_length]⟩⟩
 case A=>
  cases k with
  |none=>exact Vt c (_)
  |some k=>
   obtain⟨a3,a4,a5,aa⟩:=z.insM;refine⟨_,M,a,a3,a4,M,a5,aa _ ∅,_,M,a,k,L,A,ls,M,z,ok.ne,ok.up,λi0 li=>?_⟩;refine⟨_,M,_,_,M,?_⟩;dsimp only;rw[IS];exact key _ _ ⟨min (i0+1) ls.length,s0,nl,Nat.min_le_right _ _,M,by rwa[Go ok li]⟩
 case main=>
  obtain⟨m0,w0⟩:=wW;refine⟨WDn a l k n ls H,⟨m0,w0⟩,?_⟩;rintro m B H' ⟨s1,_,ml,rfl,e1⟩;have hb1:=hb.same s1;obtain⟨ab,ah⟩:=hb1.obj;have fin:∀(done:((((ls.drop m).flatten).reverse.filter<|fj k).take n.toNat)=(ks.reverse.filter<|fj k).take n.toNat),∀p,H' p=none->Q (.ref p) (upd H' p<|.lst<|pP ((((ls.drop m).flatten).reverse.filter<|fj k).map V.int) none<|some n):=λdone p np=>by
   refine q _ p (s1.trans<|ak np) ?_ ?_
   .cases e:H p with
    |none=>rfl
    |some o=>rw[s1 _ _ e]at np;cases np
   .rw[ag,jo n0,<-Z8,done]
  refine⟨_,M,_,_,M,M,_,M,?_⟩;cases m with
  |zero=>
   refine a9 (_) ?_;refine⟨_,M,_,M,_,M,l,_,M,Fb.of e1,fin ?_⟩;rw[Z1,ef]
  |succ i=>
   have im:((i+1:Nat):Int)-1=(i:Int):=();rw[im];refine mW () ?_;refine⟨_,M,l,_,M,.inl<|Fb.of e1,_,M,_,_,M,M,_,M,?_⟩;by_cases c2:((((((ls.drop<|i+1).flatten).reverse.filter<|fj k).map V.int).length:Nat):Int)<n
   .refine mW c2 ?_;refine⟨λG H''=>∃m',m'<i+1/\WDn a l k n ls H m' G H'',λ_ _ h=>h,?_⟩;have ex:ls[i]?=some ls[i]:=Q3 ml;obtain⟨b,eb,I⟩:=hb1.at ex;have b1:=Qp (fj k) ((ls.drop<|i+1).flatten).reverse;have an:((ls.drop<|i+1).flatten).reverse.length+ls[i].length<=ks.length:=by
     rw[<-ef,sI ls (i+1),uD ex,Q8,Q8,Zb];lia
    refine⟨_,M,.inl ⟨M,_,Fb.of e1⟩,_,M,a,_,ab,_,_,M,ah,T.aM,T.aH,dh,_,M,L,_,_,_,M,M,Fb.of hb1.lst,gL eb,b,_,M,Fb.of I,λD hD=>?_⟩;generalize ls[i]=x at ex I an⊢;refine Gr (K:=K) (a:=b) (xs:=x.map V.int) (λm ys H3=>H3=upd H' D (.lst ys)/\ys=((x.reverse.take m).filter<|fj k).map V.int) ⟨M,M⟩ (λm ys H3 _ w=>Fb.of<|by rw[w.1,af (am I hD)];exact I) (λm v ys H3 Z w O=>?_)<|λys H3 w O=>?_
    .obtain⟨w1,Y⟩:=w;obtain⟨g,rfl,eg⟩:∃g:Int,v= .int g/\x.reverse[m]?=some g:=by
      rw[<-List.map_reverse,Qn]at Z;cases e:x.reverse[m]? with
      |none=>rw[e]at Z;cases Z
      |some g=>rw[e]at Z;cases Z;exact⟨g,M,M⟩
     have hn:m<(x.map V.int).length:=by
      have:=(Q2.mp Z).1;rwa [Zb]at this
     have fl:ys.length<=100000:=by
      rw[Y,Q0];have h1:=Qp (fj k) (x.reverse.take m);have h2:(x.reverse.take m).length<=x.reverse.length:=by rw[Q6];lia
      rw[Zb]at h2;lia
     have a0:fj k g=true->P7 (x.map V.int).length m ys D (λm ys H3=>H3=upd H' D (.lst ys)/\ys=((x.reverse.take m).filter<|fj k).map V.int) (.int g) H3:=λU=>by
      refine P7.mk hn O (bg fl) ⟨by rw[w1,eG],?_⟩;rw[Y,Qq,eg,QE,Qg];simp[U]
     have no:fj k g=false->PZ (x.map V.int).length m ys D (λm ys H3=>H3=upd H' D (.lst ys)/\ys=((x.reverse.take m).filter<|fj k).map V.int) H3:=λU=>by
      refine PZ.mk hn O ⟨w1,?_⟩;rw[Y,Qq,eg,QE];simp[U]
     refine⟨_,M,M,_,M,?_⟩;cases k with
     |none=>exact cH<|cH ⟨_,M,a0 M⟩
     |some k=>
      refine cu ⟨_,M,_,M,_,_,M,M,_,M,?_⟩;by_cases U:g<=k
      .exact mW U ⟨_,M,a0<|Vy U⟩
      .exact a9 U<|no (VA U)
    .obtain⟨w1,Y⟩:=w;rw[Q0,show x.length=x.reverse.length from Zb.symm,QB]at Y;have s3:Fa H' H3:=by rw[w1];exact ak hD
     have e3:=s3 _ _ e1;have ax:=Qp (fj k) x.reverse;have hsz:((((ls.drop<|i+1).flatten).reverse.filter<|fj k).map V.int).length+ys.length<=sizeLine:=by
      rw[Y,Q0,Q0];rw[Zb]at ax;exact Z4<|bg ()
     refine⟨l,D,_,_,M,M,e3,O,hsz,?_⟩;have hE:(((ls.drop<|i+1).flatten).reverse.filter<|fj k).map V.int++ys=(((ls.drop i).flatten).reverse.filter<|fj k).map V.int:=by
      rw[Y,Gm ex,QE,Qg]
     rw[hE];refine⟨_,M,_,_,M,M,i,ZA _,cm (s1.trans s3) nl,nl,Z4 ml,M,ag⟩
   .refine a9 c2 ?_;refine⟨_,M,_,M,_,M,l,_,M,Fb.of e1,fin ?_⟩;have:ks.reverse.filter (fj k)=((ls.drop<|i+1).flatten).reverse.filter (fj k)++((ls.take<|i+1).flatten).reverse.filter (fj k):=by rw[<-ef,sI ls (i+1),List.reverse_append,QE]
    rw[this,QG];rw[Q0]at c2;lia
def wf:(0:Int)<10^(39:Int).toNat:=by decide
def Cc:∀{a b:List Int},dn a->dn b->(∀z,z∈a↔z∈b)->a=b
 | [],[],_,_,_=>rfl
 | [],y::r,_,_,h=>by have:=(h y).mpr Qb;cases this
 |x::r,[],_,_,h=>by have:=(h x).mp Qb;cases this
 |x::r,y::r',ha,hb,h=>by
  obtain⟨I,U⟩:=Zd.mp ha;obtain⟨O,Y⟩:=Zd.mp hb;have G:x=y:=by
   rcases Qh.mp ((h x).mp Qb)with e|e
   .exact e
   .rcases Qh.mp ((h y).mpr Qb)with e2|e2
    .exact e2.symm
    .have h1:=O x e;have h2:=I y e2;lia
  subst G;rw[Cc U Y λz=>?_];constructor
  .intro hz;rcases Qh.mp ((h z).mp<|Qd _ hz)with e|e
   .have:=I z hz;lia
   .exact e
  .intro hz;rcases Qh.mp ((h z).mpr<|Qd _ hz)with e|e
   .have:=O z hz;lia
   .exact e
def Pn.rise (h:Pn K t H a F ks):dn ks:=by
 obtain⟨_,_,ls,_,ok,z,_⟩:=h;rw[<-z];exact ok.up
def sL (ms:List Int) (lo hi:Option Int):∃z:List Int,pP (ms.map V.int) lo hi=z.map V.int/\z.Sublist ms:=by
 refine⟨(ms.drop<|HT.sIx (ms.map V.int).length 0 lo).take<|HT.sIx (ms.map V.int).length (ms.map V.int).length hi-HT.sIx (ms.map V.int).length 0 lo,?_,?_⟩
 .unfold pP;rw[Z8,Xa]
 .exact(Xm _ _).trans<|List.drop_sublist _ _
def Ci:CU P w K mg base OL 1 t.x9 t.qV ["thing"] BZ:=by
 refine T.Ev.okl Ca λs H vs Q E z h _=>?_;intro X;obtain⟨x,rfl,hx,k⟩:=h;refine⟨_,(az<|aD<|gp (aE jB {_} T.dJ cy (ac BC<|ac (vU (v:= .ty "int") {_} T.NH IZ M) ai))<|dB<|AU<|aE jB {_} T.dJ cy (ac BC<|ac (vU (v:= .ty "bool") {_} T.L4 Fd M) ai))
  ,?_⟩
 cases x with
 |int i=>
  refine⟨_,M,_,_,_,_,M,P0.int _,Ik,true,M,cH ?_⟩;exact⟨_,M,_,_,_,_,M,P0.int _,Il,_,M,k⟩
 |bl c=>
  refine⟨_,M,_,_,_,_,M,P0.bl _,MT,true,M,cH ?_⟩;exact⟨_,M,_,_,_,_,M,P0.bl _,MU,_,M,k⟩
 |str c=>exact⟨_,M,_,_,_,_,M,P0.str _,MR,false,M,cu k⟩
 |non=>exact⟨_,M,_,_,_,_,M,P0.non,MS,false,M,cu k⟩
 |_=>exact hx.elim
def qL:CU P w K mg base OL 2 t.Ar t.uK ["thing","low"] DM:=by
 refine T.iH.okl DV λs H vs Q E z h _=>?_;intro X;obtain⟨x,lo,rfl,hx,k⟩:=h;refine⟨_,(az<|aD<|gp (aL (Ci T) z.mo {_} T.MN T.Ev.kp T.Nm .nil ay (ac BC ai))<|dB<|bF zN BC M2<|aw _)
  ,?_⟩
 cases x with
 |int i=>exact⟨_,M,_,M,hx,true,M,cH ⟨_,M,_,M,_,_,M,M,k⟩⟩
 |bl c=>exact⟨_,M,_,M,hx,false,M,cu k⟩
 |str c=>exact⟨_,M,_,M,hx,false,M,cu k⟩
 |non=>exact⟨_,M,_,M,hx,false,M,cu k⟩
 |_=>exact hx.elim
def D3:CU P w K mg base OL 1 t.Am t.uF ["bound"] DH:=by
 refine T.As.okl DP λs H vs Q E z h _=>?_;intro X;obtain⟨x,rfl,hx,k⟩:=h;refine⟨_,(az<|aD<|Hy (aq cX BC a7<|aw _) gk<|gl Bp {_} T.OG Nk (ac BC ai))
  ,?_⟩
 rcases hx with rfl|⟨i,rfl,hi⟩
 .exact⟨_,M,M,_,M,cH k⟩
 .exact⟨_,M,M,_,M,cu ⟨_,M,i,M,hi,k⟩⟩
def iY:CU P w K mg base OL 1 t.kx t.j2 ["self","kind","at","end"] (iJ K):=by
 refine T.kA.okl wG λs H vs Q E Y h _=>?_;intro X;obtain⟨p,C,dx,kd,a,e,rfl,G,cl,I,O,U,k⟩:=h;refine aj (bh BC M2 M)
   (aj (bh BC O1 M)
   (aA (bh BC OR M) ?_))
 intros
 refine⟨_,M,_,M,p,C,dx,[],M,G,cl,I,(by show 0<1000;decide),_,M,_,M,p,C,dx,_,M,ag,cl,O,(by show 1<1000;decide),_,M,_,M,p,C,dx,_,M,ag,cl,U,?_,?_⟩
 .have h1:=nO (f:="at") (v:=a) (bK "kind" (.str kd) []);have h2:=nO (f:="kind") (v:= .str kd) [];have Z:([]:List (Str×V)).length=0:=M;lia
 rw[eG,eG];refine k _ _ (λb o q z=>by rw[af z];exact q) ag ⟨?_,?_,?_,?_,?_⟩
 .rw[bq,Vo ∅,bq,Vo ∅,bq,Vp M]
 .rw[bq,Vo ∅,bq,Vp M]
 .rw[bq,Vp M]
 .rw[bq,Vo ∅,bq,Vo ∅,bq,Vo ∅];rfl
 .rw[bq,Vo ∅,bq,Vo ∅,bq,Vo ∅];rfl
def tkN (T:Txt K mg t) {kd:Int} (h:kd=0\/kd=1\/kd=2):Pq K (RY t kd)/\CV K (RY t kd) "kind"/\CV K (RY t kd) "at"/\CV K (RY t kd) "end":=by
 rcases h with rfl|rfl|rfl
 .exact⟨T.bC,T.vK,T.gK,T.b5⟩
 .exact⟨T.f7,T.D5,T.ot,T.iG⟩
 .exact⟨T.b7,T.AZ,T.gv,T.gP⟩
def KQ {kd:Int} (h:kd=0\/kd=1\/kd=2):(SK kd).length<=5:=by
 rcases h with rfl|rfl|rfl<;>decide+kernel
def vG:CU P w K mg base OL 2 t.dI t.ji ["self"] (cP t):=by
 refine T.Jn.okl vt λs H vs Q E I h _=>?_;intro X;obtain⟨p,dx,kd,fs,a,e,rfl,z,G,ho,Y,Z,q⟩:=h;refine⟨_,(az<|aD<|dC PySem.F.plainAttrs_str PySem.F.slot_str_join PySem.F.type_str_join KB gk<|ac (bZ<|ac (au BC M)<|ac (aL (D3 T) I.mo {_} T.FX T.As.kp T.Gu .nil ay (ac (au BC M) ai))<|ac (aL (D3 T) I.mo {_} T.FX T.As.kp T.Gu .nil ay (ac (au BC M) ai)) ai) ai)
  ,?_⟩
 obtain⟨cl,n0,n1,n2⟩:=tkN T ho.kd;obtain⟨O,U⟩:=Ph.few ho Y Z;have kl:=KQ ho.kd;refine⟨M,_,M,p,_,dx,fs,_,M,z,cl,n0,G.ki,_,M,p,_,dx,fs,_,M,z,cl,n1,G.at_,a,M,O.1,_,M,p,_,dx,fs,_,M,z,cl,n2,G.end_,e,M,U.1,(by show 3<=sizeLine;decide),λl nl=>?_⟩;refine⟨" ",l,[SK kd,wr a,wr e],M,M,Fb.of ag,∅,?_,q _<|ak nl⟩;have:=O.2;have:=U.2;simp only[Qt,XV,Xo,List.sum_nil,Qo,Xg];lia
def pE {x:V} (h:isF lo x=true):∃i,x= .int i/\lo<=i:=by
 cases x with
 |int i=>exact⟨i,M,Vw h⟩
 |_=>cases h
def kE:CU P w K mg base OL 3 t.mO t.cT ["self","at","end"] (tP t):=by
 obtain⟨G,z⟩:=T.g_PLACES;have a0:=PN.nd;refine T.GT.ok PN (λvs H Q E h=>?_)<|λa1 A outer s H vs Q E U h=>?_
 .obtain⟨p,dx,a,e,rfl,_⟩:=h;rfl
 .obtain⟨p,dx,a,e,rfl,hp,sa,se,k1,k2⟩:=h;refine aj (aQ (lJ<|PW.pt<|dU (cx<|aL (qL T) U.mo {_} T.kG T.iH.kp T.kJ .nil ay (ac M2<|ac ae ai))<|dU (cx<|aL (qL T) U.mo {_} T.kG T.iH.kp T.kJ .nil ay (ac O1<|ac M2 ai))<|cJ<|aq nT O1 (c8 (v:= .int 65536) {_} z ⟨_,M⟩)<|aw _)
   (az eJ)
   aI)
     (aA (aN<|AV {_} T.Ct T.pZ T.kA.kp (iY T) U.mo T.qf .nil ay (ac BC<|ac gk<|ac M2<|ac O1 ai)) ?_)
  intros
  refine⟨_,M,a,0,M,sa,_,M,bQ (λc=>?_)<|λc=>?_⟩
  .obtain⟨i,rfl,i0⟩:=pE c;refine⟨_,M,_,M,e,i,M,se,_,M,bQ (λc=>?_)<|λc=>?_⟩
   .obtain⟨j,rfl,ij⟩:=pE c;refine⟨_,M,_,_,M,M,_,M,?_⟩;by_cases I:j<=65536
    .rw[Vy I];exact cu ⟨_,M,_,M,_,M,p,_,dx,_,.int i,.int j,M,hp,T.bC,T.vK,T.gK,T.b5,λH' fs k h f=>k1 ⟨i,j,M,M,i0,ij,I⟩ H' fs k h f⟩
    .rw[VA I];exact cH<|(k2 λ⟨Y,Z,O,e2,_,_,h⟩=>by cases e2;exact I h)
   .exact cH<|(k2 λ⟨Y,Z,O,e2,_,h,_⟩=>c<|by cases O;rw[e2];exact Vy h)
  .exact cH<|(k2 λ⟨Y,Z,O,_,h,_⟩=>c<|by rw[O];exact Vy h)
def uV:CU P w K mg base OL 3 t.yb t.jh ["self","at","end"] (B6 t):=by
 have U:=Pp.nd;refine T.Nz.ok Pp (λvs H Q E h=>?_)<|λY A outer s H vs Q E G h=>?_
 .obtain⟨p,dx,a,e,rfl,_⟩:=h;rfl
 .obtain⟨p,dx,a,e,rfl,Z,sa,se,k1,k2⟩:=h;refine aj (aQ (lJ<|PW.pt<|dU (cx<|aL (qL T) G.mo {_} T.kG T.iH.kp T.kJ .nil ay (ac M2<|ac ae ai))<|cJ<|PW.pt<|ie (aq cX O1 a7<|aw _)<|gZ<|cx<|aL (qL T) G.mo {_} T.kG T.iH.kp T.kJ .nil ay (ac O1<|ac M2 ai))
   (az eJ)
   aI)
     (aA (aN<|AV {_} T.Ct T.pZ T.kA.kp (iY T) G.mo T.qf .nil ay (ac BC<|ac gk<|ac M2<|ac O1 ai)) ?_)
  intros
  refine⟨_,M,a,0,M,sa,_,M,bQ (λc=>?_)<|λc=>?_⟩
  .obtain⟨i,rfl,i0⟩:=pE c;have fin:R6 (.int i) e->iJ K [.ref p,.str "up",.int i,e] H (λ_ H'=>Q .non H') E0:=λok=>⟨p,_,dx,"up",.int i,e,M,Z,T.f7,T.D5,T.ot,T.iG,λH' fs k h f=>k1 ok H' fs k h f⟩;by_cases z:e= .non
   .exact⟨_,M,M,_,M,fK z<|cu ⟨_,M,_,M,_,M,fin ⟨i,M,i0,.inl z⟩⟩⟩
   .refine⟨_,M,M,_,M,a9 z ⟨_,M,_,M,e,i,M,se,_,M,?_⟩⟩;cases I:isF i e with
    |true=>
     obtain⟨j,rfl,ij⟩:=pE I;exact cu ⟨_,M,_,M,_,M,fin ⟨i,M,i0,.inr ⟨j,M,ij⟩⟩⟩
    |false=>
     refine cH<|(k2 λ⟨i',O,_,e2⟩=>?_);cases O;rcases e2 with e2|⟨j',e2,h⟩
     .exact z e2
     .rw[e2]at I;exact VM I h
  .exact cH<|(k2 λ⟨i',O,h,_⟩=>c<|by rw[O];exact Vy h)
def pY:CU P w K mg base OL 3 t.tx t.fW ["self","at","end"] (yG t):=by
 have Y:=Pe.nd;refine T.Ln.ok Pe (λvs H Q E h=>?_)<|λZ A outer s H vs Q E G h=>?_
 .obtain⟨p,dx,a,e,rfl,_⟩:=h;rfl
 .obtain⟨p,dx,a,e,rfl,hp,sa,se,k1,k2⟩:=h;refine aj (aQ (lJ<|PW.pt<|dU (cx<|aL (qL T) G.mo {_} T.kG T.iH.kp T.kJ .nil ay (ac O1<|ac ae ai))<|cJ<|PW.pt<|ie (aq cX M2 a7<|aw _)<|gZ<|cx<|aL (qL T) G.mo {_} T.kG T.iH.kp T.kJ .nil ay (ac M2<|ac O1 ai))
   (az eJ)
   aI)
     (aA (aN<|AV {_} T.Ct T.pZ T.kA.kp (iY T) G.mo T.qf .nil ay (ac BC<|ac gk<|ac M2<|ac O1 ai)) ?_)
  intros
  refine⟨_,M,e,0,M,se,_,M,bQ (λc=>?_)<|λc=>?_⟩
  .obtain⟨j,rfl,U⟩:=pE c;have fin:R8 a (.int j)->iJ K [.ref p,.str "down",a,.int j] H (λ_ H'=>Q .non H') E0:=λok=>⟨p,_,dx,"down",a,.int j,M,hp,T.b7,T.AZ,T.gv,T.gP,λH' fs k h f=>k1 ok H' fs k h f⟩;by_cases z:a= .non
   .exact⟨_,M,M,_,M,fK z<|cu ⟨_,M,_,M,_,M,fin ⟨j,M,U,.inl z⟩⟩⟩
   .refine⟨_,M,M,_,M,a9 z ⟨_,M,_,M,a,j,M,sa,_,M,?_⟩⟩;cases I:isF j a with
    |true=>
     obtain⟨i,rfl,ij⟩:=pE I;exact cu ⟨_,M,_,M,_,M,fin ⟨j,M,U,.inr ⟨i,M,ij⟩⟩⟩
    |false=>
     refine cH<|(k2 λ⟨j',O,_,e2⟩=>?_);cases O;rcases e2 with e2|⟨i',e2,h⟩
     .exact z e2
     .rw[e2]at I;exact VM I h
  .exact cH<|(k2 λ⟨j',O,h,_⟩=>c<|by rw[O];exact Vy h)
def fG:CU P w K mg base OL 3 t.kP t.gF ["self","key"] (ft t):=by
 refine T.GG.okl rN λs H vs Q E I h _=>?_;intro X;obtain⟨p,dx,fs,a,e,k,rfl,z,G,⟨i,j,rfl,rfl,i0,O,U⟩,Y,q⟩:=h;refine⟨_,(az<|aD<|HA nT eF (au BC M) (aL (uU T) I.mo {_} T.Ec T.yh.kp T.Ep .nil ay (ac M2 ai))<|au BC M)
  ,?_⟩
 have q:Q (.bl<|decide (i<=tz (k%65536))&&decide (tz (k%65536)<j)) H:=q H (Fa.refl H);refine⟨_,M,p,_,dx,fs,_,M,z,T.bC,T.gK,G.at_,_,M,k,M,_,_,M,M,_,M,bQ (λc=>?_)<|λc=>?_⟩
 .refine⟨_,M,p,_,dx,fs,_,M,z,T.bC,T.b5,G.end_,_,_,M,M,?_⟩;rw[c,ZT]at q;exact q
 .rw[QV.mpr c,ZI]at q;exact q
def iz:CU P w K mg base OL 1 t.u9 t.oG ["self","key"] (dL t):=by
 refine T.LY.okl AN λs H vs Q E O h _=>?_;intro X;obtain⟨p,dx,fs,a,e,k,rfl,G,I,⟨i,rfl,i0,he⟩,U,q⟩:=h;refine⟨_,(az<|aD<|gp (bF nT (au BC M) M2<|aw _)<|dB<|Cf (bF cX (au BC M) a7<|aw _)<|dB<|bF eF M2 (au BC M)<|aw _)
  ,?_⟩
 have q:=q H (Fa.refl H);rcases he with rfl|⟨j,rfl,Y⟩
 .have q:Q (.bl<|decide (i<=k)) H:=q;refine⟨_,M,p,_,dx,fs,_,M,G,T.f7,T.ot,I.at_,_,M,_,_,M,M,_,M,bQ (λc=>⟨_,M,p,_,dx,fs,_,M,G,T.f7,T.iG,I.end_,M,_,M,fK M ?_⟩)<|λc=>?_⟩
  .rw[c]at q;exact q
  .rw[QV.mpr c]at q;exact q
 .have q:Q (.bl<|decide (i<=k)&&decide (k<j)) H:=q;refine⟨_,M,p,_,dx,fs,_,M,G,T.f7,T.ot,I.at_,_,M,_,_,M,M,_,M,bQ (λc=>⟨_,M,p,_,dx,fs,_,M,G,T.f7,T.iG,I.end_,M,_,M,a9 (λz=>by cases z) ⟨_,M,_,M,p,_,dx,fs,_,M,G,T.f7,T.iG,I.end_,_,_,M,M,?_⟩⟩)<|λc=>?_⟩
  .rw[c,ZT]at q;exact q
  .rw[QV.mpr c,ZI]at q;exact q
def fF:CU P w K mg base OL 1 t.qv t.kt ["self","key"] (cE t):=by
 refine T.JY.okl wU λs H vs Q E O h _=>?_;intro X;obtain⟨p,dx,fs,a,e,k,rfl,G,I,⟨j,rfl,U,ha⟩,Y,q⟩:=h;refine⟨_,(az<|aD<|gp (bF nT (au BC M) M2<|aw _)<|dB<|Cf (bF cX (au BC M) a7<|aw _)<|dB<|bF nT M2 (au BC M)<|aw _)
  ,?_⟩
 have q:=q H (Fa.refl H);rcases ha with rfl|⟨i,rfl,Z⟩
 .have q:Q (.bl<|decide (j<=k)) H:=q;refine⟨_,M,p,_,dx,fs,_,M,G,T.b7,T.gP,I.end_,_,M,_,_,M,M,_,M,bQ (λc=>⟨_,M,p,_,dx,fs,_,M,G,T.b7,T.gv,I.at_,M,_,M,fK M ?_⟩)<|λc=>?_⟩
  .rw[c]at q;exact q
  .rw[QV.mpr c]at q;exact q
 .have q:Q (.bl<|decide (j<=k)&&decide (k<=i)) H:=q;refine⟨_,M,p,_,dx,fs,_,M,G,T.b7,T.gP,I.end_,_,M,_,_,M,M,_,M,bQ (λc=>⟨_,M,p,_,dx,fs,_,M,G,T.b7,T.gv,I.at_,M,_,M,a9 (λz=>by cases z) ⟨_,M,_,M,p,_,dx,fs,_,M,G,T.b7,T.gv,I.at_,_,_,M,M,?_⟩⟩)<|λc=>?_⟩
  .rw[c,ZT]at q;exact q
  .rw[QV.mpr c,ZI]at q;exact q
structure Rj where
 p:Addr
 mo:Int
 v:V
structure Rc (t:OJ) (H:Hp) (m l:Addr) (es:List Rj):Prop where
 ob:∃dx,H m=some (.ins t.gN dx [("made",.ref l)])
 li:H l=some (.lst<|es.map λe=>V.ref e.p)
 tu:∀e∈es,H e.p=some (.tup [.int e.mo,e.v])
def Rc.keep {m l:Addr} {es:List Rj} (h:Rc t H m l es) (z:H' m=H m) (e2:H' l=H l) (G:∀b xs,H b=some (.tup xs)->H' b=some (.tup xs)):Rc t H' m l es:=⟨h.ob.imp λ_ e=>z.trans e,e2.trans h.li,λe he=>G _ _<|h.tu e he⟩
def wv (t:OJ):Sp:=λvs H Q _=>∃(a dx:Addr),vs=[.ref a]/\H a=some (.ins t.gN dx [])/\∀(H':Hp) (l:Addr),Rc t H' a l []->H l=none->(∀b o,b≠a->H b=some o->H' b=some o)->Q .non H'
def xk:CU P w K mg base OL 1 t.qm t.j9 ["self"] (wv t):=by
 refine T.JR.okl wN λs H vs Q E I h _=>?_;intro X;obtain⟨a,dx,rfl,ha,q⟩:=h;refine⟨_,(az<|bh BC (bZ ai) M)
  ,?_⟩
 refine⟨Qj _,λl z=>⟨_,M,a,_,dx,[],M,(by rwa[af (am ha z)]),T.CS,T.zf,(by show 0<1000;decide),?_⟩⟩;have G:a≠l:=am ha z;exact q _ l ⟨⟨dx,ag⟩,by rw[af G.symm];exact ag,λe he=>by cases he⟩ z λb o n e=>by rwa[af n,af (am e z)]
def wu (t:OJ):Sp:=λvs H Q _=>∃(m l:Addr) (es:List Rj) (mo:Int) (v:V),vs=[.ref m,.int mo,v]/\Rc t H m l es/\es.length<100000/\
 ∀(H':Hp) (p:Addr),Rc t H' m l (es++ [⟨p,mo,v⟩])->H p=none->(∀b o,b≠l->H b=some o->H' b=some o)->Q .non H'
def xj:CU P w K mg base OL 1 t.ql t.j8 ["self","moment","value"] (wu t):=by
 refine T.JQ.okl wM λs H vs Q E O h _=>?_;intro X;obtain⟨m,l,es,mo,v,rfl,M',le,q⟩:=h;refine⟨_,(az<|aN<|dC Qr Z2 Z3 eZ (au BC M)<|ac (bO<|ac M2<|ac O1 ai) ai)
  ,?_⟩
 obtain⟨dx,ho⟩:=M'.ob;refine⟨_,M,m,_,dx,_,_,M,ho,T.CS,T.zf,M,.inl ⟨M,_,Fb.of M'.li⟩,_,M,_,M,(by show 2<=sizeLine;decide),λp G=>?_⟩;have s1:=ak (o:= .tup [.int mo,v]) G;have pl:p≠l:=λz=>by rw[z,M'.li]at G;cases G
 have I:m≠l:=λz=>by have:=M'.li;rw[<-z,ho]at this;cases this
 refine⟨l,_,_,M,M,s1 _ _ M'.li,bg (by rw[Q0];lia),?_⟩;refine q _ p ⟨⟨dx,by rw[af I];exact s1 _ _ ho⟩,by rw[ag,Qg];rfl,λe he=>?_⟩ G λb o n e=>by rw[af n];exact s1 _ _ e
 rcases Q5.mp he with he|he
 .have te:=s1 _ _ (M'.tu e he);rwa[af (λz=>by rw[z,s1 _ _ M'.li]at te;cases te)]
 .rw[Q7.mp he];rw[af pl];exact ag
def PK.notup (h:PK K t H a F st) (e:H b=some (.tup xs)):¬F b:=λhb=>by
 obtain⟨d,h1,h2,_⟩:=h;obtain⟨dx,ho⟩:=h1.obj;have no:∀o,H b=some o->(∀ys,o≠ .tup ys)->False:=λo q n=>by rw[e]at q;exact n _ (Vq q).symm
 rcases(h2 b).mp hb with rfl|rfl|rfl|hb|⟨hs,rfl⟩|hb
 .exact no _ ho<|λ_ z=>by cases z
 .exact no _ h1.tbl<|λ_ z=>by cases z
 .exact no _ h1.row0.lst<|λ_ z=>by cases z
 .obtain⟨_,_,_,_,q⟩:=h1.row0.has hb;exact no _ q<|λ_ z=>by cases z
 .have r1:=h1.row1;cases G:st.nxt with
  |none=>rw[G]at hs;cases hs
  |some m=>rw[G]at r1;exact no _ r1.lst<|λ_ z=>by cases z
 .have r1:=h1.row1;cases G:st.nxt with
  |none=>rw[G]at r1;rw[r1.1]at hb;cases hb
  |some m=>
   rw[G]at r1;obtain⟨_,_,_,_,q⟩:=r1.has hb;exact no _ q<|λ_ z=>by cases z
def Pn.notup (h:Pn K t H a F ks) (e:H b=some (.tup xs)):¬F b:=λhb=>by
 obtain⟨L,A,ls,h1,_,_,h2⟩:=h;obtain⟨dx,ho⟩:=h1.obj;have no:∀o,H b=some o->(∀ys,o≠ .tup ys)->False:=λo q n=>by rw[e]at q;exact n _ (Vq q).symm
 rcases(h2 b).mp hb with rfl|rfl|hb
 .exact no _ ho<|λ_ z=>by cases z
 .exact no _ h1.lst<|λ_ z=>by cases z
 .obtain⟨_,_,_,_,q⟩:=h1.has hb;exact no _ q<|λ_ z=>by cases z
structure Pk where
 k:Int
 m:Addr
 l:Addr
 es:List Rj
structure OZ where
 now:Int
 fl:Int
 ma:Int
 st:O8
 ks:List Int
 di:List (Addr×List V)
 pa:List Pk
 ho:List (Int×V)
noncomputable def fH:List Pk->Int->List Rj
 | [],_=> []
 |e::r,k=>if e.k=k then e.es else fH r k
noncomputable def RA (pa:List Pk):List (Int×V):=pa.map λe=>(e.k,V.ref e.m)
def Pg (now fl:Int) (s l w:Addr) (mk:Int) (p h:Addr):List (Str×V):=[("now",.int now),("floor",.int fl),("slots",.ref s),("leaves",.ref l),("written",.ref w),("marks",.int mk),("past",.ref p),("holders",.ref h)]
def NoH (m:Str):Prop:=m≠("now":Str)/\m≠("floor":Str)/\m≠("slots":Str)/\m≠("leaves":Str)/\m≠("written":Str)/\m≠("marks":Str)/\m≠("past":Str)/\m≠("holders":Str)
instance {m:Str}:Decidable (NoH m):=by unfold NoH;infer_instance
section
variable {now now' fl mk mk':Int} {s l w h:Addr} {m:Str}
def vX:(Pg now fl s l w mk p h).lookup ("now":Str)=some (.int now):=fJ
def Nc:(Pg now fl s l w mk p h).lookup ("floor":Str)=some (.int fl):=by unfold Pg;rw[bz ∅,fJ]
def xK:(Pg now fl s l w mk p h).lookup ("slots":Str)=some (.ref s):=by unfold Pg;rw[bz ∅,bz ∅,fJ]
def Ej:(Pg now fl s l w mk p h).lookup ("leaves":Str)=some (.ref l):=by unfold Pg;rw[bz ∅,bz ∅,bz ∅,fJ]
def Eh:(Pg now fl s l w mk p h).lookup ("written":Str)=some (.ref w):=by unfold Pg;rw[bz ∅,bz ∅,bz ∅,bz ∅,fJ]
def Ei:(Pg now fl s l w mk p h).lookup ("marks":Str)=some (.int mk):=by unfold Pg;rw[bz ∅,bz ∅,bz ∅,bz ∅,bz ∅,fJ]
def Na:(Pg now fl s l w mk p h).lookup ("past":Str)=some (.ref p):=by unfold Pg;rw[bz ∅,bz ∅,bz ∅,bz ∅,bz ∅,bz ∅,fJ]
def Nb:(Pg now fl s l w mk p h).lookup ("holders":Str)=some (.ref h):=by unfold Pg;rw[bz ∅,bz ∅,bz ∅,bz ∅,bz ∅,bz ∅,bz ∅,fJ]
def Ir (n:NoH m):(Pg now fl s l w mk p h).lookup m=none:=by
 obtain⟨h1,h2,z,G,I,O,U,Y⟩:=n;unfold Pg;rw[bz h1,bz h2,bz z,bz G,bz I,bz O,bz U,bz Y];rfl
def Kp:bK ("now":Str) (.int now') (Pg now fl s l w mk p h)=Pg now' fl s l w mk p h:=by unfold Pg;rw[bK,Vp M]
def Mz:bK ("marks":Str) (.int mk') (Pg now fl s l w mk p h)=Pg now fl s l w mk' p h:=by
 unfold Pg;rw[bK,Vo ∅,bK,Vo ∅,bK,Vo ∅,bK,Vo ∅,bK,Vo ∅,bK,Vp M]
def EZ:(Pg now fl s l w mk p h).length<1000:=by show 8<1000;decide
end
def Ow (a w p h:Addr) (pa:List Pk):Addr->Prop:=λb=>b=a\/b=w\/b=p\/b=h\/∃e∈pa,b=e.m\/b=e.l
structure Po (t:OJ) (H:Hp) (a s l w p h:Addr) (x:OZ):Prop where
 ob:∃dx,H a=some (.ins t.bc dx<|Pg x.now x.fl s l w x.ma p h)
 wr:H w=some (.lst<|x.di.map λe=>V.ref e.1)
 dr:∀e∈x.di,H e.1=some (.tup e.2)
 pa:H p=some (.dK<|aB<|RA x.pa)
 ho:H h=some (.dK<|aB x.ho)
 mx:∀e∈x.pa,Rc t H e.m e.l e.es
 ph:p≠h
 wl:∀e∈x.pa,e.l≠w
 kd:(x.pa.map (·.k)).Nodup
 md:(x.pa.map (·.m)).Nodup
 ld:(x.pa.map (·.l)).Nodup
def dM {t u:TS} {D:tG} (M':St->Hp->Prop) (h1:∀nx,(∀z H',M' z H'->nx z H')->t {D with nx:=nx} B H) (h2:∀z H',M' z H'->u D z H'):Az t u D B H:=h1 (u D) h2
def uC {kvs:List (Int×V)}:kH (aB kvs)=(kvs.map (·.1)).map V.int:=by
 unfold kH aB;rw[Qs,Qs];rfl
def bI {g:Str} {x:V} {r:List (Str×V)} (n:g≠f):bK f v ((g,x)::r)=(g,x)::bK f v r:=by rw[bK,Vo n]
def eP {H2:Hp} (s:Fa H H2) (n:H2 p=none):H p=none:=by
 cases e:H p with
 |none=>rfl
 |some o=>rw[s _ _ e]at n;cases n
def HH {f:α->β} {l:List α} (n:(l.map f).Nodup) {x y:α} (hx:x∈l) (hy:y∈l) (e:f x=f y):x=y:=by
 induction l with
 |nil=>cases hx
 |cons z r I=>
  obtain⟨G,O⟩:=QQ.mp n;rcases Qh.mp hx with rfl|hx'<;>rcases Qh.mp hy with rfl|hy'
  .rfl
  .exact Vt (Q9.mpr ⟨y,hy',e.symm⟩) G
  .exact Vt (Q9.mpr ⟨x,hx',e⟩) G
  .exact I O hx' hy'
section
variable {s l w h:Addr} {x:OZ} {pa:List Pk} {y:Rj}
def Po.dom (A:Po t H a s l w p h x) (hb:Ow a w p h x.pa b):∃o,H b=some o/\∀ys,o≠ .tup ys:=by
 obtain⟨dx,ho⟩:=A.ob;rcases hb with rfl|rfl|rfl|rfl|⟨e,he,rfl|rfl⟩
 .exact⟨_,ho,λ_ z=>by cases z⟩
 .exact⟨_,A.wr,λ_ z=>by cases z⟩
 .exact⟨_,A.pa,λ_ z=>by cases z⟩
 .exact⟨_,A.ho,λ_ z=>by cases z⟩
 .obtain⟨I,G⟩:=(A.mx e he).ob;exact⟨_,G,λ_ z=>by cases z⟩
 .exact⟨_,(A.mx e he).li,λ_ z=>by cases z⟩
def Po.keep (A:Po t H a s l w p h x) (g:∀b,Ow a w p h x.pa b->H' b=H b) (z:∀b xs,H b=some (.tup xs)->H' b=some (.tup xs)):Po t H' a s l w p h x:=
 ⟨A.ob.imp λ_ e=>(g a<|.inl M).trans e,(g w<|.inr<|.inl M).trans A.wr,λe he=>z _ _<|A.dr e he,(g p<|.inr<|.inr<|.inl M).trans A.pa,(g h<|.inr<|.inr<|.inr<|.inl M).trans A.ho,
  λe he=>(A.mx e he).keep (g _<|.inr<|.inr<|.inr<|.inr ⟨e,he,.inl M⟩) (g _<|.inr<|.inr<|.inr<|.inr ⟨e,he,.inr M⟩) z,A.ph,A.wl,A.kd,A.md,A.ld⟩
def Po.same (A:Po t H a s l w p h x) (m:Fa H H'):Po t H' a s l w p h x:=A.keep (λb hb=>by
 obtain⟨o,e,_⟩:=A.dom hb;rw[e];exact m _ _ e) λb xs e=>m _ _ e
def Po.set (A:Po t H a s l w p h x) {now mk:Int} {fl:Int}:Po t (upd H a<|.ins t.bc dx<|Pg now fl s l w mk p h) a s l w p h {x with now:=now,fl:=fl,ma:=mk}:=by
 obtain⟨O,ho⟩:=A.ob;have n:∀{b:Addr} {o:HO},H b=some o->(∀c d fs,o= .ins c d fs->fs.length=1)->b≠a:=λe i z=>by
  rw[z,ho]at e;have:=i _ _ _ (Vq e).symm;cases this
 have G:∀{b:Addr} {o:HO},H b=some o->(∀c d fs,o≠ .ins c d fs)->b≠a:=λe i=>n e λc d fs z=>Vt z (i c d fs);refine⟨⟨dx,ag⟩,by rw[af (G A.wr λ_ _ _ z=>by cases z)];exact A.wr,λe he=>by rw[af (G (A.dr e he) λ_ _ _ z=>by cases z)];exact A.dr e he,by rw[af (G A.pa λ_ _ _ z=>by cases z)];exact A.pa,
  by rw[af (G A.ho λ_ _ _ z=>by cases z)];exact A.ho,λe he=>?_,A.ph,A.wl,A.kd,A.md,A.ld⟩
 have M':=A.mx e he;obtain⟨U,I⟩:=M'.ob;exact M'.keep (af<|n I λ_ _ _ z=>by cases z;rfl) (af<|G M'.li λ_ _ _ z=>by cases z) λb xs e=>by rwa[af (G e λ_ _ _ z=>by cases z)]
def Po.row (A:Po t H a s l w p h x) (I:H r=some (.tup xs)):Po t (upd H w<|.lst<|x.di.map (λe=>V.ref e.1)++ [.ref r]) a s l w p h {x with di:=x.di++ [(r,xs)]}:=by
 obtain⟨O,ho⟩:=A.ob;have G:∀{b:Addr} {o:HO},H b=some o->(∀ys,o≠ .lst ys)->b≠w:=λe i z=>by
  rw[z,A.wr]at e;exact i _ (Vq e).symm
 refine⟨⟨O,by rwa[af (G ho λ_ z=>by cases z)]⟩,by rw[ag,Qg];rfl,λe he=>?_,by rw[af (G A.pa λ_ z=>by cases z)];exact A.pa,by rw[af (G A.ho λ_ z=>by cases z)];exact A.ho,λe he=>?_,A.ph,A.wl,A.kd,A.md,A.ld⟩
 .rcases Q5.mp he with he|he
  .rw[af (G (A.dr e he) λ_ z=>by cases z)];exact A.dr e he
  .rw[Q7.mp he,af (G I λ_ z=>by cases z)];exact I
 .have M':=A.mx e he;obtain⟨Y,U⟩:=M'.ob;exact M'.keep (af<|G U λ_ z=>by cases z) (af<|A.wl e he) λb xs e=>by rwa[af (G e λ_ z=>by cases z)]
noncomputable def RJ (pa:List Pk) (k:Int) (y:Rj):List Pk:=pa.map λe=>if e.k=k then{e with es:=e.es++ [y]}else e
def zK {f:Pk->β} (hf:∀e es,f {e with es:=es}=f e):(RJ pa k y).map f=pa.map f:=by
 unfold RJ;rw[Qs];refine Z9 λe _=>?_;show f (if e.k=k then _ else e)=_;split
 .exact hf _ _
 .rfl
def AW {e:Pk} (h:e∈RJ pa k y):∃g∈pa,e.k=g.k/\e.m=g.m/\e.l=g.l/\((g.k=k/\e.es=g.es++ [y])\/(g.k≠k/\e.es=g.es)):=by
 obtain⟨g,z,rfl⟩:=Q9.mp h;refine⟨g,z,?_⟩;split
 .rename_i c;exact⟨M,M,M,.inl ⟨c,M⟩⟩
 .rename_i c;exact⟨M,M,M,.inr ⟨c,M⟩⟩
def MD (hb:Ow a w p h (RJ pa k y) b):Ow a w p h pa b:=by
 rcases hb with z|z|z|z|⟨e,he,z⟩
 .exact .inl z
 .exact .inr<|.inl z
 .exact .inr<|.inr (.inl z)
 .exact .inr<|.inr (.inr<|.inl z)
 .obtain⟨g,G,_,e2,I,_⟩:=AW he;rw[e2,I]at z;exact .inr<|.inr (.inr<|.inr ⟨g,G,z⟩)
def Po.noted (A:Po t H a s l w p h x) {e:Pk} (he:e∈x.pa) (ek:e.k=k) (M':Rc t H' e.m e.l (e.es++ [y])) (Y:∀b o,b≠e.l->H b=some o->H' b=some o):Po t H' a s l w p h {x with pa:=RJ x.pa k y}:=by
 obtain⟨dy,ho⟩:=A.ob;have hl:=(A.mx e he).li;have G:∀{b:Addr} {o:HO},H b=some o->(∀ys,o≠ .lst ys)->H' b=some o:=λe i=>Y _ _ (λz=>by
  rw[z,hl]at e;exact i _ (Vq e).symm) e
 refine⟨⟨dy,G ho<|λ_ z=>by cases z⟩,Y _ _ (A.wl e he).symm A.wr,λe he=>G (A.dr e he) (λ_ z=>by cases z),?_,G A.ho (λ_ z=>by cases z),λf hf=>?_,A.ph,λf hf=>?_,?_,?_,?_⟩
 .show H' p=some (.dK<|aB<|RA<|RJ x.pa k y);unfold RA;rw[zK λ_ _=>rfl];exact G A.pa λ_ z=>by cases z
 .obtain⟨g,I,e1,e2,O,⟨c,Z⟩|⟨c,Z⟩⟩:=AW hf
  .have:g=e:=HH A.kd I he (c.trans ek.symm);subst this;rw[e2,O,Z];exact M'
  .have U:=A.mx g I;obtain⟨dm,hm⟩:=U.ob;rw[e2,O,Z];exact U.keep ((G hm λ_ z=>by cases z).trans hm.symm) ((Y _ _ (λz=>c<|by rwa[HH A.ld I he z]) U.li).trans U.li.symm) λb xs e=>G e λ_ z=>by cases z
 .obtain⟨g,I,_,_,O,_⟩:=AW hf;rw[O];exact A.wl g I
 .show((RJ x.pa k y).map (·.k)).Nodup;rw[zK λ_ _=>rfl];exact A.kd
 .show((RJ x.pa k y).map (·.m)).Nodup;rw[zK λ_ _=>rfl];exact A.md
 .show((RJ x.pa k y).map (·.l)).Nodup;rw[zK λ_ _=>rfl];exact A.ld
def EK (pa:List Pk) (k:Int):(aG (RA pa) k=none/\k∉pa.map (·.k))\/∃e∈pa,e.k=k/\aG (RA pa) k=some (.ref e.m)/\fH pa k=e.es:=by
 induction pa with
 |nil=>exact .inl ⟨kB,λz=>by cases z⟩
 |cons e r O=>
  show(aG ((e.k,V.ref e.m)::RA r) k=none/\_)\/∃g∈e::r,g.k=k/\aG ((e.k,V.ref e.m)::RA r) k=_/\(if e.k=k then e.es else fH r k)=_;by_cases c:e.k=k
  .exact .inr ⟨e,Qb,c,br c,Vp c⟩
  .rw[bn c,Vo c];rcases O with⟨G,I⟩|⟨g,U,G,I,Y⟩
   .refine .inl ⟨G,λz=>?_⟩;rw[Qt]at z;rcases Qh.mp z with z|z
    .exact c z.symm
    .exact I z
   .exact .inr ⟨g,Qd _ U,G,I,Y⟩
def zS:∀{pa:List Pk},k∉pa.map (·.k)->fH pa k=[]
 | [],_=>rfl
 |e::r,n=>by
  rw[Qt]at n;show(if e.k=k then e.es else fH r k)=[];rw[Vo λz=>n (by rw[z];exact Qb)];exact zS λz=>n (Qd _ z)
def sj {j:Int}:∀{pa:List Pk},k∈pa.map (·.k)->fH (RJ pa k y) j=if j=k then fH pa k++ [y]else fH pa j
 |e::r,n=>by
  show(if(if e.k=k then{e with es:=e.es++ [y]}else e:Pk).k=j then(if e.k=k then{e with es:=e.es++ [y]}else e:Pk).es else fH (RJ r k y) j)=if j=k then(if e.k=k then e.es else fH r k)++ [y]else(if e.k=j then e.es else fH r j)
  by_cases c:e.k=k
  .rw[Vp c,Vp c];show(if e.k=j then e.es++ [y]else fH (RJ r k y) j)=_;by_cases d:j=k
   .rw[Vp d,Vp (c.trans d.symm)]
   .rw[Vo d,Vo λz=>d (z.symm.trans c),Vo λz=>d (z.symm.trans c)];by_cases m:k∈r.map (·.k)
    .rw[sj m,Vo d]
    .have:RJ r k y=r:=by
      unfold RJ
      conv=>rhs;rw[<-List.map_id r]
      refine Z9 λg G=>Vo λz=>m ?_;rw[<-z];exact Q9.mpr ⟨g,G,M⟩
     rw[this]
  .rw[Vo c,Vo c];have m:k∈r.map (·.k):=by
    rw[Qt]at n;rcases Qh.mp n with z|z
    .exact Vt z.symm c
    .exact z
   rw[sj m];by_cases d:j=k
   .rw[Vp d,Vp d,Vo λz=>c (z.trans d)]
   .rw[Vo d,Vo d]
def xy {e:Pk} {j:Int}:∀{pa:List Pk},e.k∉pa.map (·.k)->fH (pa++ [e]) j=if j=e.k then e.es else fH pa j
 | [],_=>by
  show(if e.k=j then e.es else[])=if j=e.k then e.es else[]
  by_cases c:e.k=j
  .rw[Vp c,Vp c.symm]
  .rw[Vo c,Vo (Ne.symm c)]
 |g::r,n=>by
  rw[Qt]at n;show(if g.k=j then g.es else fH (r++ [e]) j)=if j=e.k then e.es else(if g.k=j then g.es else fH r j)
  rw[xy λz=>n (Qd _ z)];by_cases c:g.k=j
  .rw[Vp c,Vp c,Vo λz=>n (by rw[<-z,<-c];exact Qb)]
  .rw[Vo c,Vo c]
def Po.newk (A:Po t H a s l w p h x) {m g:Addr} (nk:k∉x.pa.map (·.k)) (M':Rc t H m g []) (n1:¬Ow a w p h x.pa m) (U:¬Ow a w p h x.pa g):Po t (upd H p<|.dK<|aB<|RA x.pa++ [(k,.ref m)]) a s l w p h {x with pa:=x.pa++ [⟨k,m,g,[]⟩]}:=by
 obtain⟨dy,ho⟩:=A.ob;have G:∀{b:Addr} {o:HO},H b=some o->(∀ys,o≠ .dK ys)->b≠p:=λe i z=>by
  rw[z,A.pa]at e;exact i _ (Vq e).symm
 have Y:∀{m' Z:Addr} {es:List Rj} {o:HO},Rc t H m' Z es->Rc t (upd H p o) m' Z es:=λM'=>by
  obtain⟨dm,hm⟩:=M'.ob;exact M'.keep (af<|G hm λ_ z=>by cases z) (af<|G M'.li λ_ z=>by cases z) λb xs e=>by rwa[af (G e λ_ z=>by cases z)]
 refine⟨⟨dy,by rwa[af (G ho λ_ z=>by cases z)]⟩,by rw[af (G A.wr λ_ z=>by cases z)];exact A.wr,λe he=>by rw[af (G (A.dr e he) λ_ z=>by cases z)];exact A.dr e he,?_,by rw[af A.ph.symm];exact A.ho,λe he=>?_,A.ph,λe he=>?_,?_,?_,?_⟩
 .rw[ag];show _=some (HO.dK<|aB<|RA<|x.pa++ [⟨k,m,g,[]⟩]);unfold RA;rw[Qg];rfl
 .rcases Q5.mp he with he|he
  .exact Y<|A.mx e he
  .rw[Q7.mp he];exact Y M'
 .rcases Q5.mp he with he|he
  .exact A.wl e he
  .rw[Q7.mp he];exact λz=>U (.inr<|.inl z)
 all_goals
  rw[Qg];refine V3.mpr ⟨?_,by simp,λu hu v I z=>?_⟩
 .exact A.kd
 .cases Q7.mp I;rw[z]at hu;exact nk hu
 .exact A.md
 .cases Q7.mp I;obtain⟨e,he,O⟩:=Q9.mp hu;exact n1<|.inr (.inr<|.inr<|.inr ⟨e,he,.inl<|z.symm.trans O.symm⟩)
 .exact A.ld
 .cases Q7.mp I;obtain⟨e,he,O⟩:=Q9.mp hu;exact U<|.inr (.inr<|.inr<|.inr ⟨e,he,.inr<|z.symm.trans O.symm⟩)
end
structure ye (pa pa':List Pk) (k:Int) (y:Rj):Prop where
 of:∀j,fH pa' j=if j=k then fH pa k++ [y]else fH pa j
 ky:pa'.map (·.k)=if k∈pa.map (·.k)then pa.map (·.k)else pa.map (·.k)++ [k]
structure R9 (K:JK) (t:OJ) (H:Hp) (a s l w p h:Addr) (Fs Fl:Addr->Prop) (x:OZ):Prop where
 o:Po t H a s l w p h x
 sl:PK K t H s Fs x.st
 lv:Pn K t H l Fl x.ks
 a1:∀b,Fs b->¬Fl b
 a2:∀b,Ow a w p h x.pa b->¬Fs b
 a3:∀b,Ow a w p h x.pa b->¬Fl b
def RD (a w p h:Addr) (Fs Fl:Addr->Prop) (pa:List Pk):Addr->Prop:=λb=>Fs b\/Fl b\/Ow a w p h pa b
section
variable {s l w h:Addr} {Fs Fs' Fl Fl':Addr->Prop} {x:OZ}
def R9.slots (JJ:R9 K t H a s l w p h Fs Fl x) (S:PK K t H' s Fs' st) (f:Fr Fs Fs' H H'):R9 K t H' a s l w p h Fs' Fl {x with st:=st}/\Fr (RD a w p h Fs Fl x.pa) (RD a w p h Fs' Fl x.pa) H H':=by
 have G:∀b,Fl b->H' b=H b/\¬Fs' b:=λb hb=>by
  obtain⟨o,e⟩:=JJ.lv.dom hb;have:=f b o (λz=>JJ.a1 b z hb) e;exact⟨this.1.trans e.symm,this.2⟩
 have k2:∀b,Ow a w p h x.pa b->H' b=H b/\¬Fs' b:=λb hb=>by
  obtain⟨o,e,_⟩:=JJ.o.dom hb;have:=f b o (JJ.a2 b hb) e;exact⟨this.1.trans e.symm,this.2⟩
 have O:=JJ.o.keep (H':=H') (λb hb=>(k2 b hb).1) λb xs e=>(f b _ (JJ.sl.notup e) e).1;exact⟨⟨⟨O.ob,O.wr,O.dr,O.pa,O.ho,O.mx,O.ph,O.wl,O.kd,O.md,O.ld⟩,S,JJ.lv.frame λb hb=>(G b hb).1,λb h1 h2=>(G b h2).2 h1,λb hb=>(k2 b hb).2,JJ.a3⟩,λb o n e=>⟨(f b o (λz=>n<|.inl z) e).1,λz=>z.elim (f b o (λz=>n<|.inl z) e).2 λz=>n<|.inr z⟩⟩
def R9.leaves (JJ:R9 K t H a s l w p h Fs Fl x) (S:Pn K t H' l Fl' ks) (f:Fr Fl Fl' H H'):R9 K t H' a s l w p h Fs Fl' {x with ks:=ks}/\Fr (RD a w p h Fs Fl x.pa) (RD a w p h Fs Fl' x.pa) H H':=by
 have G:∀b,Fs b->H' b=H b/\¬Fl' b:=λb hb=>by
  obtain⟨o,e⟩:=JJ.sl.dom hb;have:=f b o (JJ.a1 b hb) e;exact⟨this.1.trans e.symm,this.2⟩
 have k2:∀b,Ow a w p h x.pa b->H' b=H b/\¬Fl' b:=λb hb=>by
  obtain⟨o,e,_⟩:=JJ.o.dom hb;have:=f b o (JJ.a3 b hb) e;exact⟨this.1.trans e.symm,this.2⟩
 have O:=JJ.o.keep (H':=H') (λb hb=>(k2 b hb).1) λb xs e=>(f b _ (JJ.lv.notup e) e).1;exact⟨⟨⟨O.ob,O.wr,O.dr,O.pa,O.ho,O.mx,O.ph,O.wl,O.kd,O.md,O.ld⟩,JJ.sl.frame λb hb=>(G b hb).1,S,λb h1=>(G b h1).2,JJ.a2,λb hb=>(k2 b hb).2⟩,λb o n e=>⟨(f b o (λz=>n<|.inr<|.inl z) e).1,λz=>z.elim (λz=>n<|.inl z) λz=>z.elim (f b o (λz=>n<|.inr<|.inl z) e).2 λz=>n<|.inr (.inr z)⟩⟩
def R9.own (JJ:R9 K t H a s l w p h Fs Fl x) (O:Po t H' a s l w p h x') (I:x'.st=x.st) (e2:x'.ks=x.ks) (f:Fr (Ow a w p h x.pa) (Ow a w p h x'.pa) H H'):R9 K t H' a s l w p h Fs Fl x'/\Fr (RD a w p h Fs Fl x.pa) (RD a w p h Fs Fl x'.pa) H H':=by
 have G:∀b,Fs b->H' b=H b/\¬Ow a w p h x'.pa b:=λb hb=>by
  obtain⟨o,e⟩:=JJ.sl.dom hb;have:=f b o (λz=>JJ.a2 b z hb) e;exact⟨this.1.trans e.symm,this.2⟩
 have k2:∀b,Fl b->H' b=H b/\¬Ow a w p h x'.pa b:=λb hb=>by
  obtain⟨o,e⟩:=JJ.lv.dom hb;have:=f b o (λz=>JJ.a3 b z hb) e;exact⟨this.1.trans e.symm,this.2⟩
 exact⟨⟨O,by rw[I];exact JJ.sl.frame λb hb=>(G b hb).1,by rw[e2];exact JJ.lv.frame λb hb=>(k2 b hb).1,JJ.a1,λb h1 h2=>(G b h2).2 h1,λb h1 h2=>(k2 b h2).2 h1⟩,λb o n e=>⟨(f b o (λz=>n<|.inr<|.inr z) e).1,λz=>z.elim (λz=>n<|.inl z) λz=>z.elim (λz=>n<|.inr<|.inl z) (f b o (λz=>n<|.inr<|.inr z) e).2⟩⟩
def R9.dom (JJ:R9 K t H a s l w p h Fs Fl x) (hb:RD a w p h Fs Fl x.pa b):∃o,H b=some o/\∀ys,o≠ .tup ys:=by
 have no:∀F:Addr->Prop,F b->(∀xs,H b=some (.tup xs)->¬F b)->∀o,H b=some o->∃o,H b=some o/\∀ys,o≠ .tup ys:=λF G n o e=>⟨o,e,λys z=>n ys (by rw[e,z]) G⟩;rcases hb with hb|hb|hb
 .obtain⟨o,e⟩:=JJ.sl.dom hb;exact no Fs hb (λxs e=>JJ.sl.notup e) o e
 .obtain⟨o,e⟩:=JJ.lv.dom hb;exact no Fl hb (λxs e=>JJ.lv.notup e) o e
 .exact JJ.o.dom hb
def R9.keep (JJ:R9 K t H a s l w p h Fs Fl x) (g:∀b,RD a w p h Fs Fl x.pa b->H' b=H b) (z:∀b xs,H b=some (.tup xs)->H' b=some (.tup xs)):R9 K t H' a s l w p h Fs Fl x:=
 ⟨JJ.o.keep (λb hb=>g b<|.inr<|.inr hb) z,JJ.sl.frame λb hb=>g b<|.inl hb,JJ.lv.frame λb hb=>g b<|.inr<|.inl hb,JJ.a1,JJ.a2,JJ.a3⟩
end
structure PM (x:OZ):Prop where
 ks:∀z,z∈x.ks↔(aG x.st.kv z).isSome=true
 n0:0<=x.now
 m0:0<=x.ma
 dl:(x.di.length:Int)=x.now+x.ma
 pl:(x.pa.length:Int)<=x.now
 el:∀j,((fH x.pa j).length:Int)<=x.now
 sl:(x.st.kv.length:Int)<=x.now
 hn:(x.ho.map (·.1)).Nodup
 hv:∀p∈x.ho,x.fl<=p.1/\p.1<=x.now/\∃n:Int,p.2= .int n/\0<n
 fb:0<=x.fl/\x.fl<=x.now
 up:∀j,(fH x.pa j).Pairwise (λa b=>a.mo<b.mo)/\∀y∈fH x.pa j,y.mo<=x.now
def OW (K:JK) (t:OJ) (H:Hp) (a:Addr) (F:Addr->Prop) (x:OZ):Prop:=∃s l w p h Fs Fl,R9 K t H a s l w p h Fs Fl x/\PM x/\∀b,F b↔RD a w p h Fs Fl x.pa b
section
variable {x:OZ}
def OW.ins (A:OW K t H a F x):∃dx fs,H a=some (.ins t.bc dx fs)/\(∀m,NoH m->fs.lookup m=none)/\fs.lookup ("now":Str)=some (.int x.now)/\fs.lookup ("floor":Str)=some (.int x.fl):=by
 obtain⟨s,l,w,p,h,Fs,Fl,JJ,_⟩:=A;obtain⟨dx,e⟩:=JJ.o.ob;exact⟨dx,_,e,λm z=>Ir z,vX,Nc⟩
def OW.ok (A:OW K t H a F x):PM x:=by
 obtain⟨s,l,w,p,h,Fs,Fl,JJ,O,_⟩:=A;exact O
def OW.dom (A:OW K t H a F x) (hb:F b):∃o,H b=some o/\∀ys,o≠ .tup ys:=by
 obtain⟨s,l,w,p,h,Fs,Fl,JJ,_,g⟩:=A;exact JJ.dom<|(g b).mp hb
def OW.out (A:OW K t H a F x) (e:H b=none):¬F b:=λz=>by
 obtain⟨o,q,_⟩:=A.dom z;rw[q]at e;cases e
def OW.keep (A:OW K t H a F x) (g:∀b,F b->H' b=H b) (z:∀b xs,H b=some (.tup xs)->H' b=some (.tup xs)):OW K t H' a F x:=by
 obtain⟨s,l,w,p,h,Fs,Fl,JJ,O,f⟩:=A;exact⟨s,l,w,p,h,Fs,Fl,JJ.keep (λb hb=>g b<|(f b).mpr hb) z,O,f⟩
def OW.same (A:OW K t H a F x) (m:Fa H H'):OW K t H' a F x:=A.keep (λb hb=>by
 obtain⟨o,e,_⟩:=A.dom hb;rw[e];exact m _ _ e) λb xs e=>m _ _ e
def OW.upd (A:OW K t H a F x) (n:¬F q) (G:∀xs,H q≠some (.tup xs)):OW K t (L2.upd H q o) a F x:=A.keep (λb hb=>af λz=>n<|z▸hb) λb xs e=>by rwa[af λz=>G xs (by rw[<-z];exact e)]
end
def wB (t:OJ):Sp:=λvs H Q _=>∃(a s l w p h r:Addr) (k:Int) (x:OZ) (v:V) (xs:List V),vs=[.ref a,.ref r,v]/\Po t H a s l w p h x/\H r=some (.tup xs)/\RF xs 1=some (.int k)/\x.di.length<50000/\x.pa.length<50000/\(fH x.pa k).length<50000/\
 ∀(H':Hp) (pa':List Pk) (q:Addr),Po t H' a s l w p h {x with now:=x.now+1,di:=x.di++ [(r,xs)],pa:=pa'}->ye x.pa pa' k ⟨q,x.now+1,v⟩->Fr (Ow a w p h x.pa) (Ow a w p h pa') H H'->Q (.int<|x.now+1) H'
def oh:CU P w K mg base OL 3 t.qu t.kr ["self","row","value"] (wB t):=by
 refine T.JX.okl wT λs H vs Q E hr h _=>?_;intro X;obtain⟨a,s,l,wr,p,h,r,k,x,v,xs,rfl,A,ht,hk,l1,l2,l3,q⟩:=h;refine aj (OM 3<|aS bB M2 ae<|λ_ _=>M)
   (aj (iE BC ae xJ)
   (aj (aN<|dC Qr Z2 Z3 eZ (au BC M)<|ac M2 ai)
   (aj (aN<|aR (dC QD Ve PySem.F.type_dict_setdefault FT (au BC M)<|ac OR<|ac (rV T.Of (xk T) hr.mo {_} T.Oi T.JE .nil ay) ai) T.CS T.Jv (xj T) hr.mo T.JD .nil ay<|ac (au BC M)<|ac O1 ai)
   (aA (aD<|au BC M) ?_))))
 intros
 obtain⟨dx,ho⟩:=A.ob;refine⟨_,M,r,_,_,_,M,M,OX.of ht,hk,?_⟩;refine⟨_,M,a,_,dx,_,_,M,ho,T.aO,T.lL,vX,_,_,M,M,dx,_,ho,EZ,?_⟩;rw[Kp];have A1:=A.set (now:=x.now+1) (mk:=x.ma) (fl:=x.fl) (dx:=dx);have o1:∀b o,b≠a->H b=some o->upd H a (.ins t.bc dx<|Pg (x.now+1) x.fl s l wr x.ma p h) b=some o:=λb o n e=>by rwa[af n]
 have ra:r≠a:=λz=>by rw[z,ho]at ht;cases ht
 have O:=o1 _ _ ra ht;generalize upd H a (.ins t.bc dx<|Pg (x.now+1) x.fl s l wr x.ma p h)=H1 at A1 o1 O⊢;obtain⟨a3,a0⟩:=A1.ob;refine⟨_,M,a,_,a3,_,_,M,a0,T.aO,T.gu,Eh,.inl ⟨M,_,Fb.of A1.wr⟩,_,M,wr,_,_,M,M,A1.wr,bg (by rw[Q0];show x.di.length<=_;lia),?_⟩;have U:=A1.row O;have o2:∀b o,¬Ow a wr p h x.pa b->H b=some o->upd H1 wr (.lst<|x.di.map (λe=>V.ref e.1)++ [.ref r]) b=some o:=λb o n e=>by rw[af λz=>n (.inr<|.inl z)];exact o1 _ _ (λz=>n<|.inl z) e
 generalize upd H1 wr (.lst<|x.di.map (λe=>V.ref e.1)++ [.ref r])=H2 at U o2⊢;obtain⟨a4,a1⟩:=U.ob;refine⟨_,M,a,_,a4,_,_,M,a1,T.aO,T.zg,Na,.inr<|.inr<|.inl ⟨M,.inl ⟨_,U.pa⟩⟩,_,M,λm dm nm nd a5=>⟨m,dm,M,ag,λH4 g M4 ng o4=>⟨M,?_⟩⟩⟩;have s3:Fa H2 (upd (upd H2 dm<|.own m) m<|.ins t.gN dm []):=cm (ak nd) nm;have s4:Fa H2 H4:=λb o e=>o4 b o (λz=>by rw[z,nm]at e;cases e) (s3 b o e);have Y:=eP s3 ng;have A4:=U.same s4;have om:¬Ow a wr p h x.pa m:=λz=>by obtain⟨o,e,_⟩:=U.dom z;rw[nm]at e;cases e
 have og:¬Ow a wr p h x.pa g:=λz=>by obtain⟨o,e,_⟩:=U.dom z;rw[Y]at e;cases e
 have o5:∀b o,¬Ow a wr p h x.pa b->H b=some o->H4 b=some o/\b≠m/\b≠g:=λb o n e=>⟨s4 _ _<|o2 b o n e,λz=>(by have:=o2 b o n e;rw[z,nm]at this;cases this),λz=>(by have:=o2 b o n e;rw[z,Y]at this;cases this)⟩;clear s3 s4 o4 o2 o1 A1 U a1 a0 ho A ng nm nd a5 Y O ht;refine⟨p,_,Sum.inl k,.ref m,M,M,A4.pa,(by rw[bj];exact bg<|by show(RA x.pa).length<=_;unfold RA;rw[Q0];lia),λu hu=>?A,λZ=>?JJ⟩
 case' A=>
  have hu:aG (aB<|RA x.pa) (Sum.inl k:Key)=some u:=hu;rw[O6]at hu;obtain⟨e,he,I,ev,em⟩:∃e∈x.pa,e.k=k/\aG (RA x.pa) k=some (.ref e.m)/\fH x.pa k=e.es:=by
   rcases EK x.pa k with⟨z,_⟩|z
   .rw[z]at hu;cases hu
   .exact z
  rw[ev]at hu;cases hu;obtain⟨G,A5,he,N,f5⟩:∃G,Po t H4 a s l wr p h {x with now:=x.now+1,di:=x.di++ [(r,xs)],pa:=G}/\e∈G/\(∀y,ye x.pa (RJ G k y) k y)/\Fr (Ow a wr p h x.pa) (Ow a wr p h G) H H4:=
   ⟨x.pa,A4,he,λy=>⟨λj=>sj<|Q9.mpr ⟨e,he,I⟩,by rw[zK λ_ _=>M,Vp (Q9.mpr ⟨e,he,I⟩)]⟩,λb o n e=>⟨(o5 b o n e).1,n⟩⟩
  have le:e.es.length<50000:=by rwa[<-em]
  clear A4 em ev o5
 case' JJ=>
  have Z:aG (aB<|RA x.pa) (Sum.inl k:Key)=none:=Z;rw[O6]at Z;have nk:k∉x.pa.map (·.k):=by
   rcases EK x.pa k with⟨_,z⟩|⟨e,_,_,z,_⟩
   .exact z
   .rw[z]at Z;cases Z
  have ep:bi (aB<|RA x.pa) (Sum.inl k:Key) (.ref m)=aB (RA x.pa++ [(k,.ref m)]):=by
   rw[b9];unfold bi;rw[dt,Z];rfl
  rw[ep];obtain⟨e,ee,I,le⟩:∃e:Pk,e=⟨k,m,g,[]⟩/\e.k=k/\e.es.length<50000:=⟨_,M,M,by show 0<50000;decide⟩;obtain⟨G,A5,he,N,f5⟩:∃G,Po t (upd H4 p<|.dK<|aB<|RA x.pa++ [(k,.ref m)]) a s l wr p h {x with now:=x.now+1,di:=x.di++ [(r,xs)],pa:=G}/\e∈G/\(∀y,ye x.pa (RJ G k y) k y)/\Fr (Ow a wr p h x.pa) (Ow a wr p h G) H (upd H4 p<|.dK<|aB<|RA x.pa++ [(k,.ref m)]):=by
   refine⟨x.pa++ [e],ee▸A4.newk nk M4 om og,Qw _ Qb,λy=>⟨λj=>?_,?_⟩,λb o n eb=>⟨?_,λz=>?_⟩⟩
   .have a2:e.k∉x.pa.map (·.k):=by rwa[I]
    rw[sj (by rw[Qg];exact Qw _<|Q7.mpr I.symm),xy a2,xy a2,Vp I.symm,zS nk,ee];by_cases c:j=k
    .rw[Vp c,Vp c]
    .rw[Vo c,Vo c,Vo c]
   .rw[zK λ_ _=>M,Vo nk,Qg,<-I];rfl
   .rw[af λz=>n (.inr<|.inr<|.inl z)];exact(o5 b o n eb).1
   .rcases z with z|z|z|z|⟨e',aa,z⟩
    .exact n<|.inl z
    .exact n<|.inr (.inl z)
    .exact n<|.inr (.inr<|.inl z)
    .exact n<|.inr (.inr<|.inr<|.inl z)
    .rcases Q5.mp aa with y|y
     .exact n<|.inr (.inr<|.inr<|.inr ⟨e',y,z⟩)
     .rw[Q7.mp y,ee]at z;exact z.elim (o5 b o n eb).2.1 (o5 b o n eb).2.2
  have em:V.ref m=V.ref e.m:=by rw[ee]
  clear A4 M4 o5 om og Z nk ep;generalize upd H4 p (.dK<|aB<|RA x.pa++ [(k,.ref m)])=H5 at A5 f5⊢;rw[em]
 all_goals
  have M5:=A5.mx e he;obtain⟨dy,hm⟩:=M5.ob;obtain⟨ab,ah⟩:=A5.ob;refine⟨e.m,dy,_,M,hm,bz ∅,_,M,a,_,ab,_,_,M,ah,T.aO,T.lL,vX,_,M,e.m,e.l,e.es,_,v,M,M5,(),λH6 y M6 ny o6=>?_⟩;have A6:=A5.noted he I M6 o6;obtain⟨an,ax⟩:=A6.ob;refine⟨_,M,a,_,an,_,_,M,ax,T.aO,T.lL,vX,q _ _ y A6 (N _)<|f5.trans λb o n eb=>⟨o6 b o (λz=>n<|.inr<|.inr<|.inr<|.inr ⟨e,he,.inr z⟩) eb,λz=>n<|MD z⟩⟩
def OZ.new:OZ:=⟨0,0,0,O8.new,[],[],[],[]⟩
def OZ.new_ok:PM OZ.new:=⟨λz=>⟨(λy=>by cases y),(λy=>by cases y)⟩,(_),(_),M,(_),λ_=>by show((0:Nat):Int)<=0;decide,(_),Z0,(λ_ z=>by cases z),(_),λ_=>⟨VJ,(λy z=>by cases z)⟩⟩
def cO {nx:Hp->Prop} (k:∀H',H' a=some (.ins C dx<|bK f v fs)->(∀b,b≠a->H' b=H b)->nx H'):nx (upd H a<|.ins C dx<|bK f v fs):=k _ ag λ_ n=>af n
def lO {m:Nat} (h:Nat.ble (n+1) m=true):n<m:=Nat.le_of_ble_eq_true h
def wy (K:JK) (t:OJ):Sp:=λvs H Q _=>∃(a dx:Addr),vs=[.ref a]/\H a=some (.ins t.bc dx [])/\∀H' F,OW K t H' a F OZ.new->Fr (λb=>b=a) F H H'->Q .non H'
def xn:CU P w K mg base OL 4 t.qq t.kh ["self"] (wy K t):=by
 refine T.JU.okl wQ λs H vs Q E hr h _=>?_;intro X;obtain⟨a,dx,rfl,ha,q⟩:=h;refine aj (bh BC ae M)
   (aj (bh BC ae M)
   (aj (bh BC (rV T.Oe (xh T) hr.mo {_} T.Oh T.JB .nil ay) M)
   (aj (bh BC (rV T.NC (vH T) hr.mo {_} T.NE T.Jh .nil ay) M)
   (aj (bh BC (bZ ai) M)
   (aj (bh BC ae M)
   (aj (bh BC eE M)
   (aA (bh BC eE M) ?_)))))))
 intros
 refine⟨_,M,a,_,dx,[],M,ha,T.aO,T.lL,lO (by kernel_rfl),cO λH1 h1 o1=>?_⟩;refine⟨_,M,a,_,dx,_,M,h1,T.aO,T.xt,lO (by kernel_rfl),cO λH2 h2 o2=>?_⟩;refine λs ds ns G a0=>⟨s,ds,M,ag,by rw[af a0];exact ag,λH3 Fs S3 f3=>⟨M,?_⟩⟩;have k3:∀b o,H2 b=some o->H3 b=some o/\¬Fs b:=λb o e=>f3 b o (λz=>z.elim (λz=>by rw[z,ns]at e;cases e) λz=>by rw[z,G]at e;cases e) (cm (ak G) ns _ _ e);obtain⟨h3,na⟩:=k3 _ _ h2;refine⟨_,M,a,_,dx,_,M,h3,T.aO,T.dD,lO (by kernel_rfl),cO λH4 h4 o4=>?_⟩;have S4:=S3.frame (H':=H4) λb hb=>o4 b λz=>na (z▸hb);refine λl dl nl I a1=>⟨l,dl,M,ag,by rw[af a1];exact ag,λH5 Fl L5 f5=>⟨M,?_⟩⟩;have k5:∀b o,H4 b=some o->H5 b=some o/\¬Fl b:=λb o e=>f5 b o (λz=>z.elim (λz=>by rw[z,nl]at e;cases e) λz=>by rw[z,I]at e;cases e) (cm (ak I) nl _ _ e);obtain⟨h5,nb⟩:=k5 _ _ h4;refine⟨_,M,a,_,dx,_,M,h5,T.aO,T.g7,lO (by kernel_rfl),cO λH6 h6 o6=>?_⟩;have L6:=L5.frame (H':=H6) λb hb=>o6 b λz=>nb (z▸hb);have S6:=(S4.same λb o e=>(k5 b o e).1).frame (H':=H6) λb hb=>o6 b λz=>na (z▸hb);have ap:∀b,Fs b->¬Fl b:=λb hb=>by
  obtain⟨o,e⟩:=S4.dom hb;exact(k5 b o e).2
 have k6:∀b o,b≠a->H b=some o->H6 b=some o/\¬Fs b/\¬Fl b:=λb o n e=>by
  obtain⟨e3,n3⟩:=k3 b o (by rwa[o2 b n,o1 b n]);obtain⟨e5,n5⟩:=k5 b o (by rwa[o4 b n]);exact⟨by rwa[o6 b n],n3,n5⟩
 clear f3 k3 f5 k5 S4 L5 S3 ns G a0 nl I a1 h1 h2 h3 h4 h5 o1 o2 o4 o6;refine⟨Qj _,λwr nw=>⟨_,M,a,_,dx,_,M,ak nw _ _ h6,T.aO,T.gu,lO (by kernel_rfl),cO λH7 h7 o7=>?_⟩⟩;refine⟨_,M,a,_,dx,_,M,h7,T.aO,T.i4,lO (by kernel_rfl),cO λH8 h8 o8=>?_⟩;refine λp np=>⟨_,M,a,_,dx,_,M,ak np _ _ h8,T.aO,T.zg,lO (by kernel_rfl),cO λH9 h9 o9=>?_⟩;refine λh nh=>⟨_,M,a,_,dx,_,M,ak nh _ _ h9,T.aO,T.uq,lO (by kernel_rfl),cO λa2 a4 a3=>?_⟩;have kk:∀{A JJ:Hp} {q:Addr} {u:HO},A q=none->(∀b,b≠a->JJ b=upd A q u b)->∀b o,b≠a->A b=some o->JJ b=some o:=λnq e b o n h=>by rwa[e b n,af (am h nq)]
 have wa:=(am h6 nw).symm;have pa':=(am h8 np).symm;have U:=(am h9 nh).symm;have e8:∀b o,b≠a->H6 b=some o->H8 b=some o:=λb o n e=>by rw[o8 b n];exact kk nw o7 b o n e
 have e9:=kk np o9;have Y:=kk nh a3;have w8:H8 wr=some (.lst []):=by rw[o8 _ wa,o7 _ wa];exact ag
 have p9:H9 p=some (.dK []):=by rw[o9 _ pa'];exact ag
 have Z:∀b o,b≠a->H6 b=some o->a2 b=some o:=λb o n e=>Y b o n (e9 b o n<|e8 b o n e);have O:Po t a2 a s l wr p h OZ.new:=⟨⟨dx,a4.trans<|by kernel_rfl⟩,Y _ _ wa<|e9 _ _ wa w8,(λe he=>by cases he),Y _ _ pa' p9,by rw[a3 _ U];exact ag,(λe he=>by cases he),am p9 nh,(λe he=>by cases he),Z0,Z0,Z0⟩;have fresh:∀b,(b=wr\/b=p\/b=h)->H6 b=none:=λb hb=>by
  cases e:H6 b with
  |none=>rfl
  |some o=>
   rcases hb with rfl|rfl|rfl
   .rw[nw]at e;cases e
   .rw[e8 _ _ pa' e]at np;cases np
   .rw[e9 _ _ U (e8 _ _ U e)]at nh;cases nh
 have ow:∀b,Ow a wr p h [] b->b=a\/H6 b=none:=λb hb=>by
  rcases hb with z|z|z|z|⟨e,he,_⟩
  .exact .inl z
  .exact .inr<|fresh b (.inl z)
  .exact .inr<|fresh b (.inr<|.inl z)
  .exact .inr<|fresh b (.inr<|.inr z)
  .cases he
 refine q _ (RD a wr p h Fs Fl []) ⟨s,l,wr,p,h,Fs,Fl,⟨O,S6.frame λb hb=>?_,L6.frame λb hb=>?_,ap,λb hb z=>?_,λb hb z=>?_⟩,OZ.new_ok,λ_=>Iff.rfl⟩ λb o n e=>?_
 .obtain⟨o,e⟩:=S6.dom hb;rw[e];exact Z b o (λz=>na<|z▸hb) e
 .obtain⟨o,e⟩:=L6.dom hb;rw[e];exact Z b o (λz=>nb<|z▸hb) e
 .rcases ow b hb with y|y
  .exact na<|y▸z
  .exact S6.out y z
 .rcases ow b hb with y|y
  .exact nb<|y▸z
  .exact L6.out y z
 .obtain⟨c1,c2,c3⟩:=k6 b o n e;refine⟨Z b o n c1,λz=>?_⟩;rcases z with z|z|z
  .exact c2 z
  .exact c3 z
  .rcases ow b z with y|y
   .exact n y
   .rw[c1]at y;cases y
def qC (K:JK) (t:OJ):Sp:=λvs H Q _=>∃(a:Addr) (F:Addr->Prop) (x:OZ),vs=[.ref a]/\OW K t H a F x/\x.now+x.ma<40000/\
 ∀(H':Hp) (F':Addr->Prop) (r:Addr),OW K t H' a F' {x with ma:=x.ma+1,di:=x.di++ [(r,[.str "mark",.int (x.ma+1)])]}->Fr F F' H H'->Q (.int<|x.ma+1) H'
def iZ:CU P w K mg base OL 1 t.jG t.fS ["self"] (qC K t):=by
 refine T.Fp.okl qG λs H vs Q E hr h _=>?_;intro X;obtain⟨a,F,x,rfl,A,l1,q⟩:=h;refine aj (iE BC ae xJ)
   (aj (aN<|dC Qr Z2 Z3 eZ (au BC M)<|ac (bO<|ac gk<|ac (au BC M) ai) ai)
   (aA (aD<|au BC M) ?_))
 intros
 obtain⟨s,l,wr,p,h,Fs,Fl,JJ,O,g⟩:=A;obtain⟨dx,ho⟩:=JJ.o.ob;refine⟨_,M,a,_,dx,_,_,M,ho,T.aO,T.i4,Ei,_,_,M,M,dx,_,ho,EZ,?_⟩;rw[Mz];have A1:=JJ.o.set (now:=x.now) (mk:=x.ma+1) (fl:=x.fl) (dx:=dx);have f1:Fr (Ow a wr p h x.pa) (Ow a wr p h x.pa) H (upd H a<|.ins t.bc dx<|Pg x.now x.fl s l wr (x.ma+1) p h):=λb o n e=>⟨by rwa[af λz=>n (.inl z)],n⟩;generalize upd H a (.ins t.bc dx<|Pg x.now x.fl s l wr (x.ma+1) p h)=H1 at A1 f1⊢;obtain⟨G,I⟩:=A1.ob;have dl:=O.dl;refine⟨_,M,a,_,G,_,_,M,I,T.aO,T.gu,Eh,.inl ⟨M,_,Fb.of A1.wr⟩,?_⟩;refine⟨_,M,a,_,G,_,_,M,I,T.aO,T.i4,Ei,(by show 2<=sizeLine;decide),λr nr=>?_⟩;have s2:=ak (o:= .tup [.str "mark",.int (x.ma+1)]) nr;have U:=A1.same s2;have f2:=f1.trans (Fr.of_same s2);have ht:upd H1 r (.tup [.str "mark",.int (x.ma+1)]) r=some (.tup [.str "mark",.int (x.ma+1)]):=ag;generalize upd H1 r (.tup [.str "mark",.int (x.ma+1)])=H2 at U f2 ht⊢;refine⟨wr,_,_,M,M,U.wr,bg (by rw[Q0];show x.di.length<=_;lia),?_⟩;have Y:=U.row ht;have f3:Fr (Ow a wr p h x.pa) (Ow a wr p h x.pa) H (upd H2 wr<|.lst<|x.di.map (λe=>V.ref e.1)++ [.ref r]):=λb o n e=>⟨by rw[af λz=>n (.inr<|.inl z)];exact(f2 b o n e).1,n⟩;generalize upd H2 wr (.lst<|x.di.map (λe=>V.ref e.1)++ [.ref r])=H3 at Y f3⊢;obtain⟨Z,a0⟩:=Y.ob;obtain⟨B3,f4⟩:=JJ.own Y M M f3;refine⟨_,M,a,_,Z,_,_,M,a0,T.aO,T.i4,Ei,q H3 F r ⟨s,l,wr,p,h,Fs,Fl,B3,⟨O.ks,O.n0,?_,?_,O.pl,O.el,O.sl,O.hn,O.hv,O.fb,O.up⟩,g⟩ ?_⟩
 .have:=O.m0;show 0<=x.ma+1;lia
 .show((x.di++ [(r,_)]).length:Int)=x.now+(x.ma+1);rw[Q8,QZ];lia
 .exact λb o n e=>⟨(f4 b o (λz=>n<|(g b).mpr z) e).1,n⟩
def OW.klen {x:OZ} (A:OW K t H a F x):(x.ks.length:Int)<=x.now:=by
 obtain⟨s,l,w,p,h,Fs,Fl,JJ,O,_⟩:=A;obtain⟨L,A,ls,_,ok,e,_⟩:=JJ.lv;have nd:x.ks.Nodup:=by
  rw[<-e];exact List.Pairwise.imp (λh z=>()) ok.up
 have:=gO (S:=x.st.kv.map (·.1)) nd λz hz=>O0.mpr ((O.ks z).mp hz);rw[Q0]at this;have:=O.sl;lia
def PM.noted {x:OZ} {y:Rj} (O:PM x) (N:ye x.pa pa' k y):(pa'.length:Int)<=x.now+1/\∀j,((fH pa' j).length:Int)<=x.now+1:=by
 constructor
 .have h1:=O.pl;have h2:=VH List.length N.ky;rw[Q0]at h2;split at h2
  .rw[Q0]at h2;lia
  .rw[Q8,Q0,QZ]at h2;lia
 .intro j;rw[N.of];split
  .have:=O.el k;rw[Q8,QZ];lia
  .have:=O.el j;lia
def PM.hv1 {x:OZ} (O:PM x):∀p∈x.ho,x.fl<=p.1/\p.1<=x.now+1/\∃n:Int,p.2= .int n/\0<n:=λp z=>⟨(O.hv p z).1,by have:=(O.hv p z).2.1;lia,(O.hv p z).2.2⟩
def PM.fb1 {x:OZ} (O:PM x):0<=x.fl/\x.fl<=x.now+1:=⟨O.fb.1,by have:=O.fb.2;lia⟩
def PM.up1 {x:OZ} {y:Rj} (O:PM x) (N:ye x.pa pa' k y) (e:y.mo=x.now+1):∀j,(fH pa' j).Pairwise (λa b=>a.mo<b.mo)/\∀z∈fH pa' j,z.mo<=x.now+1:=λj=>by
 rw[N.of];obtain⟨I,G⟩:=O.up k;split
 .refine⟨Ql.mpr ⟨I,Zh _ _,λa ha b hb=>?_⟩,λz hz=>?_⟩
  .rw[Q7.mp hb,e];have:=G a ha;lia
  .rcases Q5.mp hz with hz|hz
   .have:=G z hz;lia
   .rw[Q7.mp hz,e];exact Zg _
 .obtain⟨U,Y⟩:=O.up j;exact⟨U,λz hz=>by have:=Y z hz;lia⟩
def yE (K:JK) (t:OJ):Sp:=λvs H Q _=>∃(a:Addr) (k i:Int) (F:Addr->Prop) (x:OZ),vs=[.ref a,.int k,.int i]/\OW K t H a F x/\0<=k/\x.now+x.ma<4000/\
 ∀(H':Hp) (F':Addr->Prop) (ks':List Int) (r q:Addr) (pa':List Pk),OW K t H' a F' {x with now:=x.now+1,st:=x.st.put k (.int i),ks:=ks',di:=x.di++ [(r,[.str "put",.int k,.int i])],pa:=pa'}->ye x.pa pa' k ⟨q,x.now+1,.int i⟩->Fr F F' H H'->Q (.int<|x.now+1) H'
def pX:CU P w K mg base OL 5 t.tq t.mn ["self","key","value"] (yE K t):=by
 refine T.Ll.okl yU λs H vs Q E hr h _=>?_;intro X;obtain⟨a,k,i,F,x,rfl,A,k0,l1,q⟩:=h;refine aj (aQ (lJ<|cx<|aR (au BC M) T.aK T.Ba (pW T) hr.mo T.Bx .nil ay<|ac M2 ai)
    (az<|aN<|aR (au BC M) T.aM T.Jw (xl T) hr.mo T.JF .nil ay<|ac M2 ai)
    aI)
   (aj (aN<|aR (au BC M) T.aK T.KH (y9 T) hr.mo T.K9 .nil ay<|ac M2<|ac O1 ai)
   (aA (aD<|aR BC T.aO T.zl (oh T) hr.mo T.zu .nil ay<|ac (bO<|ac gk<|ac M2<|ac O1 ai)<|ac O1 ai) ?_))
 intros
 have kl:=A.klen;obtain⟨s,l,wr,p,h,Fs,Fl,JJ,O,g⟩:=A;have n0:=O.n0;have m0:=O.m0;have sl:=O.sl;obtain⟨dx,ho⟩:=JJ.o.ob;obtain⟨ds,fs,hs,hm⟩:=JJ.sl.ins
 (try dsimp only)
 refine dM (λB H2=>∃(U G:Addr->Prop) (I:List Int),B=[some (.ref a),some (.int k),some (.int i)]/\R9 K t H2 a s l wr p h U G {x with ks:=I}/\(∀z,z∈I↔z=k\/z∈x.ks)/\Fr (RD a wr p h Fs Fl x.pa) (RD a wr p h U G x.pa) H H2) (λnx go=>?_)<|λB H2 w=>?_
 .refine⟨_,M,a,_,dx,_,_,M,ho,T.aO,T.dD,xK,s,ds,fs,M,hs,hm _ ∅,_,M,s,k,Fs,x.st,M,JJ.sl,k0,λH1 a0 S1 f1=>?_⟩;obtain⟨B1,g1⟩:=JJ.slots S1 f1;obtain⟨a1,a2⟩:=B1.o.ob;obtain⟨dl,fl,hl,a3⟩:=B1.lv.ins;cases ev:(aG x.st.kv k).isSome with
  |true=>
   refine⟨_,M,bQ (λc=>?_)<|λ_=>?_⟩
   .cases c
   .exact go _ _ ⟨a0,Fl,x.ks,M,B1,λz=>⟨.inr,λy=>y.elim (λy=>by rw[y];exact(O.ks k).mpr ev) id⟩,g1⟩
  |false=>
   have nk:k∉x.ks:=λz=>by have:=(O.ks k).mp z;rw[ev]at this;cases this
   refine⟨_,M,bQ (λ_=>?_)<|λc=>?_⟩
   .refine⟨_,M,a,_,a1,_,_,M,a2,T.aO,T.g7,Ej,l,dl,fl,M,hl,a3 _ ∅,_,M,l,k,Fl,x.ks,M,B1.lv,(),λ_ H2 G I L2 mem f2=>?_,λz=>Vt z nk⟩;obtain⟨Z,g2⟩:=B1.leaves L2 f2;exact go _ _ ⟨a0,G,I,M,Z,mem,g1.trans g2⟩
   .exact Vt M c
 .obtain⟨U,G,I,rfl,Z,mem,g2⟩:=w;obtain⟨a4,a5⟩:=Z.o.ob;obtain⟨aa,ab,ah,an⟩:=Z.sl.ins;refine⟨_,M,a,_,a4,_,_,M,a5,T.aO,T.dD,xK,s,aa,ab,M,ah,an _ ∅,_,M,_,M,s,k,i,U,x.st,M,Z.sl,k0,(),λH3 Y S3 f3=>?_⟩;obtain⟨B3,g3⟩:=Z.slots S3 f3;obtain⟨ax,b1⟩:=B3.o.ob;refine⟨_,M,a,ax,_,M,b1,Ir ∅,_,M,_,M,(by show 3<=sizeLine;decide),λr nr=>?_⟩;have s4:=ak (o:= .tup [.str "put",.int k,.int i]) nr;have ht:upd H3 r (.tup [.str "put",.int k,.int i]) r=some (.tup [.str "put",.int k,.int i]):=ag;have B4:R9 K t (upd H3 r<|.tup [.str "put",.int k,.int i]) a s l wr p h Y G _:=B3.keep (λb hb=>by
   obtain⟨o,e,_⟩:=B3.dom hb;rw[e];exact s4 _ _ e) λb xs e=>s4 _ _ e
  have g4:=(g2.trans g3).trans (Fr.of_same s4);generalize upd H3 r (.tup [.str "put",.int k,.int i])=H4 at B4 ht g4⊢;have dl:=O.dl;have pl:=O.pl;have el:=O.el k;refine⟨_,M,a,s,l,wr,p,h,r,k,_,.int i,_,M,B4.o,ht,M,by show x.di.length<50000;lia,by show x.pa.length<50000;lia,by show(fH x.pa k).length<50000;lia,λH5 pa' y O5 N f5=>?_⟩;obtain⟨B5,g5⟩:=B4.own O5 M M f5;obtain⟨N1,N2⟩:=O.noted N;have ek:(x.st.put k<|.int i).kv=bi x.st.kv k (.int i):=O8.three_kv;refine q H5 (RD a wr p h Y G pa') I r y pa' ⟨s,l,wr,p,h,Y,G,B5,⟨λz=>?_,by show 0<=x.now+1;lia,m0,?_,N1,N2,?_,O.hn,O.hv1,O.fb1,O.up1 N M⟩,λ_=>Iff.rfl⟩ N ?_
  .show z∈I↔(aG (x.st.put k<|.int i).kv z).isSome=true;rw[mem,ek,<-O0,sv,O.ks];split
   .rename_i c
    rw[O0];exact⟨λy=>y.elim (λy=>y▸c) id,.inr⟩
   .rw[Q5,Q7,O0];exact⟨λy=>y.elim .inr .inl,λy=>y.elim .inr .inl⟩
  .show((x.di++ [(r,_)]).length:Int)=x.now+1+x.ma;rw[Q8,QZ];lia
  .show((x.st.put k<|.int i).kv.length:Int)<=x.now+1;rw[ek];have:=bW x.st.kv k (.int i);lia
  .exact λb o n e=>(g4.trans g5) b o (λz=>n<|(g b).mpr z) e
def wA (K:JK) (t:OJ):Sp:=λvs H Q E=>∃(a:Addr) (k:Int) (F:Addr->Prop) (x:OZ),vs=[.ref a,.int k]/\OW K t H a F x/\0<=k/\x.now+x.ma<4000/\
 ((aG x.st.kv k).isSome=true->∀(H':Hp) (F':Addr->Prop) (ks':List Int) (r q:Addr) (pa':List Pk),OW K t H' a F' {x with now:=x.now+1,st:=x.st.drop k,ks:=ks',di:=x.di++ [(r,[.str "drop",.int k])],pa:=pa'}->ye x.pa pa' k ⟨q,x.now+1,.non⟩->Fr F F' H H'->Q (.int<|x.now+1) H')/\
 (aG x.st.kv k=none->False)
def xp:CU P w K mg base OL 6 t.qt t.kq ["self","key"] (wA K t):=by
 refine T.JW.okl wS λs H vs Q E Z h _=>?_;intro X;obtain⟨a,k,F,x,rfl,A,k0,l1,q,qx⟩:=h;refine aj (aN<|aR (au BC M) T.aK T.Ju (xi T) Z.mo T.JC .nil ay<|ac M2 ai)
   (aj (aN<|aR (au BC M) T.aM T.ER (qO T) Z.mo T.Fg .nil ay<|ac M2 ai)
   (aA (aD<|aR BC T.aO T.zl (oh T) Z.mo T.zu .nil ay<|ac (bO<|ac gk<|ac M2 ai)<|ac a7 ai) ?_))
 intros
 have kl:=A.klen;obtain⟨s,l,wr,p,h,Fs,Fl,JJ,O,g⟩:=A;have n0:=O.n0;have m0:=O.m0;have sl:=O.sl;obtain⟨dx,ho⟩:=JJ.o.ob;obtain⟨ds,fs,hs,hm⟩:=JJ.sl.ins
 (try dsimp only)
 refine⟨_,M,a,_,dx,_,_,M,ho,T.aO,T.dD,xK,s,ds,fs,M,hs,hm _ ∅,_,M,s,k,Fs,x.st,M,JJ.sl,k0,λev=>⟨(),λH1 G S1 f1=>?_⟩,λhn=>(qx hn).elim⟩
 .obtain⟨Y,g1⟩:=JJ.slots S1 f1;obtain⟨a0,a1⟩:=Y.o.ob;obtain⟨dl,fl,hl,a2⟩:=Y.lv.ins;refine⟨_,M,a,_,a0,_,_,M,a1,T.aO,T.g7,Ej,l,dl,fl,M,hl,a2 _ ∅,_,M,l,k,Fl,x.ks,M,Y.lv,(),λ_ H2 I U L2 mem f2=>?_,λz=>Vt ((O.ks k).mpr ev) z⟩;obtain⟨B3,g3⟩:=Y.leaves L2 f2;obtain⟨a3,a4⟩:=B3.o.ob;refine⟨_,M,a,a3,_,M,a4,Ir ∅,_,M,(by show 2<=sizeLine;decide),λr nr=>?_⟩;have s4:=ak (o:= .tup [.str "drop",.int k]) nr;have ht:upd H2 r (.tup [.str "drop",.int k]) r=some (.tup [.str "drop",.int k]):=ag;have B4:R9 K t (upd H2 r<|.tup [.str "drop",.int k]) a s l wr p h G I _:=B3.keep (λb hb=>by
   obtain⟨o,e,_⟩:=B3.dom hb;rw[e];exact s4 _ _ e) λb xs e=>s4 _ _ e
  have g4:=(g1.trans g3).trans (Fr.of_same s4);generalize upd H2 r (.tup [.str "drop",.int k])=H4 at B4 ht g4⊢;have dl:=O.dl;have pl:=O.pl;have el:=O.el k;refine⟨a,s,l,wr,p,h,r,k,_,.non,_,M,B4.o,ht,M,by show x.di.length<50000;lia,by show x.pa.length<50000;lia,by show(fH x.pa k).length<50000;lia,λH5 pa' y O5 N f5=>?_⟩;obtain⟨B5,g5⟩:=B4.own O5 M M f5;obtain⟨N1,N2⟩:=O.noted N;have ek:(x.st.drop k).kv=bM x.st.kv k:=O8.three_kv;refine q ev H5 (RD a wr p h G I pa') U r y pa' ⟨s,l,wr,p,h,G,I,B5,⟨λz=>?_,by show 0<=x.now+1;lia,m0,?_,N1,N2,?_,O.hn,O.hv1,O.fb1,O.up1 N M⟩,λ_=>Iff.rfl⟩ N ?_
  .show z∈U↔(aG (x.st.drop k).kv z).isSome=true;rw[mem,ek,eY,O.ks];by_cases c:z=k
   .rw[Vp c];exact⟨λy=>Vt c y.1,λy=>by cases y⟩
   .rw[Vo c];exact⟨λy=>y.2,λy=>⟨c,y⟩⟩
  .show((x.di++ [(r,_)]).length:Int)=x.now+1+x.ma;rw[Q8,QZ];lia
  .show((x.st.drop k).kv.length:Int)<=x.now+1;rw[ek];have:(bM x.st.kv k).length<=x.st.kv.length:=Qp _ _;lia
  .exact λb o n e=>(g4.trans g5) b o (λz=>n<|(g b).mpr z) e
def IV {f:α->V} {ms:List α} {g:Int} (h:0<=g):pP (ms.map f) (some g) none=(ms.drop g.toNat).map f:=by
 unfold pP HT.sIx;dsimp only;rw[Vo (),Xa];rcases Nat.le_total g.toNat (ms.map f).length with c|c
 .rw[Zk c];exact Qv<|by rw[QH];lia
 .rw[V8 c,Xz c,Xz (Q4 _),Xp]
def vg (K:JK) (t:OJ):Sp:=λvs H Q _=>∃(a:Addr) (lo:Int) (F:Addr->Prop) (x:OZ),vs=[.ref a,.int lo]/\OW K t H a F x/\0<=lo/\
 ∀(H':Hp) (r:Addr),Fa H H'->H r=none->H' r=some (.lst<|(x.di.drop lo.toNat).map λe=>V.ref e.1)->Q (.ref r) H'
def eK:CU P w K mg base OL 1 t.oY t.fV ["self","low"] (vg K t):=by
 have z:=PU.nd;refine T.Jp.ok PU (λvs H Q E h=>?_)<|λG A outer s H vs Q E U h=>?_
 .obtain⟨a,lo,F,x,rfl,_⟩:=h;rfl
 .obtain⟨a,lo,F,x,rfl,A,I,q⟩:=h;refine⟨_,(az<|aD<|cn c6 (au BC M) (b6<|aE (pJ M) {_} T.GU Bs (ac M2<|ac ae ai)) gJ)
   ,?_⟩
  obtain⟨s,l,wr,p,h,Fs,Fl,JJ,O,g⟩:=A;obtain⟨dx,ho⟩:=JJ.o.ob;refine⟨_,M,a,_,dx,_,_,M,ho,T.aO,T.gu,Eh,?_⟩;have e0:(if(0:Int)>lo then(0:Int)else lo)=lo:=Vo ();refine⟨_,M,_,_,M,lo,by rw[e0],wr,_,M,Fb.of JJ.o.wr,λr nr=>q _ r (ak nr) nr ?_⟩;rw[ag,IV I]
def OW.di {x:OZ} (A:OW K t H a F x):∀e∈x.di,H e.1=some (.tup e.2):=by
 obtain⟨s,l,wr,p,h,Fs,Fl,JJ,O,g⟩:=A;exact JJ.o.dr
def wz (K:JK) (t:OJ):Sp:=λvs H Q _=>∃(a:Addr) (F:Addr->Prop) (x:OZ),vs=[.ref a]/\OW K t H a F x/\x.ho.length<4000/\
 ∀(H':Hp) (l:Addr) (ms:List Int),Fa H H'->H l=none->H' l=some (.lst<|ms.map V.int)->ms.Perm (x.ho.map (·.1))->ms.Pairwise (· <= ·)->Q (.ref l) H'
def xo:CU P w K mg base OL 1 t.qr t.ko ["self"] (wz K t):=by
 refine T.JV.okl wR λs H vs Q E G h _=>?_;intro X;obtain⟨a,F,x,rfl,A,l1,q⟩:=h;refine⟨_,(az<|aD<|aE (sM G.hd) {_} T.BL uM (ac (au BC M) ai))
  ,?_⟩
 obtain⟨s,l,wr,p,h,Fs,Fl,JJ,O,g⟩:=A;obtain⟨dx,ho⟩:=JJ.o.ob;exact⟨_,M,a,_,dx,_,_,M,ho,T.aO,T.uq,Nb,h,_,x.ho.map (·.1),M,.inl JJ.o.ho,uC,λl ms z I pw=>q _ l ms (ak z) z ag I pw⟩
def RW (t:OJ) (H:Hp) (p:Addr) (up:Bool) (a e:V):Prop:=∃dx fs,H p=some (.ins (if up=true then t.dO else t.b8) dx fs)/\zw (if up=true then "up" else "down") fs a e/\if up=true then R6 a e else R8 a e
def uW (up:Bool) (a:V) (ks:List Int):List Int:=match up,a with
 |true,.int i=>ks.filter λz=>decide (i<=z)
 |false,.int i=>ks.reverse.filter (fj<|some i)
 |_,_=>ks.reverse.filter (fj none)
def AD (K:JK) (t:OJ):Sp:=λvs H Q _=>∃(l p:Addr) (n:Int) (up:Bool) (a e:V) (F:Addr->Prop) (ks:List Int),vs=[.ref l,.ref p,.int n]/\Pn K t H l F ks/\RW t H p up a e/\ks.length<4096/\0<=n/\
 ∀(H':Hp) (r:Addr),Fa H H'->H r=none->H' r=some (.lst<|((uW up a ks).take n.toNat).map V.int)->Q (.ref r) H'
def AY:CU P w K mg base OL 3 t.u0 t.oB ["leaves","token","most"] (AD K t):=by
 refine T.Dd.okl AK λs H vs Q E I h _=>?_;intro X;obtain⟨l,p,n,up,a,e,F,ks,rfl,L,Y,l1,G,q⟩:=h;refine bU (λx=>aQ (cx<|aE (my K M) {_} T.dJ cy (ac M2<|ac (c8 (v:= .ref t.dO) {_} T.HN M) ai)) x aI) ?_;refine aA (aD<|aR BC T.aM T.EQ (qN T) I.mo T.Ff .nil ay<|ac (au M2 M)<|ac O1 ai) ?_
 intros
 refine aA (aD<|aR BC T.aM T.Di (oe T) I.mo T.Do .nil ay<|ac (au M2 M)<|ac O1 ai) ?_
 intros
 obtain⟨dx,fs,z,O,ok⟩:=Y;obtain⟨dl,fl,hl,U⟩:=L.ins;cases up with
 |true=>
  have z:H p=some (.ins t.dO dx fs):=z;obtain⟨i,rfl,i0,_⟩:=(show R6 a e from ok);exact⟨_,M,_,_,_,_,M,P0.ins z T.f7 T.mX.1 T.mX.2 T.mX.3 T.mX.4,T.Im,_,M,cH ⟨_,M,l,dl,fl,M,hl,U _ ∅,_,M,p,_,dx,fs,_,M,z,T.f7,T.ot,O.at_,_,M,l,i,n,F,ks,M,L,l1,G,q⟩⟩
 |false=>
  have z:H p=some (.ins t.b8 dx fs):=z;obtain⟨j,rfl,Z,ha⟩:=(show R8 a e from ok);refine⟨_,M,_,_,_,_,M,P0.ins z T.b7 T.fk.1 T.fk.2 T.fk.3 T.fk.4,T.Ee,_,M,cu ⟨_,M,l,dl,fl,M,hl,U _ ∅,_,M,p,_,dx,fs,_,M,z,T.b7,T.gv,O.at_,_,M,?_⟩⟩;rcases ha with rfl|⟨i,rfl,_⟩
  .exact⟨l,none,n,F,ks,M,L,l1,G,q⟩
  .exact⟨l,some i,n,F,ks,M,L,l1,G,q⟩
def va (t:OJ):Sp:=λvs H Q _=>∃(p:Addr) (up:Bool) (a e:V) (k:Int),vs=[.ref p,.int k]/\RW t H p up a e/\(if up=true then R6 (.int<|k+1) e else R8 (.int<|k-1) e)/\
 ∀(H':Hp) (r:Addr),Fa H H'->H r=none->RW t H' r up (.int<|if up=true then k+1 else k-1) e->Q (.ref r) H'
def vA:CU P w K mg base OL 5 t.oR t.i9 ["token","key"] (va t):=by
 refine T.yg.okl vk λs H vs Q E hr h _=>?_;intro X;obtain⟨p,up,a,e,k,rfl,TK,G,q⟩:=h;refine bU (λx=>aQ (cx<|aE (my K M) {_} T.dJ cy (ac BC<|ac (c8 (v:= .ref t.dO) {_} T.HN M) ai)) x aI) ?_;refine aA (aD<|jx T.Od (uV T) hr.mo {_} T.HN T.Er .nil ay (ac (ao bx M2 ae)<|ac (au BC M) ai)) ?_
 intros
 refine aA (aD<|jx T.KC (pY T) hr.mo {_} T.KD T.Bz .nil ay (ac (ao iX M2 ae)<|ac (au BC M) ai)) ?_
 intros
 obtain⟨dx,fs,I,tf,ok⟩:=TK;have kp:∀{H1 H':Hp} {r:Addr},Fa H H1->H r=none->Pu r H1 H'->Fa H H':=λs n k b o e=>k b o (s b o e) λz=>by rw[z,n]at e;cases e
 cases up with
 |true=>
  have I:H p=some (.ins t.dO dx fs):=I;have G:R6 (.int<|k+1) e:=G;have Z:Sc e:=by
   obtain⟨_,_,_,he|⟨j,he,_⟩⟩:=G
   .rw[he];exact VG
   .rw[he];exact T0 _
  refine⟨_,M,_,_,_,_,M,P0.ins I T.f7 T.mX.1 T.mX.2 T.mX.3 T.mX.4,T.Im,_,M,cH ⟨_,M,_,_,M,M,_,M,p,_,dx,fs,_,M,I,T.f7,T.iG,tf.end_,λr Y nr nd a0=>⟨r,Y,_,_,M,ag,T0 _,Z,λ_ H' fs' O h' U=>⟨M,?_⟩,λz=>Vt G z⟩⟩⟩;exact q H' r (kp (cm (ak nd) nr) nr O) nr ⟨Y,fs',h',U,G⟩
 |false=>
  have I:H p=some (.ins t.b8 dx fs):=I;have G:R8 (.int<|k-1) e:=G;have Z:Sc e:=by
   obtain⟨_,he,_⟩:=G;rw[he];exact T0 _
  refine⟨_,M,_,_,_,_,M,P0.ins I T.b7 T.fk.1 T.fk.2 T.fk.3 T.fk.4,T.Ee,_,M,cu ⟨_,M,_,_,M,M,_,M,p,_,dx,fs,_,M,I,T.b7,T.gP,tf.end_,λr Y nr nd a0=>⟨r,Y,_,_,M,ag,T0 _,Z,λ_ H' fs' O h' U=>⟨M,?_⟩,λz=>Vt G z⟩⟩⟩;exact q H' r (kp (cm (ak nd) nr) nr O) nr ⟨Y,fs',h',U,G⟩
def hK (up:Bool):V->V->Int->Bool:=if up=true then hU else hD
def cv (up:Bool) (a e:V) (ks:List Int):List Int:=(if up=true then ks else ks.reverse).filter (hK up a e)
def jt {α:Type} {h:α->Bool}:∀{xs:List α} {n:Nat},xs.Pairwise (λx y=>h y=true->h x=true)->(xs.take n).filter h=(xs.filter h).take n
 | [],n,_=>by rw[Xp,List.filter_nil,Xp]
 |x::r,0,_=>rfl
 |x::r,n+1,w=>by
  obtain⟨I,G⟩:=Zd.mp w;rw[XO];by_cases c:h x=true
  .rw[List.filter_cons_of_pos c,List.filter_cons_of_pos c,XO,jt G]
  .have z:r.filter h=[]:=ZZ.mpr λy hy O=>c (I y hy O);rw[List.filter_cons_of_neg c,List.filter_cons_of_neg c,jt G,z,Xp,Xp]
def FR {up:Bool} {a:V} (ok:if up=true then R6 a e else R8 a e) (r:dn ks):((uW up a ks).take n).filter (hK up a e)=(cv up a e ks).take n:=by
 cases up with
 |true=>
  obtain⟨i,rfl,i0,he⟩:=(show R6 a e from ok);have q:∀z,hU (.int i) e z=true->decide (i<=z)=true:=λz hz=>by
   rcases he with rfl|⟨j,rfl,_⟩
   .exact hz
   .exact(QL.mp hz).1
  show((ks.filter λz=>decide (i<=z)).take n).filter (hU (.int i) e)=(ks.filter<|hU (.int i) e).take n;rw[jt,List.filter_filter]
  .congr 1;refine V2 λz _=>?_;cases c:hU (.int i) e z with
   |true=>rw[q z c];rfl
   |false=>rfl
  .have I:(ks.filter λz=>decide (i<=z)).Pairwise (· < ·):=List.Pairwise.filter _ r;refine List.Pairwise.imp_of_mem (λ{x y} hx hy lt G=>?_) I;have hx:=(Qu.mp hx).2;rcases he with rfl|⟨j,rfl,_⟩
   .exact hx
   .refine QL.mpr ⟨hx,Vy ?_⟩;have:=Vw (QL.mp G).2;lia
 |false=>
  obtain⟨j,rfl,Z,ha⟩:=(show R8 a e from ok);have U:ks.reverse.Pairwise (λx y=>y<x):=XF.mpr r;obtain⟨k,Y,O⟩:∃k,uW false a ks=ks.reverse.filter (fj k)/\∀z,hD a (.int j) z=(decide (j<=z)&&fj k z):=by
   rcases ha with rfl|⟨i,rfl,_⟩
   .exact⟨none,M,λz=>(Bool.and_true _).symm⟩
   .exact⟨some i,M,λz=>M⟩
  rw[Y];show((ks.reverse.filter<|fj k).take n).filter (hD a<|.int j)=(ks.reverse.filter<|hD a<|.int j).take n;rw[jt,List.filter_filter]
  .congr 1;refine V2 λz _=>?_;rw[O];cases fj k z<;>cases decide (j<=z)<;>rfl
  .have I:(ks.reverse.filter<|fj k).Pairwise (λx y=>y<x):=List.Pairwise.filter _ U;refine List.Pairwise.imp_of_mem (λ{x y} hx hy lt G=>?_) I;have hx:=(Qu.mp hx).2;rw[O]at G⊢;refine QL.mpr ⟨Vy ?_,hx⟩;have:=Vw (QL.mp G).1;lia
def FO {up:Bool} {a:V} {k':Int} (ok:if up=true then R6 a e else R8 a e) (r:dn ks) (h:(cv up a e ks)[i]?=some k) (h':(cv up a e ks)[i+1]?=some k'):if up=true then R6 (.int<|k+1) e else R8 (.int<|k-1) e:=by
 obtain⟨hi,G⟩:=Q2.mp h;obtain⟨hi',z⟩:=Q2.mp h';have m:=(Qu.mp (G▸Zq hi:k∈cv up a e ks)).2;have m':=(Qu.mp (z▸Zq hi':k'∈cv up a e ks)).2;cases up with
 |true=>
  obtain⟨i,rfl,i0,he⟩:=(show R6 a e from ok);have lt:k<k':=by
   have:=(QX.mp<|List.Pairwise.filter (hU (.int i) e) r) _ _ hi hi' (ZA _);rwa[<-G,<-z]
  have m:hU (.int i) e k=true:=m;have m':hU (.int i) e k'=true:=m';rcases he with rfl|⟨j,rfl,_⟩
  .have:=Vw m;exact⟨k+1,M,(),.inl M⟩
  .have:=Vw (QL.mp m).1;have:=Vw (QL.mp m').2;exact⟨k+1,M,(),.inr ⟨j,M,()⟩⟩
 |false=>
  obtain⟨j,rfl,I,ha⟩:=(show R8 a e from ok);have O:ks.reverse.Pairwise (λx y=>y<x):=XF.mpr r;have lt:k'<k:=by
   have:=(QX.mp<|List.Pairwise.filter (hD a<|.int j) O) _ _ hi hi' (ZA _);rwa[<-G,<-z]
  have m':hD a (.int j) k'=true:=m';have:j<=k':=by
   rcases ha with rfl|⟨i,rfl,_⟩
   .exact Vw m'
   .exact Vw (QL.mp m').1
  exact⟨j,M,I,.inr ⟨k-1,M,()⟩⟩
def NxK (t:OJ) (H H':Hp) (p:Addr) (up:Bool) (e:V) (hs:List Int) (m:Nat) (v:V):Prop:=if hs.length<=m then v= .non else if m=0 then v= .ref p else ∃(q:Addr) (k:Int),hs[m-1]?=some k/\v= .ref q/\H q=none/\RW t H' q up (.int<|if up=true then k+1 else k-1) e
def EY {xs:List Int} {x:V} (h:(xs.map V.int)[i]?=some x):∃k:Int,x= .int k/\xs[i]?=some k:=by
 rw[Qn]at h;cases e:xs[i]? with
 |none=>rw[e]at h;cases h
 |some k=>rw[e]at h;cases h;exact⟨k,M,M⟩
def z6 {P:Int->Bool} {xs:List Int} (e:xs[i]?=some k):(xs.take<|i+1).filter P=(xs.take i).filter P++(if P k=true then[k]else[]):=by
 rw[Qq,e,QE];by_cases c:P k=true
 .rw[Vp c];simp[c]
 .rw[Vo c];simp[c]
def IF (P:Int->Bool) (xs:List Int) (i:Nat):((xs.take i).filter P).length<=xs.length:=by
 have h1:=Qp P (xs.take i);have h2:(xs.take i).length<=xs.length:=by rw[Q6];lia
 lia
def RW.same {up:Bool} {a:V} (h:RW t H p up a e) (s:Fa H H'):RW t H' p up a e:=by
 obtain⟨dx,fs,z,r⟩:=h;exact⟨dx,fs,s _ _ z,r⟩
def RW.ok {up:Bool} {a:V} (h:RW t H p up a e):if up=true then R6 a e else R8 a e:=by
 obtain⟨dx,fs,z,G,ok⟩:=h;exact ok
def HF {up:Bool} {a:V} {z:Int} (h:z∈uW up a ks):z∈ks:=by
 unfold uW at h;split at h
 .exact(Qu.mp h).1
 .exact ZN.mp (Qu.mp h).1
 .exact ZN.mp (Qu.mp h).1
def HG {up:Bool} {a:V}:(uW up a ks).length<=ks.length:=by
 unfold uW;split
 .exact Qp _ _
 .exact Qz (Qp _ _)<|Zw Zb
 .exact Qz (Qp _ _)<|Zw Zb
def dHK {up:Bool}:SI (D1 t.dO<|dL t) (D1 t.b8<|cE t) (if up=true then t.dO else t.b8) (if up=true then dL t else cE t):=by
 cases up
 .exact .inr ⟨M,M⟩
 .exact .inl ⟨M,M⟩
def KU {up:Bool} {a:V} {E:XK} (h:H p=some (.ins (if up=true then t.dO else t.b8) dx fs)) (f:zw (if up=true then "up" else "down") fs a e) (ok:if up=true then R6 a e else R8 a e) (z:0<=k)
  (q:∀H',Fa H H'->Q (.bl<|hK up a e k) H'):(if up=true then dL t else cE t) [.ref p,.int k] H Q E:=by
 cases up
 .exact⟨p,dx,fs,a,e,k,M,h,f,ok,z,q⟩
 .exact⟨p,dx,fs,a,e,k,M,h,f,ok,z,q⟩
def vb (K:JK) (t:OJ):Sp:=λvs H Q _=>∃(l p:Addr) (n:Int) (up:Bool) (a e:V) (F:Addr->Prop) (ks:List Int),vs=[.ref l,.ref p,.int n]/\Pn K t H l F ks/\RW t H p up a e/\ks.length<4096/\(∀k∈ks,0<=k)/\
 ∀(H':Hp) (r g:Addr) (v:V),Fa H H'->H r=none->H g=none->H' r=some (.tup [.ref g,v])->H' g=some (.lst<|((cv up a e ks).take n.toNat).map V.int)->NxK t H H' p up e (cv up a e ks) n.toNat v->Q (.ref r) H'
def vC:CU P w K mg base OL 6 t.oT t.jd ["leaves","token","many"] (vb K t):=by
 refine T.yj.okl PV λs H vs Q E hr h _=>?_;intro X;obtain⟨l,p,n,up,a,e,F,ks,rfl,L,TK,l1,k0,q⟩:=h;refine aj (OM 3<|aE (pJ M) {_} T.GU Bs (ac O1<|ac ae ai))
   (aj (Hv (i:=4) M (OO.of (M':=["key"]) (N:=["leaves","token","many","most","held","page"]) (N':=["leaves","token","many","most","held","page"]) (dsc:=al fv) M M ∅) (cK<|aL (AY T) hr.mo {_} T.LI T.Dd.kp T.LQ .nil ay (ac BC<|ac M2<|ac (ao bx OR ae) ai)) (λ_ _ _ _ _=>(cx<|rT (kk:=1) (fN (bR T.f7 T.ou (iz T) T.oO (_))<|bR T.b7 T.jY (fF T) T.ku (_)) hr.mo O1<|ac BC ai)) (λ_ _ _ _ _=>BC) PV.nd M M)
   (aj (OM 5<|cn c6 PF gJ<|b6 OR)
   (aj (aQ (aq bP (aE aC {_} T.bL bf (ac PF ai)) (aE aC {_} T.bL bf (ac Pj ai))<|aw _)
    (az<|aD<|bO<|ac Pj<|ac a7 ai)
    aI)
   (aj (aQ (aq bP (aE aC {_} T.bL bf (ac Pj ai)) ae<|aw _)
    (az<|aD<|bO<|ac Pj<|ac M2 ai)
    aI)
   (aA (aD<|bO<|ac Pj<|ac (aL (vA T) hr.mo {_} T.HU T.yg.kp T.Ja .nil ay (ac M2<|ac (aS aU Pj (Hx DA ae)<|λ_ _=>M) ai)) ai) ?_)))))
 intros
 have RK:=L.rise;refine⟨_,M,n,0,M,?_⟩;obtain⟨m,em⟩:∃m:Nat,n.toNat=m:=⟨_,M⟩;have e0:(if(0:Int)>n then(0:Int)else n)=(m:Int):=by
  rw[<-em];split<;>lia
 rw[e0];rw[em]at q;have ok:=TK.ok;refine⟨_,M,_,M,_,M,_,_,M,M,l,p,(m:Int)+1,up,a,e,F,ks,M,L,TK,l1,(),λH1 g1 s1 a3 h1=>?_⟩;rw[show((m:Int)+1).toNat=m+1 by lia]at h1;obtain⟨ns,O⟩:∃ns,(uW up a ks).take (m+1)=ns:=⟨_,M⟩;have fl:=FR (n:=m+1) ok RK;rw[O]at h1 fl;have nl:ns.length<=4096:=by
  rw[<-O];have h1:=HG (up:=up) (a:=a) (ks:=ks);rw[Q6];lia
 have n0:∀z∈ns,0<=z:=λz hz=>k0 z (HF<|QC<|O▸hz);refine⟨g1,M,⟨_,Fb.of h1⟩,λD hD=>?_⟩;refine mw (K:=K) (a:=g1) (xs:=ns.map V.int) (λi ys H2=>Fa H1 H2/\ys=((ns.take i).filter<|hK up a e).map V.int) ⟨ak hD,M⟩ (λi ys H2 _ w=>Fb.of<|w.1 _ _ h1) (λi x ys H2 hx w G=>?_)<|λys H2 w G=>?_
 .obtain⟨s2,ey⟩:=w;have hi:i<(ns.map V.int).length:=(Q2.mp hx).1;obtain⟨g,rfl,eg⟩:=EY hx;obtain⟨dx,fs,hp,tf,_⟩:=TK.same (s1.trans s2);have a4:=IF (hK up a e) ns i;refine⟨_,M,p,_,dx,fs,_,M,hp,tf.ho,dHK,_,M,KU hp tf ok (n0 g<|Q1 eg) λH3 s3=>⟨_,M,?_⟩⟩;by_cases c:hK up a e g=true
  .rw[c];refine cH ⟨_,M,P7.mk hi (s3 _ _ G) (bg<|by rw[ey,Q0];lia) ⟨cm (s2.trans s3) hD,?_⟩⟩;rw[ey,z6 eg,Vp c,Qg];rfl
  .rw[QV.mpr c];refine cu<|PZ.mk hi (s3 _ _ G) ⟨s2.trans s3,?_⟩;rw[ey,z6 eg,Vo c,Zj]
 obtain⟨s2,ey⟩:=w;rw[ey,Q0,QB,fl]at G;clear ey h1 O fl nl n0;have U:=s1.trans s2;obtain⟨hs,Y⟩:∃hs,cv up a e ks=hs:=⟨_,M⟩;rw[Y]at G q;refine⟨_,M,_,M,(m:Int),M,D,_,M,Fb.of G,λg ng=>?_⟩;rw[jo (XQ m),<-Z8,show((m:Int)).toNat=m by lia,XI,Zk (Zp m)];have Z:H g=none:=eP U ng;have I:upd H2 g (.lst<|(hs.take m).map V.int) g=some (.lst<|(hs.take m).map V.int):=ag;have a0:upd H2 g (.lst<|(hs.take m).map V.int) D=some (.lst<|(hs.take<|m+1).map V.int):=by rwa[af (am G ng)]
 have s3:=U.trans (ak (o:= .lst<|(hs.take m).map V.int) ng);generalize upd H2 g (.lst<|(hs.take m).map V.int)=H3 at I a0 s3⊢;clear G ng s2 U s1 hD;refine⟨_,M,D,_,M,.inl<|Fb.of a0,_,M,g,_,M,.inl<|Fb.of I,M,_,M,?_⟩;by_cases c:hs.length<=m
 .refine fK ?_ ⟨_,M,(by show 2<=sizeLine;decide),λr nr=>?_⟩
  .rw[Qv (),Qv c]
  .refine q _ r g .non (s3.trans<|ak nr) (eP s3 nr) Z ag (by rw[af (am I nr)];exact I) ?_;unfold NxK;rw[Vp c]
 refine a9 ?_ ?_
 .intro z;have z:=V.int.inj z;rw[Q0,Q0,Q6,Q6]at z;lia
 refine⟨_,M,g,_,M,.inl<|Fb.of I,M,_,M,?_⟩;by_cases d:m=0
 .refine fK ?_ ⟨_,M,_,M,(by show 2<=sizeLine;decide),λr nr=>?_⟩
  .rw[d];rfl
  .refine q _ r g (.ref p) (s3.trans<|ak nr) (eP s3 nr) Z ag (by rw[af (am I nr)];exact I) ?_;unfold NxK;rw[Vo c,Vp d]
 refine a9 ?_ ?_
 .intro z;have z:=V.int.inj z;rw[Q0,Q6]at z;lia
 obtain⟨k,ek⟩:∃k,hs[m-1]?=some k:=⟨_,Q3 ()⟩;obtain⟨k',a1⟩:∃k',hs[m-1+1]?=some k':=⟨_,Q3 ()⟩;have ob:=FO ok RK (Y▸ek) (Y▸a1);refine⟨_,M,_,M,_,M,_,M,g,_,_,.int k,M,M,Fb.of I,?_,p,up,a,e,k,M,TK.same s3,ob,λH4 b s4 nb a2=>⟨(by show 2<=sizeLine;decide),λr nr=>?_⟩⟩
 .refine Fh (λz=>?_) ?_
  .have:=VH List.length z;rw[Q6]at this;have:([]:List Int).length=0:=M;lia
  .rwa[Q6,Zk (),Xn ()]
 refine q _ r g (.ref b) ((s3.trans s4).trans<|ak nr) (eP (s3.trans s4) nr) Z ag (by rw[af (am (s4 _ _ I) nr)];exact s4 _ _ I) ?_;unfold NxK;rw[Vo c,Vo d];exact⟨b,k,ek,M,eP s3 nb,a2.same<|ak nr⟩
def yF (K:JK) (t:OJ):Sp:=λvs H Q _=>∃(a:Addr) (k:Int) (v:V) (F:Addr->Prop) (x:OZ),vs=[.ref a,.int k]/\OW K t H a F x/\0<=k/\aG x.st.kv k=some v/\∀H' F',OW K t H' a F' x->Fr F F' H H'->Q v H'
def ze:CU P w K mg base OL 5 t.tw t.mq ["self","key"] (yF K t):=by
 refine T.Lm.okl yV λs H vs Q E Y h _=>?_;intro X;obtain⟨a,k,v,F,x,rfl,A,k0,U,q⟩:=h;refine⟨_,(az<|aD<|aR (au BC M) T.aK T.KI (za T) Y.mo T.La .nil ay<|ac M2 ai)
  ,?_⟩
 obtain⟨s,l,wr,p,h,Fs,Fl,JJ,O,g⟩:=A;obtain⟨dx,ho⟩:=JJ.o.ob;obtain⟨ds,fs,hs,Z⟩:=JJ.sl.ins;refine⟨_,M,a,_,dx,_,_,M,ho,T.aO,T.dD,xK,s,ds,fs,M,hs,Z _ ∅,_,M,s,k,Fs,x.st,M,JJ.sl,k0,λv' G H1 I S1 f1=>?_,λz=>by rw[U]at z;cases z⟩;rw[U]at G;cases G;obtain⟨B1,g1⟩:=JJ.slots S1 f1;exact q H1 (RD a wr p h I Fl x.pa) ⟨s,l,wr,p,h,I,Fl,B1,O,λ_=>Iff.rfl⟩ λb o n e=>g1 b o (λz=>n<|(g b).mpr z) e
def NxH (t:OJ) (H H':Hp) (F':Addr->Prop) (p:Addr) (up:Bool) (e:V) (hs:List Int) (m:Nat) (v:V):Prop:=if hs.length<=m then v= .non else if m=0 then v= .ref p else ∃(q:Addr) (k:Int),hs[m-1]?=some k/\v= .ref q/\H q=none/\¬F' q/\RW t H' q up (.int<|if up=true then k+1 else k-1) e
def Mq (K:JK) (t:OJ) (more:List V):Sp:=λvs H Q _=>∃(a p:Addr) (n:Int) (up:Bool) (av e:V) (F:Addr->Prop) (x:OZ),vs=[.ref a,.ref p,.int n]++more/\OW K t H a F x/\RW t H p up av e/\¬F p/\x.ks.length<4096/\(∀k∈x.ks,0<=k)/\
 ∀(H':Hp) (F':Addr->Prop) (r g:Addr) (v:V) (ts:List Tp),OW K t H' a F' x->Fr F F' H H'->PgA H H' F F' r g v ts->ts.map (·.k)=(cv up av e x.ks).take n.toNat->(∀e∈ts,aG x.st.kv e.k=some e.v)->NxH t H H' F' p up e (cv up av e x.ks) n.toNat v->Q (.ref r) H'
def mD (K:JK) (t:OJ):Sp:=Mq K t []
def OW.lvs {x:OZ} (A:OW K t H a F x):∃(dx:Addr) (fs:List (Str×V)) (l:Addr) (Fl:Addr->Prop),H a=some (.ins t.bc dx fs)/\fs.lookup ("leaves":Str)=some (.ref l)/\Pn K t H l Fl x.ks:=by
 obtain⟨s,l,wr,p,h,Fs,Fl,JJ,O,g⟩:=A;obtain⟨dx,ho⟩:=JJ.o.ob;exact⟨dx,_,l,Fl,ho,Ej,JJ.lv⟩
def Iw {up:Bool} {a:V} {z:Int} (h:z∈cv up a e ks):z∈ks:=by
 have h:=(Qu.mp h).1;cases up
 .exact ZN.mp h
 .exact h
def Ix {up:Bool} {a:V}:(cv up a e ks).length<=ks.length:=by
 refine Qz (Qp _ _) ?_;cases up
 .exact Zw Zb
 .exact Q4 _
def vB:CU P w K mg base OL 7 t.oS t.jc ["house","token","many"] (mD K t):=by
 refine T.yi.okl vn λs H vs Q E hr h _=>?_;intro X;obtain⟨a,p,n,up,av,e,F,x,rfl,A,TK,np,l1,k0,q⟩:=h;refine aj (OM 3<|aL (vC T) hr.mo {_} T.HW T.yj.kp T.Jc .nil ay (ac (au BC M)<|ac M2<|ac O1 ai))
   (aA (aD<|bO<|ac (pB M (OO.of (M':=["key"]) (N:=["house","token","many","page"]) (N':=["house","token","many","page"]) (dsc:=al fu) M M ∅) (cK<|aS bB OR ae<|λ_ _=>M)<|λ_ _ _ _ _=>(bO<|ac BC<|ac (aR M2 T.aO T.KK (ze T) hr.mo T.Ld .nil ay<|ac BC ai) ai))<|ac (aS bB OR ae<|λ_ _=>M) ai) ?_)
 intros
 obtain⟨dx,fs,l,Fl,ho,hl,L⟩:=A.lvs;refine⟨_,M,a,_,dx,fs,_,M,ho,T.aO,T.g7,hl,_,M,_,M,l,p,n,up,av,e,Fl,x.ks,M,L,TK,l1,k0,λH1 r1 g1 v s1 a4 a5 a1 U nx=>?_⟩;have A1:=A.same s1;have f1:Fr F F H H1:=Fr.of_same s1;clear TK;obtain⟨pk,Y⟩:∃pk,(cv up av e x.ks).take n.toNat=pk:=⟨_,M⟩;have pm:∀z∈pk,z∈x.ks:=λz hz=>Iw (QC<|Y▸hz);have pl:pk.length<=4096:=by
  have:=Ix (up:=up) (a:=av) (e:=e) (ks:=x.ks);rw[<-Y,Q6];lia
 rw[Y]at U q;refine⟨_,M,r1,_,_,_,M,M,OX.of a1,M,g1,M,⟨_,Fb.of U⟩,λD hD=>?_⟩;refine uL (K:=K) (a:=g1) (xs:=pk.map V.int) (λi ys H2=>∃(G:Addr->Prop) (ts:List Tp),OW K t H2 a G x/\Fr F G H1 H2/\¬G D/\ys=ts.map (λe=>V.ref e.p)/\ts.map (·.k)=pk.take i/\∀e∈ts,H2 e.p=some (.tup [.int e.k,e.v])/\¬G e.p/\aG x.st.kv e.k=some e.v) ⟨F,[],A1.same<|ak hD,Fr.of_same<|ak hD,A1.out hD,M,M,λe he=>Vt he Z7⟩ (λi ys H2 _ w=>?_) (λi y ys H2 hy w I=>?_)<|λys H2 w I=>?_
 .obtain⟨G,ts,A2,O,_⟩:=w;exact Fb.of (O _ _ (A.out a5) U).1
 .obtain⟨G,ts,A2,O,nD,ey,Z,tu⟩:=w;have hi:i<(pk.map V.int).length:=(Q2.mp hy).1;obtain⟨k,rfl,hk⟩:=EY hy;have km:=pm k (Q1 hk);obtain⟨v2,a2⟩:=ZP.mp ((A1.ok.ks k).mp km);obtain⟨d2,aa,ab,ah,_⟩:=A2.ins;refine⟨_,M,_,M,a,d2,aa,M,ab,ah _ ∅,_,M,a,k,v2,G,x,M,A2,k0 k km,a2,λH3 F3 A3 f3=>⟨(by show 2<=sizeLine;decide),λb nb=>?_⟩⟩;obtain⟨an,a3⟩:=f3 _ _ nD I;have sb:Fa H3 (upd H3 b<|.tup [.int k,v2]):=ak nb;have hb:upd H3 b (.tup [.int k,v2]) b=some (.tup [.int k,v2]):=ag;generalize upd H3 b (.tup [.int k,v2])=H4 at sb hb⊢;have A4:=A3.same sb;have ax:=A3.out nb;have f4:Fr F F3 H1 H4:=O.trans (f3.trans<|Fr.of_same sb);have a0:=sb _ _ an;have tl:ts.length<=4096:=by
   have:=VH List.length Z;rw[Q0,Q6]at this;lia
  refine P7.mk hi a0 (bg<|by rw[ey,Q0];lia) ⟨F3,ts++ [⟨b,k,v2⟩],A4.upd a3 (λxs z=>by rw[a0]at z;cases z),λc o n e=>⟨by rw[af (am e hD)];exact(f4 c o n e).1,(f4 c o n e).2⟩,a3,by rw[ey,Qg];rfl,by rw[Qg,Z,Qq,hk];rfl,λe he=>?_⟩;have key:H4 e.p=some (.tup [.int e.k,e.v])/\¬F3 e.p/\aG x.st.kv e.k=some e.v:=by
   rcases Q5.mp he with he|he
   .obtain⟨t1,t2,t3⟩:=tu e he;obtain⟨t4,t5⟩:=f3 _ _ t2 t1;exact⟨sb _ _ t4,t5,t3⟩
   .rw[Q7.mp he];exact⟨hb,ax,a2⟩
  refine⟨?_,key.2⟩;rw[af (λz=>by rw[z,a0]at key;cases key.1)];exact key.1
 obtain⟨G,ts,A2,O,nD,ey,Z,tu⟩:=w;rw[ey]at I;rw[Q0,QB]at Z;have b1:=O _ _ (A.out a4) a1;refine⟨_,M,r1,_,_,_,M,M,OX.of b1.1,M,(by show 2<=sizeLine;decide),λr nr=>?_⟩;have s3:Fa H2 (upd H2 r<|.tup [.ref D,v]):=ak nr;have hr:upd H2 r (.tup [.ref D,v]) r=some (.tup [.ref D,v]):=ag;have nF:=A2.out nr;generalize upd H2 r (.tup [.ref D,v])=H3 at s3 hr⊢;have f3:Fr F G H H3:=f1.trans (O.trans<|Fr.of_same s3);refine q H3 G r D v ts (A2.same s3) f3 ⟨hr,s3 _ _ I,λe he=>⟨s3 _ _ (tu e he).1,(tu e he).2.1⟩,⟨λz=>?_,nF⟩,⟨λ_=>eP s1 hD,nD⟩⟩ Z (λe he=>(tu e he).2.2) ?_
 .cases eo:H r with
  |none=>rfl
  |some o=>rw[((f1.trans O) _ _ z eo).1]at nr;cases nr
 .unfold NxK at nx;unfold NxH;by_cases c:(cv up av e x.ks).length<=n.toNat
  .rw[Vp c]at nx⊢;exact nx
  .rw[Vo c]at nx⊢;by_cases d:n.toNat=0
   .rw[Vp d]at nx⊢;exact nx
   .rw[Vo d]at nx⊢;obtain⟨b,k,Z,ev,nb,dy,fy,hy,ry⟩:=nx;obtain⟨h2,n2⟩:=O _ _ (A.out nb) hy;exact⟨b,k,Z,ev,nb,n2,dy,fy,s3 _ _ h2,ry⟩
noncomputable def yp (Jl j r:Int):Int:=if j<(r/Jl+1)*Jl then j else(r/Jl+1)*Jl
def a6 (Jl j i:Int):Nat->Int
 |0=>i
 |n+1=>yp Jl j (a6 Jl j i n)
def Hc {j r:Int} (z:0<Jl) (h:r<j):r<yp Jl j r/\yp Jl j r<=j:=by
 have:=Xh r z;unfold yp;split<;>lia
def rR {Jl j i:Int} (G:0<Jl) (h:i<=j):∀n:Nat,(∀x<n,a6 Jl j i x<j)->i<=a6 Jl j i n/\a6 Jl j i n<=j/\(0<n->yp Jl j i<=a6 Jl j i n)
 |0,_=>⟨Zg _,h,λz=>Vt z (_)⟩
 |n+1,w=>by
  obtain⟨a,b,c⟩:=rR G h n λx hx=>w x ();obtain⟨d,e⟩:=Hc G (w n ());refine⟨show i<=yp Jl j (a6 Jl j i n) by lia,e,λ_=>?_⟩;cases n with
  |zero=>exact Zg _
  |succ m=>exact Int.le_trans (c ()) (XY d)
structure RI (st:O8) (lo hi:Int) (ps:List (Int×V)):Prop where
 so:ps.Pairwise uc
 me:∀k v,(k,v)∈ps↔(k,v)∈st.kv/\lo<=P4 k/\P4 k<hi
def RI.app (h:RI st lo m ps) (g:RI st m hi qs) (l1:lo<=m) (G:m<=hi):RI st lo hi (ps++qs):=by
 refine⟨Ql.mpr ⟨h.so,g.so,λx hx y hy=> .inl ?_⟩,λk v=>?_⟩
 .have a:=((h.me x.1 x.2).mp hx).2;have b:=((g.me y.1 y.2).mp hy).2;lia
 .rw[Q5,h.me,g.me];constructor
  .rintro (⟨x,y,z⟩|⟨x,y,z⟩)
   .exact⟨x,y,()⟩
   .exact⟨x,(),z⟩
  .rintro ⟨x,y,z⟩;by_cases d:P4 k<m
   .exact .inl ⟨x,y,d⟩
   .exact .inr ⟨x,(),z⟩
def RI.uniq (h:RI st lo hi ps) (g:RI st lo hi qs):ps=qs:=by
 have nd:∀{l:List (Int×V)},l.Pairwise uc->l.Nodup:=λw=>w.imp λ{a b} z e=>by
  rw[e]at z;unfold uc at z;lia
 refine List.Perm.eq_of_pairwise (λx y _ _ h1 h2=>?_) h.so g.so<|(Vn (nd h.so)<|nd g.so).mpr λx=>(h.me x.1 x.2).trans (g.me x.1 x.2).symm;unfold uc at h1 h2;lia
def RI.len (h:RI st lo hi ps):ps.length<=st.kv.length:=by
 refine gO (h.so.imp λ{a b} z e=>?_) λx hx=>((h.me x.1 x.2).mp hx).1;rw[e]at z;unfold uc at z;lia
structure Rx (st:O8) (i j n:Int) (m:Nat) (ps:List (Int×V)):Prop where
 rw:RI st i (a6 (65536/st.low) j i m) ps
 go:∀x<m,a6 (65536/st.low) j i x<j
 le:∀x,0<x->x<m->∀qs,RI st i (a6 (65536/st.low) j i x) qs->(qs.length:Int)<n/\(x:Int)<4*n
 st:a6 (65536/st.low) j i m=j\/(0<m/\(n<=ps.length\/4*n<=m))
def SG (t:OJ) (H:Hp) (p:Addr) (i j:Int):Prop:=∃(dx:Addr) (fs:List (Str×V)),H p=some (.ins t.aV dx fs)/\zw "slots" fs (.int i) (.int j)/\0<=i/\i<=j/\j<=65536
def SG.fr {i j:Int} (h:SG t H p i j) (n:¬F p) (f:Fr F F' H H'):SG t H' p i j/\¬F' p:=by
 obtain⟨dx,fs,z,r⟩:=h;exact⟨⟨dx,fs,(f _ _ n z).1,r⟩,(f _ _ n z).2⟩
def S9 (t:OJ) (H H':Hp) (F F':Addr->Prop) (r j:Int) (v:V):Prop:=if r=j then v= .non else ∃q:Addr,v= .ref q/\(¬F q->H q=none)/\¬F' q/\SG t H' q r j
def tJ (K:JK) (t:OJ):Sp:=λvs H Q _=>∃(a p:Addr) (n i j:Int) (F:Addr->Prop) (st:O8),vs=[.ref a,.ref p,.int n]/\PK K t H a F st/\SG t H p i j/\¬F p/\1<=n/\n<=1000/\st.kv.length<4096/\(∀p∈st.kv,∃i:Int,p.2= .int i)/\
 ∀(H':Hp) (F':Addr->Prop) (r g:Addr) (v:V) (ts:List Tp) (m:Nat),PK K t H' a F' st->Fr F F' H H'->PgA H H' F F' r g v ts->Rx st i j n m (ts.map Tp.kv)->S9 t H H' F F' (a6 (65536/st.low) j i m) j v->Q (.ref r) H'
structure Rr (K:JK) (t:OJ) (H H':Hp) (a p l:Addr) (F F':Addr->Prop) (st:O8) (i j:Int) (m:Nat) (ts:List Tp):Prop where
 sl:PK K t H' a F' st
 fr:Fr F F' H H'
 tk:SG t H' p i j
 np:¬F' p
 ol:¬F' l
 li:H' l=some (.lst<|ts.map λe=>V.ref e.p)
 tu:∀e∈ts,H' e.p=some (.tup [.int e.k,e.v])/\¬F' e.p
 rw:RI st i (a6 (65536/st.low) j i m) (ts.map Tp.kv)
 go:∀x<m,a6 (65536/st.low) j i x<j
def Rr.move {l:Addr} {F1:Addr->Prop} {i j:Int} {m:Nat} (h:Rr K t H H' a p l F F' st i j m ts) (s1:PK K t H1 a F1 st) (z:Fr F' F1 H' H1):Rr K t H H1 a p l F F1 st i j m ts:=
 ⟨s1,h.fr.trans z,(h.tk.fr h.np z).1,(h.tk.fr h.np z).2,(z _ _ h.ol h.li).2,(z _ _ h.ol h.li).1,λe he=>z _ _ (h.tu e he).2 (h.tu e he).1,h.rw,h.go⟩
def uh:CU P w K mg base OL 5 t.mJ t.g9 ["slots","token","many"] (tJ K t):=by
 obtain⟨I,G⟩:=T.g_STRETCHES_A_KEY;refine T.vQ.okl PP λs H vs Q E hr h _=>?_;intro X;obtain⟨a,p,n,i,j,F,st,rfl,hA,TK,np,n1,n2,l4,iv,q⟩:=h;refine aj (OM 3<|bZ ai)
   (aj (OM 4<|au M2 M)
   (aj (OM 5 ae)
   (bU (λx=>(nQ VC (aq eF PF (au M2 M)<|aw _)
    x)) ?_)))
 refine aj (OM 6<|aE (pI M) {_} T.BM uN (ac (aR BC T.aK T.zh (nV T) hr.mo T.zq .nil ay<|ac PF ai)<|ac (au M2 M) ai))
   (aj (aN<|dC Qr ZR ZS pC OR<|ac (aR BC T.aK T.Jt (xg T) hr.mo T.JA .nil ay<|ac PF<|ac RN ai) ai)
   (aj (OM 4 RN)
   (aj (DY (i:=5) PP.nd M (Or.inl M) ae Ip)
   (aA (aQ (PW.pt<|ie (aq zN (aE aC {_} T.bL bf (ac OR ai)) O1<|aw _)<|gZ<|aq zN Pj (ao cM (c8 (v:= .int 4) {_} G ⟨_,M⟩) O1)<|aw _)
    (az Hw)
    aI) ?_))))
 intros
 refine aj (aQ (aq bP PF (au M2 M)<|aw _)
    (az<|aD<|bO<|ac OR<|ac a7 ai)
    aI)
   (aA (aD<|bO<|ac OR<|ac (jx T.D7 (kE T) hr.mo {_} T.xz T.vO .nil ay (ac PF<|ac (au M2 M) ai)) ai) ?_)
 intros
 have z:OT st:=let⟨_,_,_,_,_,z⟩:=hA;z
 obtain⟨s4,Z⟩:=bY (jZ z);obtain⟨_,_,R⟩:=AS (jZ z);have W0:=R.wpos';obtain⟨dx,fs,O,tf,i0,ij,j1⟩:=id TK;refine⟨Qj _,λl nl=>?_⟩;have W1:Rr K t H (upd H l<|.lst []) a p l F F st i j 0 []:=⟨hA.new nl,Fr.of_same<|ak nl,⟨dx,fs,by rwa[af (am O nl)],tf,i0,ij,j1⟩,np,hA.out nl,ag,(λe he=>by cases he),⟨VJ,λk v=>⟨λh=>by(cases h),λh=>by have:=h.2;simp only[a6]at this;lia⟩⟩,λx hx=>Vt hx<|XB x⟩;refine⟨_,M,p,_,dx,fs,_,M,by rwa[af (am O nl)],T.bC,T.gK,tf.at_,?_⟩
 (try dsimp only)
 generalize upd H l (.lst [])=H1 at W1⊢;clear O tf dx fs;show Az (G5 _ _) _ _ _ H1;refine dM (λB H'=>∃(F':Addr->Prop) (m:Nat) (ts:List Tp) (Y:Option V),B=[some (.ref a),some (.ref p),some (.int n),some (.ref l),some (.int<|a6 (65536/st.low) j i m),some (.int m),Y]/\Rr K t H H' a p l F F' st i j m ts/\Rx st i j n m (ts.map Tp.kv)) (λnx go=>?_)<|λB H2 w=>?_
 .refine⟨λmm B H'=>∃(F':Addr->Prop) (m:Nat) (ts:List Tp) (Y:Option V),mm=(j-a6 (65536/st.low) j i m).toNat/\B=[some (.ref a),some (.ref p),some (.int n),some (.ref l),some (.int<|a6 (65536/st.low) j i m),some (.int m),Y]/\Rr K t H H' a p l F F' st i j m ts/\(∀x,0<x->x<=m->∀qs,RI st i (a6 (65536/st.low) j i x) qs->(qs.length:Int)<n/\(x:Int)<4*n),⟨_,F,0,[],none,M,M,W1,λx x0 xm=>Vt x0 ()⟩,λmm B H' w=>?_⟩;obtain⟨F',m,ts,Y,rfl,aa,w,lt⟩:=w;subst aa;obtain⟨dx,fs,O,tf,_⟩:=id w.tk;obtain⟨r0,r1,_⟩:=rR W0 ij m w.go;refine⟨_,M,_,M,p,_,dx,fs,_,M,O,T.bC,T.b5,tf.end_,_,_,M,M,_,M,bQ (λc=>?_)<|λc=>?_⟩
  .have c:=Vw c;obtain⟨r2,r3⟩:=Hc W0 c;refine⟨λa2 H2=>∃(F2:Addr->Prop) (a0:List Tp) (Y:Option V),a2=[some (.ref a),some (.ref p),some (.int n),some (.ref l),some (.int<|a6 (65536/st.low) j i<|m+1),some (.int (m+1:Nat)),Y]/\Rr K t H H2 a p l F F2 st i j (m+1) a0/\(a0.length:Int)<n/\((m+1:Nat):Int)<4*n,λa2 H2 g=>?_,?_⟩
   .obtain⟨F2,a0,Y,e,w2,b1,b2⟩:=g;refine⟨_,?_,F2,m+1,a0,Y,M,e,w2,λx x0 xm qs hq=>?_⟩
    .show(j-yp (65536/st.low) j (a6 (65536/st.low) j i m)).toNat<_;lia
    .rcases XR xm with xm|rfl
     .exact lt x x0 () qs hq
     .rw[hq.uniq w2.rw,Q0];exact⟨b1,b2⟩
   obtain⟨ab,ah,an,ax⟩:=w.sl.ins;refine⟨_,M,a,ab,ah,M,an,ax _ ∅,_,M,a,_,F',st,M,w.sl,(),(),λH2 F2 s2 f2=>?_⟩;have w2:=w.move s2 f2;obtain⟨b4,b7,b8,ba,_⟩:=id w2.tk;refine⟨_,M,p,_,b4,b7,_,M,b8,T.bC,T.b5,ba.end_,_,_,M,?_⟩
   (try dsimp only)
   change fL 6 (V.int<|a6 (65536/st.low) j i<|m+1) _ _ _;obtain⟨bb,bc,be,bl⟩:=w2.sl.ins;refine⟨_,M,.inl ⟨M,_,Fb.of w2.li⟩,_,M,a,bb,bc,M,be,bl _ ∅,_,M,_,M,a,_,_,F2,st,M,w2.sl,l4,iv,λH3 F3 l1 ts1 s3 f3 o3 n3 e3 u3 bo bt=>?_⟩;have U:=w2.move s3 f3;have a1:RI st i (a6 (65536/st.low) j i<|m+1) ((ts++ts1).map Tp.kv):=by
    rw[Qg];exact U.rw.app ⟨bo,bt⟩ r0<|XY r2
   have ln:=a1.len;rw[Q0,Q8]at ln;have a3:∀{p:Addr} {xs:List V},H3 p=some (.tup xs)->p≠l:=λ{p xs} e z=>by rw[z,U.li]at e;cases e
   have w4:Rr K t H (upd H3 l<|.lst<|ts.map (λe=>V.ref e.p)++ts1.map (λe=>V.ref e.p)) a p l F F3 st i j (m+1) (ts++ts1):=by
    refine⟨U.sl.upd U.ol,U.fr.upd_new λ_=>nl,?_,U.np,U.ol,by rw[ag,Qg],λe he=>?_,a1,λx hx=>?_⟩
    .obtain⟨dx,fs,O,r⟩:=U.tk;exact⟨dx,fs,by rwa[af λz=>by rw[z,U.li]at O;cases O],r⟩
    .rcases Q5.mp he with he|he
     .exact⟨by rw[af (a3 (U.tu e he).1)];exact(U.tu e he).1,(U.tu e he).2⟩
     .exact⟨by rw[af (a3 (u3 e he).1)];exact(u3 e he).1,(u3 e he).2⟩
    .rcases XR (Nat.le_of_lt_succ hx)with hx|rfl
     .exact w.go x hx
     .exact c
   refine⟨l,l1,_,_,M,M,U.li,e3,by rw[Q0,Q0];exact Z4<|bg (),?_⟩
   (try dsimp only)
   generalize upd H3 l (.lst<|ts.map (λe=>V.ref e.p)++ts1.map (λe=>V.ref e.p))=H4 at w4⊢;have pg:(n<=((ts++ts1).length:Int)\/4*n<=((m+1:Nat):Int))->Rx st i j n (m+1) ((ts++ts1).map Tp.kv):=λo=>⟨a1,w4.go,λx x0 xm=>lt x x0 (),.inr ⟨Nat.succ_pos m,by rw[Q0];exact o⟩⟩;refine⟨_,M,_,M,_,_,M,M,?_⟩
   (try dsimp only)
   have em:((m:Int)+1)=((m+1:Nat):Int):=();rw[em];refine⟨_,M,l,_,M,.inl<|Fb.of w4.li,_,M,_,_,M,M,_,M,bQ (λc1=>?_)<|λc1=>?_⟩
   .have c1:=Vw c1;rw[Q0]at c1;exact cH<|go _ _ ⟨F3,m+1,ts++ts1,_,M,w4,pg<|.inl c1⟩
   refine⟨_,M,_,M,_,_,M,M,.inl ⟨(_),(_)⟩,_,_,M,M,_,M,bQ (λc2=>?_)<|λc2=>?_⟩
   .exact go _ _ ⟨F3,m+1,ts++ts1,_,M,w4,pg<|.inr (Vw c2)⟩
   .have c1:¬n<=(((ts++ts1).map λe=>V.ref e.p).length:Int):=λy=>c1 (Vy y);have c2:¬4*n<=((m+1:Nat):Int):=λy=>c2 (Vy y);rw[Q0]at c1;exact⟨F3,ts++ts1,_,M,w4,(),()⟩
  .have c:¬a6 (65536/st.low) j i m<j:=λy=>c (Vy y);exact go _ _ ⟨F',m,ts,Y,M,w,w.rw,w.go,λx x0 xm=>lt x x0 (),.inl ()⟩
 obtain⟨F2,m,ts,Y,rfl,w,pg⟩:=w;obtain⟨r0,r1,_⟩:=rR W0 ij m w.go;obtain⟨dx,fs,O,tf,_⟩:=id w.tk;refine⟨_,M,_,M,p,_,dx,fs,_,M,O,T.bC,T.b5,tf.end_,M,_,M,bQ (λc=>?_)<|λc=>?_⟩
 .have c:a6 (65536/st.low) j i m=j:=V.int.inj (Vw c);refine⟨_,M,(by show 2<=sizeLine;decide),λr nr=>?_⟩;have Z:=ak (o:= .tup [.ref l,.non]) nr;refine q _ F2 r l .non ts m (w.sl.new nr) (w.fr.trans<|Fr.of_same Z) ⟨ag,Z _ _ w.li,λe he=>⟨Z _ _ (w.tu e he).1,(w.tu e he).2⟩,⟨λnF=>sF w.fr nF nr,w.sl.out nr⟩,⟨λ_=>nl,w.ol⟩⟩ pg ?_;unfold S9;rw[Vp c]
 .have c:¬a6 (65536/st.low) j i m=j:=λz=>c (Vy<|by rw[z]);have ok:okS (.int<|a6 (65536/st.low) j i m) (.int j):=⟨_,_,M,M,(),(),j1⟩;refine⟨_,M,_,M,_,M,p,_,dx,fs,_,M,O,T.bC,T.b5,tf.end_,λx dr nx nd bw=>?_⟩;refine⟨x,dr,_,_,M,ag,T0 _,T0 _,λ_ H' fs' a4 h' bv=>⟨M,(by show 2<=sizeLine;decide),λr nr=>?_⟩,λz=>Vt ok z⟩;have Z:Fa H2 (upd H' r<|.tup [.ref l,.ref x]):=(tU nx nd a4).trans (ak nr);have a5:H2 r=none:=eP (tU nx nd a4) nr;have xr:x≠r:=λz=>by rw[z,nr]at h';cases h'
  refine q _ F2 r l (.ref x) ts m (w.sl.same Z) (w.fr.trans<|Fr.of_same Z) ⟨ag,Z _ _ w.li,λe he=>⟨Z _ _ (w.tu e he).1,(w.tu e he).2⟩,⟨λnF=>sF w.fr nF a5,w.sl.out a5⟩,⟨λ_=>nl,w.ol⟩⟩ pg ?_;unfold S9;rw[Vo c];exact⟨x,M,λnF=>sF w.fr nF nx,w.sl.out nx,dr,fs',by rwa[af xr],bv,(),(),j1⟩
def R9.newb {s l w h:Addr} {Fs Fs' Fl:Addr->Prop} {x:OZ} (JJ:R9 K t H a s l w p h Fs Fl x) (n:¬Fs b->H b=none) (n':¬Fs' b):¬RD a w p h Fs' Fl x.pa b:=λz=>by
 rcases z with z|z|z
 .exact n' z
 .obtain⟨o,e⟩:=JJ.lv.dom z;rw[n λy=>JJ.a1 b y z]at e;cases e
 .obtain⟨o,e,_⟩:=JJ.o.dom z;rw[n (JJ.a2 b z)]at e;cases e
noncomputable def RE:V->Int
 | .int i=>i|_=>0
def RG (st:O8) (ks:List Int) (kd n:Int) (av e:V) (ps:List (Int×V)) (r:Option V):Prop:=
 (kd=0/\∃m,Rx st (RE av) (RE e) n m ps/\r=if a6 (65536/st.low) (RE e) (RE av) m=RE e then none else some (.int<|a6 (65536/st.low) (RE e) (RE av) m))\/
 ∃up:Bool,kd=(if up=true then 1 else 2)/\ps.map (·.1)=(cv up av e ks).take n.toNat/\(∀p∈ps,aG st.kv p.1=some p.2)/\r=if(cv up av e ks).length<=n.toNat then none else((cv up av e ks)[n.toNat-1]?).map λk=> .int (if up=true then k+1 else k-1)
def Hk {i r:Int} (h:RI st i r ps) (h':RI st i r qs):ps=qs:=by
 have as:∀a b,uc a b->¬uc b a:=λa b x y=>by
  unfold uc at x y;lia
 have sub:∀{l m:List (Int×V)},l.Pairwise uc->m.Pairwise uc->(∀x,x∈l↔x∈m)->l=m:=by
  intro l
  induction l with
  |nil=>
   intro m _ _ h;cases m with
   |nil=>rfl
   |cons b m=>exact Vt ((h b).mpr Qb) Z7
  |cons a l O=>
   intro m h1 h2 h;cases m with
   |nil=>exact Vt ((h a).mp Qb) Z7
   |cons b m=>
    obtain⟨G,U⟩:=Zd.mp h1;obtain⟨p2,Y⟩:=Zd.mp h2;have e:a=b:=by
     rcases Qh.mp ((h a).mp Qb)with c|c
     .exact c
     .rcases Qh.mp ((h b).mpr Qb)with c2|c2
      .exact c2.symm
      .exact Vt (G b c2)<|as _ _ (p2 a c)
    subst e;have I:∀{x:Int×V},¬uc x x:=λ{x} y=>as x x y y;rw[O U Y λx=>⟨λhx=>((Qh.mp<|(h x).mp<|Qd _ hx).resolve_left λz=>I<|z▸G x hx),λhx=>((Qh.mp<|(h x).mpr<|Qd _ hx).resolve_left λz=>I<|z▸p2 x hx)⟩]
 exact sub h.so h'.so λx=>(h.me x.1 x.2).trans (h'.me x.1 x.2).symm
def RG.uniq {kd n:Int} {r r':Option V} (h:RG st ks kd n av e ps r) (h':RG st ks kd n av e qs r'):ps=qs/\r=r':=by
 rcases h with⟨k0,m,g,U⟩|⟨up,Y,e1,v1,U⟩<;>rcases h' with⟨Z,m',g',O⟩|⟨up',I,a0,a1,O⟩
 .have lt:∀{m m':Nat} {ps qs:List (Int×V)},Rx st (RE av) (RE e) n m ps->Rx st (RE av) (RE e) n m' qs->¬m<m':=λ{m m' ps qs} g g' l=>by
   have h1:=g'.go m l;rcases g.st with z|⟨z,y⟩
   .lia
   .have:=g'.le m z l ps g.rw;lia
  have em:m=m':=by
   have h1:=lt g g';have h2:=lt g' g;lia
  subst em;exact⟨Hk g.rw g'.rw,U.trans O.symm⟩
 .rw[k0]at I;cases up'<;>cases I
 .rw[Z]at Y;cases up<;>cases Y
 .have eu:up=up':=by
   rw[Y]at I;cases up<;>cases up'<;>first|rfl|cases I
  subst eu;refine⟨?_,U.trans O.symm⟩;have ek:=e1.trans a0.symm;refine List.ext_getElem? λj=>?_;have G:=VH (λl:List Int=>l[j]?) ek;rw[Qn,Qn]at G;cases c1:ps[j]? with
  |none=>rw[c1]at G;cases c2:qs[j]? with
   |none=>rfl
   |some y=>rw[c2]at G;cases G
  |some x=>
   rw[c1]at G;cases c2:qs[j]? with
   |none=>rw[c2]at G;cases G
   |some y=>
    rw[c2]at G;have G:x.1=y.1:=Vq G;have h1:=v1 x (Q1 c1);have h2:=a1 y (Q1 c2);rw[G,h2]at h1;rw[show x=y from Prod.ext G (Vq h1).symm]
structure GI (t:OJ) (H':Hp) (F':Addr->Prop) (st:O8) (kd n:Int) (av e v:V) (ts:List Tp) (a':V) (R:Int->Bool):Prop where
 rest:(v= .non/\R=λ_=>false)\/∃q:Addr,v= .ref q/\PB t H' q kd a' e/\Ph kd a' e/\¬F' q/\R=hN kd a' e/\(kd=0->RE av<=RE a')
 less:∀k,0<=k->R k=true->hN kd av e k=true
 nd:(ts.map (·.k)).Nodup
 me:∀k v,(k,v)∈ts.map Tp.kv↔(k,v)∈st.kv/\hN kd av e k=true/\R k=false
 tell:∀ks,dn ks->(∀z,z∈ks↔(aG st.kv z).isSome=true)->RG st ks kd n av e (ts.map Tp.kv) (if v= .non then none else some a')
 far:v= .non\/n<=ts.length\/(kd=0/\RE av/(65536/st.low)+4*n<=RE a'/(65536/st.low))
def zG {Jl j i:Int} (z:0<Jl):∀m:Nat,(∀x≤m,a6 Jl j i x≠j)->a6 Jl j i m/Jl=i/Jl+m
 |0,_=>(Int.add_zero _).symm
 |m+1,h=>by
  have G:=zG z m λx hx=>h x ();have e:a6 Jl j i (m+1)=(a6 Jl j i m/Jl+1)*Jl:=by
   have:=h (m+1) (Q4 _);show yp Jl j (a6 Jl j i m)=_;change yp Jl j (a6 Jl j i m)≠j at this;unfold yp at this⊢;split
   .rw[Vp (by assumption)]at this;exact Vt M this
   .rfl
  rw[e,Int.mul_ediv_cancel _ (QU z),G];lia
def Bj {i j:Int}:hN 0 (.int i) (.int j) k=true↔i<=P4 k/\P4 k<j:=by
 show(decide (i<=tz (k%65536))&&decide (tz (k%65536)<j))=true↔_;rw[QI,VE,VE];exact Iff.rfl
def Et {n i j:Int} {m:Nat} (I:0<65536/st.low) (i0:0<=i) (U:i<=j) (g:Rx st i j n m (ts.map Tp.kv)) (x:S9 t H H' F F' (a6 (65536/st.low) j i m) j v):∃a' R,GI t H' F' st 0 n (.int i) (.int j) v ts a' R:=by
 obtain⟨r1,r2,_⟩:=rR I U m g.go;have nd:(ts.map (·.k)).Nodup:=by
  refine QP.mpr<|(QP.mp g.rw.so).imp λ{a b} h e=>?_;have h:P4 a.k<P4 b.k\/(P4 a.k=P4 b.k/\a.k<b.k):=h;rw[e]at h;lia
 unfold S9 at x;by_cases G:a6 (65536/st.low) j i m=j
 .rw[Vp G]at x;refine⟨.non,λ_=>false,.inl ⟨x,M⟩,λk _ h=>Vt h Qe,nd,λk v=>?_,(λks _ _=> .inl ⟨M,m,g,by rw[Vp x];exact(Vp G).symm⟩),.inl x⟩;rw[g.rw.me,G,Bj];exact⟨λh=>⟨h.1,h.2,M⟩,λh=>⟨h.1,h.2.1⟩⟩
 .rw[Vo G]at x;obtain⟨q,O,_,Y,dx,fs,hq,Z,q0,q1,q2⟩:=x;refine⟨_,hN 0 (.int<|a6 (65536/st.low) j i m)<|.int j,.inr ⟨q,O,⟨dx,fs,hq,Z⟩,.inl ⟨M,_,_,M,M,q0,q1,q2⟩,Y,M,λ_=>r1⟩,λk _ h=>?_,nd,λk v=>?_,(λks _ _=> .inl ⟨M,m,g,by rw[Vo λz=>by rw[O]at z;cases z];exact(Vo G).symm⟩),?_⟩
  .rw[Bj]at h⊢;lia
  .rw[g.rw.me,Bj,<-Bool.not_eq_true,Bj];constructor
   .rintro ⟨h1,h2,h3⟩;exact⟨h1,⟨h2,()⟩,()⟩
   .rintro ⟨h1,⟨h2,h3⟩,h4⟩;exact⟨h1,h2,()⟩
  .rcases g.st with z|⟨_,z|z⟩
   .exact Vt z G
   .rw[Q0]at z;exact .inr<|.inl z
   .refine .inr<|.inr ⟨M,?_⟩;have ne:∀x≤m,a6 (65536/st.low) j i x≠j:=λx hx=>by
     rcases XR hx with h|rfl
     .have:=g.go x h;lia
     .exact G
    show i/(65536/st.low)+4*n<=a6 (65536/st.low) j i m/(65536/st.low);rw[zG I m ne];lia
def yX (up:Bool) (x y:Int):Prop:=if up=true then x<y else y<x
def Iv {up:Bool} {a:V} (r:dn ks):(cv up a e ks).Pairwise (yX up):=by
 unfold cv yX;cases up
 .exact List.Pairwise.filter _<|XF.mpr r
 .exact List.Pairwise.filter _ r
def Py {up:Bool} {a:V} {z:Int}:z∈cv up a e ks↔z∈ks/\hK up a e z=true:=by
 unfold cv;rw[Qu];cases up
 .rw[Vo Qe,ZN]
 .rw[Vp M]
def G2 {up:Bool} {l:List Int} {m:Nat} {z:Int} (r:l.Pairwise (yX up)) (h:l[m-1]?=some k) (I:1<=m):z∈l.take m↔z∈l/\(z=k\/yX up z k):=by
 have w:=QX.mp r;obtain⟨hk,G⟩:=Q2.mp h;have as:∀{x y:Int},yX up x y->¬(y=x\/yX up y x):=λ{x y} h1 h2=>by
  unfold yX at h1 h2;cases up
  .rw[Vo Qe]at h1 h2;lia
  .rw[Vp M]at h1 h2;lia
 constructor
 .intro hz;obtain⟨i,hi,e⟩:=QF hz;rw[Q6]at hi;rw[Zx]at e;refine⟨QC hz,?_⟩;rcases Nat.lt_or_ge i (m-1)with c|c
  .have:=w i (m-1) () hk c;rw[e,G]at this;exact .inr this
  .have:i=m-1:=();subst this;exact .inl<|e.symm.trans G
 .rintro ⟨hz,o⟩;obtain⟨i,hi,rfl⟩:=QF hz;rcases Nat.lt_or_ge i m with c|c
  .exact List.mem_take_iff_getElem.mpr ⟨i,(),M⟩
  .have:=w (m-1) i hk hi ();rw[G]at this;exact Vt o<|as this
def Md {up:Bool} {a:V} (h:RW t H p up a e):PB t H p (if up=true then 1 else 2) a e/\Ph (if up=true then 1 else 2) a e:=by
 obtain⟨dx,fs,z,G,ok⟩:=h;cases up
 .exact⟨⟨dx,fs,z,G⟩,.inr<|.inr ⟨M,ok⟩⟩
 .exact⟨⟨dx,fs,z,G⟩,.inr<|.inl ⟨M,ok⟩⟩
def Nd {up:Bool}:hN (if up=true then 1 else 2)=hK up:=by cases up<;>rfl
def xY {up:Bool} {a:V} {z:Int} (ok:if up=true then R6 a e else R8 a e) (hk:hK up a e k=true):hK up (.int<|if up=true then k+1 else k-1) e z=true↔hK up a e z=true/\¬(z=k\/yX up z k):=by
 unfold yX;cases up with
 |true=>
  rw[Vp M,Vp M];obtain⟨i,rfl,i0,he⟩:=(show R6 a e from ok);rcases he with rfl|⟨j,rfl,_⟩
  .have h1:=Vw (show decide (i<=k)=true from hk);show decide (k+1<=z)=true↔decide (i<=z)=true/\_;rw[VE,VE];lia
  .have h1:=Vw (QL.mp<|show(decide (i<=k)&&decide (k<j))=true from hk).1;show(decide (k+1<=z)&&decide (z<j))=true↔(decide (i<=z)&&decide (z<j))=true/\_;rw[QI,QI,VE,VE,VE];lia
 |false=>
  rw[Vo Qe,Vo Qe];obtain⟨j,rfl,G,ha⟩:=(show R8 a e from ok);rcases ha with rfl|⟨i,rfl,_⟩
  .show(decide (j<=z)&&decide (z<=k-1))=true↔decide (j<=z)=true/\_;rw[QI,VE,VE];lia
  .have h1:=Vw (QL.mp<|show(decide (j<=k)&&decide (k<=i))=true from hk).2;show(decide (j<=z)&&decide (z<=k-1))=true↔(decide (j<=z)&&decide (z<=i))=true/\_;rw[QI,QI,VE,VE,VE];lia
def Gz {n:Int} {up:Bool} (nd:(st.kv.map (·.1)).Nodup) (r:dn ks) (mk:∀z,z∈ks↔(aG st.kv z).isSome=true) (n1:1<=n) (ok:if up=true then R6 av e else R8 av e)
  (Y:ts.map (·.k)=(cv up av e ks).take n.toNat) (Z:∀e∈ts,aG st.kv e.k=some e.v) (x:NxH t H H' F' p up e (cv up av e ks) n.toNat v):∃a' R,GI t H' F' st (if up=true then 1 else 2) n av e v ts a' R:=by
 have ho:=Iv (up:=up) (a:=av) (e:=e) r;have I:(ts.map (·.k)).Nodup:=by
  rw[Y];refine(ho.sublist<|Xm _ _).imp λ{a b} h e=>?_;unfold yX at h;rw[e]at h;split at h<;>lia
 have me:∀(k:Int) (v:V),(k,v)∈ts.map Tp.kv↔(k,v)∈st.kv/\k∈(cv up av e ks).take n.toNat:=λk v=>by
  rw[<-Y,Q9,Q9];constructor
  .rintro ⟨d,hd,h1⟩;have h2:d.k=k:=VH Prod.fst h1;have O:d.v=v:=VH Prod.snd h1;have:=bE (Z d hd);rw[h2,O]at this;exact⟨this,d,hd,h2⟩
  .rintro ⟨h1,d,hd,rfl⟩;have:=Z d hd;rw[bD nd h1]at this;exact⟨d,hd,by unfold Tp.kv;rw[Vq this]⟩
 have ik:∀{k:Int} {v:V},(k,v)∈st.kv->k∈ks:=λh=>(mk _).mpr (by rw[bD nd h];rfl);have tl:∀{r:Option V},(r=if(cv up av e ks).length<=n.toNat then none else((cv up av e ks)[n.toNat-1]?).map λk=> .int<|if up=true then k+1 else k-1)->∀G,dn G->(∀z,z∈G↔(aG st.kv z).isSome=true)->RG st G (if up=true then 1 else 2) n av e (ts.map Tp.kv) r:=λ{q} hq G r' mk'=>by
  have e1:G=ks:=Cc r' r λz=>(mk' z).trans (mk z).symm;subst e1;refine .inr ⟨up,M,by rwa[Qs],λp hp=>?_,hq⟩;obtain⟨d,hd,rfl⟩:=Q9.mp hp;exact Z d hd
 unfold NxH at x;split at x
 .refine⟨.non,λ_=>false,.inl ⟨x,M⟩,λk _ h=>Vt h Qe,I,λk v=>?_,tl (by rw[Vp x,Vp (by assumption)]),.inl x⟩;rw[me,Qv (by assumption),Py,Nd];exact⟨λh=>⟨h.1,h.2.2,M⟩,λh=>⟨h.1,ik h.1,h.2.1⟩⟩
 .rw[Vo ()]at x;obtain⟨q,k0,h0,U,_,nq,TQ⟩:=x;have hk:=(Py.mp<|Q1 h0).2;obtain⟨t1,t2⟩:=Md TQ;refine⟨_,hN (if up=true then 1 else 2) (.int<|if up=true then k0+1 else k0-1) e,.inr ⟨q,U,t1,t2,nq,M,λz=>by cases up<;>cases z⟩,λk _ h=>?_,I,λk v=>?_,tl (by rw[Vo (show ¬v= .non from λz=>by rw[U]at z;cases z),Vo (show ¬(cv up av e ks).length<=n.toNat by assumption),h0];rfl),.inr<|.inl ?_⟩
  .rw[Nd]at h⊢;exact((xY ok hk).mp h).1
  .rw[me,G2 ho h0 (),Py,Nd,<-Bool.not_eq_true,xY ok hk];constructor
   .rintro ⟨h1,⟨_,h2⟩,O⟩;exact⟨h1,h2,λz=>z.2 O⟩
   .rintro ⟨h1,h2,O⟩;exact⟨h1,⟨ik h1,h2⟩,Classical.byContradiction λz=>O ⟨h2,z⟩⟩
  .have:=VH List.length Y;rw[Q0,Q6]at this;lia
def Mp (K:JK) (t:OJ):Sp:=λvs H Q _=>∃(a p:Addr) (n kd:Int) (av e:V) (F:Addr->Prop) (x:OZ),vs=[.ref a,.ref p,.int n,.non]/\OW K t H a F x/\PB t H p kd av e/\Ph kd av e/\¬F p/\1<=n/\n<=1000/\x.st.kv.length<4096/\x.ks.length<4096/\(∀k∈x.ks,0<=k)/\(∀p∈x.st.kv,∃i:Int,p.2= .int i)/\
 ∀(H':Hp) (F':Addr->Prop) (r g:Addr) (v:V) (ts:List Tp) (a':V) (R:Int->Bool),OW K t H' a F' x->Fr F F' H H'->PgA H H' F F' r g v ts->GI t H' F' x.st kd n av e v ts a' R->Q (.ref r) H'
def HC:CU P w K mg base OL 8 t.LT t.CN ["house","token","many","sieve"] (Mp K t):=by
 have a2:=Ri.nd;refine T.LX.ok Ri (λvs H Q E h=>?_)<|λa3 A outer s H vs Q E hr h=>?_
 .obtain⟨a,p,n,kd,av,e,F,x,rfl,_⟩:=h;rfl
 .obtain⟨a,p,n,kd,av,e,F,x,rfl,A,TK,Y,np,n1,n2,l4,lk,k0,iv,q⟩:=h;refine Ob (λx y=>aQ (cx<|aE (my K M) {_} T.dJ cy (ac M2<|ac (c8 (v:= .ref t.aV) {_} T.xz M) ai)) x y) ?_;refine aA (OM 4<|aL (uh T) hr.mo {_} T.GL T.vQ.kp T.GN .nil ay (ac (au BC M)<|ac M2<|ac O1 ai)) ?_
  intros
  refine aA (OM 4<|aL (vB T) hr.mo {_} T.HV T.yi.kp T.Jb .nil ay (ac BC<|ac M2<|ac O1 ai)) ?_
  intros
  refine aj (aQ (aq cX OR a7<|aw _)
   (az<|aD PF)
   aI)
     (aA eJ ?_)
  intros
  obtain⟨dx,fs,G,tf⟩:=id TK;have nd:(x.st.kv.map (·.1)).Nodup:=by
   obtain⟨s,l,wr,p,h,Fs,Fl,JJ,O,g⟩:=A;obtain⟨_,_,_,_,nd,_⟩:=JJ.sl;exact nd
  have ri:dn x.ks:=by
   obtain⟨_,_,_,_,_,_,L⟩:=A.lvs;exact L.rise
  have I:∀(up:Bool) {Q':VK} {E':XK},kd=(if up=true then 1 else 2)->(∀v H',Q v H'->Q' v H')->mD K t [.ref a,.ref p,.int n] H Q' E':=λup Q' E' Z hQ=>by
   have ok:if up=true then R6 av e else R8 av e:=by
    subst Z;cases up
    .exact Y.d
    .exact Y.u
   refine⟨a,p,n,up,av,e,F,x,M,A,⟨dx,fs,?_,?_,ok⟩,np,lk,k0,λH' F' r g v ts A' f' pg ek ev nx=>?_⟩
   .subst Z;cases up<;>exact G
   .subst Z;cases up<;>exact tf
   .obtain⟨a',R,U⟩:=Gz nd ri A.ok.ks n1 ok ek ev nx;rw[<-Z]at U;exact hQ _ _<|q H' F' r g v ts a' R A' f' pg U
  rcases Y.kd with rfl|rfl|rfl
  .have G:H p=some (.ins t.aV dx fs):=G;obtain⟨i,j,rfl,rfl,i0,ij,j1⟩:=Y.s;obtain⟨s,l,wr,pp,h,Fs,Fl,JJ,O,g⟩:=A;obtain⟨a0,ho⟩:=JJ.o.ob;have W0:0<65536/x.st.low:=by
    have z:OT x.st:=let⟨_,_,_,_,_,z⟩:=JJ.sl;z
    obtain⟨_,_,R⟩:=AS (jZ z);exact R.wpos'
   refine⟨_,M,_,_,_,_,M,P0.ins G T.bC T.qw.1 T.qw.2 T.qw.3 T.qw.4,T.Ef,_,M,cH ⟨_,M,a,_,a0,_,_,M,ho,T.aO,T.dD,xK,_,M,_,M,s,p,n,i,j,Fs,x.st,M,JJ.sl,⟨dx,fs,G,tf,i0,ij,j1⟩,λz=>np<|(g p).mpr<|.inl z,n1,n2,l4,iv,λH' Fs' r gg v ts m S' f' pg ps nx=>⟨_,M,M,_,M,fK M ⟨_,M,?_⟩⟩⟩⟩;obtain⟨B1,g1⟩:=JJ.slots S' f';have up:∀{b:Addr},¬F b->¬Fs b:=λn z=>n ((g _).mpr<|.inl z);have A':OW K t H' a (RD a wr pp h Fs' Fl x.pa) x:=⟨s,l,wr,pp,h,Fs',Fl,B1,O,λ_=>Iff.rfl⟩;have a1:S9 t H H' F (RD a wr pp h Fs' Fl x.pa) (a6 (65536/x.st.low) j i m) j v:=by
    unfold S9 at nx⊢;split
    .rw[Vp (by assumption)]at nx;exact nx
    .rw[Vo (by assumption)]at nx;obtain⟨y,e1,e2,e3,e4⟩:=nx;exact⟨y,e1,λn=>e2<|up n,JJ.newb e2 e3,e4⟩
   obtain⟨a',R,U⟩:=Et W0 i0 ij ps a1;refine q H' _ r gg v ts a' R A' (λb o n e=>g1 b o (λz=>n<|(g b).mpr z) e) ⟨pg.tu,pg.li,λe he=>⟨(pg.rw e he).1,λz=>?_⟩,⟨λn=>pg.nr.1<|up n,JJ.newb pg.nr.1 pg.nr.2⟩,λn=>pg.ng.1<|up n,JJ.newb pg.ng.1 pg.ng.2⟩ U;obtain⟨o,e',n⟩:=A'.dom z;rw[(pg.rw e he).1]at e';exact n _ (Vq e').symm
  .have G:H p=some (.ins t.dO dx fs):=G;refine⟨_,M,_,_,_,_,M,P0.ins G T.f7 T.mX.1 T.mX.2 T.mX.3 T.mX.4,T.Jz,_,M,cu ⟨_,M,_,M,_,M,I true M λv H' h=>⟨_,M,M,_,M,fK M ⟨_,M,h⟩⟩⟩⟩
  .have G:H p=some (.ins t.b8 dx fs):=G;refine⟨_,M,_,_,_,_,M,P0.ins G T.b7 T.fk.1 T.fk.2 T.fk.3 T.fk.4,T.GM,_,M,cu ⟨_,M,_,M,_,M,I false M λv H' h=>⟨_,M,M,_,M,fK M ⟨_,M,h⟩⟩⟩⟩
def ve (K:JK):Sp:=λvs H Q _=>∃(a:Addr) (ns:List Int) (k:Int),vs=[.ref a,.int k]/\Fb K H a (ns.map V.int)/\0<=k/\Q (.int<|ns.getD k.toNat 0) H
def vF:CU P w K mg base OL 1 t.oW t.jg ["_law_script","_law_k"] (ve K):=by
 refine T.pf.okl vq λs H vs Q E I h _=>?_;intro X;obtain⟨a,ns,i,rfl,hS,G,k⟩:=h;refine aj (aQ (aq eF M2 (aE aC {_} T.bL bf (ac BC ai))<|aw _)
    (az<|aD<|aS aU BC M2<|λ_ _=>M)
    aI)
   (aA (aD ae) ?_)
 intros
 refine⟨_,M,_,M,a,_,M,.inl hS,_,_,M,M,_,M,?_⟩;refine bQ (λc=>?_)<|λc=>?_
 .have c:=Vw c;rw[Q0]at c;exact⟨_,M,_,M,a,_,_,_,M,M,hS,xW G c,k⟩
 .have c:¬i<((ns.map V.int).length:Int):=λz=>c (Vy z);rw[Q0]at c;rw[IW c]at k;exact k
def Fj (x y:Nat):x&&&y=((x/256)&&&(y/256))*256+((x%256)&&&(y%256)):=by
 have h:=Nat.div_add_mod (x&&&y) 256;rw[show(256:Nat)=2^8 from rfl,Nat.and_div_two_pow,Nat.and_mod_two_pow]at h;rw[<-h];show 2^8*_+_=_*2^8+_;rw[ZX]
def R1 (p s x:Nat):Nat:=(x&&&p)*s+(x&&&(p*s))/s
def AA {p s:Nat} (h1:∀x<256,R1 p s x<256/\s∣(x&&&(p*s))) (Y:p<256) (hq:p*s<256) (hs:0<s) {a b:Nat} (ha:a<256) (hb:b<256):R1 (p*257) s (a*256+b)=R1 p s a*256+R1 p s b:=by
 obtain⟨_,c,hc⟩:=h1 a ha;have z:(a*256+b)/256=a:=();have G:(a*256+b)%256=b:=();have I:p*257/256=p:=();have e2:p*257%256=p:=();have Z:p*257*s=p*s*256+p*s:=by rw[Nat.mul_right_comm,show(257:Nat)=256+1 from rfl,Nat.mul_add,Nat.mul_one]
 have O:p*257*s/256=p*s:=();have U:p*257*s%256=p*s:=();unfold R1;rw[Fj (a*256+b) (p*257),Fj (a*256+b) (p*257*s),z,G,I,e2,O,U,hc,Nat.mul_div_cancel_left c hs,Nat.mul_assoc s c 256,Nat.add_comm (s*(c*256)),Nat.add_mul_div_left _ _ hs,Va,Nat.mul_right_comm,Va];lia
def Lq:∀x<256,R1 85 2 (R1 51 4<|R1 15 16 x)=rv 8 x:=by decide+kernel
def Mo:∀x<256,R1 15 16 x<256/\16∣(x&&&(15*16)):=by decide+kernel
def Mn:∀x<256,R1 51 4 x<256/\4∣(x&&&(51*4)):=by decide+kernel
def sw85:∀x<256,R1 85 2 x<256/\2∣(x&&&(85*2)):=by decide+kernel
def Mb (h:n<65536):R1 (85*257) 2 (R1 (51*257) 4<|R1 (15*257) 16<|n%256*256+n/256)=rv 16 n:=by
 have e:rv 16 n=rv 8 n*256+rv 8 (n/256):=rP 8 8 n;have e2:rv 8 (n%256)=rv 8 n:=DW 8 n;rw[e,<-e2];have a:=Nat.mod_lt n (show 0<256 by decide);have b:n/256<256:=();clear e e2 h;generalize n%256=x at a⊢;generalize n/256=y at b⊢;have z:=(Mo x a).1;have G:=(Mo y b).1;have I:=(Mn _ z).1;have O:=(Mn _ G).1;rw[<-Lq x a,<-Lq y b,AA Mo (_) (_) (_) a b];generalize R1 15 16 x=U at z I⊢;generalize R1 15 16 y=Y at G O⊢;rw[AA Mn (_) (_) (_) z G];generalize R1 51 4 U=Z at I⊢;generalize R1 51 4 Y=y2 at O⊢;exact AA sw85 (_) (_) (_) I O
def sw1 (x:Nat):Builtin.bitAnd (x:Int) 3855*16+Builtin.bitAnd (x:Int) 61680/16=((R1 (15*257) 16 x:Nat):Int):=by
 show((x&&&3855:Nat):Int)*16+((x&&&61680:Nat):Int)/16=(((x&&&3855)*16+(x&&&61680)/16:Nat):Int);lia
def sw2 (x:Nat):Builtin.bitAnd (x:Int) 13107*4+Builtin.bitAnd (x:Int) 52428/4=((R1 (51*257) 4 x:Nat):Int):=by
 show((x&&&13107:Nat):Int)*4+((x&&&52428:Nat):Int)/4=(((x&&&13107)*4+(x&&&52428)/4:Nat):Int);lia
def sw3 (x:Nat):Builtin.bitAnd (x:Int) 21845*2+Builtin.bitAnd (x:Int) 43690/2=((R1 (85*257) 2 x:Nat):Int):=by
 show((x&&&21845:Nat):Int)*2+((x&&&43690:Nat):Int)/2=(((x&&&21845)*2+(x&&&43690)/2:Nat):Int);lia
def yu:Sp:=λvs H Q _=>∃k:Int,vs=[.int k]/\Q (.int<|tz<|k%65536) H
def y4:CU P w K mg base OL 1 t.sT t.lW ["_law_key"] yu:=by
 refine T.tD.okl yL λs H vs Q E Y h _=>?_;intro X;obtain⟨n,rfl,q⟩:=h;refine aj (OM 1<|ao aT BC ae)
   (aj (OM 1<|ao bx (ao cM (ao aT M2 ae) ae)<|ao aP M2 ae)
   (aj (OM 1<|ao bx (ao cM (ao uf M2 ae) ae)<|ao aP (ao uf M2 ae) ae)
   (aj (OM 1<|ao bx (ao cM (ao uf M2 ae) ae)<|ao aP (ao uf M2 ae) ae)
   (aA (aD<|ao bx (ao cM (ao uf M2 ae) ae)<|ao aP (ao uf M2 ae) ae) ?_))))
 intros
 have z:=Qf n (show(65536:Int)≠0 by decide);have G:=Qc n (show(0:Int)<65536 by decide);refine⟨_,M,_,_,M,M,(by show(0:Int)<65536;decide),?_⟩
 (try dsimp only)
 obtain⟨m,I⟩:=Z6 z;rw[I]at G q⊢;have te:=Mb (n:=m) ();unfold tz at q;rw[QJ,<-te]at q;refine⟨_,M,_,_,M,M,(by show(0:Int)<256;decide),_,_,M,M,.inr ⟨(_),(_)⟩,_,M,_,_,M,M,⟨(_),(_)⟩,_,_,M,M,?_⟩
 (try dsimp only)
 rw[show(m:Int)%256*256+(m:Int)/256=((m%256*256+m/256:Nat):Int) by lia];generalize m%256*256+m/256=O at q⊢
 (try dsimp only)
 refine⟨_,M,_,_,M,M,_,_,M,M,.inr ⟨(_),(_)⟩,_,M,_,_,M,M,_,_,M,M,⟨(_),(_)⟩,_,_,M,M,?_⟩
 (try dsimp only)
 rw[sw1];generalize R1 (15*257) 16 O=U at q⊢
 (try dsimp only)
 refine⟨_,M,_,_,M,M,_,_,M,M,.inr ⟨(_),(_)⟩,_,M,_,_,M,M,_,_,M,M,⟨(_),(_)⟩,_,_,M,M,?_⟩
 (try dsimp only)
 rw[sw2];generalize R1 (51*257) 4 U=Z at q⊢
 (try dsimp only)
 refine⟨_,M,_,_,M,M,_,_,M,M,.inr ⟨(_),(_)⟩,_,M,_,_,M,M,_,_,M,M,⟨(_),(_)⟩,_,_,M,M,?_⟩
 (try dsimp only)
 rw[sw3];exact q
def yv:Sp:=λvs H Q _=>∃c k:Int,vs=[.int c,.int k]/\∀z:Int,0<=z->z<2147483647->Q (.int z) H
def pV:CU P w K mg base OL 1 t.sU t.lX ["_law_cell","_law_k"] yv:=by
 refine T.tE.okl yM λs H vs Q E z h _=>?_;intro X;obtain⟨c,k,rfl,q⟩:=h;refine aj (OM 2<|ao aT (ao cM (ao bx (ao bx BC<|ao cM ae M2) ae) ae) ae)
   (aA (aD<|ao aT (ao cM O1<|ao bx (ao aP O1 ae) ae) ae) ?_)
 intros
 refine⟨_,M,_,M,_,_,M,M,.inl ⟨(_),(_)⟩,_,_,M,M,_,_,M,M,_,_,M,M,.inr ⟨(_),(_)⟩,_,_,M,M,(by show(0:Int)<2147483647;decide),?_⟩;have a:=Qf ((c+7919*k+1)*48271) (show(2147483647:Int)≠0 by decide);have b:=Qc ((c+7919*k+1)*48271) (show(0:Int)<2147483647 by decide)
 (try dsimp only)
 generalize (c+7919*k+1)*48271%2147483647=n at a b⊢;refine⟨_,M,_,M,_,_,M,M,⟨(_),(_)⟩,_,_,M,M,_,_,M,M,.inl ⟨(),()⟩,_,_,M,M,(by show(0:Int)<2147483647;decide),?_⟩;exact q _ (Qf _ (_))<|Qc _ (_)
def Lx (kd:Int) (H:Hp) (Q:VK):Prop:=∀(H':Hp) (p:Addr) (a e:V),Fa H H'->H' p=some (.tup [.int kd,a,e])->Ph kd a e->Re a->Re e->Q (.ref p) H'
def eB {i:Int} (h:i<10^80):Re (.int i):=h
def Bt:Re .non:=VG
def m6:Sp:=λvs H Q _=>∃kd c:Int,vs=[.int kd,.int c]/\0<=kd/\kd<3/\Lx kd H Q
def nU:CU P w K mg base OL 1 t.ip t.d6 ["_law_kind","_law_cell"] m6:=by
 refine T.pQ.okl nz λs H vs Q E hr h _=>?_;intro X;obtain⟨kd,c,rfl,d0,d3,q⟩:=h;refine bU (λx=>aQ (aq bP BC ae<|aw _) x aI) ?_;refine aj (OM 2<|ao aT M2 ae)
   (aA (aD<|bO<|ac BC<|ac O1<|ac (ao bx O1<|ao aT (ao aP M2 ae)<|ao iX ae O1) ai) ?_)
 intros
 refine aj (OM 2<|ao aT (ao aP M2 ae)<|ao gr ae ae)
   (aj (OM 3<|ao bx O1<|ao aT (ao Ch M2<|ao cM ae<|ao gr ae ae)<|ao gr ae ae)
   (aj (aQ (PW.pt<|dU (aq bP (ao aT M2 ae) ae<|aw _)<|cJ<|aq bP BC ae<|aw _)
    (az<|aD<|bO<|ac BC<|ac O1<|ac a7 ai)
    aI)
   (aj (aQ (aq bP (ao aT M2 ae) ae<|aw _)
    (az<|aD<|bO<|ac BC<|ac a7<|ac O1 ai)
    aI)
   (aA (aD<|bO<|ac BC<|ac (aS aU (bZ<|ac O1<|ac OR ai) (ao iX BC ae)<|λ_ _=>M)<|ac (aS aU (bZ<|ac OR<|ac O1 ai) (ao iX BC ae)<|λ_ _=>M) ai) ?_))))
 intros
 refine⟨_,M,M,_,M,bQ (λz=>?_)<|λz=>?_⟩
 .obtain rfl:kd=0:=V.int.inj (Vw z);have G:=Qf c (show(65537:Int)≠0 by decide);have O:=Qc c (show(0:Int)<65537 by decide);refine⟨_,M,_,_,M,M,(by show(0:Int)<65537;decide),?_⟩
  (try dsimp only)
  generalize c%65537=lo at G O⊢;refine⟨_,M,_,M,_,M,_,M,_,_,M,M,⟨(_),(_)⟩,_,M,_,_,M,M,_,_,M,M,(by show(0:Int)<65537-lo;lia),_,_,M,M,(by show 3<=sizeLine;decide),λp I=>?_⟩;have b0:=Qf (c/65537) (show(65537-lo:Int)≠0 by lia);have Z:=Qc (c/65537) (show(0:Int)<65537-lo by lia);exact q _ p (.int lo) (.int<|lo+c/65537%(65537-lo)) (ak I) ag (.inl ⟨M,lo,_,M,M,G,(),()⟩) (eB ())<|eB ()
 .have dz:kd≠0:=λe=>z (Vy<|by rw[e]);have G:=Qf (c/2) (QU wf);have O:=Qc (c/2) wf;have b0:=Qf (c/(2*10^(39:Int).toNat)) (QU wf);have Z:=Qc (c/(2*10^(39:Int).toNat)) wf;refine⟨_,M,_,_,M,M,⟨(_),(_)⟩,_,_,M,M,⟨(_),(_),(_)⟩,_,_,M,M,wf,?_⟩
  (try dsimp only)
  generalize c/2%10^(39:Int).toNat=lo at G O⊢;refine⟨_,M,_,M,_,_,M,M,⟨(_),(_),(_)⟩,_,_,M,M,.inl ⟨(_),(_)⟩,_,_,M,M,⟨(_),(_)⟩,_,_,M,M,⟨(_),(_),(_)⟩,_,_,M,M,wf,_,_,M,M,?_⟩
  (try dsimp only)
  generalize c/(2*10^(39:Int).toNat)%10^(39:Int).toNat=hi at b0 Z⊢;have a2:(10:Int)^(39:Int).toNat=10^39:=M;rw[a2]at O Z;have two:(0:Int)<2:=by decide
  have U:3<=sizeLine:=by decide
  have Y:2<=sizeLine:=by decide
  rcases(show kd=1\/kd=2 by lia)with rfl|rfl
  .refine⟨_,M,_,_,M,M,two,M,_,M,bQ (λy=>?_)<|λy=>?_⟩
   .refine⟨_,M,M,_,M,fK M ⟨_,M,_,M,U,λp I=>?_⟩⟩;exact q _ p (.int lo) .non (ak I) ag (.inr<|.inl ⟨M,lo,M,G,.inl M⟩) (eB ()) Bt
   .refine⟨_,M,_,_,M,M,two,M,_,M,bQ (λy2=>Vt y2 y)<|λ_=>?_⟩;refine⟨_,M,_,M,_,M,Y,λp1 n1=>⟨_,M,_,_,M,M,p1,_,_,_,M,M,Fb.of ag,M,_,M,_,M,Y,λp2 n2=>⟨_,M,_,_,M,M,p2,_,_,_,M,M,Fb.of ag,M,U,λp3 n3=>?_⟩⟩⟩;exact q _ p3 (.int lo) (.int<|lo+hi) (((ak n1).trans<|ak n2).trans<|ak n3) ag (.inr<|.inl ⟨M,lo,M,G,.inr ⟨_,M,()⟩⟩) (eB ())<|eB ()
  .refine⟨_,M,_,_,M,M,two,M,_,M,bQ (λy=>?_)<|λy=>?_⟩
   .refine⟨_,M,M,_,M,a9 (λe=>by cases e) ⟨_,M,_,_,M,M,two,M,_,M,bQ (λ_=>⟨_,M,_,M,U,λp I=>?_⟩)<|λy2=>Vt y y2⟩⟩;exact q _ p .non (.int lo) (ak I) ag (.inr<|.inr ⟨M,lo,M,G,.inl M⟩) Bt<|eB ()
   .refine⟨_,M,_,_,M,M,two,M,_,M,bQ (λy2=>Vt y2 y)<|λ_=>?_⟩;refine⟨_,M,_,M,_,M,Y,λp1 n1=>⟨_,M,_,_,M,M,p1,_,_,_,M,M,Fb.of ag,M,_,M,_,M,Y,λp2 n2=>⟨_,M,_,_,M,M,p2,_,_,_,M,M,Fb.of ag,M,U,λp3 n3=>?_⟩⟩⟩;exact q _ p3 (.int<|lo+hi) (.int lo) (((ak n1).trans<|ak n2).trans<|ak n3) ag (.inr<|.inr ⟨M,lo,M,G,.inr ⟨_,M,()⟩⟩) (eB ())<|eB ()
def Iz (h:i<ks.length):ks.getD i 0∈ks:=by
 rw[Qk,Q3 h];exact Zq h
def vc (K:JK):Sp:=λvs H Q _=>∃(c:Int) (l:Addr) (ks:List Int),vs=[.int c,.ref l]/\H l=some (.lst<|ks.map V.int)/\(∀k∈ks,0<=k/\k<10^40)/\Lx (c%3) H Q
def vD:CU P w K mg base OL 2 t.oU t.je ["_law_cell","_law_keys"] (vc K):=by
 refine T.yk.okl vo λs H vs Q E hr h _=>?_;intro X;obtain⟨c,l,ks,rfl,hS,kb,q⟩:=h;refine aj (OM 2<|ao aT BC ae)
   (bU (λx=>aQ (aq bP (ao aT (ao aP BC ae) ae) ae<|aw _) x aI) ?_)
 refine aA (aD<|aL (nU T) hr.mo {_} T.Dl T.pQ.kp T.Dm .nil ay (ac O1<|ac (ao aP BC ae) ai)) ?_
 intros
 refine aj (OM 3<|aL (pV T) hr.mo {_} T.Bd T.tE.kp T.Bv .nil ay (ac (ao aP BC ae)<|ac ae ai))
   (bU (λx=>aQ (aq bP O1 ae<|aw _) x aI) ?_)
 refine aj (OM 4<|ao aT OR ae)
   (aj (OM 5<|ao bx PF<|ao aT (ao aP OR ae)<|ao iX ae PF)
   (aA (aD<|bO<|ac O1<|ac (aS aU (bZ<|ac PF<|ac ae ai) (ao aT OR ae)<|λ_ _=>M)<|ac (aS aU (bZ<|ac Pj<|ac ae ai) (ao aT (ao aP OR ae) ae)<|λ_ _=>M) ai) ?_))
 intros
 refine aj (OM 4<|ao aT OR ae)
   (bU (λx=>aQ (PW.pt<|dU (aq w6 (aE aC {_} T.bL bf (ac M2 ai)) ae<|aw _)<|cJ<|aq w6 (ao aT (ao aP OR ae) ae) ae<|aw _) x aI) ?_)
 refine aA (OM 4<|ao bx (aS aU M2 (ao aT (ao aP OR ae)<|aE aC {_} T.bL bf (ac M2 ai))<|λ_ _=>M)<|ao aT (ao aP OR ae) ae) ?_
 intros
 refine aj (OM 5<|ao bx PF<|aS aU (bZ<|ac (ao aT (ao aP OR ae) ae)<|ac (ao aT (ao aP BC ae)<|ao gr ae ae)<|ac (ao aT (ao aP OR ae) ae) ai) (ao aT (ao aP OR ae) ae)<|λ_ _=>M)
   (aj (aQ (PW.pt<|dU (aq bP (ao aT (ao aP OR ae) ae) ae<|aw _)<|cJ<|aq bP O1 ae<|aw _)
    (az<|aD<|bO<|ac O1<|ac PF<|ac a7 ai)
    aI)
   (aj (aQ (aq bP (ao aT (ao aP OR ae) ae) ae<|aw _)
    (az<|aD<|bO<|ac O1<|ac a7<|ac PF ai)
    aI)
   (aA (aD<|bO<|ac O1<|ac (aS aU (bZ<|ac PF<|ac Pj ai) (ao iX O1 ae)<|λ_ _=>M)<|ac (aS aU (bZ<|ac Pj<|ac PF ai) (ao iX O1 ae)<|λ_ _=>M) ai) ?_)))
 intros
 have d0:=Qf c (show(3:Int)≠0 by decide);have d3:=Qc c (show(0:Int)<3 by decide);have two:(0:Int)<2:=by decide
 have I:3<=sizeLine:=by decide
 have O:2<=sizeLine:=by decide
 refine⟨_,M,_,_,M,M,(by show(0:Int)<3;decide),?_⟩
 (try dsimp only)
 generalize c%3=kd at d0 d3 q⊢;refine⟨_,M,_,_,M,M,⟨(_),(_)⟩,_,_,M,M,two,M,_,M,bQ (λ_=>?_)<|λ_=>?_⟩
 .exact⟨_,M,_,M,_,_,M,M,⟨(_),(_)⟩,kd,_,M,d0,d3,q⟩
 refine⟨_,M,_,_,M,M,⟨(_),(_)⟩,_,_,M,λn n0 n1=>?_⟩;refine⟨_,M,M,_,M,bQ (λz=>?_)<|λz=>?_⟩
 .obtain rfl:kd=0:=V.int.inj (Vw z);have G:=Qf n (show(65537:Int)≠0 by decide);have U:=Qc n (show(0:Int)<65537 by decide);refine⟨_,M,_,_,M,M,(by show(0:Int)<65537;decide),?_⟩
  (try dsimp only)
  generalize n%65537=lo at G U⊢;have b0:=Qf (n/65537) (show(65537-lo:Int)≠0 by lia);have b1:=Qc (n/65537) (show(0:Int)<65537-lo by lia);refine⟨_,M,_,M,_,_,M,M,⟨(_),(_)⟩,_,M,_,_,M,M,_,_,M,M,(by show(0:Int)<65537-lo;lia),_,_,M,M,?_⟩
  (try dsimp only)
  generalize n/65537%(65537-lo)=g at b0 b1⊢;obtain⟨x,hx,x0⟩:=zH (c:=n) (n:=2) (L:=[.int lo,.int 0]) (P:=λm=>0<=m/\m<=lo) ⟨⟨G,Zg _⟩,⟨Zg _,G⟩,trivial⟩ M two;obtain⟨y,hy,y0⟩:=zH (c:=n/2) (n:=2) (L:=[.int (lo+g),.int 65536]) (P:=λm=>lo<=m/\m<=65536) ⟨⟨(),()⟩,⟨(),()⟩,trivial⟩ M two;refine⟨_,M,_,M,O,λY a2=>⟨_,M,_,_,M,M,two,Y,_,_,_,M,M,Fb.of ag,hx,_,M,O,λp2 Z=>⟨_,M,_,_,M,M,⟨(_),(_)⟩,_,_,M,M,two,p2,_,_,_,M,M,Fb.of ag,hy,I,λp3 n3=>?_⟩⟩⟩;exact q _ p3 (.int x) (.int y) (((ak a2).trans<|ak Z).trans<|ak n3) ag (.inl ⟨M,x,y,M,M,x0.1,(),y0.2⟩) (eB ())<|eB ()
 .have dz:kd≠0:=λe=>z (Vy<|by rw[e]);have G:=Qf n (show(60:Int)≠0 by decide);have U:=Qc n (show(0:Int)<60 by decide);refine⟨_,M,_,_,M,M,(by show(0:Int)<60;decide),?_⟩
  (try dsimp only)
  generalize n%60=lo at G U⊢;refine dM (λB H'=>H=H'/\∃lo:Int,B=[some (.int c),some (.ref l),some (.int kd),some (.int n),some (.int lo),none]/\0<=lo/\lo<10^41) (λnx go=>?_)<|λB H' w=>?_
  .refine⟨_,M,l,_,M,.inl<|Fb.of hS,_,_,M,M,_,M,bQ (λz=>?_)<|λz=>?_⟩
   .have kl:0<ks.length:=by
     have:=Vw z;rw[Q0]at this;lia
    have kl:(0:Int)<(ks.length:Int):=();have z0:=Qf (n/180) (QU kl);have z1:=Qc (n/180) kl;have y0:=Qf (n/72000) (show(2:Int)≠0 by decide);have y1:=Qc (n/72000) (show(0:Int)<2 by decide);refine⟨_,M,_,_,M,M,⟨(_),(_)⟩,_,_,M,M,(by show(0:Int)<3;decide),_,_,M,M,_,M,bQ (λ_=>?_)<|λ_=>go _ _ ⟨M,lo,M,G,()⟩⟩;refine⟨_,M,_,M,_,_,M,M,⟨(_),(_)⟩,_,M,l,_,M,.inl<|Fb.of hS,_,_,M,M,(by rwa[Q0]),l,_,_,_,M,M,Fb.of hS,(by rw[Q0];exact xW z0 z1),_,M,_,_,M,M,⟨(_),(_)⟩,_,_,M,M,two,_,_,M,M,go _ _ ⟨M,_,M,?_⟩⟩;obtain⟨b0,b1⟩:=kb (ks.getD (n/180%ks.length).toNat 0) (Iz ());constructor<;>lia
   .exact go _ _ ⟨M,lo,M,G,()⟩
  clear G U lo;obtain⟨rfl,lo,rfl,G,U⟩:=w;have a3:(0:Int)<10^(38:Int).toNat:=by decide
  have a4:∀z:Int,0<=z%90/\z%90<10^38:=λz=>⟨Qf _ (_),Int.lt_trans (Qc _ (_)) (_)⟩;have a5:∀z:Int,0<=z%10^(38:Int).toNat/\z%10^(38:Int).toNat<10^38:=λz=>⟨Qf _ (_),Qc _ (_)⟩;have aa:∀z:Int,0<=z%70000/\z%70000<10^38:=λz=>⟨Qf _ (_),Int.lt_trans (Qc _ (_)) (_)⟩;obtain⟨hi,hh,b0,b1⟩:=zH (c:=n/216000) (n:=3) (L:=[.int (n/7%90),.int (c/11%10^(38:Int).toNat),.int (n/7%70000)]) (P:=λm=>0<=m/\m<10^38) ⟨a4 _,a5 _,aa _,trivial⟩ M (_);refine⟨_,M,_,M,_,_,M,M,⟨(_),(_)⟩,_,_,M,M,(by show(0:Int)<90;decide),_,M,_,_,M,M,⟨(_),(_)⟩,_,_,M,M,⟨(_),(_),(_)⟩,_,_,M,M,a3,_,M,_,_,M,M,⟨(_),(_)⟩,_,_,M,M,(by show(0:Int)<70000;decide),I,λp hp=>?_⟩;refine⟨_,M,_,_,M,M,⟨(_),(_)⟩,_,_,M,M,(by show(0:Int)<3;decide),p,_,_,_,M,M,Fb.of ag,hh,_,_,M,M,?_⟩;have s0:Fa H (upd H p<|.lst [.int (n/7%90),.int (c/11%10^(38:Int).toNat),.int (n/7%70000)]):=ak hp
  (try dsimp only)
  generalize upd H p (.lst [.int (n/7%90),.int (c/11%10^(38:Int).toNat),.int (n/7%70000)])=H1 at s0⊢;have q:=λH' p' a e (s:Fa H1 H')=>q H' p' a e (s0.trans s);have th:(0:Int)<3:=by decide
  have dv:CDiv n 648000:=⟨(_),(_)⟩;rcases(show kd=1\/kd=2 by lia)with rfl|rfl
  .refine⟨_,M,_,_,M,M,dv,_,_,M,M,th,M,_,M,bQ (λy=>?_)<|λy=>?_⟩
   .refine⟨_,M,M,_,M,fK M ⟨_,M,_,M,I,λp hp=>?_⟩⟩;exact q _ p (.int lo) .non (ak hp) ag (.inr<|.inl ⟨M,lo,M,G,.inl M⟩) (eB ()) Bt
   .refine⟨_,M,_,_,M,M,dv,_,_,M,M,th,M,_,M,bQ (λy2=>Vt y2 y)<|λ_=>?_⟩;refine⟨_,M,_,M,_,M,O,λY n1=>⟨_,M,_,_,M,M,Y,_,_,_,M,M,Fb.of ag,M,_,M,_,M,O,λp2 Z=>⟨_,M,_,_,M,M,p2,_,_,_,M,M,Fb.of ag,M,I,λp3 n3=>?_⟩⟩⟩;exact q _ p3 (.int lo) (.int<|lo+hi) (((ak n1).trans<|ak Z).trans<|ak n3) ag (.inr<|.inl ⟨M,lo,M,G,.inr ⟨_,M,()⟩⟩) (eB ())<|eB ()
  .refine⟨_,M,_,_,M,M,dv,_,_,M,M,th,M,_,M,bQ (λy=>?_)<|λy=>?_⟩
   .refine⟨_,M,M,_,M,a9 (λe=>by cases e) ⟨_,M,_,_,M,M,dv,_,_,M,M,th,M,_,M,bQ (λ_=>⟨_,M,_,M,I,λp hp=>?_⟩)<|λy2=>Vt y y2⟩⟩;exact q _ p .non (.int lo) (ak hp) ag (.inr<|.inr ⟨M,lo,M,G,.inl M⟩) Bt<|eB ()
   .refine⟨_,M,_,_,M,M,dv,_,_,M,M,th,M,_,M,bQ (λy2=>Vt y2 y)<|λ_=>?_⟩;refine⟨_,M,_,M,_,M,O,λY n1=>⟨_,M,_,_,M,M,Y,_,_,_,M,M,Fb.of ag,M,_,M,_,M,O,λp2 Z=>⟨_,M,_,_,M,M,p2,_,_,_,M,M,Fb.of ag,M,I,λp3 n3=>?_⟩⟩⟩;exact q _ p3 (.int<|lo+hi) (.int lo) (((ak n1).trans<|ak Z).trans<|ak n3) ag (.inr<|.inr ⟨M,lo,M,G,.inr ⟨_,M,()⟩⟩) (eB ())<|eB ()
def D6 {N:Addr} {kd:Str} {ok:V->V->Prop} {a:V} {E:XK} (ho:ok a e) (G:Sc a) (I:Sc e) (x dx:Addr) (nx:H x=none) (nd:H dx=none)
  (q:∀H' fs,Fa H H'->H' x=some (.ins C dx fs)->zw kd fs a e->Q .non H'):ED C N kd ok [.ref x,a,e] (upd (upd H dx<|.own x) x<|.ins C dx []) Q E:=
 ⟨x,dx,a,e,M,ag,G,I,λ_ H' fs k h f=>q H' fs (tU nx nd k) h f,λz=>Vt ho z⟩
def yr (K:JK) (t:OJ):Sp:=λvs H Q _=>∃(n:Addr) (kd:Int) (a e:V),vs=[.ref n]/\OX K H n [.int kd,a,e]/\Ph kd a e/\∀H' p,Fa H H'->H p=none->PB t H' p kd a e->Q (.ref p) H'
def yZ:CU P w K mg base OL 5 t.sR t.lU ["_law_numbers_here"] (yr K t):=by
 refine T.BF.okl yJ λs H vs Q E I h _=>?_;intro X;obtain⟨n,kd,a,e,rfl,G,ho,q⟩:=h;refine bU (λx=>aQ (aq bP (aS bB BC ae<|λ_ _=>M) ae<|aw _) x aI) ?_;refine aA (aD<|jx T.D7 (kE T) I.mo {_} T.xz T.vO .nil ay (ac (aS bB BC ae<|λ_ _=>M)<|ac (aS bB BC ae<|λ_ _=>M) ai)) ?_
 intros
 refine bU (λx=>aQ (aq bP (aS bB BC ae<|λ_ _=>M) ae<|aw _) x aI) ?_;refine aA (aD<|jx T.Od (uV T) I.mo {_} T.HN T.Er .nil ay (ac (aS bB BC ae<|λ_ _=>M)<|ac (aS bB BC ae<|λ_ _=>M) ai)) ?_
 intros
 refine aA (aD<|jx T.KC (pY T) I.mo {_} T.KD T.Bz .nil ay (ac (aS bB BC ae<|λ_ _=>M)<|ac (aS bB BC ae<|λ_ _=>M) ai)) ?_
 intros
 obtain⟨O,U⟩:=ho.sc;rcases ho.kd with rfl|rfl|rfl
 .refine⟨_,M,n,_,_,_,M,M,G,M,M,_,M,fK M ⟨_,M,n,_,_,_,M,M,G,M,_,M,n,_,_,_,M,M,G,M,λx dx nx nd ne=>?_⟩⟩;exact D6 ho.s O U x dx nx nd λH' fs s h f=>⟨M,q H' x s nx ⟨dx,fs,h,f⟩⟩
 .refine⟨_,M,n,_,_,_,M,M,G,M,M,_,M,a9 (λz=>by cases z) ⟨_,M,n,_,_,_,M,M,G,M,M,_,M,fK M ⟨_,M,n,_,_,_,M,M,G,M,_,M,n,_,_,_,M,M,G,M,λx dx nx nd ne=>?_⟩⟩⟩;exact D6 ho.u O U x dx nx nd λH' fs s h f=>⟨M,q H' x s nx ⟨dx,fs,h,f⟩⟩
 .refine⟨_,M,n,_,_,_,M,M,G,M,M,_,M,a9 (λz=>by cases z) ⟨_,M,n,_,_,_,M,M,G,M,M,_,M,a9 (λz=>by cases z) ⟨_,M,n,_,_,_,M,M,G,M,_,M,n,_,_,_,M,M,G,M,λx dx nx nd ne=>?_⟩⟩⟩;exact D6 ho.d O U x dx nx nd λH' fs s h f=>⟨M,q H' x s nx ⟨dx,fs,h,f⟩⟩
def yx (K:JK):Sp:=λvs H Q _=>∃(n:Addr) (kd k:Int) (a e:V),vs=[.ref n,.int k]/\OX K H n [.int kd,a,e]/\Ph kd a e/\Q (.bl<|hN kd a e k) H
def y7:CU P w K mg base OL 2 t.sW t.lZ ["_law_numbers_here","_law_key"] (yx K):=by
 refine T.tF.okl yO λs H vs Q E G h _=>?_;intro X;obtain⟨n,kd,k,a,e,rfl,I,ho,q⟩:=h;refine aj (ub BC<|w5 M<|dA (Pr 2)<|dA (Pr 3)<|dA (Pr 4) rS)
   (bU (λx=>aQ (aq bP O1 ae<|aw _) x aI) ?_)
 refine aA (aD<|gp (bF nT OR (aL (y4 T) G.mo {_} T.Bc T.tD.kp T.Bu .nil ay (ac M2 ai))<|aw _)<|dB<|bF eF (aL (y4 T) G.mo {_} T.Bc T.tD.kp T.Bu .nil ay (ac M2 ai)) PF<|aw _) ?_
 intros
 refine bU (λx=>aQ (aq bP O1 ae<|aw _) x aI) ?_;refine aA (aD<|gp (bF nT OR M2<|aw _)<|dB<|Cf (bF cX PF a7<|aw _)<|dB<|bF eF M2 PF<|aw _) ?_
 intros
 refine aA (aD<|gp (bF nT PF M2<|aw _)<|dB<|Cf (bF cX OR a7<|aw _)<|dB<|bF nT M2 OR<|aw _) ?_
 intros
 refine⟨_,M,n,_,M,I,M,_,_,M,_,_,M,_,_,M,M,?_⟩;rcases ho.kd with rfl|rfl|rfl
 .obtain⟨i,j,rfl,rfl,_⟩:=ho.s;have q:Q (.bl<|decide (i<=tz (k%65536))&&decide (tz (k%65536)<j)) H:=q;refine⟨_,M,M,_,M,fK M ⟨_,M,_,M,k,M,_,_,M,M,_,M,bQ (λc=>⟨_,M,k,M,_,M,_,_,M,M,?_⟩)<|λc=>?_⟩⟩
  .rw[c,ZT]at q;exact q
  .rw[QV.mpr c,ZI]at q;exact q
 .refine⟨_,M,M,_,M,a9 (λz=>by cases z) ⟨_,M,M,_,M,fK M ?_⟩⟩;obtain⟨i,rfl,i0,rfl|⟨j,rfl,_⟩⟩:=ho.u
  .have q:Q (.bl<|decide (i<=k)) H:=q;refine⟨_,M,_,M,_,_,M,M,_,M,bQ (λc=>⟨_,M,M,_,M,fK M ?_⟩)<|λc=>?_⟩
   .rw[c]at q;exact q
   .rw[QV.mpr c]at q;exact q
  .have q:Q (.bl<|decide (i<=k)&&decide (k<j)) H:=q;refine⟨_,M,_,M,_,_,M,M,_,M,bQ (λc=>⟨_,M,M,_,M,a9 (λz=>by cases z) ⟨_,M,_,M,_,_,M,M,?_⟩⟩)<|λc=>?_⟩
   .rw[c,ZT]at q;exact q
   .rw[QV.mpr c,ZI]at q;exact q
 .refine⟨_,M,M,_,M,a9 (λz=>by cases z) ⟨_,M,M,_,M,a9 (λz=>by cases z) ?_⟩⟩;obtain⟨j,rfl,O,rfl|⟨i,rfl,_⟩⟩:=ho.d
  .have q:Q (.bl<|decide (j<=k)) H:=q;refine⟨_,M,_,M,_,_,M,M,_,M,bQ (λc=>⟨_,M,M,_,M,fK M ?_⟩)<|λc=>?_⟩
   .rw[c]at q;exact q
   .rw[QV.mpr c]at q;exact q
  .have q:Q (.bl<|decide (j<=k)&&decide (k<=i)) H:=q;refine⟨_,M,_,M,_,_,M,M,_,M,bQ (λc=>⟨_,M,M,_,M,a9 (λz=>by cases z) ⟨_,M,_,M,_,_,M,M,?_⟩⟩)<|λc=>?_⟩
   .rw[c,ZT]at q;exact q
   .rw[QV.mpr c,ZI]at q;exact q
inductive Dw where
 |put (k v:Int)
 |drop (k:Int)
 |mark (i:Int)
noncomputable def Dw.vs:Dw->List V
 | .put k v=> [.str "put",.int k,.int v]
 | .drop k=> [.str "drop",.int k]
 | .mark i=> [.str "mark",.int i]
noncomputable def Dw.key:Dw->Option Int
 | .put k _=>some k
 | .drop k=>some k
 | .mark _=>none
noncomputable def Dw.eff:Dw->Option V
 | .put _ v=>some (.int v)
 |_=>none
structure DR where
 p:Addr
 r:Dw
def ap (W7:List (Int×V)) (e:DR):List (Int×V):=match e.r with
 | .put k v=>bi W7 k (.int v)
 | .drop k=>bM W7 k
 | .mark _=>W7
def tbl (l:List DR):List (Int×V):=l.foldl ap []
noncomputable def cR (k:Int):List DR->Option DR
 | []=>none
 |e::r=>match cR k r with
  |some x=>some x
  |none=>if e.r.key=some k then some e else none
def BA {e:DR}:aG (ap W7 e) k=if e.r.key=some k then e.r.eff else aG W7 k:=by
 unfold ap;cases e.r with
 |put j v=>
  show aG (bi W7 j<|.int v) k=if some j=some k then some (V.int v)else _
  rw[eC];by_cases h:k=j
  .rw[Vp h,Vp (by rw[h])]
  .rw[Vo h,Vo λz=>h (Vq z).symm]
 |drop j=>
  show aG (bM W7 j) k=if some j=some k then none else _
  rw[eY];by_cases h:k=j
  .rw[Vp h,Vp (by rw[h])]
  .rw[Vo h,Vo λz=>h (Vq z).symm]
 |mark i=>exact(Vo λz=>by cases z).symm
def LR {e:DR} (h:(W7.map (·.1)).Nodup):((ap W7 e).map (·.1)).Nodup:=by
 unfold ap;cases e.r with
 |put j v=>exact xq h
 |drop j=>exact h.sublist<|ZO.map _
 |mark i=>exact h
def No {e:DR}:(ap W7 e).length<=W7.length+1:=by
 unfold ap;cases e.r with
 |put j v=>exact bW _ _ _
 |drop j=>exact ZH<|CK _ _
 |mark i=>exact Zp _
def sG {k:Int}:∀{l:List DR} {W7:List (Int×V)},aG (l.foldl ap W7) k=match cR k l with|some x=>x.r.eff|none=>aG W7 k
 | [],_=>rfl
 |e::r,W7=>by
  show aG (r.foldl ap<|ap W7 e) k=match (match cR k r with|some x=>some x|none=>if e.r.key=some k then some e else none)with|some x=>x.r.eff|none=>aG W7 k
  rw[sG];cases c:cR k r with
  |some x=>rfl
  |none=>
   show aG (ap W7 e) k=_;rw[BA];by_cases h:e.r.key=some k
   .rw[Vp h,Vp h]
   .rw[Vo h,Vo h]
def Bm:∀{l:List DR} {W7:List (Int×V)},(W7.map (·.1)).Nodup->((l.foldl ap W7).map (·.1)).Nodup
 | [],_,h=>h
 |e::r,W7,h=>Bm (l:=r) (W7:=ap W7 e) (LR h)
def sH:∀{l:List DR} {W7:List (Int×V)},(l.foldl ap W7).length<=W7.length+l.length
 | [],_=>Q4 _
 |e::r,W7=>by
  have h1:=sH (l:=r) (W7:=ap W7 e);have h2:=No (W7:=W7) (e:=e);show(r.foldl ap<|ap W7 e).length<=W7.length+(r.length+1);lia
def DF:((tbl l).map (·.1)).Nodup:=Bm Z0
def vS:(tbl l).length<=l.length:=by
 have:=sH (l:=l) (W7:=[]);rwa [Xg,Xy]at this
def rq {e:DR}:tbl (l++ [e])=ap (tbl l) e:=by
 unfold tbl;rw[X0];rfl
def J7 {m:List DR}:tbl (l++m)=m.foldl ap (tbl l):=X0
def lQ {k:Int} {e:DR}:∀{l:List DR},cR k (l++ [e])=if e.r.key=some k then some e else cR k l
 | []=>rfl
 |x::r=>by
  show(match cR k (r++ [e])with|some x=>some x|none=>_)=_;rw[lQ];by_cases h:e.r.key=some k
  .rw[Vp h,Vp h]
  .rw[Vo h,Vo h];rfl
def gx {k:Int} {x:DR}:∀{l:List DR},cR k l=some x->x∈l/\x.r.key=some k
 | [],h=>by cases h
 |e::r,h=>by
  change (match cR k r with|some x=>some x|none=>if e.r.key=some k then some e else none)=some x at h;cases c:cR k r with
  |some y=>
   rw[c]at h;cases h;exact⟨Qd _ (gx c).1,(gx c).2⟩
  |none=>
   rw[c]at h;by_cases g:e.r.key=some k
   .change (if e.r.key=some k then some e else none)=some x at h;rw[Vp g]at h;cases h;exact⟨Qb,g⟩
   .change (if e.r.key=some k then some e else none)=some x at h;rw[Vo g]at h;cases h
def qR {k:Int}:∀{l:List DR},cR k l=none->∀x∈l,x.r.key≠some k
 | [],_,x,hx=>Vt hx Z7
 |e::r,h,x,hx=>by
  change (match cR k r with|some x=>some x|none=>if e.r.key=some k then some e else none)=none at h;cases c:cR k r with
  |some y=>rw[c]at h;cases h
  |none=>
   rw[c]at h;change (if e.r.key=some k then some e else none)=none at h;rcases Qh.mp hx with rfl|hx
   .intro g;rw[Vp g]at h;cases h
   .exact qR c x hx
def BS (h:k∈(tbl l).map (·.1)):∃x∈l,x.r.key=some k:=by
 have h:=O0.mp h;unfold tbl at h;rw[sG]at h;cases c:cR k l with
 |none=>rw[c]at h;cases h
 |some x=>exact⟨x,gx c⟩
structure PQ where
 g:Addr
 nd:Addr
 tk:Addr
 ta:V
 fd:Option (Addr×List Tp)
 ah:V
 aa:V
 no:List (Int×DR)
 cl:Option Int
structure OY where
 rv:V
 ra:V
 n:Nat
 cp:List (Int×V)
 pg:Option PQ
def hO (v:V) (kd:Int) (a e:V) (k:Int):Bool:=if v= .non then false else hN kd a e k
def PQ.inp (P:PQ) (kd:Int) (e:V) (k:Int):Bool:=P.fd.isSome&&(hN kd P.ta e k&&!hO P.ah kd P.aa e k)
def OY.cov (X:OY) (kd:Int) (av e:V) (k:Int):Bool:=hN kd av e k&&!hO X.rv kd X.ra e k
noncomputable def PQ.rows (P:PQ):List (Int×V):=match P.fd with
 |some y=>y.2.map Tp.kv
 |none=> []
def PQ.out (P:PQ):List (Int×V):=(P.no.map (·.2)).foldl ap P.rows
def xv (a b:List (Int×V)):List (Int×V):=b.foldl (λW7 p=>bi W7 p.1 p.2) a
noncomputable def yW (l:List (Int×DR)) (k:Int) (e:DR):List (Int×DR):=if(l.any λz=>decide (z.1=k))=true then l.map λz=>if z.1=k then(z.1,e)else z else l++ [(k,e)]
def Pz {l:List (Int×DR)} {j:Int} {e x:DR}:(j,x)∈yW l k e↔(j=k/\x=e)\/(j≠k/\(j,x)∈l):=by
 unfold yW;by_cases c:(l.any λz=>decide (z.1=k))=true
 .rw[Vp c,Q9];constructor
  .rintro ⟨z,hz,G⟩;by_cases h:z.1=k
   .rw[Vp h]at G;cases G;exact .inl ⟨h,M⟩
   .rw[Vo h]at G;subst G;exact .inr ⟨h,hz⟩
  .rintro (⟨rfl,rfl⟩|⟨h,hz⟩)
   .obtain⟨z,hz,G⟩:=Xr.mp c;have G:=Vw G;exact⟨z,hz,by rw[Vp G,G]⟩
   .exact⟨(j,x),hz,by rw[Vo h]⟩
 .rw[Vo c,Q5];constructor
  .rintro (h|h)
   .refine .inr ⟨λz=>c<|Xr.mpr ⟨(j,x),h,Vy z⟩,h⟩
   .cases Q7.mp h;exact .inl ⟨M,M⟩
  .rintro (⟨rfl,rfl⟩|⟨_,h⟩)
   .exact .inr<|Q7.mpr M
   .exact .inl h
def Hs {l:List (Int×DR)} {e:DR}:(yW l k e).length<=l.length+1:=by
 unfold yW;split
 .rw[Q0];exact Zp _
 .rw[Q8];exact Q4 _
def Hr {l:List (Int×DR)} {e:DR}:(yW l k e).map (λz=>(z.1,V.ref z.2.p))=bi (l.map λz=>(z.1,V.ref z.2.p)) k (.ref e.p):=by
 unfold yW bi;rw[List.any_map];have:(l.any λz=>decide (z.1=k))=l.any ((λkv:Int×V=>decide (kv.1=k))∘λz=>(z.1,V.ref z.2.p)):=M;rw[<-this];split
 .rw[Qs,Qs];refine Z9 λz _=>?_;show((if z.1=k then(z.1,e)else z).1,V.ref (if z.1=k then(z.1,e)else z).2.p)=if z.1=k then(z.1,V.ref e.p)else(z.1,V.ref z.2.p)
  split<;>rfl
 .rw[Qg];rfl
def OY.chg (X:OY) (kd:Int) (av e:V) (k:Int) (x:DR):OY:=
 if X.cov kd av e k=true then{X with n:=X.n+1,cp:=ap X.cp x}else match X.pg with
  |none=>{X with n:=X.n+1}
  |some P=>if P.inp kd e k=true then{X with n:=X.n+1,pg:=some {P with no:=yW P.no k x}}else{X with n:=X.n+1}
def OY.mrk (X:OY) (i:Int):OY:=match X.pg with
 |none=>{X with n:=X.n+1}
 |some P=>if P.cl=some i then⟨P.ah,P.aa,X.n+1,xv X.cp P.out,none⟩else{X with n:=X.n+1}
def bu (kd:Int) (av e:V) (X:OY) (x:DR):OY:=match x.r with
 | .put k _=>X.chg kd av e k x
 | .drop k=>X.chg kd av e k x
 | .mark i=>X.mrk i
def xu {k:Int}:∀{b a:List (Int×V)},(b.map (·.1)).Nodup->aG (xv a b) k=match aG b k with|some v=>some v|none=>aG a k
 | [],_,_=>rfl
 |p::r,a,h=>by
  obtain⟨h1,h2⟩:=QQ.mp h;show aG (xv (bi a p.1 p.2) r) k=_;rw[xu h2];by_cases e:p.1=k
  .have:aG r k=none:=by
    cases c:aG r k with
    |none=>rfl
    |some v=>exact Vt (O0.mpr<|by rw[c];rfl)<|by rwa[<-e]
   rw[this,br e,eC,Vp e.symm]
  .rw[bn e];cases aG r k with
   |some v=>rfl
   |none=>
    show aG (bi a p.1 p.2) k=aG a k;rw[eC,Vo λz=>e z.symm]
def EM:∀{b a:List (Int×V)},(a.map (·.1)).Nodup->((xv a b).map (·.1)).Nodup
 | [],_,h=>h
 |p::r,a,h=>EM (b:=r) (a:=bi a p.1 p.2) (xq h)
def zR:∀{b a:List (Int×V)},ut (aB a) (aB b)=aB (xv a b)
 | [],_=>rfl
 |p::r,a=>by
  show ut (bi (aB a) (Sum.inl p.1) p.2) (aB r)=aB (xv (bi a p.1 p.2) r);rw[b9,zR]
structure SA (kd:Int) (av e:V) (ds:List DR) (X:OY) (P:PQ):Prop where
 rn:X.rv= .ref P.tk
 ra:P.ta=X.ra
 nl:P.no.length<=X.n
 nk:∀z∈P.no,z.2.r.key=some z.1
 un:P.fd=none->P.no=[]/\P.cl=none
 fd:∀y,P.fd=some y->∃nr mr,nr<=X.n/\nr<=mr/\mr<=ds.length/\(y.2.map (·.k)).Nodup/\(∀k v,(k,v)∈y.2.map Tp.kv↔(k,v)∈tbl (ds.take mr)/\hN kd P.ta e k=true/\hO P.ah kd P.aa e k=false)/\(∀k,0<=k->hO P.ah kd P.aa e k=true->hN kd P.ta e k=true)/\(∀k x,(k,x)∈P.no↔P.inp kd e k=true/\cR k ((ds.take X.n).drop nr)=some x)/\∀m,P.cl=some m->∃c x,ds[c]?=some x/\x.r= .mark m/\mr<=c/\X.n<=c
structure Inv (kd:Int) (av e:V) (ds:List DR) (X:OY):Prop where
 le:X.n<=ds.length
 nd:(X.cp.map (·.1)).Nodup
 cp:∀k,0<=k->aG X.cp k=if X.cov kd av e k=true then aG (tbl<|ds.take X.n) k else none
 kp:∀k∈X.cp.map (·.1),0<=k
 su:∀k,0<=k->hO X.rv kd X.ra e k=true->hN kd av e k=true
 pg:∀P,X.pg=some P->SA kd av e ds X P
structure Ra (ds:List DR):Prop where
 kb:∀x∈ds,∀k,x.r.key=some k->0<=k
 un:∀(i j:Nat) (x y:DR) (m:Int),ds[i]?=some x->ds[j]?=some y->x.r= .mark m->y.r= .mark m->i=j
 dr:∀(i:Nat) (x:DR) (k:Int),ds[i]?=some x->x.r= .drop k->(aG (tbl<|ds.take i) k).isSome=true
def wg {x:DR} (h:ds[i]?=some x):tbl (ds.take<|i+1)=ap (tbl<|ds.take i) x:=by
 rw[Qq,h];exact rq
def wF {nr:Nat} {x:DR} (h:ds[i]?=some x) (l:nr<=i):(ds.take<|i+1).drop nr=(ds.take i).drop nr++ [x]:=by
 have hi:=(Q2.mp h).1;rw[Qq,h,List.drop_append_of_le_length (by rw[Q6];lia)];rfl
def AJ {nr m:Nat} (l:nr<=m):aG (tbl<|ds.take m) k=match cR k ((ds.take m).drop nr)with|some x=>x.r.eff|none=>aG (tbl<|ds.take nr) k:=by
 have e:ds.take m=ds.take nr++(ds.take m).drop nr:=by
  conv=>lhs;rw[<-QM nr (ds.take m),XI,Zk l]
 conv=>lhs;rw[e,J7,sG]
def ME {P:PQ} (h:∀y,P.fd=some y->(y.2.map (·.k)).Nodup):(P.out.map (·.1)).Nodup:=by
 refine Bm ?_;unfold PQ.rows;cases c:P.fd with
 |none=>exact Z0
 |some y=>
  show((y.2.map Tp.kv).map (·.1)).Nodup;rw[Qs];exact h y c
def Kt {kd:Int} {P:PQ} (I:SA kd av e ds X P) (Y:P.cl=some m) {x:DR} (D:Ra ds) (hx:ds[X.n]?=some x) (xm:x.r= .mark m) (k:Int):aG P.out k=if P.inp kd e k=true then aG (tbl<|ds.take X.n) k else none:=by
 cases U:P.fd with
 |none=>rw[(I.un U).2]at Y;cases Y
 |some y=>
  obtain⟨nr,G,l1,l2,l3,ny,Z,le,no,cl⟩:=I.fd y U;obtain⟨c,x',hc,xc,l4,l5⟩:=cl m Y;have ec:c=X.n:=D.un c X.n x' x m hc hx xc xm;subst ec;have a0:((y.2.map Tp.kv).map (·.1)).Nodup:=by
   rwa[Qs]
  have er:P.rows=y.2.map Tp.kv:=by
   unfold PQ.rows;rw[U]
  have ei:P.inp kd e k=(hN kd P.ta e k&&!hO P.ah kd P.aa e k):=by
   unfold PQ.inp;rw[U];rfl
  unfold PQ.out;rw[sG,er];cases O:cR k (P.no.map (·.2))with
  |some z=>
   obtain⟨hz,kz⟩:=gx O;obtain⟨w,hw,ew⟩:=Q9.mp hz;have kw:=I.nk w hw;rw[ew,kz]at kw;have a1:(k,z)∈P.no:=by
    rwa[Vq kw,<-ew]
   obtain⟨i1,i2⟩:=(no k z).mp a1;rw[Vp i1,AJ l1,i2]
  |none=>
   show aG (y.2.map Tp.kv) k=_;by_cases hi:P.inp kd e k=true
   .rw[Vp hi];have hn:cR k ((ds.take X.n).drop nr)=none:=by
     cases c:cR k ((ds.take X.n).drop nr)with
     |none=>rfl
     |some z=>exact Vt (gx c).2<|qR O z (Q9.mpr ⟨(k,z),(no k z).mpr ⟨hi,c⟩,M⟩)
    have a2:cR k ((ds.take G).drop nr)=none:=by
     cases c:cR k ((ds.take G).drop nr)with
     |none=>rfl
     |some z=>
      obtain⟨z1,z2⟩:=gx c;refine Vt z2<|qR hn z ?_;have:(ds.take G).drop nr=((ds.take X.n).drop nr).take (G-nr):=by
       rw[<-List.drop_take,XI,Zk ()]
      rw[this]at z1;exact QC z1
    rw[AJ (ds:=ds) l1,hn];show _=aG (tbl<|ds.take nr) k;have h1:=AJ (ds:=ds) (k:=k) l2;rw[a2]at h1;change aG (tbl<|ds.take G) k=aG (tbl<|ds.take nr) k at h1;rw[<-h1];rw[ei,QI,V4]at hi;cases c:aG (tbl<|ds.take G) k with
    |some v=>exact bD a0<|(Z k v).mpr ⟨bE c,hi⟩
    |none=>
     cases c2:aG (y.2.map Tp.kv) k with
     |none=>rfl
     |some v=>
      have h3:=((Z k v).mp<|bE c2).1;rw[bD DF h3]at c;cases c
   .rw[Vo hi];cases c2:aG (y.2.map Tp.kv) k with
    |none=>rfl
    |some v=>
     have h3:=((Z k v).mp<|bE c2).2;rw[ei,QI,V4]at hi;exact Vt h3 hi
def SA.more {kd:Int} {more:List DR} {P:PQ} (I:SA kd av e ds X P) (le:X.n<=ds.length):SA kd av e (ds++more) X P:=
 ⟨I.rn,I.ra,I.nl,I.nk,I.un,λy hy=>by
  obtain⟨nr,z,l1,G,O,h1,h2,U,Y,Z⟩:=I.fd y hy;refine⟨nr,z,l1,G,by rw[Q8];lia,h1,by rwa[QG O],U,by rwa[QG le],λm hm=>?_⟩;obtain⟨c,x,hc,hr⟩:=Z m hm;exact⟨c,x,by rwa[QT (Q2.mp hc).1],hr⟩⟩
def Inv.more {kd:Int} {more:List DR} (I:Inv kd av e ds X):Inv kd av e (ds++more) X:=
 ⟨by rw[Q8];exact Qz I.le<|Nat.le_add_right _ _,I.nd,by rw[QG I.le];exact I.cp,I.kp,I.su,λP z=>(I.pg P z).more I.le⟩
def Inv.chg {kd:Int} {x:DR} (I:Inv kd av e ds X) (k0:0<=k) (hx:ds[X.n]?=some x) (hk:x.r.key=some k):Inv kd av e ds (X.chg kd av e k x):=by
 have hn:=(Q2.mp hx).1;have tv:∀j,aG (tbl<|ds.take<|X.n+1) j=if j=k then x.r.eff else aG (tbl<|ds.take X.n) j:=λj=>by
  rw[wg hx,BA,hk];by_cases h:j=k
  .rw[Vp h,Vp (by rw[h])]
  .rw[Vo h,Vo λz=>h (Vq z).symm]
 have Z:∀P,SA kd av e ds X P->P.inp kd e k=false->∀cp,SA kd av e ds {X with n:=X.n+1,cp:=cp} P:=λP q hi cp=>by
  refine⟨q.rn,q.ra,ZH q.nl,q.nk,q.un,λy hy=>?_⟩;obtain⟨nr,mr,l1,l2,l3,h1,h2,h3,h4,h5⟩:=q.fd y hy;refine⟨nr,mr,ZH l1,l2,l3,h1,h2,h3,λj z=>?_,λm hm=>?_⟩
  .show _↔_/\cR j ((ds.take<|X.n+1).drop nr)=some z;rw[h4,wF hx l1,lQ,hk];by_cases h:some k=some j
   .rw[<-Vq h,hi];constructor<;>(rintro ⟨z,_⟩;cases z)
   .rw[Vo h]
  .obtain⟨c,z,hc,zc,l4,l5⟩:=h5 m hm;have l5:X.n<=c:=l5;refine⟨c,z,hc,zc,l4,XS l5 λh=>?_⟩;rw[<-h,hx]at hc;cases hc;rw[zc]at hk;cases hk
 have a0:∀P,X.pg=some P->X.cov kd av e k=true->P.inp kd e k=false:=λP U hc=>by
  have q:=I.pg P U;unfold OY.cov at hc;rw[QI,V4]at hc;have h:=hc.2;unfold hO at h;rw[q.rn,Vo (λz=>by cases z),<-q.ra]at h;unfold PQ.inp;rw[h];cases P.fd.isSome<;>rfl
 unfold OY.chg;by_cases hc:X.cov kd av e k=true
 .rw[Vp hc];refine⟨hn,LR I.nd,λj j0=>?_,λj Y=>?_,I.su,λP U=>Z P (I.pg P U) (a0 P U hc) _⟩
  .show aG (ap X.cp x) j=if X.cov kd av e j=true then aG (tbl<|ds.take<|X.n+1) j else none
   rw[BA,tv,hk,I.cp j j0];by_cases h:j=k
   .rw[Vp (by rw[h]),Vp h,h,Vp hc]
   .rw[Vo (λz=>h (Vq z).symm),Vo h]
  .have Y:=O0.mp Y;change (aG (ap X.cp x) j).isSome=true at Y;rw[BA,hk]at Y;by_cases h:some k=some j
   .rwa[<-Vq h]
   .rw[Vo h]at Y;exact I.kp j<|O0.mpr Y
 .rw[Vo hc];have G:∀j,0<=j->aG X.cp j=if X.cov kd av e j=true then aG (tbl<|ds.take<|X.n+1) j else none:=λj j0=>by
   rw[I.cp j j0,tv];by_cases h:j=k
   .rw[h,Vo hc,Vo hc]
   .rw[Vo h]
  cases hp:X.pg with
  |none=>exact⟨hn,I.nd,G,I.kp,I.su,λP U=>by cases U⟩
  |some P=>
   show Inv kd av e ds (if P.inp kd e k=true then _ else _);have q:=I.pg P hp;by_cases hi:P.inp kd e k=true
   .rw[Vp hi];refine⟨hn,I.nd,G,I.kp,I.su,λP' O=>?_⟩;cases O;refine⟨q.rn,q.ra,Qz Hs<|Nat.succ_le_succ q.nl,λz hz=>?_,λh=>?_,λy hy=>?_⟩
    .rcases Pz.mp (show(z.1,z.2)∈yW P.no k x from hz)with⟨h1,h2⟩|⟨_,h⟩
     .rwa[h1,h2]
     .exact q.nk z h
    .unfold PQ.inp at hi;rw[show P.fd=none from h]at hi;cases hi
    .obtain⟨nr,mr,l1,l2,l3,h1,h2,h3,h4,h5⟩:=q.fd y hy;refine⟨nr,mr,ZH l1,l2,l3,h1,h2,h3,λj z=>?_,λm hm=>?_⟩
     .show(j,z)∈yW P.no k x↔P.inp kd e j=true/\cR j ((ds.take<|X.n+1).drop nr)=some z;rw[Pz,h4,wF hx l1,lQ,hk];by_cases h:j=k
      .rw[Vp (by rw[h]),h];exact⟨λg=>g.elim (λg=>⟨hi,by rw[g.2]⟩) λg=>Vt M g.1,λg=> .inl ⟨M,(Vq g.2).symm⟩⟩
      .rw[Vo λz=>h (Vq z).symm];exact⟨λg=>g.elim (λg=>Vt g.1 h) λg=>g.2,λg=> .inr ⟨h,g⟩⟩
     .obtain⟨c,z,hc,zc,l4,l5⟩:=h5 m hm;refine⟨c,z,hc,zc,l4,XS l5 λh=>?_⟩;rw[<-h,hx]at hc;cases hc;rw[zc]at hk;cases hk
   .rw[Vo hi];exact⟨hn,I.nd,G,I.kp,I.su,λP' O=>by
     cases O;have z:=Z P q (by cases h:P.inp kd e k<;>simp_all) X.cp;rw[hp]at z;exact z⟩
def Inv.mrk {kd:Int} {x:DR} (I:Inv kd av e ds X) (D:Ra ds) (hx:ds[X.n]?=some x) (U:x.r= .mark m):Inv kd av e ds (X.mrk m):=by
 have hn:=(Q2.mp hx).1;have tv:tbl (ds.take<|X.n+1)=tbl (ds.take X.n):=by
  rw[wg hx];unfold ap;rw[U]
 have Y:∀j,0<=j->aG X.cp j=if X.cov kd av e j=true then aG (tbl<|ds.take<|X.n+1) j else none:=λj j0=>by
  rw[I.cp j j0,tv]
 unfold OY.mrk;cases hp:X.pg with
 |none=>exact⟨hn,I.nd,Y,I.kp,I.su,λP hP=>by cases hP⟩
 |some P=>
  show Inv kd av e ds (if P.cl=some m then _ else _);have q:=I.pg P hp;by_cases O:P.cl=some m
  .rw[Vp O];have ov:=Kt q O D hx U;obtain⟨y,hy⟩:∃y,P.fd=some y:=by
    cases c:P.fd with
    |none=>rw[(q.un c).2]at O;cases O
    |some y=>exact⟨y,M⟩
   obtain⟨nr,mr,l1,l2,l3,h1,h2,h3,h4,h5⟩:=q.fd y hy;have on:(P.out.map (·.1)).Nodup:=ME λz hz=>by rw[hy]at hz;cases hz;exact h1
   have rk:∀k,hO X.rv kd X.ra e k=hN kd P.ta e k:=λk=>by
    unfold hO;rw[q.rn,Vo (λz=>by cases z),q.ra]
   have ei:∀k,P.inp kd e k=(hN kd P.ta e k&&!hO P.ah kd P.aa e k):=λk=>by
    unfold PQ.inp;rw[hy];rfl
   refine⟨hn,EM I.nd,λk k0=>?_,λk hk=>?_,λk k0 hk=>I.su k k0 (by rw[rk];exact h3 k k0 hk),λP' G=>by cases G⟩
   .show aG (xv X.cp P.out) k=if(hN kd av e k&&!hO P.ah kd P.aa e k)=true then aG (tbl<|ds.take<|X.n+1) k else none
    rw[xu on,ov,tv,I.cp k k0];unfold OY.cov;rw[rk,ei];have s1:=I.su k k0;rw[rk]at s1;have s2:=h3 k k0;cases c1:hN kd P.ta e k<;>cases c2:hO P.ah kd P.aa e k<;>cases c3:hN kd av e k<;>simp_all<;>(cases aG (tbl<|ds.take X.n) k<;>rfl)
   .have hk:=O0.mp hk;change (aG (xv X.cp P.out) k).isSome=true at hk;rw[xu on]at hk;cases c:aG P.out k with
    |none=>rw[c]at hk;exact I.kp k<|O0.mpr hk
    |some v=>
     rw[ov]at c;split at c
     .obtain⟨z,hz,kz⟩:=BS (O0.mpr<|by rw[c];rfl);exact D.kb z (QC hz) k kz
     .cases c
  .rw[Vo O];refine⟨hn,I.nd,Y,I.kp,I.su,λP' G=>?_⟩;cases G;refine⟨q.rn,q.ra,ZH q.nl,q.nk,q.un,λy hy=>?_⟩;obtain⟨nr,mr,l1,l2,l3,h1,h2,h3,h4,h5⟩:=q.fd y hy;refine⟨nr,mr,ZH l1,l2,l3,h1,h2,h3,λj z=>?_,λm' Z=>?_⟩
   .show _↔_/\cR j ((ds.take<|X.n+1).drop nr)=some z;rw[h4,wF hx l1,lQ,U,Vo λz=>by cases z]
   .obtain⟨c,z,hc,zc,l4,l5⟩:=h5 m' Z;refine⟨c,z,hc,zc,l4,XS l5 λh=>?_⟩;rw[<-h,hx]at hc;cases hc;rw[zc]at U;cases U;exact O Z
def Inv.step {kd:Int} {x:DR} (I:Inv kd av e ds X) (D:Ra ds) (hx:ds[X.n]?=some x):Inv kd av e ds (bu kd av e X x):=by
 have z:=Q1 hx;unfold bu;cases c:x.r with
 |put k v=>exact I.chg (D.kb x z k<|by rw[c];rfl) hx<|by rw[c];rfl
 |drop k=>exact I.chg (D.kb x z k<|by rw[c];rfl) hx<|by rw[c];rfl
 |mark m=>exact I.mrk D hx c
def LN {kd:Int} {x:DR}:(X.chg kd av e k x).n=X.n+1:=by
 unfold OY.chg;split
 .rfl
 .cases X.pg with
  |none=>rfl
  |some P=>
   dsimp only;split<;>rfl
def Oc {i:Int}:(X.mrk i).n=X.n+1:=by
 unfold OY.mrk;cases X.pg with
 |none=>rfl
 |some P=>
  dsimp only;split<;>rfl
def AC {kd:Int} {x:DR}:(bu kd av e X x).n=X.n+1:=by
 unfold bu;cases x.r with
 |put k v=>exact LN
 |drop k=>exact LN
 |mark i=>exact Oc
def RT (t:OJ) (H:Hp) (v:V) (kd:Int) (a e:V):Prop:=v= .non\/∃p,v= .ref p/\PB t H p kd a e/\Ph kd a e
def RT.same {kd:Int} {a:V} (h:RT t H v kd a e) (s:Fa H H'):RT t H' v kd a e:=by
 rcases h with h|⟨p,h1,h2,z⟩
 .exact .inl h
 .exact .inr ⟨p,h1,h2.same s,z⟩
noncomputable def Kz:Option (Addr×List Tp)->V
 |some y=> .ref y.1
 |none=> .non
noncomputable def Ck:Option Int->V
 |some i=> .int i
 |none=> .non
def oPg:Option PQ->V
 |some P=> .ref P.g
 |none=> .non
structure RH (t:OJ) (H:Hp) (kd:Int) (e:V) (P:PQ):Prop where
 ob:∃dx,H P.g=some (.ins t.bS dx [("asked",.ref P.tk),("found",Kz P.fd),("ahead",P.ah),("noted",.ref P.nd),("closing",Ck P.cl)])
 no:H P.nd=some (.dK<|aB<|P.no.map λz=>(z.1,V.ref z.2.p))
 tk:PB t H P.tk kd P.ta e/\Ph kd P.ta e
 ah:RT t H P.ah kd P.aa e
 fd:∀y,P.fd=some y->H y.1=some (.lst<|y.2.map λe=>V.ref e.p)/\∀z∈y.2,H z.p=some (.tup [.int z.k,z.v])
 ro:∀z∈P.no,H z.2.p=some (.tup z.2.r.vs)
structure P8 (t:OJ) (H:Hp) (c a p dd:Addr) (kd:Int) (av e:V) (X:OY):Prop where
 ob:∃dx,H c=some (.ins t.aW dx [("house",.ref a),("first",.ref p),("rest",X.rv),("followed",.int X.n),("copied",.ref dd),("page",oPg X.pg)])
 cp:H dd=some (.dK<|aB X.cp)
 tk:PB t H p kd av e/\Ph kd av e
 rt:RT t H X.rv kd X.ra e
 pg:∀P,X.pg=some P->RH t H kd e P/\P.nd≠dd
def RH.same {kd:Int} {P:PQ} (h:RH t H kd e P) (s:Fa H H'):RH t H' kd e P:=by
 obtain⟨dx,o⟩:=h.ob;exact⟨⟨dx,s _ _ o⟩,s _ _ h.no,⟨h.tk.1.same s,h.tk.2⟩,h.ah.same s,λy hy=>⟨s _ _ (h.fd y hy).1,λz hz=>s _ _<|(h.fd y hy).2 z hz⟩,λz hz=>s _ _<|h.ro z hz⟩
def P8.same {kd:Int} (h:P8 t H c a p dd kd av e X) (s:Fa H H'):P8 t H' c a p dd kd av e X:=by
 obtain⟨dx,o⟩:=h.ob;exact⟨⟨dx,s _ _ o⟩,s _ _ h.cp,⟨h.tk.1.same s,h.tk.2⟩,h.rt.same s,λP z=>⟨(h.pg P z).1.same s,(h.pg P z).2⟩⟩
def DL (t:OJ):Sp:=λvs H Q _=>∃(v:V) (kd k:Int) (av e:V),vs=[v,.int k]/\RT t H v kd av e/\0<=k/\∀H',Fa H H'->Q (.bl<|hO v kd av e k) H'
def xf:CU P w K mg base OL 4 t.Aq t.uJ ["token","key"] (DL t):=by
 refine T.Av.okl DU λs H vs Q E U h _=>?_;intro X;obtain⟨v,kd,k,av,e,rfl,TO,k0,q⟩:=h;refine⟨_,(az<|aD<|gp (bF jy BC a7<|aw _)<|dB<|rT (kk:=3) (fN (bR T.bC T.kF (fG T) T.kK (_))<|fN (bR T.f7 T.ou (iz T) T.oO (_))<|bR T.b7 T.jY (fF T) T.ku (_)) U.mo BC<|ac M2 ai)
  ,?_⟩
 unfold hO at q;rcases TO with rfl|⟨p,rfl,Y,I⟩
 .rw[Vp M]at q;exact⟨_,M,M,_,M,i7 M<|q H (Fa.refl _)⟩
 rw[Vo (by intro z;cases z)]at q;obtain⟨Z,fr,G,O⟩:=Y;refine⟨_,M,M,_,M,?_⟩;rw[show decide (V.ref p=V.non)=false from VA λz=>by cases z];exact cH ⟨_,M,p,_,Z,fr,_,M,G,O.ho,dHN I.kd,_,M,AG I G O k0 λH2 s2=>q H2 s2⟩
def rE (t:OJ):Sp:=λvs H Q _=>∃(c a p dd:Addr) (kd k:Int) (av e:V) (X:OY),vs=[.ref c,.int k]/\P8 t H c a p dd kd av e X/\0<=k/\∀H',Fa H H'->Q (.bl<|X.cov kd av e k) H'
def jz:CU P w K mg base OL 5 t.kO t.gE ["self","key"] (rE t):=by
 refine T.GF.okl rM λs H vs Q E I h _=>?_;intro X;obtain⟨c,a,p,dd,kd,k,av,e,X,rfl,C,k0,q⟩:=h;refine⟨_,(az<|aD<|gp (rT (kk:=3) (fN (bR T.bC T.kF (fG T) T.kK (_))<|fN (bR T.f7 T.ou (iz T) T.oO (_))<|bR T.b7 T.jY (fF T) T.ku (_)) I.mo (au BC M)<|ac M2 ai)<|dB<|AU<|aL (xf T) I.mo {_} T.F6 T.Av.kp T.Gx .nil ay (ac (au BC M)<|ac M2 ai))
  ,?_⟩
 obtain⟨dx,ho⟩:=C.ob;obtain⟨⟨Y,fr,z,O⟩,U⟩:=C.tk;unfold OY.cov at q;refine⟨_,M,c,_,dx,_,_,M,ho,T.aF,T.vJ,M,p,_,Y,fr,_,M,z,O.ho,dHN U.kd,_,M,AG U z O k0 λH2 G=>⟨_,M,?_⟩⟩;cases hc:hN kd av e k with
 |false=>
  rw[hc]at q;exact cu<|q H2 G
 |true=>
  rw[hc]at q;exact cH ⟨_,M,c,_,dx,_,_,M,G _ _ ho,T.aF,T.dE,M,_,M,X.rv,kd,k,X.ra,e,M,C.rt.same G,k0,λH3 s3=>⟨_,M,q H3<|G.trans s3⟩⟩
def rC (t:OJ):Sp:=λvs H Q _=>∃(kd k:Int) (e:V) (P:PQ),vs=[.ref P.g,.int k]/\RH t H kd e P/\0<=k/\∀H',Fa H H'->Q (.bl<|P.inp kd e k) H'
def rZ:CU P w K mg base OL 5 t.kM t.gA ["self","key"] (rC t):=by
 refine T.GD.okl rK λs H vs Q E U h _=>?_;intro X;obtain⟨kd,k,e,G,rfl,C,k0,q⟩:=h;refine⟨_,(az<|aD<|gp (bF jy (au BC M) a7<|aw _)<|gp (rT (kk:=3) (fN (bR T.bC T.kF (fG T) T.kK (_))<|fN (bR T.f7 T.ou (iz T) T.oO (_))<|bR T.b7 T.jY (fF T) T.ku (_)) U.mo (au BC M)<|ac M2 ai)<|dB<|AU<|aL (xf T) U.mo {_} T.F6 T.Av.kp T.Gx .nil ay (ac (au BC M)<|ac M2 ai))
  ,?_⟩
 obtain⟨dx,ho⟩:=C.ob;obtain⟨⟨dr,fr,I,Y⟩,Z⟩:=C.tk;unfold PQ.inp at q;refine⟨_,M,G.g,_,dx,_,_,M,ho,T.bG,T.cV,M,M,_,M,?_⟩;cases hf:G.fd with
 |none=>
  rw[hf]at q;exact i7 M<|q H (Fa.refl _)
 |some y=>
  rw[hf]at q;refine Eg (λz=>by cases z) ?_;refine⟨_,M,G.g,_,dx,_,_,M,ho,T.bG,T.p7,M,G.tk,_,dr,fr,_,M,I,Y.ho,dHN Z.kd,_,M,AG Z I Y k0 λH2 O=>⟨_,M,?_⟩⟩;cases hc:hN kd G.ta e k with
  |false=>
   rw[hc]at q;exact cu<|q H2 O
  |true=>
   rw[hc]at q;exact cH ⟨_,M,G.g,_,dx,_,_,M,O _ _ ho,T.bG,T.jX,M,_,M,G.ah,kd,k,G.aa,e,M,C.ah.same O,k0,λH3 s3=>⟨_,M,q H3<|O.trans s3⟩⟩
def OY.mut (X:OY) (c dd:Addr):Addr->Prop:=λb=>b=c\/b=dd\/∃P,X.pg=some P/\(b=P.g\/b=P.nd)
def OY.adr (X:OY) (c p dd:Addr):Addr->Prop:=λb=>X.mut c dd b\/b=p\/X.rv= .ref b\/∃P,X.pg=some P/\(b=P.tk\/P.ah= .ref b\/∃y,P.fd=some y/\b=y.1)
def S0 (a p:Addr) (rv:V) (n:Int) (dd:Addr) (pg:V):List (Str×V):=[("house",.ref a),("first",.ref p),("rest",rv),("followed",.int n),("copied",.ref dd),("page",pg)]
noncomputable def Rk (tk:Addr) (fd ah:V) (nd:Addr) (cl:V):List (Str×V):=[("asked",.ref tk),("found",fd),("ahead",ah),("noted",.ref nd),("closing",cl)]
def cq {o':HO} (h1:H b=some o) (h2:H q=some o') (n:o≠o'):b≠q:=λz=>by
 rw[z,h2]at h1;exact n (Vq h1).symm
def PB.ne {d:Addr} {kd:Int} {a:V} (h:PB t H p kd a e) (hc:H c=some (.ins C d fs)) (n:fs.lookup ("at":Str)=none):p≠c:=λz=>by
 obtain⟨dx,G,h1,h2⟩:=h;rw[z,hc]at h1;have:=h2.at_;rw[<-(HO.ins.inj<|Vq h1).2.2,n]at this;cases this
def PB.nd {kd:Int} {a:V} (h:PB t H p kd a e) (hc:H c=some o) (n:∀C d fs,o≠ .ins C d fs):p≠c:=λz=>by
 obtain⟨dx,G,h1,h2⟩:=h;rw[z,hc]at h1;exact n _ _ _<|Vq h1
def PB.up {kd:Int} {a:V} (h:PB t H p kd a e) (n:p≠c):PB t (upd H c o) p kd a e:=by
 obtain⟨dx,z,h1,h2⟩:=h;exact⟨dx,z,by rwa[af n],h2⟩
def RT.up {kd:Int} {a:V} (h:RT t H v kd a e) (n:∀p,PB t H p kd a e->p≠c):RT t (upd H c o) v kd a e:=by
 rcases h with h|⟨p,h1,h2,z⟩
 .exact .inl h
 .exact .inr ⟨p,h1,h2.up<|n p h2,z⟩
section
variable {kd:Int}
def RH.go {P:PQ} (h:RH t H kd e P) (k:∀b o,H b=some o->(b=P.g\/b=P.nd\/b=P.tk\/P.ah= .ref b\/(∃y,P.fd=some y/\b=y.1)\/∃xs,o= .tup xs)->H' b=some o):RH t H' kd e P:=by
 obtain⟨dx,ho⟩:=h.ob;refine⟨⟨dx,k _ _ ho<|.inl M⟩,k _ _ h.no<|.inr<|.inl M,⟨?_,h.tk.2⟩,?_,λy hy=>⟨k _ _ (h.fd y hy).1<|.inr<|.inr<|.inr<|.inr<|.inl ⟨y,hy,M⟩,λz hz=>k _ _ ((h.fd y hy).2 z hz)<|.inr (.inr<|.inr<|.inr<|.inr ⟨_,M⟩)⟩,λz hz=>k _ _ (h.ro z hz)<|.inr (.inr<|.inr<|.inr<|.inr ⟨_,M⟩)⟩
 .obtain⟨d,fs,h1,h2⟩:=h.tk.1;exact⟨d,fs,k _ _ h1<|.inr<|.inr<|.inl M,h2⟩
 .rcases h.ah with h|⟨q,h1,⟨d,fs,h2,G⟩,I⟩
  .exact .inl h
  .exact .inr ⟨q,h1,⟨d,fs,k _ _ h2<|.inr<|.inr<|.inr<|.inl h1,G⟩,I⟩
def P8.go (C:P8 t H c a p dd kd av e X) (k:∀b o,H b=some o->(X.adr c p dd b\/∃xs,o= .tup xs)->H' b=some o):P8 t H' c a p dd kd av e X:=by
 obtain⟨dx,ho⟩:=C.ob;refine⟨⟨dx,k _ _ ho<|.inl (.inl<|.inl M)⟩,k _ _ C.cp<|.inl<|.inl<|.inr<|.inl M,⟨?_,C.tk.2⟩,?_,λP z=>⟨(C.pg P z).1.go λb o e h=>k b o e ?_,(C.pg P z).2⟩⟩
 .obtain⟨d,fs,h1,h2⟩:=C.tk.1;exact⟨d,fs,k _ _ h1<|.inl<|.inr<|.inl M,h2⟩
 .rcases C.rt with h|⟨q,h1,⟨d,fs,h2,G⟩,I⟩
  .exact .inl h
  .exact .inr ⟨q,h1,⟨d,fs,k _ _ h2<|.inl<|.inr<|.inr<|.inl h1,G⟩,I⟩
 .rcases h with h|h|h|h|h|h
  .exact .inl<|.inl (.inr<|.inr ⟨P,z,.inl h⟩)
  .exact .inl<|.inl (.inr<|.inr ⟨P,z,.inr h⟩)
  .exact .inl<|.inr (.inr<|.inr ⟨P,z,.inl h⟩)
  .exact .inl<|.inr (.inr<|.inr ⟨P,z,.inr<|.inl h⟩)
  .exact .inl<|.inr (.inr<|.inr ⟨P,z,.inr<|.inr h⟩)
  .exact .inr h
def RH.offc {P:PQ} {rv pg:V} {n:Int} (h:RH t H kd e P) (hc:H c=some (.ins t.aW dx<|S0 a p rv n dd pg)):RH t (upd H c o) kd e P:=by
 obtain⟨I,G⟩:=h.ob;refine⟨⟨I,by rwa[af (cq G hc λz=>Vt (VH List.length (HO.ins.inj z).2.2)<|by show ¬5=6;decide)]⟩,by rw[af (cq h.no hc λz=>by cases z)];exact h.no,⟨h.tk.1.up<|h.tk.1.ne hc M,h.tk.2⟩,h.ah.up λq hq=>hq.ne hc M,λy hy=>⟨?_,λz hz=>?_⟩,λz hz=>?_⟩
 .have:=(h.fd y hy).1;rwa[af (cq this hc λz=>by cases z)]
 .have:=(h.fd y hy).2 z hz;rwa[af (cq this hc λz=>by cases z)]
 .have:=h.ro z hz;rwa[af (cq this hc λz=>by cases z)]
def RH.offd {P:PQ} {d:Addr} (h:RH t H kd e P) (hd:H d=some (.dK kvs)) (n:P.nd≠d):RH t (upd H d o) kd e P:=by
 obtain⟨I,G⟩:=h.ob;refine⟨⟨I,by rwa[af (cq G hd λz=>by cases z)]⟩,by rw[af n];exact h.no,⟨h.tk.1.up (h.tk.1.nd hd λ_ _ _ z=>by cases z),h.tk.2⟩,h.ah.up (λq hq=>hq.nd hd λ_ _ _ z=>by cases z),λy hy=>⟨?_,λz hz=>?_⟩,λz hz=>?_⟩
 .have:=(h.fd y hy).1;rwa[af (cq this hd λz=>by cases z)]
 .have:=(h.fd y hy).2 z hz;rwa[af (cq this hd λz=>by cases z)]
 .have:=h.ro z hz;rwa[af (cq this hd λz=>by cases z)]
def P8.setc (C:P8 t H c a p dd kd av e X) {rv ra:V} {pg:Option PQ} (rt:RT t H rv kd ra e) (G:∀P,pg=some P->RH t H kd e P/\P.nd≠dd):P8 t (upd H c<|.ins t.aW dx<|S0 a p rv n dd<|oPg pg) c a p dd kd av e ⟨rv,ra,n,X.cp,pg⟩:=by
 obtain⟨O,ho⟩:=C.ob;exact⟨⟨dx,ag⟩,by rw[af (cq C.cp ho λz=>by cases z)];exact C.cp,⟨C.tk.1.up<|C.tk.1.ne ho M,C.tk.2⟩,rt.up λq hq=>hq.ne ho M,λP I=>⟨(G P I).1.offc ho,(G P I).2⟩⟩
def P8.setd (C:P8 t H c a p dd kd av e X) {kv:List (Int×V)}:P8 t (upd H dd<|.dK<|aB kv) c a p dd kd av e {X with cp:=kv}:=by
 obtain⟨I,ho⟩:=C.ob;exact⟨⟨I,by rwa[af (cq ho C.cp λz=>by cases z)]⟩,ag,⟨C.tk.1.up (C.tk.1.nd C.cp λ_ _ _ z=>by cases z),C.tk.2⟩,C.rt.up (λq hq=>hq.nd C.cp λ_ _ _ z=>by cases z),λP G=>⟨(C.pg P G).1.offd C.cp (C.pg P G).2,(C.pg P G).2⟩⟩
def P8.setn (C:P8 t H c a p dd kd av e X) {P:PQ} (I:X.pg=some P) {no:List (Int×DR)} (Y:∀z∈no,H z.2.p=some (.tup z.2.r.vs)):P8 t (upd H P.nd<|.dK<|aB<|no.map λz=>(z.1,V.ref z.2.p)) c a p dd kd av e {X with pg:=some {P with no:=no}}:=by
 obtain⟨Z,ho⟩:=C.ob;obtain⟨R,O⟩:=C.pg P I;obtain⟨dg,U⟩:=R.ob;rw[I]at ho;refine⟨⟨Z,by rwa[af (cq ho R.no λz=>by cases z)]⟩,by rw[af O.symm];exact C.cp,⟨C.tk.1.up (C.tk.1.nd R.no λ_ _ _ z=>by cases z),C.tk.2⟩,C.rt.up (λq hq=>hq.nd R.no λ_ _ _ z=>by cases z),λP' G=>?_⟩;cases G;refine⟨⟨⟨dg,by rwa[af (cq U R.no λz=>by cases z)]⟩,ag,⟨R.tk.1.up (R.tk.1.nd R.no λ_ _ _ z=>by cases z),R.tk.2⟩,R.ah.up (λq hq=>hq.nd R.no λ_ _ _ z=>by cases z),λy hy=>⟨?_,λz hz=>?_⟩,λz hz=>?_⟩,O⟩
 .have:=(R.fd y hy).1;rwa[af (cq this R.no λz=>by cases z)]
 .have:=(R.fd y hy).2 z hz;rwa[af (cq this R.no λz=>by cases z)]
 .have:=Y z hz;rwa[af (cq this R.no λz=>by cases z)]
def P8.setg (C:P8 t H c a p dd kd av e X) {P:PQ} (O:X.pg=some P) {fd:Option (Addr×List Tp)} {ah aa:V} {cl:Option Int} (hf:∀y,fd=some y->H y.1=some (.lst<|y.2.map λe=>V.ref e.p)/\∀z∈y.2,H z.p=some (.tup [.int z.k,z.v])) (ha:RT t H ah kd aa e):P8 t (upd H P.g<|.ins t.bS dx<|Rk P.tk (Kz fd) ah P.nd<|Ck cl) c a p dd kd av e {X with pg:=some {P with fd:=fd,ah:=ah,aa:=aa,cl:=cl}}:=by
 obtain⟨U,ho⟩:=C.ob;obtain⟨R,Y⟩:=C.pg P O;obtain⟨dg,G⟩:=R.ob;rw[O]at ho;have Z:=cq ho G λz=>Vt (VH List.length (HO.ins.inj z).2.2) (by show ¬6=5;decide);refine⟨⟨U,by rwa[af Z]⟩,by rw[af (cq C.cp G λz=>by cases z)];exact C.cp,⟨C.tk.1.up<|C.tk.1.ne G M,C.tk.2⟩,C.rt.up λq hq=>hq.ne G M,λP' I=>?_⟩;cases I;refine⟨⟨⟨dx,ag⟩,by rw[af (cq R.no G λz=>by cases z)];exact R.no,⟨R.tk.1.up<|R.tk.1.ne G M,R.tk.2⟩,ha.up λq hq=>hq.ne G M,λy hy=>⟨?_,λz hz=>?_⟩,λz hz=>?_⟩,Y⟩
 .have:=(hf y hy).1;rwa[af (cq this G λz=>by cases z)]
 .have:=(hf y hy).2 z hz;rwa[af (cq this G λz=>by cases z)]
 .have:=R.ro z hz;rwa[af (cq this G λz=>by cases z)]
end
def HJ:∀{more acc:List (Int×V)},((acc++more).map (·.1)).Nodup->ut (aB acc) (aB more)=aB (acc++more)
 | [],acc,_=>by rw[Zj];rfl
 |p::r,acc,h=>by
  have n:aG acc p.1=none:=by
   cases c:aG acc p.1 with
   |none=>rfl
   |some w=>
    rw[Qg,V3]at h;exact Vt M (h.2.2 p.1 (Q9.mpr ⟨(p.1,w),bE c,M⟩) p.1 Qb)
  show ut (bi (aB acc) (Sum.inl p.1) p.2) (aB r)=_;rw[b9,wY p.2 n,HJ (by rwa[Qm]),Qm];rfl
def lH {x:V} {r:List (Str×V)}:bK f v ((f,x)::r)=(f,v)::r:=by rw[bK,Vp M]
def FA:Sp:=λvs H Q _=>∃(d:Addr) (D:List (Int×V)) (x:DR) (k:Int),vs=[.ref d,.ref x.p]/\H d=some (.dK<|aB D)/\H x.p=some (.tup x.r.vs)/\x.r.key=some k/\D.length<50000/\Q .non (upd H d<|.dK<|aB<|ap D x)
def zO:CU P w K mg base OL 1 t.Da t.xU ["table","row"] FA:=by
 refine T.De.okl FF λs H vs Q E G h _=>?_;intro X;obtain⟨d,D,x,k,rfl,hd,hx,hk,dl,q⟩:=h;refine oo (λx=>aQ (aq bP (aS bB M2 ae<|λ_ _=>M) gk<|aw _) (az<|jw (i8 G) BC (aS bB M2 ae<|λ_ _=>M) (aS bB M2 ae<|λ_ _=>M) M) x) ?_;refine aA (aN<|dC QD Zt X2 HI BC<|ac (aS bB M2 ae<|λ_ _=>M)<|ac a7 ai) ?_
 intros
 unfold ap at q;cases G:x.r with
 |put j v=>
  rw[G]at q hx;refine⟨_,M,x.p,_,_,_,M,M,OX.of hx,M,M,_,M,fK M ?_⟩;refine⟨_,M,x.p,_,_,_,M,M,OX.of hx,M,_,M,_,M,x.p,_,_,_,M,M,OX.of hx,M,d,_,M,Pm.k (k:=Sum.inl j) hd (by rw[bj];exact bg ()),?_⟩;rw[b9];exact q
 |drop j=>
  rw[G]at q hx;refine⟨_,M,x.p,_,_,_,M,M,OX.of hx,M,M,_,M,a9 (λz=>Vt (V.str.inj z) ∅) ?_⟩;refine⟨_,M,.inr<|.inr<|.inl ⟨M,.inl ⟨_,hd⟩⟩,_,M,x.p,_,_,_,M,M,OX.of hx,M,d,_,Sum.inl j,.non,M,M,hd,λv _=>?_,λI=>?_⟩
  .rw[lP];exact q
  .rw[O6]at I;have e:bM D j=D:=List.filter_eq_self.mpr λz hz=>Vy λe=>by
    have:=O0.mp (Zm (f:=(·.1)) hz);rw[e,I]at this;cases this
   have q:Q .non (upd H d<|.dK<|aB<|bM D j):=q;rw[e]at q;have u:upd H d (.dK<|aB D)=H:=funext λb=>by
    by_cases c:b=d
    .rw[c,ag,hd]
    .rw[af c]
   rw[u]at q;exact q
 |mark i=>rw[G]at hk;cases hk
def Dw.at1 {r:Dw} (h:r.key=some k):RF r.vs 1=some (.int k):=by
 cases r with
 |put j v=>cases h;rfl
 |drop j=>cases h;rfl
 |mark i=>cases h
structure CSz (X:OY):Prop where
 cl:X.cp.length<=5000
 pg:∀P,X.pg=some P->P.no.length<=5000/\(∀z∈P.no,∃k,z.2.r.key=some k)/\(P.fd=none->P.cl=none)/\∀y,P.fd=some y->(y.2.map (·.k)).Nodup/\y.2.length<=5000
def Inv.sz {kd:Int} (I:Inv kd av e ds X) (l:ds.length<=5000):CSz X:=by
 refine⟨?_,λP U=>?_⟩
 .have h1:X.cp.length<=((tbl<|ds.take X.n).map (·.1)).length:=Oo I.nd λk hk=>by
   have k0:=I.kp k hk;have hk:=O0.mp hk;rw[I.cp k k0]at hk;split at hk
   .exact O0.mpr hk
   .cases hk
  have h2:=vS (l:=ds.take X.n);rw[Q0]at h1;rw[Q6]at h2;lia
 .have q:=I.pg P U;have:=I.le;have:=q.nl;refine⟨(),λz hz=>⟨_,q.nk z hz⟩,λh=>(q.un h).2,λy hy=>?_⟩;obtain⟨nr,G,l1,Z,l3,O,Y,_⟩:=q.fd y hy;refine⟨O,?_⟩;have h1:=gO O (S:=(tbl<|ds.take G).map (·.1)) λk hk=>by
   obtain⟨z,hz,rfl⟩:=Q9.mp hk;exact Q9.mpr ⟨_,((Y z.k z.v).mp<|Zm (f:=Tp.kv) hz).1,M⟩
  have h2:=vS (l:=ds.take G);rw[Q0,Q0]at h1;rw[Q6]at h2;lia
def tL (K:JK) (t:OJ):Sp:=λvs H Q _=>∃(kd:Int) (e:V) (P:PQ) (y:Addr×List Tp),vs=[.ref P.g]/\RH t H kd e P/\P.fd=some y/\(y.2.map (·.k)).Nodup/\(∀z∈P.no,∃k,z.2.r.key=some k)/\y.2.length<=5000/\P.no.length<=5000/\
 ∀(H':Hp) (r:Addr),Fa H H'->H r=none->H' r=some (.dK<|aB P.out)->Q (.ref r) H'
def uj:CU P w K mg base OL 2 t.mL t.hV ["self"] (tL K t):=by
 refine T.GQ.okl tR λs H vs Q E O h _=>?_;intro X;obtain⟨kd,e,G,y,rfl,R,hy,nt,nk,l1,l2,q⟩:=h;refine aj (OM 1<|gl (En O.hd) {_} T.Dv vZ (ac (au BC M) ai))
   (aj (vT (dW VC M (Kr<|ud QD ZQ Xq ur<|au BC M) (Pr 2)
    (az<|aN<|aL (zO T) O.mo {_} T.HX T.De.kp T.Je .nil ay (ac M2<|ac O1 ai))))
   (aA (aD M2) ?_))
 intros
 obtain⟨dg,hg⟩:=R.ob;obtain⟨hf,tu⟩:=R.fd y hy;have ef:Kz G.fd= .ref y.1:=by rw[hy];rfl
 rw[ef]at hg;refine⟨_,M,G.g,_,dg,_,_,M,hg,T.bG,T.cV,M,y.1,y.2.map λu=>(u.p,Sum.inl u.k,u.v),M,by rw[Qs];exact Fb.of hf,(λu' a1=>by obtain⟨u,hu,rfl⟩:=Q9.mp a1;exact OX.of<|tu u hu),λr nr=>?_⟩;rw[Qs];have el:y.2.map ((λx:Addr×Key×V=>x.2)∘λu:Tp=>(u.p,(Sum.inl u.k:Key),u.v))=aB (y.2.map Tp.kv):=by unfold aB;rw[Qs];rfl
 have er:G.rows=y.2.map Tp.kv:=by unfold PQ.rows;rw[hy]
 rw[el,show ut [] (aB<|y.2.map Tp.kv)=_ from HJ (acc:=[]) (by rwa[Vd,Qs]),Vd,<-er];have lr:G.rows.length<=5000:=by rwa[er,Q0]
 have s1:=ak (o:= .dK<|aB G.rows) nr;have h1:upd H r (.dK<|aB G.rows) r=some (.dK<|aB G.rows):=ag;generalize upd H r (.dK<|aB G.rows)=H1 at s1 h1⊢;have I:=s1 _ _ R.no;have U:r≠G.nd:=λz=>by rw[z,R.no]at nr;cases nr
 refine⟨G.nd,_,I,_,M,G.g,_,dg,_,_,M,s1 _ _ hg,T.bG,T.p6,M,.inr<|.inr<|.inl ⟨M,.inl ⟨_,I⟩⟩,G.nd,_,M,M,I,λZ nv=>⟨Z,G.nd,_,M,ag,ak nv _ _ I,λob=>?_⟩⟩;have s2:=s1.trans (ak (o:=Rm Z G.nd) nv);have h2:=ak (o:=Rm Z G.nd) nv _ _ h1;have a0:=ak (o:=Rm Z G.nd) nv _ _ I;generalize upd H1 Z (Rm Z G.nd)=H2 at s2 h2 a0⊢;refine IC (ob:=ob) (d:=G.nd) (kvs:=aB<|G.no.map λz=>(z.1,V.ref z.2.p)) (λi B H'=>∃u:Option V,B=[some (.ref G.g),some (.ref r),u]/\H' G.nd=some (.frz ob<|.dK<|aB<|G.no.map λz=>(z.1,V.ref z.2.p))/\H' r=some (.dK (aB (((G.no.map (·.2)).take i).foldl ap G.rows)))/\∀b o,b≠G.nd->b≠r->H2 b=some o->H' b=some o) ?_ (λi B H' _ w=>by obtain⟨u,_,w,_⟩:=w;exact w) (λi k v B H' hk w=>?_)<|λB H' w=>?_
 .exact⟨none,M,ag,by rwa[af U],λb o n1 n2 e=>by rwa[af n1]⟩
 .obtain⟨u,rfl,fz,O,kp⟩:=w;obtain⟨z,hz,rfl⟩:∃z,G.no[i]?=some z/\v= .ref z.2.p:=by
   unfold aB at hk;rw[Qn,Qn]at hk;cases c:G.no[i]? with
   |none=>rw[c]at hk;cases hk
   |some z=>rw[c]at hk;cases hk;exact⟨z,M,M⟩
  have hm:=Q1 hz;have hi:=(Q2.mp hz).1;obtain⟨k',kz⟩:=nk z hm;have Y:=s2 _ _ (R.ro z hm);have hx:=kp _ _ (cq Y a0 λz=>by cases z) (cq Y h2 λz=>by cases z) Y;have lf:=sH (l:=(G.no.map (·.2)).take i) (W7:=G.rows);rw[Q6]at lf;unfold fL
  (try dsimp only)
  refine⟨_,M,_,M,r,_,z.2,k',M,O,hx,kz,(),?_⟩;refine⟨_,M,by rwa[af U.symm],?_,λb o n1 n2 e=>by rw[af n2];exact kp b o n1 n2 e⟩;rw[ag,Qq,Qn,hz,X0];rfl
 .obtain⟨u,rfl,fz,O,kp⟩:=w;refine⟨ob,fz,?_⟩;rw[bj,Q0,Qv (by rw[Q0];exact Q4 _)]at O;refine⟨_,M,q _ r (λb o e=>?_) nr<|by rwa[af U]⟩;by_cases c:b=G.nd
  .rwa[c,ag,<-R.no,<-c]
  .rw[af c];exact kp b o c (am e nr)<|s2 _ _ e
def kQ (K:JK) (t:OJ):Sp:=λvs H Q _=>∃(c a p dd:Addr) (kd m:Int) (av e:V) (X:OY),vs=[.ref c,.int m]/\P8 t H c a p dd kd av e X/\CSz X/\
 ∀H',P8 t H' c a p dd kd av e {X.mrk m with n:=X.n}->(∀b o,¬X.mut c dd b->H b=some o->H' b=some o)->Q .non H'
def lK:CU P w K mg base OL 3 t.f9 t.cY ["self","number"] (kQ K t):=by
 refine T.BK.okl kR λs H vs Q E hr h _=>?_;intro X;obtain⟨c,a,p,dd,kd,m,av,e,X',rfl,C,Z,q⟩:=h;refine aj (OM 2<|au BC M)
   (aj (aQ (PW.pt<|ie (aq cX O1 a7<|aw _)<|gZ<|aq zL (au O1 M) M2<|aw _)
    (az pA)
    aI)
   (aj (aN<|dC QD PySem.F.slot_dict_update PySem.F.type_dict_update FS (au BC M)<|ac (aZ O1 T.bG T.GJ (uj T) hr.mo T.GO .nil ay) ai)
   (aj (bh BC (au O1 M) M)
   (aA (bh BC a7 M) ?_))))
 intros
 obtain⟨dx,ho⟩:=C.ob;refine⟨_,M,c,_,dx,_,_,M,ho,T.aF,T.b4,M,?_⟩;cases I:X'.pg with
 |none=>
  have q:=q H;unfold OY.mrk at q;rw[I]at q ho;refine⟨_,M,M,_,M,fK M<|q ?_ λ_ _ _ e=>e⟩;have h:=C;rw[show X'={X' with pg:=none} by rw[<-I]]at h;exact h
 |some G=>
  obtain⟨R,nn⟩:=C.pg G I;obtain⟨z1,z2,z3,z4⟩:=Z.pg G I;obtain⟨dg,hg⟩:=R.ob;unfold OY.mrk at q;rw[I]at q ho
  (try dsimp only at q)
  refine⟨_,M,M,_,M,a9 (λz=>by cases z) ⟨_,M,G.g,_,dg,_,_,M,hg,T.bG,T.eL,M,_,M,?_⟩⟩;by_cases U:G.cl=some m
  case neg=>
   rw[Vo U]at q;have q:=q H (by have h:=C;rw[show X'={X' with pg:=some G} by rw[<-I]]at h;exact h) λ_ _ _ e=>e;cases cc:G.cl with
   |none=>exact⟨M,_,M,cH q⟩
   |some z=>
    refine⟨M,_,M,?_⟩;rw[VA λh=>U (by rw[cc,V.int.inj h])];exact cH q
  rw[Vp U]at q;rw[U]at hg⊢;obtain⟨y,hy⟩:∃y,G.fd=some y:=by
   cases cf:G.fd with
   |none=>rw[z3 cf]at U;cases U
   |some y=>exact⟨y,M⟩
  obtain⟨ny,ly⟩:=z4 y hy;refine⟨M,_,M,i7 M ?_⟩;unfold mZ
  (try dsimp only)
  refine⟨_,M,c,_,dx,_,_,M,ho,T.aF,T.dN,M,.inr<|.inr<|.inl ⟨M,.inl ⟨_,C.cp⟩⟩,_,M,G.g,dg,_,M,hg,{_},kd,e,G,y,M,R,hy,ny,z2,ly,z1,λH2 o s2 no O=>?_⟩;have od:dd≠o:=am C.cp no;have lo:G.out.length<=10000:=by
   have h1:=sH (l:=G.no.map (·.2)) (W7:=G.rows);have h2:G.rows.length=y.2.length:=by unfold PQ.rows;rw[hy];exact Q0 _
   rw[Q0]at h1;show((G.no.map (·.2)).foldl ap G.rows).length<=10000;lia
  have zc:=Z.cl;refine⟨dd,o,_,_,M,M,od,s2 _ _ C.cp,O,(by rw[bj,bj];exact Z4<|bg ()),?_⟩;rw[zR];have Y:=(C.same s2).setd (kv:=xv X'.cp G.out);have k2:∀b o,¬X'.mut c dd b->H b=some o->upd H2 dd (.dK<|aB<|xv X'.cp G.out) b=some o:=λb o n e=>by rw[af λz=>n (.inr<|.inl z)];exact s2 _ _ e
  generalize upd H2 dd (.dK<|aB<|xv X'.cp G.out)=H3 at Y k2⊢;obtain⟨d2,O⟩:=Y.ob;obtain⟨R2,_⟩:=Y.pg G I;obtain⟨a0,a1⟩:=R2.ob
  (try dsimp only)
  refine⟨_,M,G.g,_,a0,_,_,M,a1,T.bG,T.jX,M,_,M,c,_,d2,_,M,O,T.aF,T.dE,(by show 6<1000;decide),?_⟩;rw[bI ∅,bI ∅,lH];refine⟨_,M,c,_,d2,_,M,ag,T.aF,T.b4,(by show 6<1000;decide),?_⟩;rw[eG,bI ∅,bI ∅,bI ∅,bI ∅,bI ∅,lH];exact q _ (Y.setc (pg:=none) R2.ah λ_ z=>by cases z) λb o n e=>by rw[af λz=>n (.inl z)];exact k2 b o n e
def jI (K:JK) (t:OJ):Sp:=λvs H Q _=>∃(c a p dd:Addr) (kd k:Int) (av e:V) (X:OY) (x:DR),vs=[.ref c,.ref x.p]/\P8 t H c a p dd kd av e X/\CSz X/\H x.p=some (.tup x.r.vs)/\x.r.key=some k/\0<=k/\
 ∀H',P8 t H' c a p dd kd av e {X.chg kd av e k x with n:=X.n}->(∀b o,¬X.mut c dd b->H b=some o->H' b=some o)->Q .non H'
def jW:CU P w K mg base OL 6 t.fh t.cI ["self","row"] (jI K t):=by
 refine T.Aw.okl jJ λs H vs Q E U h _=>?_;intro X;obtain⟨c,a,p,dd,kd,k,av,e,X',x,rfl,C,Z,hx,hk,k0,q⟩:=h;refine aj (OM 2<|aS bB M2 ae<|λ_ _=>M)
   (aj (OM 3<|au BC M)
   (oo (λx=>aQ (cx<|aR BC T.aF T.uw (jz T) U.mo T.uP .nil ay<|ac O1 ai) (az<|aN<|aL (zO T) U.mo {_} T.HX T.De.kp T.Je .nil ay (ac (au BC M)<|ac M2 ai)) x) ?_))
 refine aA (aQ (PW.pt<|dU (aq jy OR a7<|aw _)<|cJ<|cx<|aR OR T.bG T.FW (rZ T) U.mo T.Gy .nil ay<|ac O1 ai)
    (az<|jw (i8 U) (au OR M) O1 M2 M)
    aI) ?_
 intros
 obtain⟨dx,ho⟩:=C.ob;refine⟨_,M,x.p,_,_,_,M,M,OX.of hx,Dw.at1 hk,_,M,c,_,dx,_,_,M,ho,T.aF,T.b4,M,?_⟩;refine⟨_,M,c,dx,_,M,ho,{_},_,M,c,a,p,dd,kd,k,av,e,X',M,C,k0,λH1 s1=>⟨_,M,?_⟩⟩;have C1:=C.same s1;have O:=s1 _ _ hx;have a0:=s1 _ _ ho;unfold OY.chg at q;have zc:=Z.cl;cases hc:X'.cov kd av e k with
 |true=>
  rw[Vp hc]at q;refine cH ⟨_,M,c,_,dx,_,_,M,a0,T.aF,T.dN,M,_,M,dd,X'.cp,x,k,M,C1.cp,O,hk,(),?_⟩;exact q _ C1.setd λb o n e=>by rw[af λz=>n (.inr<|.inl z)];exact s1 _ _ e
 |false=>
  rw[Vo (by rw[hc];exact Qe)]at q;refine cu ?_;cases I:X'.pg with
  |none=>
   rw[I]at q;refine⟨_,M,M,_,M,i7 M<|q _ ?_ λb o _ e=>s1 _ _ e⟩;have h:=C1;rw[show X'={X' with pg:=none} by rw[<-I]]at h;exact h
  |some G=>
   obtain⟨R,nn⟩:=C1.pg G I;obtain⟨z1,z2,z3,z4⟩:=Z.pg G I;obtain⟨dg,hg⟩:=R.ob;rw[I]at q
   (try dsimp only at q)
   refine⟨_,M,M,_,M,Eg (λz=>by cases z) ⟨_,M,G.g,dg,_,M,hg,{_},_,M,kd,k,e,G,M,R,k0,λH2 Y=>⟨_,M,?_⟩⟩⟩;have C2:=C1.same Y;have a1:=Y _ _ O;cases hi:G.inp kd e k with
   |false=>
    rw[Vo (by rw[hi];exact Qe)]at q;refine cu<|q _ ?_ λb o _ e=>Y _ _ (s1 _ _ e);have h:=C2;rw[show X'={X' with pg:=some G} by rw[<-I]]at h;exact h
   |true=>
    rw[Vp hi]at q;obtain⟨R2,_⟩:=C2.pg G I;obtain⟨a2,a3⟩:=R2.ob;refine cH ⟨_,M,_,M,G.g,_,a2,_,_,M,a3,T.bG,T.p6,M,_,M,G.nd,_,M,Pm.k (k:=Sum.inl k) R2.no (by rw[bj,Q0];exact bg ()),?_⟩;rw[b9,<-Hr];refine q _ (C2.setn I λz hz=>?_) λb o n e=>by rw[af λz=>n (.inr<|.inr ⟨G,I,.inr z⟩)];exact Y _ _<|s1 _ _ e
    rcases Pz.mp (show(z.1,z.2)∈yW G.no k x from hz)with⟨_,h⟩|⟨_,h⟩
    .rwa[h]
    .exact R2.ro z h
section
variable {kd:Int}
def P8.dom (C:P8 t H c a p dd kd av e X) (h:X.adr c p dd b):∃o,H b=some o/\∀xs,o≠ .tup xs:=by
 obtain⟨dx,ho⟩:=C.ob;have tk:∀{q:Addr} {a':V},PB t H q kd a' e->∃o,H q=some o/\∀xs,o≠ .tup xs:=λh=>by
  obtain⟨_,_,h,_⟩:=h;exact⟨_,h,λ_ z=>by cases z⟩
 have G:∀{v a':V},RT t H v kd a' e->v= .ref b->∃o,H b=some o/\∀xs,o≠ .tup xs:=λh z=>by
  rcases h with h|⟨q,h1,h2,_⟩
  .rw[h]at z;cases z
  .rw[h1]at z;cases z;exact tk h2
 rcases h with(rfl|rfl|⟨P,hP,rfl|rfl⟩)|rfl|h|⟨P,hP,rfl|h|⟨y,hy,rfl⟩⟩
 .exact⟨_,ho,λ_ z=>by cases z⟩
 .exact⟨_,C.cp,λ_ z=>by cases z⟩
 .obtain⟨O,I⟩:=(C.pg P hP).1.ob;exact⟨_,I,λ_ z=>by cases z⟩
 .exact⟨_,(C.pg P hP).1.no,λ_ z=>by cases z⟩
 .exact tk C.tk.1
 .exact G C.rt h
 .exact tk (C.pg P hP).1.tk.1
 .exact G (C.pg P hP).1.ah h
 .exact⟨_,((C.pg P hP).1.fd y hy).1,λ_ z=>by cases z⟩
def P8.nmut (C:P8 t H c a p dd kd av e X) (hb:H b=some o) (z:∀C d fs,o≠ .ins C d fs) (G:∀k,o≠ .dK k):¬X.mut c dd b:=λh=>by
 obtain⟨dx,ho⟩:=C.ob;rcases h with rfl|rfl|⟨P,I,rfl|rfl⟩
 .rw[ho]at hb;exact z _ _ _ (Vq hb).symm
 .rw[C.cp]at hb;exact G _ (Vq hb).symm
 .obtain⟨U,O⟩:=(C.pg P I).1.ob;rw[O]at hb;exact z _ _ _ (Vq hb).symm
 .rw[(C.pg P I).1.no]at hb;exact G _ (Vq hb).symm
def P8.fr {x:OZ} (C:P8 t H c a p dd kd av e X) (n:∀b,X.adr c p dd b->¬F b) (A:OW K t H a F x) (f:Fr F F' H H'):P8 t H' c a p dd kd av e X/\∀b,X.adr c p dd b->¬F' b:=
 ⟨C.go λb o G h=>(f b o (h.elim (n b) λ⟨xs,z⟩=>λO=>by
  obtain⟨o',I,U⟩:=A.dom O;rw[G]at I;exact U xs<|by rw[<-Vq I,z]) G).1,λb hb=>by
  obtain⟨o,G,_⟩:=C.dom hb;exact(f b o (n b hb) G).2⟩
def OW.mut {x:OZ} (A:OW K t H a F x) (C:P8 t H c a p dd kd av e X) (n:∀b,X.adr c p dd b->¬F b) (k:∀b o,¬X.mut c dd b->H b=some o->H' b=some o):OW K t H' a F x:=
 A.keep (λb hb=>by
  obtain⟨o,e,_⟩:=A.dom hb;rw[e];exact k b o (λz=>n b (.inl z) hb) e) λb xs e=>k b _ (C.nmut e (λ_ _ _ z=>by cases z) λ_ z=>by cases z) e
def oM {x:DR}:(X.chg kd av e k x).rv=X.rv/\(X.chg kd av e k x).ra=X.ra/\(∀z,(X.chg kd av e k x).pg=some z->∃P,X.pg=some P/\z={P with no:=z.no})/\(X.chg kd av e k x).pg.isSome=X.pg.isSome:=by
 obtain⟨rv,ra,n,cp,pg⟩:=X;unfold OY.chg;split
 .exact⟨M,M,λz h=>⟨z,h,M⟩,M⟩
 .cases pg with
  |none=>exact⟨M,M,(λz h=>by cases h),M⟩
  |some P=>
   dsimp only;split
   .exact⟨M,M,(λz h=>by cases h;exact⟨P,M,M⟩),M⟩
   .exact⟨M,M,(λz h=>by cases h;exact⟨P,M,M⟩),M⟩
def MM:((X.mrk m).rv=X.rv/\(X.mrk m).ra=X.ra/\(X.mrk m).pg=X.pg/\∀P,X.pg=some P->P.cl≠some m)\/∃P,X.pg=some P/\P.cl=some m/\(X.mrk m).rv=P.ah/\(X.mrk m).ra=P.aa/\(X.mrk m).pg=none:=by
 obtain⟨rv,ra,n,cp,pg⟩:=X;unfold OY.mrk;cases pg with
 |none=>exact .inl ⟨M,M,M,λ_ z=>by cases z⟩
 |some P=>
  dsimp only;by_cases h:P.cl=some m
  .rw[Vp h];exact .inr ⟨P,M,h,M,M,M⟩
  .rw[Vo h];exact .inl ⟨M,M,M,λ_ z=>by cases z;exact h⟩
def rA {x:DR}:((bu kd av e X x).rv=X.rv/\(bu kd av e X x).ra=X.ra/\(∀G,(bu kd av e X x).pg=some G->∃P,X.pg=some P/\G={P with no:=G.no})/\(∀P m,X.pg=some P->x.r= .mark m->P.cl≠some m)/\(bu kd av e X x).pg.isSome=X.pg.isSome)\/∃P m,X.pg=some P/\x.r= .mark m/\P.cl=some m/\(bu kd av e X x).rv=P.ah/\(bu kd av e X x).ra=P.aa/\(bu kd av e X x).pg=none:=by
 unfold bu;cases r:x.r with
 |put k v=>exact .inl ⟨oM.1,oM.2.1,oM.2.2.1,(λ_ _ _ z=>by cases z),oM.2.2.2⟩
 |drop k=>exact .inl ⟨oM.1,oM.2.1,oM.2.2.1,(λ_ _ _ z=>by cases z),oM.2.2.2⟩
 |mark m=>
  rcases MM (X:=X) (m:=m)with⟨h1,h2,I,O⟩|⟨P,h1,h2,I⟩
  .exact .inl ⟨h1,h2,λG h=>⟨G,I▸h,M⟩,(λP m' U z=>by cases z;exact O P U),by rw[I]⟩
  .exact .inr ⟨P,m,h1,M,h2,I⟩
def BX {x:DR} (h:(bu kd av e X x).mut c dd b):X.mut c dd b:=by
 rcases h with h|h|⟨G,z,h⟩
 .exact .inl h
 .exact .inr<|.inl h
 .rcases rA (X:=X) (kd:=kd) (av:=av) (e:=e) (x:=x)with⟨_,_,g,_⟩|⟨P,m,_,_,_,_,_,g⟩
  .obtain⟨P,I,O⟩:=g G z;rw[O]at h;exact .inr<|.inr ⟨P,I,h⟩
  .rw[g]at z;cases z
def Hd {x:DR} (h:(bu kd av e X x).adr c p dd b):X.adr c p dd b:=by
 rcases h with h|h|h|⟨I,z,h⟩
 .exact .inl<|BX h
 .exact .inr<|.inl h
 .rcases rA (X:=X) (kd:=kd) (av:=av) (e:=e) (x:=x)with⟨g,_⟩|⟨P,m,G,_,_,g,_⟩
  .rw[g]at h;exact .inr<|.inr (.inl h)
  .rw[g]at h;exact .inr<|.inr (.inr ⟨P,G,.inr<|.inl h⟩)
 .rcases rA (X:=X) (kd:=kd) (av:=av) (e:=e) (x:=x)with⟨_,_,g,_⟩|⟨P,m,_,_,_,_,_,g⟩
  .obtain⟨P,G,O⟩:=g I z;rw[O]at h;exact .inr<|.inr (.inr ⟨P,G,h⟩)
  .rw[g]at z;cases z
end
def CD {c p dd b:Addr} {kd:Int} {av e:V}:∀{l:List DR} {X:OY},(l.foldl (bu kd av e) X).adr c p dd b->X.adr c p dd b
 | [],_,h=>h
 |x::r,X,h=>Hd (CD (l:=r) (X:=bu kd av e X x) h)
def xO {c dd b:Addr} {kd:Int} {av e:V}:∀{l:List DR} {X:OY},(l.foldl (bu kd av e) X).mut c dd b->X.mut c dd b
 | [],_,h=>h
 |x::r,X,h=>BX (xO (l:=r) (X:=bu kd av e X x) h)
def Ek {kd:Int} {av e:V}:∀{l:List DR} {X:OY},(l.foldl (bu kd av e) X).n=X.n+l.length
 | [],_=>rfl
 |x::r,X=>by
  show(r.foldl (bu kd av e)<|bu kd av e X x).n=X.n+(r.length+1);rw[Ek,AC];lia
def Rl (x:OZ) (ds:List DR):Prop:=x.di=ds.map λd=>(d.p,d.r.vs)
def nset {m:Nat} (h:X.n=m):(⟨X.rv,X.ra,m,X.cp,X.pg⟩:OY)=X:=by
 subst h;rfl
def rD (K:JK) (t:OJ):Sp:=λvs H Q _=>∃(c a p dd:Addr) (kd z:Int) (av e:V) (X:OY) (F:Addr->Prop) (x:OZ) (ds:List DR),vs=[.ref c,.int z]/\P8 t H c a p dd kd av e X/\OW K t H a F x/\Rl x ds/\Inv kd av e ds X/\Ra ds/\ds.length<=5000/\0<=z/\
 ∀H' X',X'=((ds.drop X.n).take z.toNat).foldl (bu kd av e) X->P8 t H' c a p dd kd av e X'->Inv kd av e ds X'->(∀b o,¬X.mut c dd b->H b=some o->H' b=some o)->Q (.int X'.n) H'
def sd:CU P w K mg base OL 7 t.kN t.gB ["self","steps"] (rD K t):=by
 refine T.GE.okl rL λs H vs Q E G h _=>?_;intro X;obtain⟨c,a,p,dd,kd,z,av,e,X',F,x,ds,rfl,C,A,dy,I,D,dl,z0,q⟩:=h;refine aj (OM 2<|cn c6 (aR (au BC M) T.aO T.fI (eK T) G.mo T.Ji .nil ay<|ac (au BC M) ai) gJ<|b6<|aE (pJ M) {_} T.GU Bs (ac M2<|ac ae ai))
   (bU (λx=>(dW VC M (cK O1) (Pr 3)
    x)) ?_)
 refine bU (λx=>aQ (aq bP (aS bB OR ae<|λ_ _=>M) gk<|aw _) x<|az<|aN<|aR BC T.aF T.zT (jW T) G.mo T.Al .nil ay<|ac OR ai) ?_;refine aA (aN<|aR BC T.aF T.BI (lK T) G.mo T.BJ .nil ay<|ac (aS bB OR ae<|λ_ _=>M) ai) ?_
 intros
 refine aA (iE BC ae xJ) ?_
 intros
 refine aA (aD<|au BC M) ?_
 intros
 obtain⟨dx,ho⟩:=C.ob;obtain⟨da,fa,ha,hm,_⟩:=A.ins;refine⟨_,M,c,_,dx,_,_,M,ho,T.aF,T.eO,M,a,da,fa,M,ha,hm _ ∅,_,M,c,_,dx,_,_,M,ho,T.aF,T.cN,M,a,_,F,x,M,A,(),λH1 r s1 nr G=>?_⟩;refine⟨_,M,_,_,M,_,M,r,_,M,Fb.of G,λp1 a2=>?_⟩;have ez:(if(0:Int)>z then(0:Int)else z)=z:=by rw[Vo ()]
 unfold Rl at dy;rw[ez,jo z0,<-Z8,dy,<-Xa,<-Z8,Qs,QJ];obtain⟨rs,a3⟩:∃rs,(ds.drop X'.n).take z.toNat=rs:=⟨_,M⟩;rw[a3]at q⊢;have a4:∀(i:Nat) (d:DR),rs[i]?=some d->ds[X'.n+i]?=some d:=λi d h=>by
  rw[<-a3,ZD]at h;split at h
  .rwa [ZC]at h
  .cases h
 have rd:∀d∈ds,H1 d.p=some (.tup d.r.vs):=λd hd=>(A.same s1).di (d.p,d.r.vs) (by rw[dy];exact Q9.mpr ⟨d,hd,M⟩);change Az _ _ _ _ (upd H1 p1<|.lst<|rs.map λd=>V.ref d.p);have s2:=s1.trans (ak (o:= .lst<|rs.map λd=>V.ref d.p) a2);have h2:upd H1 p1 (.lst<|rs.map λd=>V.ref d.p) p1=some (.lst<|rs.map λd=>V.ref d.p):=ag;have a1:∀d∈ds,upd H1 p1 (.lst<|rs.map λd=>V.ref d.p) d.p=some (.tup d.r.vs):=λd hd=>ak a2 _ _ (rd d hd);generalize upd H1 p1 (.lst<|rs.map λd=>V.ref d.p)=H2 at s2 h2 a1⊢;have C2:=C.same s2;have pn:=C2.nmut h2 (λ_ _ _ z=>by cases z) (λ_ z=>by cases z);refine⟨_,M,p1,M,⟨_,Fb.of h2⟩,fc (K:=K) (a:=p1) (xs:=rs.map λd=>V.ref d.p) (λi B H'=>∃v3:Option V,B=[some (.ref c),some (.int z),some (.ref p1),v3]/\(∀b o,¬X'.mut c dd b->H2 b=some o->H' b=some o)/\P8 t H' c a p dd kd av e ((rs.take i).foldl (bu kd av e) X')/\Inv kd av e ds ((rs.take i).foldl (bu kd av e) X')) ?_ (λi B H' _ w=>by obtain⟨_,_,k,_⟩:=w;exact Fb.of<|k _ _ pn h2) (λi u B H' hu w'=>?_)<|λB H' w'=>?_⟩
 .exact⟨none,M,λ_ _ _ h=>h,C2,I⟩
 .obtain⟨v3,rfl,kp,CI,II⟩:=w';obtain⟨d,rfl,ed⟩:∃d,u=V.ref d.p/\rs[i]?=some d:=by
   rw[Qn]at hu;cases c:rs[i]? with
   |none=>rw[c]at hu;cases hu
   |some e=>rw[c]at hu;cases hu;exact⟨e,M,M⟩
  have hi:=(Q2.mp ed).1;have nX:((rs.take i).foldl (bu kd av e) X').n=X'.n+i:=by rw[Ek,Q6,Zk (Z4 hi)]
  have eN:(rs.take<|i+1).foldl (bu kd av e) X'=bu kd av e ((rs.take i).foldl (bu kd av e) X') d:=by
   rw[Qq,ed,X0];rfl
  have hd:ds[((rs.take i).foldl (bu kd av e) X').n]?=some d:=by rw[nX];exact a4 i d ed
  have O:=Q1 hd;have mI:∀b,((rs.take i).foldl (bu kd av e) X').mut c dd b->X'.mut c dd b:=λb=>xO;have IN:=II.step D hd;have te:H' d.p=some (.tup d.r.vs):=kp _ _ (C2.nmut (a1 d O) (λ_ _ _ z=>by cases z)<|λ_ z=>by cases z) (a1 d O);rw[eN];have sN:=AC (kd:=kd) (av:=av) (e:=e) (X:=(rs.take i).foldl (bu kd av e) X') (x:=d);generalize (rs.take i).foldl (bu kd av e) X'=Y at CI II hd mI IN nX sN⊢;have Z:=II.sz dl;unfold fL
  (try dsimp only)
  refine dM (λB H3=>B=[some (.ref c),some (.int z),some (.ref p1),some (.ref d.p)]/\(∀b o,¬X'.mut c dd b->H2 b=some o->H3 b=some o)/\P8 t H3 c a p dd kd av e {bu kd av e Y d with n:=Y.n}) (λnx go=>?_)<|λB H3 w3=>?_
  .obtain⟨dY,hY⟩:=CI.ob;have kb:=D.kb d O;cases G:d.r with
   |mark m=>
    rw[G]at te;refine⟨_,M,d.p,_,_,_,M,M,OX.of te,M,M,_,M,fK M ⟨_,M,c,dY,_,M,hY,{_},_,M,d.p,_,_,_,M,M,OX.of te,M,c,a,p,dd,kd,m,av,e,Y,M,CI,Z,λH3 U k3=>go _ _ ⟨M,λb o n e=>k3 b o (λz=>n<|mI b z)<|kp b o n e,?_⟩⟩⟩;unfold bu;rwa[G]
   |put k v=>
    have a0:=te;rw[G]at a0;refine⟨_,M,d.p,_,_,_,M,M,OX.of a0,M,M,_,M,a9 (λz=>Vt (V.str.inj z) ∅) ⟨_,M,c,dY,_,M,hY,{_},_,M,?_⟩⟩;exact⟨c,a,p,dd,kd,k,av,e,Y,d,M,CI,Z,te,by rw[G];rfl,kb k (by rw[G];rfl),λH3 U k3=>go _ _ ⟨M,λb o n e=>k3 b o (λz=>n<|mI b z)<|kp b o n e,by unfold bu;rwa[G]⟩⟩
   |drop k=>
    have a0:=te;rw[G]at a0;refine⟨_,M,d.p,_,_,_,M,M,OX.of a0,M,M,_,M,a9 (λz=>Vt (V.str.inj z) ∅) ⟨_,M,c,dY,_,M,hY,{_},_,M,?_⟩⟩;exact⟨c,a,p,dd,kd,k,av,e,Y,d,M,CI,Z,te,by rw[G];rfl,kb k (by rw[G];rfl),λH3 U k3=>go _ _ ⟨M,λb o n e=>k3 b o (λz=>n<|mI b z)<|kp b o n e,by unfold bu;rwa[G]⟩⟩
  obtain⟨rfl,k3,U⟩:=w3;generalize bu kd av e Y d=Z' at U IN sN⊢;obtain⟨d3,h3⟩:=U.ob;refine⟨_,M,c,_,d3,_,_,M,h3,T.aF,T.cN,M,_,_,M,M,d3,_,h3,(by show 6<1000;decide),?_⟩;rw[bI ∅,bI ∅,bI ∅,lH];refine⟨_,M,λb o n e=>by rw[af λz=>n (.inl z)];exact k3 b o n e,?_,IN⟩;have h:=U.setc (n:=Y.n+1) (pg:=Z'.pg) (dx:=d3) U.rt U.pg;rw[nset sN]at h;exact h
 .obtain⟨v3,rfl,kp,CI,II⟩:=w';rw[Q0,QB]at CI II;obtain⟨d3,h3⟩:=CI.ob;exact⟨_,M,c,_,d3,_,_,M,h3,T.aF,T.cN,M,q H' _ M CI II λb o n e=>kp b o n<|s2 _ _ e⟩
def yD (t:OJ):Sp:=λvs H Q _=>∃(g dx tk:Addr),vs=[.ref g,.ref tk]/\H g=some (.ins t.bS dx [])/\
 ∀H' nd,H' g=some (.ins t.bS dx<|Rk tk .non .non nd .non)->H' nd=some (.dK [])->H nd=none->(∀b o,b≠g->H b=some o->H' b=some o)->Q .non H'
def zd:CU P w K mg base OL 1 t.tm t.mj ["self","token"] (yD t):=by
 refine T.Lk.okl yT λs H vs Q E hr h _=>?_;intro X;obtain⟨g,dx,tk,rfl,hg,q⟩:=h;refine aj (bh BC M2 M)
   (aj (bh BC a7 M)
   (aj (bh BC a7 M)
   (aj (bh BC eE M)
   (aA (bh BC a7 M) ?_))))
 intros
 refine⟨_,M,_,M,g,_,dx,[],M,hg,T.bG,T.p7,lO (by kernel_rfl),cO λH1 h1 I=>?_⟩;refine⟨_,M,g,_,dx,_,M,h1,T.bG,T.cV,lO (by kernel_rfl),cO λH2 h2 O=>?_⟩;refine⟨_,M,g,_,dx,_,M,h2,T.bG,T.jX,lO (by kernel_rfl),cO λH3 U Y=>λnd z=>?_⟩;refine⟨_,M,g,_,dx,_,M,ak z _ _ U,T.bG,T.p6,lO (by kernel_rfl),cO λH4 h4 Z=>?_⟩;refine⟨_,M,g,_,dx,_,M,h4,T.bG,T.eL,lO (by kernel_rfl),cO λH5 h5 o5=>?_⟩;have G:=(am U z).symm;refine q _ nd (h5.trans<|by kernel_rfl) (by rw[o5 _ G,Z _ G];exact ag) (by rw[Y _ G,O _ G,I _ G]at z;exact z) λb o n e=>?_;rw[o5 b n,Z b n];exact ak z _ _ (by rwa[Y b n,O b n,I b n])
def RX (g nd q:Addr) (ra:V):PQ:=⟨g,nd,q,ra,none,.non,.non,[],none⟩
def nu (K:JK) (t:OJ):Sp:=λvs H Q _=>∃(c a p dd q:Addr) (kd:Int) (av e:V) (X:OY) (F:Addr->Prop) (x:OZ),vs=[.ref c]/\P8 t H c a p dd kd av e X/\X.pg=none/\X.rv= .ref q/\OW K t H a F x/\(∀b,X.adr c p dd b->¬F b)/\x.now+x.ma<40000/\
 ∀(H':Hp) (F':Addr->Prop) (r g nd:Addr),OW K t H' a F' {x with ma:=x.ma+1,di:=x.di++ [(r,[.str "mark",.int (x.ma+1)])]}->P8 t H' c a p dd kd av e {X with pg:=some (RX g nd q X.ra)}->(∀b,({X with pg:=some (RX g nd q X.ra)}:OY).adr c p dd b->¬F' b)->H g=none->H nd=none->(∀b o,b≠c->¬F b->H b=some o->H' b=some o/\¬F' b)->Q (.int<|x.ma+1) H'
def oj:CU P w K mg base OL 3 t.iy t.eh ["self"] (nu K t):=by
 refine T.Du.okl nC λs H vs Q E hr h _=>?_;intro X;obtain⟨c,a,p,dd,G,kd,av,e,X',F,x,rfl,C,hp,O,A,U,l,q⟩:=h;refine aj (aQ (aq jy (au BC M) a7<|aw _)
    (az eJ)
    aI)
   (aj (aQ (aq cX (au BC M) a7<|aw _)
    (az eJ)
    aI)
   (aj (bh BC (jx T.OE (zd T) hr.mo {_} T.OF T.Lc .nil ay (ac (au BC M) ai)) M)
   (aA (aD<|aZ (au BC M) T.aO T.sk (iZ T) hr.mo T.sO .nil ay) ?_)))
 intros
 obtain⟨dx,ho⟩:=C.ob;rw[hp,O]at ho;refine⟨_,M,c,_,dx,_,_,M,ho,T.aF,T.b4,M,M,_,M,i7 M ?_⟩;unfold mZ
 (try dsimp only)
 refine⟨_,M,c,_,dx,_,_,M,ho,T.aF,T.dE,M,M,_,M,a9 (λz=>by cases z) ?_⟩
 (try dsimp only)
 refine⟨_,M,c,_,dx,_,_,M,ho,T.aF,T.dE,M,λg dg Y nd aa=>?_⟩;have s1:=cm (ak (o:= .own g) nd) (o:= .ins t.bS dg []) Y;refine⟨g,dg,G,M,ag,λH2 no a1 a2 nn kp=>⟨M,?_⟩⟩;have Z:Fa H H2:=λb o e=>kp b o (am e Y) (s1 _ _ e);have C2:=C.same Z;have I:=eP s1 nn;have gc:g≠c:=λz=>by rw[z,ho]at Y;cases Y
 have a3:PB t H2 G kd X'.ra e/\Ph kd X'.ra e:=by
  rcases C2.rt with h|⟨z,h1,h2⟩
  .rw[O]at h;cases h
  .rw[O]at h1;cases h1;exact h2
 refine⟨_,M,c,_,dx,_,M,Z _ _ ho,T.aF,T.b4,(by show 6<1000;decide),?_⟩;rw[bI ∅,bI ∅,bI ∅,bI ∅,bI ∅,lH];have C3:=C2.setc (n:=X'.n) (pg:=some<|RX g no G X'.ra) (dx:=dx) C2.rt λP z=>by
  cases z;exact⟨⟨⟨dg,a1⟩,a2,a3,.inl M,(λ_ z=>by cases z),(λ_ z=>by cases z)⟩,λz=>by rw[show no=dd from z,C.cp]at I;cases I⟩
 have a4:=Z _ _ ho;have nc:¬F c:=U c (.inl<|.inl M);rw[O]at C3;have A3:=(A.same Z).upd (o:= .ins t.aW dx<|S0 a p (.ref G) X'.n dd<|.ref g) nc λxs z=>by rw[a4]at z;cases z
 have k3:∀b o,b≠c->H2 b=some o->upd H2 c (.ins t.aW dx<|S0 a p (.ref G) X'.n dd<|.ref g) b=some o:=λb o n e=>by rwa[af n]
 change Az _ _ _ _ (upd H2 c<|.ins t.aW dx<|S0 a p (.ref G) X'.n dd<|.ref g)at*;change P8 t (upd H2 c<|.ins t.aW dx<|S0 a p (.ref G) X'.n dd<|.ref g) _ _ _ _ _ _ _ _ at C3;generalize upd H2 c (.ins t.aW dx<|S0 a p (.ref G) X'.n dd<|.ref g)=H3 at C3 A3 k3⊢;obtain⟨da,fa,ha,hm,_⟩:=A3.ins;obtain⟨d3,h3⟩:=C3.ob;refine⟨_,M,c,_,d3,_,_,M,h3,T.aF,T.eO,M,a,da,fa,M,ha,hm _ ∅,a,F,x,M,A3,l,λH4 F4 r A4 f4=>?_⟩;have a5:∀b,OY.adr ⟨.ref G,X'.ra,X'.n,X'.cp,some<|RX g no G X'.ra⟩ c p dd b->¬F b:=λb hb=>by
  rcases hb with(h|h|⟨P,z,h⟩)|h|h|⟨P,z,h⟩
  .exact U b<|.inl (.inl h)
  .exact U b<|.inl (.inr<|.inl h)
  .cases z;rcases h with rfl|rfl
   .exact A.out Y
   .exact A.out I
  .exact U b<|.inr (.inl h)
  .exact U b<|.inr (.inr<|.inl<|O.trans h)
  .cases z;rcases h with rfl|h|⟨y,h,_⟩
   .exact U _<|.inr (.inr<|.inl O)
   .cases h
   .cases h
 obtain⟨C4,a0⟩:=C3.fr a5 A3 f4;have eX:(⟨.ref G,X'.ra,X'.n,X'.cp,some<|RX g no G X'.ra⟩:OY)={X' with pg:=some (RX g no G X'.ra)}:=by rw[<-O]
 rw[eX]at C4 a0;exact q H4 F4 r g no A4 C4 a0 Y I λb o n1 n2 e=>f4 b o n2 (k3 b o n1<|Z _ _ e)
def yC (K:JK) (t:OJ):Sp:=λvs H Q _=>∃(g a tk nd dx:Addr) (n kd:Int) (av e fd ah cl:V) (F:Addr->Prop) (x:OZ),vs=[.ref g,.ref a,.int n]/\H g=some (.ins t.bS dx<|Rk tk fd ah nd cl)/\¬F g/\OW K t H a F x/\PB t H tk kd av e/\Ph kd av e/\¬F tk/\1<=n/\n<=1000/\x.st.kv.length<4096/\x.ks.length<4096/\(∀k∈x.ks,0<=k)/\(∀p∈x.st.kv,∃i:Int,p.2= .int i)/\
 ∀(H':Hp) (F':Addr->Prop) (f:Addr) (v:V) (ts:List Tp) (a':V) (R:Int->Bool),OW K t H' a F' x->Fr F F' H H'->¬F' f->H' f=some (.lst<|ts.map λe=>V.ref e.p)->(∀e∈ts,H' e.p=some (.tup [.int e.k,e.v]))->GI t H' F' x.st kd n av e v ts a' R->Q .non (upd H' g<|.ins t.bS dx<|Rk tk (.ref f) v nd cl)
def zb:CU P w K mg base OL 9 t.tj t.mi ["self","house","many"] (yC K t):=by
 refine T.Lj.okl yS λs H vs Q E I h _=>?_;intro X;obtain⟨g,a,tk,nd,dx,n,kd,av,e,fd,ah,cl,F,x,rfl,ho,O,A,Y,Z,nt,n1,n2,l4,lk,k0,iv,q⟩:=h;refine aj (OM 3<|aL (HC T) I.mo {_} T.Ol T.LX.kp T.Es.choose_spec.1 T.Es.choose_spec.2 ay (ac M2<|ac (au BC M)<|ac O1 ai))
   (aj (bh BC (aS bB OR ae<|λ_ _=>M) M)
   (aA (bh BC (aS bB OR ae<|λ_ _=>M) M) ?_))
 intros
 refine⟨_,M,_,M,g,_,dx,_,_,M,ho,T.bG,T.p7,M,_,M,a,tk,n,kd,av,e,F,x,M,A,Y,Z,nt,n1,n2,l4,lk,k0,iv,λH2 F2 r f v ts a' R A2 G pg U=>?_⟩;obtain⟨h2,a0⟩:=G _ _ O ho;have rg:r≠g:=λz=>by have h:=pg.tu;rw[z,h2]at h;cases h
 unfold Rk at h2;refine⟨_,M,r,_,_,_,M,M,OX.of pg.tu,M,_,M,g,_,dx,_,M,h2,T.bG,T.cV,(by show 5<1000;decide),?_⟩;rw[bI ∅,lH];refine⟨_,M,r,_,_,_,M,M,OX.of (by rw[af rg];exact pg.tu),M,_,M,g,_,dx,_,M,ag,T.bG,T.jX,(by show 5<1000;decide),?_⟩;rw[eG,bI ∅,bI ∅,lH];exact q H2 F2 f v ts a' R A2 G pg.ng.2 pg.li (λu hu=>(pg.rw u hu).1) U
def ni (K:JK) (t:OJ):Sp:=λvs H Q _=>∃(c a p dd:Addr) (n kd:Int) (av e:V) (X:OY) (P:PQ) (F:Addr->Prop) (x:OZ),vs=[.ref c,.int n]/\P8 t H c a p dd kd av e X/\X.pg=some P/\P.fd=none/\OW K t H a F x/\(∀b,X.adr c p dd b->¬F b)/\1<=n/\n<=1000/\x.st.kv.length<4096/\x.ks.length<4096/\(∀k∈x.ks,0<=k)/\(∀p∈x.st.kv,∃i:Int,p.2= .int i)/\
 ∀(H':Hp) (F':Addr->Prop) (f l:Addr) (v:V) (ts:List Tp) (a':V) (R:Int->Bool),OW K t H' a F' x->P8 t H' c a p dd kd av e {X with pg:=some {P with fd:=some (f,ts),ah:=v,aa:=a'}}->(∀b,({X with pg:=some {P with fd:=some (f,ts),ah:=v,aa:=a'}}:OY).adr c p dd b->¬F' b)->(∀b o,b≠P.g->¬F b->H b=some o->H' b=some o/\¬F' b)->(∃H1,GI t H1 F' x.st kd n P.ta e v ts a' R)->H' l=some (.lst<|ts.map λe=>V.ref e.p)->¬F' l->l≠f->(∀b o,¬F b->H b=some o->b≠l)->Q (.ref l) H'
def oi:CU P w K mg base OL 10 t.iw t.cC ["self","many"] (ni K t):=by
 have a3:=PD.nd;refine T.Dt.ok PD (λvs H Q E h=>?_)<|λa4 A outer s H vs Q E hr h=>?_
 .obtain⟨c,a,p,dd,n,kd,av,e,X,P,F,x,rfl,_⟩:=h;rfl
 .obtain⟨c,a,p,dd,n,kd,av,e,X',G,F,x,rfl,C,Z,a1,A,nF,n1,n2,l4,lk,k0,iv,q⟩:=h;refine aj (OM 2<|au BC M)
    (aj (aQ (PW.pt<|ie (aq cX O1 a7<|aw _)<|gZ<|aq jy (au O1 M) a7<|aw _)
   (az eJ)
   aI)
     (aj (aN<|aR O1 T.bG T.KJ (zb T) hr.mo T.Lb .nil ay<|ac (au BC M)<|ac M2 ai)
     (aA (aD<|gl Bq {_} T.L3 Fc (ac (au O1 M) ai)) ?_)))
  intros
  obtain⟨dx,ho⟩:=C.ob;obtain⟨R0,nn⟩:=C.pg G Z;obtain⟨O,hg⟩:=R0.ob;rw[Z]at ho;rw[a1]at hg;refine⟨_,M,c,_,dx,_,_,M,ho,T.aF,T.b4,M,?_⟩;refine⟨_,M,M,_,M,a9 (λz=>by cases z) ⟨_,M,G.g,_,O,_,_,M,hg,T.bG,T.cV,M,M,_,M,i7 M ?_⟩⟩;unfold mZ
  (try dsimp only)
  have ng:¬F G.g:=nF _ (.inl<|.inr<|.inr ⟨G,Z,.inl M⟩);have nt:¬F G.tk:=nF _ (.inr<|.inr<|.inr ⟨G,Z,.inl M⟩);refine⟨_,M,G.g,O,_,M,hg,{_},_,M,c,_,dx,_,_,M,ho,T.aF,T.eO,M,_,M,G.g,a,G.tk,G.nd,O,n,kd,G.ta,e,_,_,_,F,x,M,hg,ng,A,R0.tk.1,R0.tk.2,nt,n1,n2,l4,lk,k0,iv,λH2 F2 f v ts a' R A2 f2 nf hf tu U=>?_⟩;obtain⟨C2,I⟩:=C.fr nF A f2;have a0:=(f2 _ _ ng hg).1;have a2:=(f2 _ _ ng hg).2;have fg:=cq hf a0 λz=>by cases z
  have C3:=C2.setg Z (fd:=some (f,ts)) (ah:=v) (aa:=a') (cl:=G.cl) (dx:=O) (λy hy=>by cases hy;exact⟨hf,tu⟩) (by
   rcases U.rest with h|⟨q',h1,h2,h3,_⟩
   .exact .inl h.1
   .exact .inr ⟨q',h1,h2,h3⟩)
  have A3:=A2.upd (o:= .ins t.bS O<|Rk G.tk (.ref f) v G.nd<|Ck G.cl) a2 λxs z=>by rw[a0]at z;cases z
  have k3:∀b o,b≠G.g->H2 b=some o->upd H2 G.g (.ins t.bS O<|Rk G.tk (.ref f) v G.nd<|Ck G.cl) b=some o:=λb o n e=>by rwa[af n]
  change P8 t (upd H2 G.g<|.ins t.bS O<|Rk G.tk (.ref f) v G.nd<|Ck G.cl) _ _ _ _ _ _ _ _ at C3;have h3:upd H2 G.g (.ins t.bS O<|Rk G.tk (.ref f) v G.nd<|Ck G.cl) G.g=some (.ins t.bS O<|Rk G.tk (.ref f) v G.nd<|Ck G.cl):=ag
  (try dsimp only)
  generalize upd H2 G.g (.ins t.bS O<|Rk G.tk (.ref f) v G.nd<|Ck G.cl)=H3 at C3 A3 k3 h3⊢;refine⟨_,M,G.g,_,O,_,_,M,h3,T.bG,T.cV,M,f,_,M,.inl<|Fb.of<|k3 _ _ fg hf,λl Y=>?_⟩;have s3:=ak (o:= .lst<|ts.map λe=>V.ref e.p) Y;refine q _ F2 f l v ts a' R (A3.same s3) (C3.same s3) (λb hb=>?_) (λb o n1 n2 e=>⟨s3 _ _<|k3 b o n1 (f2 b o n2 e).1,(f2 b o n2 e).2⟩) ⟨H2,U⟩ ag (A3.out Y) (λz=>by rw[z,k3 _ _ fg hf]at Y;cases Y) λb o n2 e z=>?_
  .rcases hb with(h|h|⟨P,z,h⟩)|h|h|⟨P,z,h⟩
   .exact I b<|.inl (.inl h)
   .exact I b<|.inl (.inr<|.inl h)
   .cases z;exact I b<|.inl (.inr<|.inr ⟨G,Z,h⟩)
   .exact I b<|.inr (.inl h)
   .exact I b<|.inr (.inr<|.inl h)
   .cases z;rcases h with h|h|⟨y,hy,h⟩
    .exact I b<|.inr (.inr<|.inr ⟨G,Z,.inl h⟩)
    .rcases U.rest with g|⟨q',h1,h2,h3,h4,_⟩
     .rw[show v=V.ref b from h]at g;cases g.1
     .rw[show v=V.ref b from h]at h1;cases h1;exact h4
    .cases hy;rwa[h]
  .by_cases c:b=G.g
   .rw[<-z,c,h3]at Y;cases Y
   .rw[<-z,k3 b o c (f2 b o n2 e).1]at Y;cases Y
def mR (K:JK) (t:OJ):Sp:=λvs H Q _=>∃(c a p dd:Addr) (kd:Int) (av e:V) (X:OY) (P:PQ) (y:Addr×List Tp) (F:Addr->Prop) (x:OZ),vs=[.ref c]/\P8 t H c a p dd kd av e X/\X.pg=some P/\P.fd=some y/\P.cl=none/\OW K t H a F x/\(∀b,X.adr c p dd b->¬F b)/\x.now+x.ma<40000/\
 ∀(H':Hp) (F':Addr->Prop) (r:Addr),OW K t H' a F' {x with ma:=x.ma+1,di:=x.di++ [(r,[.str "mark",.int (x.ma+1)])]}->P8 t H' c a p dd kd av e {X with pg:=some {P with cl:=some (x.ma+1)}}->(∀b,({X with pg:=some {P with cl:=some (x.ma+1)}}:OY).adr c p dd b->¬F' b)->(∀b o,b≠P.g->¬F b->H b=some o->H' b=some o/\¬F' b)->Q (.int<|x.ma+1) H'
def mV:CU P w K mg base OL 2 t.gS t.dG ["self"] (mR K t):=by
 refine T.Dg.okl mT λs H vs Q E hr h _=>?_;intro X;obtain⟨c,a,p,dd,kd,av,e,X',G,y,F,x,rfl,C,O,hy,a0,A,nF,l,q⟩:=h;refine aj (OM 1<|au BC M)
   (aj (aQ (PW.pt<|ie (aq cX M2 a7<|aw _)<|ie (aq cX (au M2 M) a7<|aw _)<|gZ<|aq jy (au M2 M) a7<|aw _)
    (az eJ)
    aI)
   (aj (bh M2 (aZ (au BC M) T.aO T.sk (iZ T) hr.mo T.sO .nil ay) M)
   (aA (aD<|au M2 M) ?_)))
 intros
 obtain⟨dx,ho⟩:=C.ob;obtain⟨R0,nn⟩:=C.pg G O;obtain⟨U,Z⟩:=R0.ob;rw[O]at ho;rw[hy,a0]at Z;have ng:¬F G.g:=nF _ (.inl<|.inr<|.inr ⟨G,O,.inl M⟩);refine⟨_,M,c,_,dx,_,_,M,ho,T.aF,T.b4,M,?_⟩;refine⟨_,M,M,_,M,a9 (λz=>by cases z) ⟨_,M,G.g,_,U,_,_,M,Z,T.bG,T.cV,M,M,_,M,a9 (λz=>by cases z) ⟨_,M,G.g,_,U,_,_,M,Z,T.bG,T.eL,M,M,_,M,i7 M ?_⟩⟩⟩;unfold mZ
 (try dsimp only)
 obtain⟨da,fa,ha,hm,_⟩:=A.ins;refine⟨_,M,c,_,dx,_,_,M,ho,T.aF,T.eO,M,a,da,fa,M,ha,hm _ ∅,a,F,x,M,A,l,λH2 F2 r A2 f2=>?_⟩;obtain⟨Y,a1⟩:=f2 _ _ ng Z;obtain⟨C2,I⟩:=C.fr nF A f2;obtain⟨R2,_⟩:=C2.pg G O;refine⟨_,M,G.g,_,U,_,M,Y,T.bG,T.eL,(by show 5<1000;decide),?_⟩;rw[bI ∅,bI ∅,bI ∅,bI ∅,lH];refine⟨_,M,G.g,_,U,_,_,M,ag,T.bG,T.eL,M,?_⟩;refine q _ F2 r (A2.upd a1 λxs z=>by rw[Y]at z;cases z) (by have h:=C2.setg O (fd:=G.fd) (ah:=G.ah) (aa:=G.aa) (cl:=some<|x.ma+1) (dx:=U) R2.fd R2.ah;rw[show Kz G.fd=V.ref y.1 by rw[hy];rfl]at h;exact h) (λb hb=>?_) λb o n1 n2 e=>⟨by rw[af n1];exact(f2 b o n2 e).1,(f2 b o n2 e).2⟩;rcases hb with(h|h|⟨P,z,h⟩)|h|h|⟨P,z,h⟩
 .exact I b<|.inl (.inl h)
 .exact I b<|.inl (.inr<|.inl h)
 .cases z;exact I b<|.inl (.inr<|.inr ⟨G,O,h⟩)
 .exact I b<|.inr (.inl h)
 .exact I b<|.inr (.inr<|.inl h)
 .cases z;exact I b<|.inr (.inr<|.inr ⟨G,O,h⟩)
def vi (K:JK) (t:OJ):Sp:=λvs H Q _=>∃(c dx a p:Addr) (kd:Int) (av e:V) (F:Addr->Prop) (x:OZ),vs=[.ref c,.ref a,.ref p,.non]/\H c=some (.ins t.aW dx [])/\OW K t H a F x/\PB t H p kd av e/\Ph kd av e/\
 ∀H' dd,P8 t H' c a p dd kd av e ⟨.ref p,av,x.di.length,[],none⟩->H dd=none->(∀b o,b≠c->H b=some o->H' b=some o)->Q .non H'
def vI:CU P w K mg base OL 2 t.o0 t.fX ["self","house","token","stopped"] (vi K t):=by
 have a1:=PX.nd;refine T.Jr.ok PX (λvs H Q E h=>?_)<|λa2 A outer s H vs Q E hr h=>?_
 .obtain⟨c,dx,a,p,kd,av,e,F,x,rfl,_⟩:=h;rfl
 .obtain⟨c,dx,a,p,kd,av,e,F,x,rfl,hc,A,TK,on,q⟩:=h;refine bU (λx=>aQ (aq cX OR a7<|aw _) x aI) ?_;refine aA (OM 3<|bO<|ac O1<|ac (aE aC {_} T.bL bf (ac (aZ M2 T.aO T.fI (eK T) hr.mo T.bV.choose_spec.1 T.bV.choose_spec.2 ay) ai))<|ac eE ai) ?_
  intros
  refine aj (bh BC M2 M)
    (aj (bh BC O1 M)
    (aj (bh BC (aS bB OR ae<|λ_ _=>M) M)
    (aj (bh BC (aS bB OR ae<|λ_ _=>M) M)
    (aj (bh BC (gl rc {_} T.Dv vZ (ac (aS bB OR ae<|λ_ _=>M) ai)) M)
    (aA (bh BC a7 M) ?_)))))
  intros
  obtain⟨da,fa,hi,hm,_⟩:=A.ins;refine dM (λB H'=>∃I O:Addr,B=[some (.ref c),some (.ref a),some (.ref p),some (.ref I)]/\Fa H H'/\H' I=some (.tup [.ref p,.int x.di.length,.ref O])/\H' O=some (.dK [])) (λnx go=>?_)<|λB H2 w=>?_
  .refine⟨_,M,M,_,M,fK M ⟨_,M,_,M,a,da,fa,M,hi,hm _ ∅,a,0,F,x,M,A,Zg _,λH1 r s1 nr hr=>⟨r,_,M,.inl<|Fb.of hr,λO a0=>⟨(by show 3<=sizeLine;decide),λI Z=>?_⟩⟩⟩⟩;rw[Q0,show(0:Int).toNat=0 from rfl,Z1];exact go _ _ ⟨I,O,M,(s1.trans<|ak a0).trans<|ak Z,ag,ak Z _ _ ag⟩
  obtain⟨I,O,rfl,s2,G,U⟩:=w;have Y:=s2 _ _ hc;have n1:I≠c:=λz=>by rw[z,Y]at G;cases G
  have n2:O≠c:=λz=>by rw[z,Y]at U;cases U
  refine⟨_,M,_,M,c,_,dx,[],M,Y,T.aF,T.eO,lO (by kernel_rfl),cO λH3 h3 o3=>?_⟩;refine⟨_,M,_,M,c,_,dx,_,M,h3,T.aF,T.vJ,lO (by kernel_rfl),cO λH4 h4 o4=>?_⟩;refine⟨_,M,I,_,_,_,M,M,OX.of (by rwa[o4 _ n1,o3 _ n1]),M,_,M,c,_,dx,_,M,h4,T.aF,T.dE,lO (by kernel_rfl),cO λH5 h5 o5=>?_⟩;have kp:∀{b:Addr},b≠c->H5 b=H2 b:=λn=>by rw[o5 _ n,o4 _ n,o3 _ n]
  refine⟨_,M,I,_,_,_,M,M,OX.of (by rwa[kp n1]),M,_,M,c,_,dx,_,M,h5,T.aF,T.cN,lO (by kernel_rfl),cO λH6 h6 o6=>?_⟩;refine⟨_,M,I,_,_,_,M,M,OX.of (by rwa[o6 _ n1,kp n1]),M,O,_,M,by rwa[o6 _ n2,kp n2],λdd nd=>?_⟩;refine⟨_,M,c,_,dx,_,M,ak nd _ _ h6,T.aF,T.dN,lO (by kernel_rfl),cO λH7 h7 o7=>?_⟩;refine⟨_,M,c,_,dx,_,M,h7,T.aF,T.b4,lO (by kernel_rfl),cO λH8 h8 o8=>?_⟩;have nc:=(am h6 nd).symm;have k8:∀b o,b≠c->H b=some o->H8 b=some o:=λb o n e=>by
   rw[o8 b n,o7 b n];exact ak nd _ _<|by rw[o6 b n,kp n];exact s2 _ _ e
  have tk:PB t H8 p kd av e:=by
   obtain⟨dq,fq,h1,h2⟩:=id TK;exact⟨dq,fq,k8 p _ (TK.ne hc M) h1,h2⟩
  exact q _ dd ⟨⟨dx,h8.trans<|by kernel_rfl⟩,by rw[o8 _ nc,o7 _ nc];exact ag,⟨tk,on⟩,.inr ⟨p,M,tk,on⟩,λ_ z=>by cases z⟩ (eP s2<|by rw[o6 _ nc,kp nc]at nd;exact nd) k8
def tN (t:OJ):Sp:=λvs H Q _=>∃(c a p dd:Addr) (kd:Int) (av e:V) (X:OY),vs=[.ref c]/\P8 t H c a p dd kd av e X/\Q (.int X.n) H
def kD:CU P w K mg base OL 1 t.mN t.hZ ["self"] (tN t):=by
 refine T.GS.okl tT λs H vs Q E z h _=>?_;intro X;obtain⟨c,a,p,dd,kd,av,e,X',rfl,C,q⟩:=h;refine⟨_,(az<|aD<|au BC M)
  ,?_⟩
 obtain⟨dx,ho⟩:=C.ob;exact⟨_,M,c,_,dx,_,_,M,ho,T.aF,T.cN,M,q⟩
def vh (t:OJ):Sp:=λvs H Q _=>∃(c a p dd:Addr) (kd:Int) (av e:V) (X:OY),vs=[.ref c]/\P8 t H c a p dd kd av e X/\Q X.rv H
def mE:CU P w K mg base OL 1 t.oZ t.jk ["self"] (vh t):=by
 refine T.Jq.okl vx λs H vs Q E z h _=>?_;intro X;obtain⟨c,a,p,dd,kd,av,e,X',rfl,C,q⟩:=h;refine⟨_,(az<|aD<|au BC M)
  ,?_⟩
 obtain⟨dx,ho⟩:=C.ob;exact⟨_,M,c,_,dx,_,_,M,ho,T.aF,T.dE,M,q⟩
def vj (t:OJ):Sp:=λvs H Q _=>∃(c a p dd:Addr) (kd:Int) (av e:V) (X:OY),vs=[.ref c]/\P8 t H c a p dd kd av e X/\∀r,H r=none->Q (.ref r) (upd H r<|.dK<|aB X.cp)
def mF:CU P w K mg base OL 1 t.pc t.jn ["self"] (vj t):=by
 refine T.Js.okl vz λs H vs Q E z h _=>?_;intro X;obtain⟨c,a,p,dd,kd,av,e,X',rfl,C,q⟩:=h;refine⟨_,(az<|aD<|gl rc {_} T.Dv vZ (ac (au BC M) ai))
  ,?_⟩
 obtain⟨dx,ho⟩:=C.ob;exact⟨_,M,c,_,dx,_,_,M,ho,T.aF,T.dN,M,dd,_,M,C.cp,q⟩
def tM (t:OJ):Sp:=λvs H Q _=>∃(c a p dd:Addr) (kd:Int) (av e:V) (X:OY) (ns:List Int),vs=[.ref c]/\P8 t H c a p dd kd av e X/\X.cp.map (·.2)=ns.map V.int/\∀H',Fa H H'->Q (.int ns.sum) H'
def uk:CU P w K mg base OL 1 t.mM t.hX ["self"] (tM t):=by
 refine T.GR.okl tS λs H vs Q E G h _=>?_;intro X;obtain⟨c,a,p,dd,kd,av,e,X',ns,rfl,C,I,q⟩:=h;refine⟨_,(az<|aD<|aE (Ae G.hd) {_} T.NG IY (ac (ud QD ZQ Xq ur<|au BC M) ai))
  ,?_⟩
 obtain⟨dx,ho⟩:=C.ob;exact⟨_,M,c,_,dx,_,_,M,ho,T.aF,T.dN,M,.inr<|.inr<|.inl ⟨M,.inl ⟨_,C.cp⟩⟩,dd,_,M,M,C.cp,λv z=>⟨v,dd,_,ns,M,ag,ak z _ _ C.cp,by unfold aB;rw[Qs];exact I,q _<|ak z⟩⟩
def zB:(0:Int)<10^(38:Int).toNat:=by decide
def LG {i:Int} (G:0<=i) (h1:i<=11) (z:0<=m) (I:m<=65536):0<=i*m/\i*m<=720896:=⟨Xl G z,Int.le_trans (Int.mul_le_mul h1 I z (_)) (_)⟩
def Kh (H:Hp) (c n way:Int):St->Hp->Prop:=λB H'=>H=H'/\∃st:Int,B=[some (.int c),some (.int st),some (.int n),some (.int way),none]/\0<=st/\st<=10^38
def B0:Sp:=λvs H Q _=>∃c:Int,vs=[.int c]/\∀(H':Hp) (r:Addr) (rs:List Int),Fa H H'->H r=none->H' r=some (.lst<|rs.map V.int)->rs.length<=12->(∀k∈rs,0<=k/\k<10^39)->Q (.ref r) H'
def Cj:CU P w K mg base OL 2 t.ya t.qW ["_law_cell"] B0:=by
 refine T.Ew.okl OS λs H vs Q E hr h _=>?_;intro X;obtain⟨c,rfl,q⟩:=h;refine bU (λx=>aQ (aq bP (ao aT BC ae) ae<|aw _) x aI) ?_;refine aj (nR (i:=1) OS.nd M (Or.inr M)<|ao aT (ao aP BC ae)<|ao gr ae ae)
   (aA (aD<|pB M (OO.of (M':=["_law_k"]) (N:=["_law_cell","_law_start","_law_number","_law_way","_law_step"]) (N':=["_law_cell","_law_start","_law_number","_law_way","_law_step"]) (dsc:=al iM) M M ∅) (iF {_} T.pj (ac (ao bx ae<|ao aT (ao aP BC ae) ae) ai))<|λ_ _ _ _ _=>(ao bx O1<|ao cM BC<|aS (Io K M) (bZ<|ac ae<|ac ae<|ac ae<|ac ae<|ac ae ai) (ao aT (ao aP M2 ae) ae)<|λ_ _=>M)) ?_)
 intros
 refine aj (OM 2<|aL (pV T) hr.mo {_} T.Bd T.tE.kp T.Bv .nil ay (ac BC<|ac ae ai))
   (aj (OM 3<|ao aT O1 ae)
   (aj (nR (i:=1) OS.nd M (Or.inr M)<|ao aT (ao aP O1 ae) ae)
   (aj (aQ (aq bP OR ae<|aw _)
    (az<|nR (i:=1) OS.nd M (Or.inr M)<|ao aT (ao aP BC ae)<|ao gr ae ae)
    aI)
   (aj (aQ (aq bP OR ae<|aw _)
    (az<|nR (i:=1) OS.nd M (Or.inr M)<|ao cM ae<|ao aT (ao aP O1 ae) ae)
    aI)
   (bU (λx=>aQ (aq bP OR ae<|aw _) x aI) ?_)))))
 refine aA (nR (i:=1) OS.nd M (Or.inr M)<|ao bx (ao cM ae<|ao aT (ao aP O1 ae) ae)<|ao aT (ao aP O1 ae) ae) ?_
 intros
 refine aj (aQ (aq bP OR ae<|aw _)
    (az<|nR (i:=1) OS.nd M (Or.inr M)<|ao aT (ao aP O1 ae) ae)
    aI)
   (aj (nR (i:=4) OS.nd M (Or.inr M)<|aS aU (bZ<|ac ae<|ac ae<|ac ae<|ac ae<|ac ae ai) (ao aT (ao aP O1 ae) ae)<|λ_ _=>M)
   (aA (aD<|pB M (OO.of (M':=["_law_k"]) (N:=["_law_cell","_law_start","_law_number","_law_way","_law_step"]) (N':=["_law_cell","_law_start","_law_number","_law_way","_law_step"]) (dsc:=al iM) M M ∅) (iF {_} T.pj (ac (ao bx ae<|ao aT (ao aP O1 ae) ae) ai))<|λ_ _ _ _ _=>(ao bx O1<|ao cM BC Pj)) ?_))
 intros
 have two:(0:Int)<2:=by decide
 have a2:(10:Int)^(38:Int).toNat=10^38:=M;refine⟨_,M,_,_,M,M,two,M,_,M,bQ (λz=>?_)<|λz=>?_⟩
 .have G:=Qf (c/120) (QU zB);have s1:=Qc (c/120) zB;refine⟨_,M,_,_,M,M,⟨(_),(_)⟩,_,_,M,M,⟨(_),(_),(_)⟩,_,_,M,M,zB,?_⟩
  (try dsimp only)
  generalize c/120%10^(38:Int).toNat=st at G s1⊢;rw[a2]at s1;have b0:=Qf (c/2) (show(12:Int)≠0 by decide);have b1:=Qc (c/2) (show(0:Int)<12 by decide);refine⟨_,M,_,_,M,M,⟨(_),(_)⟩,_,_,M,M,(by show(0:Int)<12;decide),_,_,M,M,?_⟩
  (try dsimp only)
  generalize c/2%12=m at b0 b1⊢;refine⟨1+m,M,(),(),λD hD=>qX (n:=(1+m).toNat) (lo:=0) (λi ys H2=>Fa H H2/\∃rs:List Int,ys=rs.map V.int/\rs.length=i/\∀k∈rs,0<=k/\k<10^39) ⟨ak hD,[],M,M,λ_ z=>Vt z Z7⟩ (λi ys H2 hi w I=>?_)<|λys H2 w I=>?_⟩
  .obtain⟨U,rs,rfl,lr,hb⟩:=w;obtain⟨sp,Y,p0,p1⟩:=zH (c:=c/24) (n:=5) (L:=[.int 1,.int 3,.int 256,.int 65536,.int 5000]) (P:=λm=>0<=m/\m<=65536) ⟨⟨(_),(_)⟩,⟨(_),(_)⟩,⟨(_),(_)⟩,⟨(_),(_)⟩,⟨(_),(_)⟩,trivial⟩ M (_);refine⟨_,M,_,M,(by show 5<=sizeLine;decide),λp np=>⟨_,M,_,_,M,M,⟨(_),(_)⟩,_,_,M,M,(by show(0:Int)<5;decide),p,_,_,_,M,M,Fb.of ag,Y,_,_,M,M,.inr ⟨(),()⟩,_,_,M,M,?_⟩⟩;have O:=ak (o:= .lst [.int 1,.int 3,.int 256,.int 65536,.int 5000]) np
   (try dsimp only)
   generalize upd H2 p (.lst [.int 1,.int 3,.int 256,.int 65536,.int 5000])=H3 at O⊢;obtain⟨x0,x1⟩:=LG (i:=0+(i:Int)) () () p0 p1;generalize (0+(i:Int))*sp=x at x0 x1⊢;refine P7.mk hi (O _ _ I) (cU<|by rw[Q0];lia) ⟨cm (U.trans O) hD,rs++ [st+x],by rw[Qg];rfl,by rw[Q8,lr];rfl,λk hk=>?_⟩;rcases Q5.mp hk with hk|hk
   .exact hb k hk
   .rw[Q7.mp hk];constructor<;>lia
  .obtain⟨U,rs,rfl,lr,hb⟩:=w;exact q H2 D rs U hD I () hb
 clear z;refine⟨_,M,c,1,M,λn n0 n1=>?_⟩;refine⟨_,M,_,_,M,M,(by show(0:Int)<5;decide),?_⟩
 (try dsimp only)
 generalize n%5=way;have G:=Qf (n/5) (show(50:Int)≠0 by decide);have s1:=Qc (n/5) (show(0:Int)<50 by decide);refine⟨_,M,_,_,M,M,⟨(_),(_)⟩,_,_,M,M,(by show(0:Int)<50;decide),?_⟩
 (try dsimp only)
 generalize n/5%50=st at G s1⊢;refine dM (Kh H c n way) (λnx go=>?_)<|λZ H1 w=>?_
 .refine⟨_,M,M,_,M,bQ (λz=>?_)<|λz=>go _ _ ⟨M,st,M,G,()⟩⟩;have a0:=Qf (c/5) (QU zB);have a1:=Qc (c/5) zB;refine⟨_,M,_,_,M,M,⟨(_),(_)⟩,_,_,M,M,⟨(_),(_),(_)⟩,_,_,M,M,zB,go _ _ ⟨M,_,M,a0,?_⟩⟩;rw[a2]at a1⊢;lia
 clear G s1 st;obtain⟨rfl,st,rfl,G,s1⟩:=w;refine dM (Kh H c n way) (λnx go=>?_)<|λZ H1 w=>?_
 .refine⟨_,M,M,_,M,bQ (λz=>?_)<|λz=>go _ _ ⟨M,st,M,G,s1⟩⟩;have a0:=Qf (n/5) (show(40:Int)≠0 by decide);have a1:=Qc (n/5) (show(0:Int)<40 by decide);exact⟨_,M,_,_,M,M,⟨(_),(_)⟩,_,_,M,M,(by show(0:Int)<40;decide),_,_,M,M,.inl ⟨(_),(_)⟩,go _ _ ⟨M,_,M,(),()⟩⟩
 clear G s1 st;obtain⟨rfl,st,rfl,G,s1⟩:=w;refine dM (Kh H c n way) (λnx go=>?_)<|λZ H1 w=>?_
 .refine⟨_,M,M,_,M,bQ (λz=>?_)<|λz=>go _ _ ⟨M,st,M,G,s1⟩⟩;have a0:=Qf (n/5) (show(9:Int)≠0 by decide);have a1:=Qc (n/5) (show(0:Int)<9 by decide);have b0:=Qf (n/45) (show(7:Int)≠0 by decide);have b1:=Qc (n/45) (show(0:Int)<7 by decide);exact⟨_,M,_,_,M,M,⟨(_),(_)⟩,_,_,M,M,(by show(0:Int)<9;decide),_,_,M,M,.inl ⟨(_),(_)⟩,_,M,_,_,M,M,⟨(_),(_)⟩,_,_,M,M,(by show(0:Int)<7;decide),_,_,M,M,go _ _ ⟨M,_,M,(),()⟩⟩
 clear G s1 st;obtain⟨rfl,st,rfl,G,s1⟩:=w;refine dM (Kh H c n way) (λnx go=>?_)<|λZ H1 w=>?_
 .refine⟨_,M,M,_,M,bQ (λz=>?_)<|λz=>go _ _ ⟨M,st,M,G,s1⟩⟩;have a0:=Qf (n/5) (show(3000:Int)≠0 by decide);have a1:=Qc (n/5) (show(0:Int)<3000 by decide);exact⟨_,M,_,_,M,M,⟨(_),(_)⟩,_,_,M,M,(by show(0:Int)<3000;decide),go _ _ ⟨M,_,M,(),()⟩⟩
 clear G s1 st;obtain⟨rfl,st,rfl,G,s1⟩:=w;obtain⟨sp,Y,p0,p1⟩:=zH (c:=n/20000) (n:=5) (L:=[.int 1,.int 3,.int 256,.int 65536,.int 5000]) (P:=λm=>0<=m/\m<=65536) ⟨⟨(_),(_)⟩,⟨(_),(_)⟩,⟨(_),(_)⟩,⟨(_),(_)⟩,⟨(_),(_)⟩,trivial⟩ M (_);refine⟨(by show 5<=sizeLine;decide),λp np=>⟨_,M,_,_,M,M,⟨(_),(_)⟩,_,_,M,M,(by show(0:Int)<5;decide),p,_,_,_,M,M,Fb.of ag,Y,?_⟩⟩;have O:=ak (o:= .lst [.int 1,.int 3,.int 256,.int 65536,.int 5000]) np
 (try dsimp only)
 generalize upd H p (.lst [.int 1,.int 3,.int 256,.int 65536,.int 5000])=H3 at O⊢;have b0:=Qf (n/100000) (show(12:Int)≠0 by decide);have b1:=Qc (n/100000) (show(0:Int)<12 by decide);refine⟨_,M,_,_,M,M,⟨(_),(_)⟩,_,_,M,M,(by show(0:Int)<12;decide),_,_,M,M,?_⟩
 (try dsimp only)
 generalize n/100000%12=m at b0 b1⊢;refine⟨1+m,M,(),(),λD hD=>qX (n:=(1+m).toNat) (lo:=0) (λi ys H2=>Fa H3 H2/\∃rs:List Int,ys=rs.map V.int/\rs.length=i/\∀k∈rs,0<=k/\k<10^39) ⟨ak hD,[],M,M,λ_ z=>Vt z Z7⟩ (λi ys H2 hi w I=>?_)<|λys H2 w I=>?_⟩
 .obtain⟨U,rs,rfl,lr,hb⟩:=w;obtain⟨x0,x1⟩:=LG (i:=0+(i:Int)) () () p0 p1;refine⟨_,M,_,M,_,M,_,_,M,M,.inr ⟨(),()⟩,_,_,M,M,?_⟩
  (try dsimp only)
  generalize (0+(i:Int))*sp=x at x0 x1⊢;refine P7.mk hi I (cU<|by rw[Q0];lia) ⟨cm U hD,rs++ [st+x],by rw[Qg];rfl,by rw[Q8,lr];rfl,λk hk=>?_⟩;rcases Q5.mp hk with hk|hk
  .exact hb k hk
  .rw[Q7.mp hk];constructor<;>lia
 .obtain⟨U,rs,rfl,lr,hb⟩:=w;exact q H2 D rs (O.trans U) (eP O hD) I () hb
def Wh (F:Addr->Prop) (d:Addr):Addr->Prop:=λb=>F b\/b=d
def Fr.wh {d:Addr} (f:Fr F F' H H'):Fr (Wh F d) (Wh F' d) H H':=λb o n G=>⟨(f b o (λz=>n<|.inl z) G).1,λz=>z.elim (f b o (λz=>n<|.inl z) G).2 λz=>n<|.inr z⟩
def Fr.wd {d:Addr}:Fr (Wh F d) (Wh F d) H (upd H d o):=λb o n G=>⟨by rwa[af λz=>n (.inr z)],n⟩
structure Jd (K:JK) (t:OJ) (H:Hp) (a d:Addr) (F:Addr->Prop) (x:OZ) (ds:List DR):Prop where
 A:OW K t H a F x
 di:H d=some (.dK<|aB x.st.kv)
 nd:¬F d
 kb:∀k∈x.st.kv.map (·.1),0<=k/\k<10^40
 iv:∀p∈x.st.kv,∃i:Int,p.2= .int i
 le:x.st.kv.length<=400
 dy:Rl x ds
 D:Ra ds
 tb:tbl ds=x.st.kv
 mx:∀y∈ds,∀m,y.r= .mark m->m<=x.ma
 fl:x.fl=0
 ho:x.ho=[]
def Hq {kv:List (Int×V)} {i:Int} (h:∀p∈kv,∃i:Int,p.2= .int i):∀p∈bi kv k (.int i),∃i:Int,p.2= .int i:=λp z=>by
 unfold bi at z;split at z
 .obtain⟨q,hq,rfl⟩:=Q9.mp z;by_cases c:q.1=k
  .exact⟨i,by rw[Vp c]⟩
  .rw[Vo c];exact h q hq
 .rcases Q5.mp z with y|y
  .exact h p y
  .rw[Q7.mp y];exact⟨i,M⟩
def Ra.snoc {y:DR} (D:Ra ds) (k0:∀k,y.r.key=some k->0<=k) (O:∀m,y.r= .mark m->∀z∈ds,z.r≠ .mark m) (Y:∀k,y.r= .drop k->(aG (tbl ds) k).isSome=true):Ra (ds++ [y]):=by
 have at_:∀(i:Nat) (z:DR),(ds++ [y])[i]?=some z->ds[i]?=some z\/(i=ds.length/\z=y):=λi z h=>by
  rcases Nat.lt_trichotomy i ds.length with c|c|c
  .rw[QT c]at h;exact .inl h
  .rw[c,QW (Q4 _),Nat.sub_self]at h;exact .inr ⟨c,(Vq h).symm⟩
  .rw[XC (by rw[Q8,QZ];lia)]at h;cases h
 refine⟨λz hz k hk=>?_,λi j u v m hu Z G I=>?_,λi z k hz U=>?_⟩
 .rcases Q5.mp hz with h|h
  .exact D.kb z h k hk
  .rw[Q7.mp h]at hk;exact k0 k hk
 .rcases at_ i u hu with h1|⟨h1,rfl⟩<;>rcases at_ j v Z with h2|⟨h2,rfl⟩
  .exact D.un i j u v m h1 h2 G I
  .exact Vt G<|O m I u (Q1 h1)
  .exact Vt I<|O m G v (Q1 h2)
  .rw[h1,h2]
 .rcases at_ i z hz with h1|⟨h1,rfl⟩
  .rw[QG (Z4 (Q2.mp h1).1)];exact D.dr i z k h1 U
  .rw[h1,QG (Q4 _),QB];exact Y k U
def Rl.snoc {x:OZ} {y:DR} (h:Rl x ds) (e:x'.di=x.di++ [(y.p,y.r.vs)]):Rl x' (ds++ [y]):=by
 unfold Rl at h⊢;rw[e,h,Qg];rfl
section
variable {d:Addr} {x:OZ} {i:Int}
def Jd.fr (J:Jd K t H a d F x ds) (A:OW K t H' a F' x) (f:Fr F F' H H'):Jd K t H' a d F' x ds:=⟨A,(f _ _ J.nd J.di).1,(f _ _ J.nd J.di).2,J.kb,J.iv,J.le,J.dy,J.D,J.tb,J.mx,J.fl,J.ho⟩
def Jd.same (J:Jd K t H a d F x ds) (s:Fa H H'):Jd K t H' a d F x ds:=J.fr (J.A.same s) (Fr.of_same s)
def Jd.put (J:Jd K t H a d F x ds) (A:OW K t H' a F' x') (f:Fr F F' H H') (e:x'.st=x.st.put k (.int i)) (m:x'.ma=x.ma) (e2:x'.di=x.di++ [(r,[.str "put",.int k,.int i])]) (O:x'.fl=x.fl) (U:x'.ho=x.ho) (k0:0<=k/\k<10^40) (l:x.st.kv.length<=399):Jd K t (L2.upd H' d<|.dK<|aB<|bi x.st.kv k<|.int i) a d F' x' (ds++ [⟨r,.put k i⟩]):=by
 obtain⟨Y,I⟩:=f _ _ J.nd J.di;have G:x'.st.kv=bi x.st.kv k (.int i):=by rw[e];exact O8.three_kv
 refine⟨A.upd I (λxs z=>by rw[Y]at z;cases z),by rw[G];exact ag,I,λz hz=>?_,by rw[G];exact Hq J.iv,?_,J.dy.snoc e2,J.D.snoc (λz hz=>by cases hz;exact k0.1) (λ_ z=>by cases z) (λ_ z=>by cases z),?_,λy hy z hz=>?_,O.trans J.fl,U.trans J.ho⟩
 .rw[G,sv]at hz;split at hz
  .exact J.kb z hz
  .rcases Q5.mp hz with y|y
   .exact J.kb z y
   .rwa[Q7.mp y]
 .rw[G];have:=bW x.st.kv k (.int i);lia
 .rw[rq,J.tb,G];rfl
 .rw[m];rcases Q5.mp hy with h|h
  .exact J.mx y h z hz
  .rw[Q7.mp h]at hz;cases hz
def Jd.drop (J:Jd K t H a d F x ds) (A:OW K t H' a F' x') (f:Fr F F' H H') (e:x'.st=x.st.drop k) (m:x'.ma=x.ma) (e2:x'.di=x.di++ [(r,[.str "drop",.int k])]) (U:x'.fl=x.fl) (Y:x'.ho=x.ho) (k0:0<=k) (hs:(aG x.st.kv k).isSome=true):Jd K t (L2.upd H' d<|.dK<|aB<|bM x.st.kv k) a d F' x' (ds++ [⟨r,.drop k⟩]):=by
 obtain⟨Z,O⟩:=f _ _ J.nd J.di;have G:x'.st.kv=bM x.st.kv k:=by rw[e];exact O8.three_kv
 have sub:∀p∈bM x.st.kv k,p∈x.st.kv:=λp I=>(Qu.mp I).1;refine⟨A.upd O (λxs z=>by rw[Z]at z;cases z),by rw[G];exact ag,O,λz hz=>?_,by rw[G];exact λp I=>J.iv p<|sub p I,?_,J.dy.snoc e2,J.D.snoc (λz hz=>by cases hz;exact k0) (λ_ z=>by cases z) (λz hz=>by cases hz;rwa[J.tb]),?_,λy hy z hz=>?_,U.trans J.fl,Y.trans J.ho⟩
 .rw[G]at hz;obtain⟨p,I,rfl⟩:=Q9.mp hz;exact J.kb _<|Q9.mpr ⟨p,sub p I,M⟩
 .rw[G];exact Qz (Qp _ _) J.le
 .rw[rq,J.tb,G];rfl
 .rw[m];rcases Q5.mp hy with h|h
  .exact J.mx y h z hz
  .rw[Q7.mp h]at hz;cases hz
def Jd.mark (J:Jd K t H a d F x ds) (A:OW K t H' a F' x') (h1:H' d=some (.dK<|aB x.st.kv)) (h2:¬F' d) (e:x'.st=x.st) (m:x'.ma=x.ma+1) (e2:x'.di=x.di++ [(r,[.str "mark",.int (x.ma+1)])]) (G:x'.fl=x.fl) (I:x'.ho=x.ho):Jd K t H' a d F' x' (ds++ [⟨r,.mark<|x.ma+1⟩]):=by
 refine⟨A,by rwa[e],h2,by rw[e];exact J.kb,by rw[e];exact J.iv,by rw[e];exact J.le,J.dy.snoc e2,J.D.snoc (λz hz=>by cases hz) (λz hz y hy h=>?_) (λ_ z=>by cases z),?_,λy hy z hz=>?_,G.trans J.fl,I.trans J.ho⟩
 .cases hz;have:=J.mx y hy _ h;lia
 .rw[rq,J.tb,e];rfl
 .rw[m];rcases Q5.mp hy with h|h
  .have:=J.mx y h z hz;lia
  .rw[Q7.mp h]at hz;cases hz;lia
def Jd.len (J:Jd K t H a d F x ds):(ds.length:Int)=x.now+x.ma:=by
 have:=J.A.ok.dl;rw[J.dy,Q0]at this;exact this
end
def AF (K:JK) (t:OJ):Sp:=λvs H Q _=>∃(a d:Addr) (c:Int) (F:Addr->Prop) (x:OZ) (ds:List DR) (N:Nat),vs=[.ref a,.ref d,.int c]/\Jd K t H a d F x ds/\x.now+x.ma<3900/\x.st.kv.length<=N/\300<=N/\N<=390/\
 ∀(H':Hp) (F':Addr->Prop) (x':OZ) (more:List DR),Jd K t H' a d F' x' (ds++more)->x'.now<=x.now+12->x'.ma=x.ma->x'.st.kv.length<=N->Fr (Wh F d) (Wh F' d) H H'->Q .non H'
def rY:CU P w K mg base OL 7 t.u8 t.oE ["_law_house_here","_law_kept","_law_cell"] (AF K t):=by
 refine T.jH.okl AM λs H vs Q E U h _=>?_;intro X;obtain⟨a,d,c,F,x,ds,N,rfl,J,l1,l0,N1,N2,q⟩:=h;refine aj (OM 3<|aL (Cj T) U.mo {_} T.MO T.Ew.kp T.Nn .nil ay (ac (ao aP O1 ae) ai))
   (oo (λx=>(dW VC M (iF {_} T.pj (ac (aE aC {_} T.bL bf (ac OR ai)) ai)) (Pr 4)
    x)) ?_)
 refine LF (λx y=>aQ (aq bP (ao aT O1 ae) ae<|aw _) x y) ?_;refine oo (λx=>aQ (DX<|D0 (i8 U) (aS aU OR PF<|λ_ _=>M) M2) x aI) ?_;refine aj (aN<|aR BC T.aO T.Jy (xp T) U.mo T.JI .nil ay<|ac (aS aU OR PF<|λ_ _=>M) ai)
   (aA (aN<|dC QD Zt X2 A7 M2<|ac (aS aU OR PF<|λ_ _=>M) ai) ?_)
 intros
 refine oo (λx=>aQ (aq eF (aE Gs {_} T.bL bf (ac M2 ai)) ae<|aw _) x aI) ?_;refine aj (OM 5<|ao cM (ao aT (ao bx (ao aP O1 ae) PF)<|ao gr ae ae)<|aS aU (bZ<|ac ae<|ac (Hx DA ae) ai) (ao aT (ao aP O1 ae) ae)<|λ_ _=>M)
   (bU (λx=>aQ (aq bP (ao aT (ao aP O1 ae) ae) ae<|aw _) x aI) ?_)
 refine aA (OM 5<|ao iX (ao aT (ao bx (ao Ch O1<|ao cM ae<|ao gr ae ae) PF)<|ao cM ae<|ao gr ae ae)<|ao gr ae ae) ?_
 intros
 refine aj (aN<|aR BC T.aO T.Bb (pX T) U.mo T.By .nil ay<|ac (aS aU OR PF<|λ_ _=>M)<|ac Pj ai)
   (aA (jw (i8 U) M2 (aS aU OR PF<|λ_ _=>M) Pj M) ?_)
 intros
 refine⟨_,M,_,_,M,M,⟨(_),(_)⟩,_,M,λH1 r rs s1 nr U lr rb=>?_⟩;have J1:=J.same s1;have nF:¬F r:=J.A.out nr;have a2:r≠d:=am J.di nr|>.symm;refine⟨_,M,r,_,M,.inl<|Fb.of U,?_⟩;rw[Q0];refine⟨(rs.length:Int),M,(),(),xM (n:=(rs.length:Int).toNat) (λi B H'=>∃(F':Addr->Prop) (x':OZ) (more:List DR) (v4 v5:Option V),B=[some (.ref a),some (.ref d),some (.int c),some (.ref r),v4,v5]/\Jd K t H' a d F' x' (ds++more)/\x'.now<=x.now+i/\x'.ma=x.ma/\x'.st.kv.length<=N/\Fr (Wh F d) (Wh F' d) H1 H') ⟨F,x,[],none,none,M,(by rwa[Zj]),(),M,l0,Fr.refl⟩ (λi B H2 hi w=>?_)<|λB H2 w=>?_⟩
 .obtain⟨Z,G,mo,v4,v5,rfl,I,l2,m2,e2,Y⟩:=w;obtain⟨O,a0⟩:=Y _ _ (λz=>z.elim nF a2) U;have hi':i<rs.length:=();obtain⟨k,ek⟩:∃k,rs[i]?=some k:=⟨_,Q3 hi'⟩;obtain⟨k0,k1⟩:=rb k (Q1 ek);have at1:RF (rs.map V.int) (0+(i:Int))=some (.int k):=by
   rw[Int.zero_add];refine sP ?_;rw[Qn,ek];rfl
  obtain⟨a3,a4,a5,aa,_⟩:=I.A.ins;refine⟨_,M,_,_,M,M,(by show(0:Int)<4;decide),M,_,M,bQ (λz=>?_)<|λz=>?_⟩
  .refine⟨_,M,_,M,r,_,_,_,M,M,Fb.of O,at1,_,M,d,_,M,Pb.k (k:=Sum.inl k) I.di,_,M,?_⟩;rw[O6];cases ev:aG G.st.kv k with
   |none=>exact cu ⟨Z,G,mo,_,_,M,I,(),m2,e2,Y⟩
   |some v=>
    refine cH ⟨_,M,a,a3,a4,M,a5,aa _ ∅,_,M,_,M,r,_,_,_,M,M,Fb.of O,at1,a,k,Z,G,M,I.A,k0,(),λ_ H3 F3 b5 r3 q3 b7 A3 N3 f3=>?_,λz=>by rw[ev]at z;cases z⟩;obtain⟨d3,n3⟩:=f3 _ _ I.nd I.di;obtain⟨ab,b8⟩:=f3 _ _ (λz=>a0<|.inl z) O;refine⟨_,M,.inr<|.inr<|.inl ⟨M,.inl ⟨_,d3⟩⟩,_,M,_,M,r,_,_,_,M,M,Fb.of ab,at1,d,_,Sum.inl k,v,M,M,d3,O6.trans ev,?_⟩;rw[lP];have J3:=I.drop A3 f3 M M M M M k0 (by rw[ev];rfl);rw[Qm]at J3;exact⟨F3,_,_,_,_,M,J3,by show G.now+1<=_;lia,m2,by rw[show(G.st.drop k).kv=bM G.st.kv k from O8.three_kv];exact Qz (Qp _ _) e2,(Y.trans f3.wh).trans Fr.wd⟩
  .refine⟨_,M,d,_,M,I.di,_,_,M,M,_,M,bQ (λy=>?_)<|λy=>⟨Z,G,mo,_,_,M,I,(),m2,e2,Y⟩⟩;have y:=Vw y;rw[bj]at y;refine dM (λB H'=>∃v:Int,B=[some (.ref a),some (.ref d),some (.int c),some (.ref r),some (.int<|0+(i:Int)),some (.int v)]/\Fa H2 H') (λnx go=>?_)<|λB H3 w=>?_
   .obtain⟨sg,ah,g0⟩:=zH (c:=c/16) (n:=2) (L:=[.int 1,.int (-1)]) (P:=λm=> -2<m/\m<2) ⟨⟨(_),(_)⟩,⟨(_),(_)⟩,trivial⟩ M (_);exact⟨_,M,_,_,M,M,⟨(_),(_)⟩,_,M,_,_,M,M,_,_,M,M,⟨(_),(_),(_)⟩,_,_,M,M,wf,_,M,(by show 2<=sizeLine;decide),λp np=>⟨_,M,_,_,M,M,⟨(_),(_)⟩,_,_,M,M,(by show(0:Int)<2;decide),p,_,_,_,M,M,Fb.of ag,ah,_,_,M,M,.inr ⟨(),()⟩,go _ _ ⟨_,M,ak np⟩⟩⟩
   obtain⟨v,rfl,s3⟩:=w;refine dM (λB H'=>∃v:Int,B=[some (.ref a),some (.ref d),some (.int c),some (.ref r),some (.int<|0+(i:Int)),some (.int v)]/\Fa H2 H') (λnx go=>?_)<|λB H4 w=>?_
   .refine⟨_,M,_,_,M,M,⟨(_),(_)⟩,_,_,M,M,(by show(0:Int)<2;decide),M,_,M,bQ (λ_=>?_)<|λ_=>go _ _ ⟨v,M,s3⟩⟩;exact⟨_,M,_,_,M,M,⟨(_),(_),(_)⟩,_,_,M,M,.inl ⟨(_),(_)⟩,_,_,M,M,⟨(_),(_)⟩,_,M,_,_,M,M,_,_,M,M,⟨(_),(_),(_)⟩,_,_,M,M,.inl ⟨(_),(_)⟩,_,_,M,M,(by show(0:Int)<2*10^(39:Int).toNat;decide),_,_,M,M,⟨(_),(_),(_)⟩,_,_,M,M,go _ _ ⟨_,M,s3⟩⟩
   clear s3 v;obtain⟨v,rfl,s4⟩:=w;have J4:=I.same s4;obtain⟨an,ax,b1,b2,_⟩:=J4.A.ins;have a1:=s4 _ _ O;refine⟨_,M,a,an,ax,M,b1,b2 _ ∅,_,M,_,M,r,_,_,_,M,M,Fb.of a1,at1,_,M,a,k,v,Z,G,M,J4.A,k0,(),λH5 F5 ba r5 q5 bb A5 N5 f5=>?_⟩;obtain⟨d5,n5⟩:=f5 _ _ J4.nd J4.di;obtain⟨b4,bc⟩:=f5 _ _ (λz=>a0<|.inl z) a1;refine⟨_,M,_,M,_,M,_,M,r,_,_,_,M,M,Fb.of b4,at1,d,_,M,Pm.k (k:=Sum.inl k) d5 (by rw[bj];exact bg ()),?_⟩;rw[b9];have J5:=J4.put A5 f5 M M M M M ⟨k0,()⟩ ();rw[Qm]at J5;exact⟨F5,_,_,_,_,M,J5,by show G.now+1<=_;lia,m2,by rw[show(G.st.put k<|.int v).kv=bi G.st.kv k (.int v) from O8.three_kv];have:=bW G.st.kv k (.int v);lia,(Y.trans<|(Fr.of_same s4).trans f5.wh).trans Fr.wd⟩
 .obtain⟨Z,G,mo,v4,v5,rfl,I,l2,m2,e2,Y⟩:=w;exact q H2 Z G mo I () m2 e2<|(Fr.of_same s1).trans Y
def yw (K:JK) (t:OJ):Sp:=λvs H Q _=>∃(l:Addr) (cs:List Int),vs=[.ref l]/\H l=some (.lst<|cs.map V.int)/\cs.length<=63/\
 ∀(H':Hp) (r a d:Addr) (F:Addr->Prop) (x:OZ) (ds:List DR),H r=none->¬F r->H' r=some (.tup [.ref a,.ref d])->Jd K t H' a d F x ds->x.now<=12*cs.length->x.ma=0->x.st.kv.length<=300->(∀b o,H b=some o->H' b=some o/\¬Wh F d b)->Q (.ref r) H'
def y6:CU P w K mg base OL 8 t.sV t.lY ["_law_cells"] (yw K t):=by
 refine T.BH.okl yN λs H vs Q E hr h _=>?_;intro X;obtain⟨l,cs,rfl,hl,ll,q⟩:=h;refine aj (OM 1<|rV T.Og (xn T) hr.mo {_} T.Oj T.JG .nil ay)
   (aj (OM 2 eE)
   (bU (λx=>(dW VC M (cK BC) (Pr 3)
    x)) ?_))
 refine aA (aN<|aL (rY T) hr.mo {_} T.oz T.jH.kp T.oN .nil ay (ac M2<|ac O1<|ac OR ai)) ?_
 intros
 refine aA (aD<|bO<|ac M2<|ac O1 ai) ?_
 intros
 refine λa dx na nd a0=>⟨a,dx,M,ag,λH1 F1 A1 f1=>⟨M,λd I=>?_⟩⟩;have O:∀b o,H b=some o->H1 b=some o/\¬F1 b:=λb o e=>f1 b o (am e na) (by rwa[af (am e na),af (am e nd)]);have J2:Jd K t (upd H1 d<|.dK []) a d F1 OZ.new []:=⟨A1.same<|ak I,ag,A1.out I,(λ_ z=>by cases z),(λ_ z=>by cases z),(_),M,⟨(λ_ z=>by cases z),(λi j x y m h=>by rw[List.getElem?_nil]at h;cases h),(λi x k h=>by rw[List.getElem?_nil]at h;cases h)⟩,M,(λ_ z=>by cases z),M,M⟩;have Z:∀b o,H b=some o->upd H1 d (.dK []) b=some o/\¬Wh F1 d b:=λb o e=>⟨by rw[af (am (O b o e).1 I)];exact(O b o e).1,λz=>z.elim (O b o e).2<|am (O b o e).1 I⟩;show Az _ _ _ _ (upd H1 d<|.dK []);generalize upd H1 d (.dK [])=H2 at J2 Z⊢;refine⟨_,M,l,M,⟨_,Fb.of (Z _ _ hl).1⟩,fc (K:=K) (a:=l) (xs:=cs.map V.int) (λi B H'=>∃(F':Addr->Prop) (x':OZ) (ds:List DR) (U:Option V),B=[some (.ref l),some (.ref a),some (.ref d),U]/\Jd K t H' a d F' x' ds/\x'.now<=12*i/\x'.ma=0/\x'.st.kv.length<=300/\∀b o,H b=some o->H' b=some o/\¬Wh F' d b) ⟨F1,_,[],none,M,J2,(_),M,(_),Z⟩ (λi B H' _ w=>?_) (λi z B H' hz w=>?_)<|λB H' w=>?_⟩
 .obtain⟨F',x',ds,U,rfl,G,l',m',Y,o'⟩:=w;exact Fb.of (o' _ _ hl).1
 .obtain⟨F',x',ds,U,rfl,G,l',m',Y,o'⟩:=w;have hi:=(Q2.mp hz).1;rw[Q0]at hi;obtain⟨c,hc,rfl⟩:=Q9.mp (Q1 hz);exact⟨_,M,_,M,_,M,a,d,c,F',x',ds,300,M,G,(),Y,(_),(_),λH3 F3 x3 mo J3 l3 m3 e3 f3=>⟨F3,x3,ds++mo,_,M,J3,(),m3.trans m',e3,λb o e=>f3 b o (o' b o e).2 (o' b o e).1⟩⟩
 .obtain⟨F',x',ds,U,rfl,G,l',m',Y,o'⟩:=w;rw[Q0]at l';refine⟨_,M,_,M,(by show 2<=sizeLine;decide),λr nr=>?_⟩;refine q _ r a d F' x' ds ?_ (G.A.out nr) ag (G.same<|ak nr) () m' Y λb o e=>⟨by rw[af (am (o' b o e).1 nr)];exact(o' b o e).1,(o' b o e).2⟩;cases e:H r with
  |none=>rfl
  |some o=>rw[(o' _ _ e).1]at nr;cases nr
def tkF {kd:Int} (T:Txt K mg t) (h:kd=0\/kd=1\/kd=2):Pq K (RY t kd)/\CV K (RY t kd) "at"/\CV K (RY t kd) "end":=by
 rcases h with rfl|rfl|rfl
 .exact⟨T.bC,T.gK,T.b5⟩
 .exact⟨T.f7,T.ot,T.iG⟩
 .exact⟨T.b7,T.gv,T.gP⟩
def vd (K:JK) (t:OJ):Sp:=λvs H Q _=>∃(n:Addr) (kd k:Int) (av e rv ra:V),vs=[.ref n,rv,.int k]/\H n=some (.tup [.int kd,av,e])/\Ph kd av e/\RT t H rv kd ra e/\∀H',Fa H H'->Q (.bl<|hN kd av e k&&!hO rv kd ra e k) H'
def vE:CU P w K mg base OL 3 t.oV t.jf ["_law_begun","_law_rest","_law_key"] (vd K t):=by
 refine T.yo.okl vp λs H vs Q E I h _=>?_;intro X;obtain⟨n,kd,k,av,e,a0,ra,rfl,O,on,TO,q⟩:=h;refine aj (aQ (lJ<|cx<|aL (y7 T) I.mo {_} T.Be T.tF.kp T.Bw .nil ay (ac BC<|ac O1 ai))
    (az<|aD nS)
    aI)
   (aA (aD<|Cf (bF cX M2 a7<|aw _)<|dB<|AU<|aL (y7 T) I.mo {_} T.Be T.tF.kp T.Bw .nil ay (ac (bO<|ac (aS bB BC ae<|λ_ _=>M)<|ac (au M2 M)<|ac (au M2 M) ai)<|ac O1 ai)) ?_)
 intros
 refine⟨_,M,_,M,n,kd,k,av,e,M,OX.of O,on,_,M,?_⟩;cases c:hN kd av e k with
 |false=>
  rw[c]at q;exact cH<|q _ (Fa.refl _)
 |true=>
  rw[c]at q;refine cu ?_;unfold hO at q;rcases TO with rfl|⟨p,rfl,⟨U,fr,G,Y⟩,Z⟩
  .rw[Vp M]at q;exact⟨_,M,M,_,M,fK M<|q _ (Fa.refl _)⟩
  rw[Vo (by intro z;cases z)]at q;obtain⟨c1,c2,c3⟩:=tkF T Z.kd;refine⟨_,M,M,_,M,a9 (λz=>by cases z) ⟨_,M,n,_,_,_,M,M,OX.of O,M,_,M,p,_,U,fr,_,M,G,c1,c2,Y.at_,_,M,p,_,U,fr,_,M,G,c1,c3,Y.end_,(by show 3<=sizeLine;decide),λm nm=>?_⟩⟩;exact⟨_,M,m,kd,k,ra,e,M,OX.of ag,Z,_,M,q _<|ak nm⟩
def yt (K:JK):Sp:=λvs H Q _=>∃(l:Addr) (ds:List DR),vs=[.ref l]/\H l=some (.lst<|ds.map λd=>V.ref d.p)/\(∀d∈ds,H d.p=some (.tup d.r.vs))/\(∀(i:Nat) (x:DR) (k:Int),ds[i]?=some x->x.r= .drop k->(aG (tbl<|ds.take i) k).isSome=true)/\ds.length<=5000/\
 ∀(H':Hp) (r:Addr),Fa H H'->H r=none->H' r=some (.dK<|aB<|tbl ds)->Q (.ref r) H'
def y3:CU P w K mg base OL 1 t.sS t.lV ["_law_rows"] (yt K):=by
 refine T.BG.okl yK λs H vs Q E G h _=>?_;intro X;obtain⟨l,ds,rfl,hl,tu,dr,ln,q⟩:=h;refine aj (OM 1 eE)
   (bU (λx=>(dW VC M (cK BC) (Pr 2)
    x)) ?_)
 refine aj (aQ (aq bP (aS bB O1 ae<|λ_ _=>M) gk<|aw _)
    (az<|jw (i8 G) M2 (aS bB O1 ae<|λ_ _=>M) (aS bB O1 ae<|λ_ _=>M) M)
    aI)
   (oo (λx=>aQ (aq bP (aS bB O1 ae<|λ_ _=>M) gk<|aw _) x aI) ?_)
 refine aA (aN<|dC QD Zt X2 A7 M2<|ac (aS bB O1 ae<|λ_ _=>M) ai) ?_
 intros
 refine aA (aD M2) ?_
 intros
 refine λr nr=>?_;have s1:=ak (o:= .dK []) nr;have h1:upd H r (.dK []) r=some (.dK []):=ag;generalize upd H r (.dK [])=H1 at s1 h1⊢;have lr:l≠r:=am hl nr;refine⟨_,M,l,M,⟨_,Fb.of<|s1 _ _ hl⟩,fc (K:=K) (a:=l) (xs:=ds.map λd=>V.ref d.p) (λi B H'=>∃Y:Option V,B=[some (.ref l),some (.ref r),Y]/\(∀b o,b≠r->H1 b=some o->H' b=some o)/\H' r=some (.dK<|aB<|tbl<|ds.take i)) ⟨none,M,λ_ _ _ h=>h,h1⟩ (λi B H' _ w=>by obtain⟨_,_,k,_⟩:=w;exact Fb.of<|k _ _ lr<|s1 _ _ hl) (λi u B H' hu w'=>?_)<|λB H' w'=>?_⟩
 .obtain⟨Y,rfl,O,G⟩:=w';obtain⟨d,rfl,U⟩:∃d,u=V.ref d.p/\ds[i]?=some d:=by
   rw[Qn]at hu;cases c:ds[i]? with
   |none=>rw[c]at hu;cases hu
   |some e=>rw[c]at hu;cases hu;exact⟨e,M,M⟩
  have Z:=tu d (Q1 U);have te:=O _ _ (am Z nr) (s1 _ _ Z);have I:=wg U;have hi:=(Q2.mp U).1;have lt:=vS (l:=ds.take i);rw[Q6]at lt;have a0:=dr i d;unfold fL
  (try dsimp only)
  unfold ap at I;cases hd:d.r with
  |mark m=>
   rw[hd]at te I;refine⟨_,M,d.p,_,_,_,M,M,OX.of te,M,M,_,M,a9 (λz=>Vt (V.str.inj z) ∅) ⟨_,M,d.p,_,_,_,M,M,OX.of te,M,M,_,M,a9 (λz=>Vt (V.str.inj z) ∅) ⟨_,M,O,?_⟩⟩⟩;rwa[I]
  |put k v=>
   rw[hd]at te I;refine⟨_,M,d.p,_,_,_,M,M,OX.of te,M,M,_,M,fK M ⟨_,M,d.p,_,_,_,M,M,OX.of te,M,_,M,_,M,d.p,_,_,_,M,M,OX.of te,M,r,_,M,Pm.k (k:=Sum.inl k) G (by rw[bj];exact bg ()),?_⟩⟩;rw[b9];have a1:d.p≠r:=am Z nr;refine⟨_,M,d.p,_,_,_,M,M,OX.of (by rwa[af a1]),M,M,_,M,a9 (λz=>Vt (V.str.inj z) ∅) ⟨_,M,λb o n e=>by rw[af n];exact O b o n e,?_⟩⟩;rw[I];exact ag
  |drop k=>
   rw[hd]at te I;obtain⟨v,hv⟩:=ZP.mp (a0 k U hd);refine⟨_,M,d.p,_,_,_,M,M,OX.of te,M,M,_,M,a9 (λz=>Vt (V.str.inj z) ∅) ⟨_,M,d.p,_,_,_,M,M,OX.of te,M,M,_,M,fK M ⟨_,M,.inr<|.inr<|.inl ⟨M,.inl ⟨_,G⟩⟩,_,M,d.p,_,_,_,M,M,OX.of te,M,r,_,Sum.inl k,v,M,M,G,O6.trans hv,?_⟩⟩⟩;rw[lP];refine⟨_,M,λb o n e=>by rw[af n];exact O b o n e,?_⟩;rw[I];exact ag
 .obtain⟨Y,rfl,O,G⟩:=w';rw[Q0,QB]at G;exact⟨_,M,q _ r (λb o e=>O b o (am e nr)<|s1 _ _ e) nr G⟩
def DG:∀{l:List DR} {W7:List (Int×V)},(∀p∈W7,∃i:Int,p.2= .int i)->∀p∈l.foldl ap W7,∃i:Int,p.2= .int i
 | [],_,h=>h
 |d::r,W7,h=>DG (l:=r) (W7:=ap W7 d) λp z=>by
  unfold ap at z;cases c:d.r with
  |put k v=>rw[c]at z;exact Hq h p z
  |drop k=>rw[c]at z;exact h p (Qu.mp z).1
  |mark m=>rw[c]at z;exact h p z
def KP {a b:List (Int×V)} (G:(a.map (·.1)).Nodup) (I:(b.map (·.1)).Nodup) (h:∀k,aG a k=aG b k):a.Perm b:=by
 refine(Vn ((QP.mp G).imp λh e=>h<|by rw[e])<|(QP.mp I).imp λh e=>h<|by rw[e]).mpr λp=>⟨λz=>?_,λz=>?_⟩
 .have:=bD G (k:=p.1) (v:=p.2) z;rw[h]at this;exact bE this
 .have:=bD I (k:=p.1) (v:=p.2) z;rw[<-h]at this;exact bE this
def Ha {a b:List Int} (h:a.Perm b):a.sum=b.sum:=by
 induction h with
 |nil=>rfl
 |cons x _ z=>rw[Xo,Xo,z]
 |swap x y l=>simp only[Xo];lia
 |trans _ _ G I=>exact G.trans I
def Ra.key (D:Ra ds) (h:k∈(tbl<|ds.take n).map (·.1)):0<=k:=by
 obtain⟨z,hz,G⟩:=BS h;exact D.kb z (QC hz) k G
def Nh (X:OY) (kd:Int) (av e:V) (ds:List DR):List (Int×V):=(tbl<|ds.take X.n).filter λp=>X.cov kd av e p.1
def xP {kv:List (Int×V)} {f:Int->Bool} (nd:(kv.map (·.1)).Nodup):aG (kv.filter λp=>f p.1) k=if f k=true then aG kv k else none:=by
 have z:((kv.filter λp=>f p.1).map (·.1)).Nodup:=nd.sublist (ZO.map _);by_cases c:f k=true
 .rw[Vp c];cases h:aG kv k with
  |some v=>exact bD z<|Qu.mpr ⟨bE h,c⟩
  |none=>
   cases h2:aG (kv.filter λp=>f p.1) k with
   |none=>rfl
   |some v=>
    have:=bD nd (Qu.mp<|bE h2).1;rw[h]at this;cases this
 .rw[Vo c];cases h2:aG (kv.filter λp=>f p.1) k with
  |none=>rfl
  |some v=>exact Vt (Qu.mp<|bE h2).2 c
def Inv.due {kd:Int} (I:Inv kd av e ds X) (D:Ra ds):X.cp.Perm (Nh X kd av e ds):=by
 have z:=DF (l:=ds.take X.n);refine KP I.nd (z.sublist<|ZO.map _) λk=>?_;unfold Nh;rw[xP z];by_cases k0:0<=k
 .exact I.cp k k0
 .have h1:aG X.cp k=none:=by
   cases c:aG X.cp k with
   |none=>rfl
   |some v=>exact Vt (I.kp k<|O0.mpr<|by rw[c];rfl) k0
  have h2:aG (tbl<|ds.take X.n) k=none:=by
   cases c:aG (tbl<|ds.take X.n) k with
   |none=>rfl
   |some v=>exact Vt (D.key<|O0.mpr<|by rw[c];rfl) k0
  rw[h1,h2,ite_self]
def LK {kv:List (Int×V)} (h:∀p∈kv,∃i:Int,p.2= .int i):kv.map (·.2)=(kv.map λp=>RE p.2).map V.int:=by
 rw[Qs];refine Z9 λp z=>?_;obtain⟨i,G⟩:=h p z;show p.2=V.int (RE p.2);rw[G];rfl
def IK {P:Int->Bool} {xs:List (Int×V)} {p:Int×V} (e:xs[i]?=some p):(xs.take<|i+1).filter (λp=>P p.1)=(xs.take i).filter (λp=>P p.1)++(if P p.1=true then[p]else[]):=by
 rw[Qq,e,QE];by_cases c:P p.1=true
 .rw[Vp c];simp[c]
 .rw[Vo c];simp[c]
def K0 {P:Int->Bool} {xs:List (Int×V)} {y:Int} (nd:(xs.map (·.1)).Nodup) (e:xs[i]?=some (y,v)):aG ((xs.take i).filter<|λp=>P p.1) y=none:=by
 cases c:aG ((xs.take i).filter<|λp=>P p.1) y with
 |none=>rfl
 |some w=>
  exfalso;have h:=(Qu.mp<|bE c).1;obtain⟨G,I,z⟩:=QF h;rw[Q6]at I;rw[Zx]at z;obtain⟨hi,O⟩:=Q2.mp e;have w:=QX.mp nd G i (by rw[Q0];lia) (by rwa[Q0]) ();rw[List.getElem_map,List.getElem_map,z,O]at w;exact w M
def tK (K:JK) (t:OJ):Sp:=λvs H Q _=>∃(c a p dd n:Addr) (kd:Int) (av e:V) (X:OY) (F:Addr->Prop) (x:OZ) (ds:List DR),vs=[.ref c,.ref a,.ref n]/\P8 t H c a p dd kd av e X/\OW K t H a F x/\Rl x ds/\Inv kd av e ds X/\Ra ds/\ds.length<=5000/\H n=some (.tup [.int kd,av,e])/\∀H',Fa H H'->Q (.bl true) H'
def ui:CU P w K mg base OL 6 t.mK t.hJ ["_law_copier","_law_house_here","_law_begun"] (tK K t):=by
 refine T.mP.okl tQ λs H vs Q E G h _=>?_;intro X;obtain⟨c,a,p,dd,n,kd,av,e,X',F,x,ds,rfl,C,A,dy,I,D,dl,hn,q⟩:=h;refine aj (OM 3<|aZ M2 T.aO T.fI (eK T) G.mo T.bV.choose_spec.1 T.bV.choose_spec.2 ay)
   (aj (OM 4<|aZ BC T.aF T.mG (kD T) G.mo T.mH .nil ay)
   (aj (OM 5<|aZ BC T.aF T.i6 (mE T) G.mo T.jp .nil ay)
   (aj (aQ (PW.pt<|ie (lJ<|cx<|aE jB {_} T.dJ cy (ac PF<|ac (vU (v:= .ty "int") {_} T.NH IZ M) ai))<|ie (cx<|aE jB {_} T.dJ cy (ac PF<|ac (vU (v:= .ty "bool") {_} T.L4 Fd M) ai))<|ie (aq eF PF ae<|aw _)<|gZ<|aq w6 PF (aE aC {_} T.bL bf (ac OR ai))<|aw _)
    (az<|aD nS)
    aI)
   (aj (OM 6<|aL (y3 T) G.mo {_} T.KN T.BG.kp T.K7 .nil ay (ac (cn c6 OR gJ<|b6 PF) ai))
   (aj (OM 7 eE)
   (bU (λx=>(vT (dW VC M (Ks RN) (Pr 8)
    x))) ?_))))))
 refine aA (aQ (cx<|aL (vE T) G.mo {_} T.HZ T.yo.kp T.Jg .nil ay (ac O1<|ac Pj<|ac Rt ai))
    (az<|jw (i8 G) SN Rt (EJ (i8 G) RN Rt<|λ_ _=>M) M)
    aI) ?_
 intros
 refine bU (λx=>(dW VC M (cK<|cn c6 (gl (Em G.hd) {_} T.L3 Fc (ac RN ai)) gJ<|b6 ae) (Pr 8)
    x)) ?_
 refine aj (OM 9<|aR BC T.aF T.uw (jz T) G.mo T.uP .nil ay<|ac Rt ai)
   (aA (aQ (PW.pt<|ie (PW.pt<|dU (aq zM Ry nS<|aw _)<|cJ<|aq zM Ry nS<|aw _)<|gZ<|aq zL Ry (Hz<|D0 (i8 G) Rt SN)<|aw _)
    (az<|aD nS)
    aI) ?_)
 intros
 refine aA (aD<|gp (bF (Kv G.u20) (aZ BC T.aF T.oy (mF T) G.mo T.oQ .nil ay) SN<|aw _)<|dB<|bF bP (aZ BC T.aF T.GK (uk T) G.mo T.GP .nil ay) (aE (Ae G.hd) {_} T.NG IY (ac (ud QD ZQ Xq ur SN) ai))<|aw _) ?_
 intros
 obtain⟨da,fa,ha,hm,_⟩:=A.ins;refine⟨_,M,a,da,fa,M,ha,hm _ ∅,a,0,F,x,M,A,Zg _,λH1 r s1 nr G=>?_⟩;unfold Rl at dy;rw[show(0:Int).toNat=0 from rfl,Z1,dy,Qs]at G;have G:H1 r=some (.lst<|ds.map λd=>V.ref d.p):=G;have C1:=C.same s1;obtain⟨d1,h1⟩:=C1.ob;have b4:∀d∈ds,H1 d.p=some (.tup d.r.vs):=λd hd=>(A.same s1).di (d.p,d.r.vs) (by rw[dy];exact Q9.mpr ⟨d,hd,M⟩);have be:=s1 _ _ hn;have il:=I.le;refine⟨_,M,c,d1,_,M,h1,{_},c,a,p,dd,kd,av,e,X',M,C1,_,M,c,d1,_,M,h1,{_},c,a,p,dd,kd,av,e,X',M,C1,?_⟩;refine⟨_,M,_,_,_,_,M,P0.int _,Ik,_,M,cu ⟨_,M,_,_,_,_,M,P0.int _,Il,_,M,cu ⟨_,M,_,_,M,M,_,M,?_⟩⟩⟩;rw[VA (show ¬(X'.n:Int)<0 by lia)];refine cu ⟨_,M,_,M,r,_,M,.inl<|Fb.of G,_,_,M,M,_,M,?_⟩;rw[Q0,VA (show ¬(X'.n:Int)>(ds.length:Int) by lia)];refine cu ?_;unfold mZ
 (try dsimp only)
 refine⟨_,M,_,M,_,M,r,_,M,Fb.of G,λl nl=>?_⟩;rw[jo (),<-Z8,QJ];have s2:=ak (o:= .lst<|(ds.take X'.n).map λd=>V.ref d.p) nl;have h2:upd H1 l (.lst<|(ds.take X'.n).map λd=>V.ref d.p) l=some (.lst<|(ds.take X'.n).map λd=>V.ref d.p):=ag;generalize upd H1 l (.lst<|(ds.take X'.n).map λd=>V.ref d.p)=H2 at s2 h2⊢;refine⟨l,ds.take X'.n,M,h2,λd hd=>s2 _ _<|b4 d<|QC hd,λi x k hx hk=>?_,by rw[Q6];lia,λH3 tb s3 c3 Y=>?_⟩
 .rw[ZD]at hx;split at hx
  .rename_i hi
   rw[XI,Zk (Z4 hi)];exact D.dr i x k hx hk
  .cases hx
 have s4:=(s1.trans s2).trans s3;have C3:=C.same s4;have a2:=s4 _ _ hn;have nt:=DF (l:=ds.take X'.n);have tl:=vS (l:=ds.take X'.n);have b5:∀k∈(tbl<|ds.take X'.n).map (·.1),0<=k:=λk hk=>D.key hk;have b7:∀p∈tbl (ds.take X'.n),∃i:Int,p.2= .int i:=DG λ_ z=>by cases z
 have pm:=I.due D;unfold Nh at pm;rw[Q6]at tl;have bl:tb≠n:=λz=>by rw[z,a2]at Y;cases Y
 clear s1 s2 s3 h2 b4 G h1 C1 be nl nr ha hm dy;generalize tbl (ds.take X'.n)=kv at Y nt tl b5 b7 pm;refine λb nb=>?_;have a3:b≠tb:=λz=>by rw[z,Y]at nb;cases nb
 have sb:=ak (o:= .dK []) nb;have a0:upd H3 b (.dK []) b=some (.dK []):=ag;have U:=sb _ _ Y;have s5:=s4.trans sb;generalize upd H3 b (.dK [])=b8 at sb a0 U s5⊢;refine⟨tb,_,U,_,M,tb,_,M,U,λob=>Gj (ob:=ob) (d:=tb) (kvs:=aB kv) (λi B H'=>∃v9:Option V,B=[some (.ref c),some (.ref a),some (.ref n),some (.ref r),some (.int X'.n),some X'.rv,some (.ref tb),some (.ref b),v9,none]/\(∀c o,c≠b->c≠tb->b8 c=some o->H' c=some o)/\H' tb=some (.frz ob<|.dK<|aB kv)/\H' b=some (.dK<|aB<|(kv.take i).filter λp=>X'.cov kd av e p.1)) ?_ (λi B H' _ w=>?_) (λi k v B H' hk w=>?_)<|λB H' w=>?_⟩
 .exact⟨_,M,λc o _ n2 h=>by rwa[af n2],ag,by rwa[af a3]⟩
 .obtain⟨_,_,_,h,_⟩:=w;exact h
 .obtain⟨v9,rfl,kp,Z,O⟩:=w;obtain⟨y,rfl,eg⟩:=uy hk;have ym:=Q1 eg;have n1:n≠b:=λz=>by have h:=sb _ _ a2;rw[z,a0]at h;cases h
  have bo:=kp _ _ n1 (Ne.symm bl) (sb _ _ a2);have st:=IK (P:=λz=>X'.cov kd av e z) eg;have bt:RT t H' X'.rv kd X'.ra e:=by
   rcases(C3.same sb).rt with h|⟨q',h1,⟨dx,fs,h2,h3⟩,h4⟩
   .exact .inl h
   .exact .inr ⟨q',h1,⟨dx,fs,kp _ _ (cq h2 a0 λz=>by cases z) (cq h2 U λz=>by cases z) h2,h3⟩,h4⟩
  unfold fL
  (try dsimp only)
  refine⟨_,M,_,M,_,M,n,kd,y,av,e,X'.rv,X'.ra,M,bo,C.tk.2,bt,λH2 s2=>⟨_,M,?_⟩⟩;have ba:∀c o,c≠b->c≠tb->b8 c=some o->H2 c=some o:=λc o h1 h2 h3=>s2 _ _ (kp c o h1 h2 h3);cases cc:X'.cov kd av e y with
  |false=>
   rw[cc]at st;have cc:(hN kd av e y&&!hO X'.rv kd X'.ra e y)=false:=cc;rw[cc];exact cu ⟨_,M,ba,s2 _ _ Z,by rw[s2 _ _ O,st];simp⟩
  |true=>
   have c2:(hN kd av e y&&!hO X'.rv kd X'.ra e y)=true:=cc;rw[c2];have g2:Pb H2 tb (.int y) (some v):= .inl ⟨_,Sum.inl y,.inr ⟨ob,s2 _ _ Z⟩,M,by rw[O6,bD nt ym]⟩;have p2:=Pm.k (k:=Sum.inl y) (v:=v) (s2 _ _ O) (by rw[bj];have h1:=Qp (λp:Int×V=>X'.cov kd av e p.1) (kv.take i);rw[Q6]at h1;exact bg ());rw[b9,wY v (K0 (P:=λz=>X'.cov kd av e z) nt eg),show[(y,v)]=(if X'.cov kd av e y=true then[(y,v)]else[]) by rw[cc];rfl,<-st]at p2;refine cH ⟨_,M,_,M,tb,_,M,g2,_,M,_,M,b,_,M,p2,?_⟩;exact⟨_,M,λc o h1 h2 h3=>by rw[af h1];exact ba c o h1 h2 h3,by rw[af (Ne.symm a3)];exact s2 _ _ Z,ag⟩
 obtain⟨v9,rfl,kp,Z,O⟩:=w;refine⟨ob,Z,?_⟩;rw[bj,QB]at O;have a1:upd H' tb (.dK<|aB kv) tb=some (.dK<|aB kv):=ag;have a4:upd H' tb (.dK<|aB kv) b=some (.dK<|aB<|kv.filter λp=>X'.cov kd av e p.1):=by rwa[af a3]
 have s6:Fa H3 (upd H' tb<|.dK<|aB kv):=λz o ez=>by
  by_cases c:z=tb
  .rwa[c,ag,<-Y,<-c]
  .rw[af c];exact kp z o (am ez nb) c<|sb _ _ ez
 generalize upd H' tb (.dK<|aB kv)=H6 at a1 a4 s6⊢;have s7:=s4.trans s6;clear kp Z O s5 sb a0 U
 (try dsimp only)
 refine⟨_,M,tb,_,M,.inl a1,λl6 a5=>?_⟩;rw[show kH (aB kv)=(kv.map (·.1)).map V.int from uC];have h6:upd H6 l6 (.lst ((kv.map (·.1)).map V.int)) l6=some (.lst ((kv.map (·.1)).map V.int)):=ag;have s8:=s7.trans (ak (o:= .lst ((kv.map (·.1)).map V.int)) a5);have aa:=ak (o:= .lst ((kv.map (·.1)).map V.int)) a5 _ _ a4;generalize upd H6 l6 (.lst ((kv.map (·.1)).map V.int))=H8 at h6 s8 aa⊢;refine⟨_,M,l6,_,M,Fb.of h6,λl7 ab=>?_⟩;rw[jo (_),<-Z8];obtain⟨ks,ah⟩:∃ks,(kv.map (·.1)).take (12:Int).toNat=ks:=⟨_,M⟩;have bv:∀k∈ks,k∈kv.map (·.1):=λk hk=>QC (ah▸hk);rw[ah];have h9:upd H8 l7 (.lst<|ks.map V.int) l7=some (.lst<|ks.map V.int):=ag;have s9:=s8.trans (ak (o:= .lst<|ks.map V.int) ab);have an:=ak (o:= .lst<|ks.map V.int) ab _ _ aa;generalize upd H8 l7 (.lst<|ks.map V.int)=H9 at h9 s9 an⊢;have C9:=C.same s9;clear s8 aa h6 s7 s6 a4 a1 s4 a5 ab ah;refine⟨l7,M,⟨_,Fb.of h9⟩,fc (K:=K) (a:=l7) (xs:=ks.map V.int) (λi B H'=>∃u1 u2:Option V,B=[some (.ref c),some (.ref a),some (.ref n),some (.ref r),some (.int X'.n),some X'.rv,some (.ref tb),some (.ref b),u1,u2]/\Fa H9 H') ⟨_,_,M,Fa.refl _⟩ (λi B H' _ w=>by obtain⟨_,_,_,s⟩:=w;exact Fb.of<|s _ _ h9) (λi z B H' hz w'=>?_)<|λB H' w'=>?_⟩
 .obtain⟨u1,u2,rfl,s⟩:=w';obtain⟨k,bw,rfl⟩:=Q9.mp (Q1 hz);have km:=bv k bw;have C':=C9.same s;obtain⟨d3,ax⟩:=C'.ob;unfold fL
  (try dsimp only)
  refine⟨_,M,c,d3,_,M,ax,{_},_,M,c,a,p,dd,kd,k,av,e,X',M,C',b5 k km,λH3 s3=>?_⟩;have fin:Fa H9 H3:=s.trans s3;have dg:Pb H3 b (.int k) (if X'.cov kd av e k=true then aG kv k else none):=by
   have:=Pb.k (k:=Sum.inl k) (fin _ _ an);rw[O6,xP nt]at this;exact this
  have c0:=O0.mp km;cases bb:X'.cov kd av e k with
  |true=>
   rw[bb,Vp M]at dg;refine⟨_,M,_,_,M,M,_,M,cu ⟨_,M,_,M,_,M,b,_,M,dg,?_⟩⟩;rw[c0];exact⟨M,_,M,i7 M ⟨_,_,M,fin⟩⟩
  |false=>
   rw[bb,Vo Qe]at dg;exact⟨_,M,_,_,M,M,_,M,cH ⟨_,M,_,_,M,M,_,M,cu ⟨_,M,_,M,_,M,b,_,M,dg,M,_,M,i7 M ⟨_,_,M,fin⟩⟩⟩⟩
 obtain⟨u1,u2,rfl,s⟩:=w';have C':=C9.same s;obtain⟨d3,ax⟩:=C'.ob;have O:=s _ _ an;have nf:((kv.filter λp=>X'.cov kd av e p.1).map (·.1)).Nodup:=nt.sublist (ZO.map _);have b1:∀p∈kv.filter λp=>X'.cov kd av e p.1,∃i:Int,p.2= .int i:=λp hp=>b7 p (Qu.mp hp).1;refine⟨_,M,c,d3,_,M,ax,{_},c,a,p,dd,kd,av,e,X',M,C',λr6 n6=>?_⟩;have s6:=ak (o:= .dK<|aB X'.cp) n6;have bc:upd H' r6 (.dK<|aB X'.cp) r6=some (.dK<|aB X'.cp):=ag;generalize upd H' r6 (.dK<|aB X'.cp)=H7 at s6 bc⊢;refine⟨_,M,r6,b,_,_,M,M,bc,s6 _ _ O,by rw[bj,bj];exact pm.length_eq,λz hz=>?_,_,M,cH ?_⟩
 .unfold aB at hz;obtain⟨w,hw,rfl⟩:=Q9.mp hz;have hw:=pm.mem_iff.mp hw;obtain⟨i,ei⟩:=b1 w hw;exact⟨by show Fl w.2;rw[ei];exact VG,by show aG (aB _) (Sum.inl w.1)=_;rw[O6];exact bD nf hw⟩
 have C7:=C'.same s6;obtain⟨d7,c1⟩:=C7.ob;have b2:=s6 _ _ O;refine⟨_,M,c,d7,_,M,c1,{_},c,a,p,dd,kd,av,e,X',_,M,C7,LK λp hp=>b1 p<|pm.mem_iff.mp hp,λH8 s8=>?_⟩;refine⟨_,M,.inr<|.inr<|.inl ⟨M,.inl ⟨_,s8 _ _ b2⟩⟩,b,_,M,M,s8 _ _ b2,λvw nv=>⟨vw,b,_,_,M,ag,ak nv _ _<|s8 _ _ b2,(by unfold aB;rw[Qs];exact LK b1),M,?_⟩⟩;rw[Ha (pm.map _),Vy M];exact q _<|(((s9.trans s).trans s6).trans s8).trans (ak nv)
def Bk {kd:Int} {a:V}:hO (.ref q) kd a e k=hN kd a e k:=by
 unfold hO;rw[Vo λz=>by cases z]
section
variable {kd:Int}
def Inv.begin:Inv kd av e ds ⟨.ref p,av,ds.length,[],none⟩:=by
 refine⟨Q4 _,Z0,λk _=>?_,(λ_ z=>by cases z),λk _ h=>?_,(λ_ z=>by cases z)⟩
 .rw[Vo]
  .exact kB
  .unfold OY.cov;show ¬(hN kd av e k&&!hO (.ref p) kd av e k)=true;rw[Bk];cases hN kd av e k<;>simp
 .have h:hO (.ref p) kd av e k=true:=h;rwa [Bk]at h
def Inv.open {g nd:Addr} (I:Inv kd av e ds X) (G:X.rv= .ref q):Inv kd av e ds {X with pg:=some (RX g nd q X.ra)}:=
 ⟨I.le,I.nd,I.cp,I.kp,I.su,λP h=>by
  cases h;exact⟨G,M,Qj _,(λ_ z=>by cases z),λ_=>⟨M,M⟩,λ_ z=>by cases z⟩⟩
def Inv.read {P:PQ} {f:Addr} (I:Inv kd av e ds X) (U:X.pg=some P) (hf:P.fd=none) (Y:(ts.map (·.k)).Nodup) (Z:∀k v,(k,v)∈ts.map Tp.kv↔(k,v)∈tbl ds/\hN kd P.ta e k=true/\R k=false) (G:∀k,0<=k->R k=true->hN kd P.ta e k=true) (O:∀k,R k=hO v kd a' e k):Inv kd av e ds {X with pg:=some {P with fd:=some (f,ts),ah:=v,aa:=a'}}:=by
 have q:=I.pg P U;obtain⟨h1,h2⟩:=q.un hf;refine⟨I.le,I.nd,I.cp,I.kp,I.su,λP' h=>?_⟩;cases h;refine⟨q.rn,q.ra,q.nl,q.nk,(λz=>by cases z),λy hy=>?_⟩;cases hy;refine⟨X.n,ds.length,Q4 _,I.le,Q4 _,Y,λk w=>?_,λk k0 h=>G k k0<|(O k).trans h,λk x=>?_,λm hm=>?_⟩
 .rw[Z k w,QB,O]
 .show(k,x)∈P.no↔_/\cR k ((ds.take X.n).drop X.n)=some x;rw[h1,Xz (by rw[Q6];lia)];exact⟨(λz=>by cases z),(λz=>by cases z.2)⟩
 .rw[show P.cl=some m from hm]at h2;cases h2
def Inv.close {P:PQ} {y:Addr×List Tp} {z:DR} (I:Inv kd av e ds X) (O:X.pg=some P) (hy:P.fd=some y) (Z:z.r= .mark m):Inv kd av e (ds++ [z]) {X with pg:=some {P with cl:=some m}}:=by
 have J:=I.more (more:=[z]);have q:=J.pg P O;refine⟨J.le,J.nd,J.cp,J.kp,J.su,λP' h=>?_⟩;cases h;refine⟨q.rn,q.ra,q.nl,q.nk,(λh=>by rw[show P.fd=none from h]at hy;cases hy),λU hy'=>?_⟩;obtain⟨nr,mr,l1,l2,Y,h1,h2,h3,h4,h5⟩:=(I.pg P O).fd U hy';obtain⟨a0,a1,_⟩:=q.fd U hy';refine⟨nr,mr,l1,l2,by rw[Q8];lia,h1,by rwa[QG Y],h3,by rwa[QG I.le],λm' G=>?_⟩;cases G;exact⟨ds.length,z,by rw[QW (Q4 _),Nat.sub_self];rfl,Z,Y,I.le⟩
def RL (av:V) (p:Addr) (v a':V) (m:Int) (ds:List DR) (X:OY):Prop:=(X.rv= .ref p/\X.ra=av/\∃P,X.pg=some P/\P.ah=v/\P.aa=a'/\P.cl=some m)\/(X.pg=none/\X.rv=v/\X.ra=a'/\∃(j:Nat) (x:DR),j<X.n/\ds[j]?=some x/\x.r= .mark m)
def RL.step {x:DR} (h:RL av p v a' m ds X) (hx:ds[X.n]?=some x):RL av p v a' m ds (bu kd av e X x):=by
 have sn:=AC (kd:=kd) (av:=av) (e:=e) (X:=X) (x:=x);rcases h with⟨h1,h2,P,O,h4,Z,h6⟩|⟨h1,h2,O,j,y,h4,Z,h6⟩
 .rcases rA (X:=X) (kd:=kd) (av:=av) (e:=e) (x:=x)with⟨z,U,G,g4,g5⟩|⟨I,m',z,U,G,g4,g5,g6⟩
  .refine .inl ⟨z.trans h1,U.trans h2,?_⟩;cases c:(bu kd av e X x).pg with
   |some I=>
    obtain⟨P2,Y,e2⟩:=G I c;rw[O]at Y;cases Y;exact⟨I,M,by rwa[e2],by rwa[e2],by rwa[e2]⟩
   |none=>
    rw[c,O]at g5;cases g5
  .rw[O]at z;cases z;rw[h6]at G;cases G;exact .inr ⟨g6,g4.trans h4,g5.trans Z,X.n,x,(),hx,U⟩
 .rcases rA (X:=X) (kd:=kd) (av:=av) (e:=e) (x:=x)with⟨z,U,G,g4⟩|⟨I,m',z,_⟩
  .refine .inr ⟨?_,z.trans h2,U.trans O,j,y,(),Z,h6⟩;cases c:(bu kd av e X x).pg with
   |none=>rfl
   |some I=>
    obtain⟨P2,Y,_⟩:=G I c;rw[h1]at Y;cases Y
  .rw[h1]at z;cases z
end
def RL.fold {kd:Int} {av e:V} {p:Addr} {v a':V} {m:Int} {ds:List DR}:∀{l:List DR} {X:OY},RL av p v a' m ds X->(∀(i:Nat) (x:DR),l[i]?=some x->ds[X.n+i]?=some x)->RL av p v a' m ds (l.foldl (bu kd av e) X)
 | [],_,h,_=>h
 |x::r,X,h,g=>RL.fold (l:=r) (X:=bu kd av e X x) (h.step<|g 0 x M) λi y hy=>by
  rw[AC,Nat.add_assoc,Nat.add_comm 1 i];exact g (i+1) y hy
def RL.more {more:List DR} (h:RL av p v a' m ds X):RL av p v a' m (ds++more) X:=
 h.imp id λ⟨h1,h2,G,j,y,I,z,O⟩=>⟨h1,h2,G,j,y,I,by rwa[QT (Q2.mp z).1],O⟩
def Inv.none {kd:Int} (I:Inv kd av e ds X) (h1:X.rv= .ref p) (h2:X.ra=av):X.cp=[]:=by
 cases c:X.cp with
 |nil=>rfl
 |cons z r=>
  exfalso;have G:z.1∈X.cp.map (·.1):=by rw[c];exact Qb
  have k0:=I.kp z.1 G;have hs:=O0.mp G;rw[I.cp z.1 k0,Vo]at hs
  .cases hs
  .unfold OY.cov;rw[h1,h2,Bk];cases hN kd av e z.1<;>simp
def OW.rise {x:OZ} (A:OW K t H a F x):dn x.ks:=by
 obtain⟨_,_,_,_,_,_,L⟩:=A.lvs;exact L.rise
def OW.notup {x:OZ} (A:OW K t H a F x) (e:H b=some (.tup xs)):¬F b:=λz=>by
 obtain⟨o,G,n⟩:=A.dom z;rw[e]at G;exact n _ (Vq G).symm
def Hm {kv:List (Int×V)} {z:List Tp} {A JJ:Int->Prop} (iv:∀p∈kv,∃i:Int,p.2= .int i) (me:∀k v,(k,v)∈ts.map Tp.kv↔(k,v)∈kv/\A k/\JJ k) (Z:ts.map Tp.kv=z.map Tp.kv):(ts.map λe=>V.ref e.p).length=(z.map λe=>V.ref e.p).length/\∀{H:Hp},(∀e∈ts,H e.p=some (.tup [.int e.k,e.v]))->(∀e∈z,H e.p=some (.tup [.int e.k,e.v]))->∀(j:Nat) (u v:V),(ts.map λe=>V.ref e.p)[j]?=some u->(z.map λe=>V.ref e.p)[j]?=some v->Alk K H 4 u v:=by
 refine⟨by have:=VH List.length Z;simpa using this,λ{H} h1 h2 j u v hu G=>?_⟩;rw[Qn]at hu G;cases I:ts[j]? with
 |none=>rw[I]at hu;cases hu
 |some x=>
  cases O:z[j]? with
  |none=>rw[O]at G;cases G
  |some y=>
   rw[I]at hu;rw[O]at G;cases hu;cases G;have ee:=VH (λl:List (Int×V)=>l[j]?) Z;rw[Qn,Qn,I,O]at ee;have e3:x.kv=y.kv:=Vq ee;have e4:x.k=y.k:=VH Prod.fst e3;have e5:x.v=y.v:=VH Prod.snd e3;have hx:=Q1 I;obtain⟨i,U⟩:=iv _ ((me x.k x.v).mp<|Zm (f:=Tp.kv) hx).1;have U:x.v= .int i:=U;have t1:=h1 x hx;have Y:=h2 y (Q1 O);rw[<-e4,<-e5]at Y;rw[U]at t1 Y;refine .inr ⟨_,_,_,_,M,M,.inr ⟨OX.of t1,OX.of Y⟩,M,λj u v hu G=>?_⟩;rcases j with _|_|j
   .cases hu;cases G;exact .inl ⟨VG,M⟩
   .cases hu;cases G;exact .inl ⟨VG,M⟩
   .cases hu
def RG.bd {kd n:Int} (h:RG st ks kd n av e ps (some a')) (hk:∀k∈ks,k<10^40) (O:Ph kd a' e):Re a':=by
 rcases h with⟨k0,m,g,G⟩|⟨up,Y,Z,v1,G⟩
 .rcases O with⟨_,i,j,rfl,rfl,h1,h2,h3⟩|⟨z,_⟩|⟨z,_⟩
  .show i<10^80;lia
  .lia
  .lia
 .split at G
  .cases G
  .cases c:(cv up av e ks)[n.toNat-1]? with
   |none=>rw[c]at G;cases G
   |some k=>
    rw[c]at G;cases G;have I:=Q1 c;unfold cv at I;have I:=(Qu.mp I).1;have U:k<10^40:=hk k (by split at I;exact I;exact ZN.mp I);show(if up=true then k+1 else k-1)<10^80;split<;>lia
def Ot (F:Addr->Prop) (X:OY) (c dd d:Addr):Addr->Prop:=λb=>F b\/X.mut c dd b\/b=d
structure Pd (K:JK) (t:OJ) (H:Hp) (sc a d c p dd n:Addr) (F:Addr->Prop) (x:OZ) (ds:List DR) (X:OY) (kd:Int) (av e:V) (ns:List Int):Prop where
 J:Jd K t H a d F x ds
 C:P8 t H c a p dd kd av e X
 nF:∀b,X.adr c p dd b->¬F b
 nm:¬X.mut c dd d
 hn:H n=some (.tup [.int kd,av,e])
 I:Inv kd av e ds X
 cS:RM K (Ot F X c dd d) H sc (ns.map V.int)
section
variable {sc d n:Addr} {x:OZ} {X':OY} {kd:Int}
def P8.nadr (C:P8 t H c a p dd kd av e X) (hb:H b=some (.dK kvs)) (I:¬X.mut c dd b):¬X.adr c p dd b:=λh=>by
 have tk:∀{q:Addr} {a':V},PB t H q kd a' e->q≠b:=λh=>h.nd hb λ_ _ _ z=>by cases z
 rcases h with h|h|h|⟨P,G,h|h|⟨y,hy,h⟩⟩
 .exact I h
 .exact tk C.tk.1 h.symm
 .rcases C.rt with g|⟨q,h1,h2,_⟩
  .rw[g]at h;cases h
  .rw[h1]at h;cases h;exact tk h2 M
 .exact tk (C.pg P G).1.tk.1 h.symm
 .rcases(C.pg P G).1.ah with g|⟨q,h1,h2,_⟩
  .rw[g]at h;cases h
  .rw[h1]at h;cases h;exact tk h2 M
 .have:=((C.pg P G).1.fd y hy).1;rw[<-h,hb]at this;cases this
def Pd.same (S:Pd K t H sc a d c p dd n F x ds X kd av e ns) (s:Fa H H'):Pd K t H' sc a d c p dd n F x ds X kd av e ns:=
 ⟨S.J.same s,S.C.same s,S.nF,S.nm,s _ _ S.hn,S.I,S.cS.fr<|Fr.of_same s⟩
def Pd.go (S:Pd K t H sc a d c p dd n F x ds X kd av e ns) {more:List DR} (J:Jd K t H' a d F' x' (ds++more)) (f:Fr (Wh F d) (Wh F' d) H H'):Pd K t H' sc a d c p dd n F' x' (ds++more) X kd av e ns/\Fr (Ot F X c dd d) (Ot F' X c dd d) H H':=by
 have fo:Fr (Ot F X c dd d) (Ot F' X c dd d) H H':=λb o O G=>by
  obtain⟨h1,h2⟩:=f b o (λz=>O<|z.elim .inl λz=> .inr<|.inr z) G;exact⟨h1,λz=>z.elim (λz=>h2<|.inl z) λz=>z.elim (λz=>O<|.inr<|.inl z) λz=>h2<|.inr z⟩
 have nd:=S.C.nadr S.J.di S.nm;have U:∀b,X.adr c p dd b->∀o,H b=some o->H' b=some o/\¬F' b:=λb hb o G=>by
  obtain⟨h1,h2⟩:=f b o (λz=>z.elim (S.nF b hb) λz=>nd<|z▸hb) G;exact⟨h1,λz=>h2<|.inl z⟩
 have Y:∀b xs,H b=some (.tup xs)->H' b=some (.tup xs):=λb xs G=>(f b _ (λz=>z.elim (S.J.A.notup G) λz=>by rw[z,S.J.di]at G;cases G) G).1;refine⟨⟨J,S.C.go λb o G h=>?_,λb hb=>?_,S.nm,Y _ _ S.hn,S.I.more,S.cS.fr fo⟩,fo⟩
 .rcases h with h|⟨xs,h⟩
  .exact(U b h o G).1
  .rw[h]at G⊢;exact Y b xs G
 .obtain⟨o,G,_⟩:=S.C.dom hb;exact(U b hb o G).2
def Pd.fo (S:Pd K t H sc a d c p dd n F x ds X kd av e ns) (G:X'=l.foldl (bu kd av e) X) (C:P8 t H' c a p dd kd av e X') (I:Inv kd av e ds X') (k:∀b o,¬X.mut c dd b->H b=some o->H' b=some o):Pd K t H' sc a d c p dd n F x ds X' kd av e ns/\Fr (Ot F X c dd d) (Ot F X' c dd d) H H':=by
 have O:∀b,X'.mut c dd b->X.mut c dd b:=λb h=>by rw[G]at h;exact xO h
 have fo:Fr (Ot F X c dd d) (Ot F X' c dd d) H H':=λb o U Y=>⟨k b o (λz=>U<|.inr<|.inl z) Y,λz=>U<|z.imp id λz=>z.imp (O b) id⟩;have A:=S.J.A.mut S.C S.nF k;exact⟨⟨⟨A,k _ _ S.nm S.J.di,S.J.nd,S.J.kb,S.J.iv,S.J.le,S.J.dy,S.J.D,S.J.tb,S.J.mx,S.J.fl,S.J.ho⟩,C,λb h=>S.nF b (by rw[G]at h;exact CD h),λz=>S.nm<|O d z,k _ _ (S.C.nmut S.hn (λ_ _ _ z=>by cases z) λ_ z=>by cases z) S.hn,I,S.cS.fr fo⟩,fo⟩
def Pd.wr (S:Pd K t H sc a d c p dd n F x ds X kd av e ns) (hb:H b=some (.dK kvs)) (G:¬Ot F X c dd d b):Pd K t (upd H b o) sc a d c p dd n F x ds X kd av e ns:=by
 have U:=S.C.nadr hb λz=>G (.inr<|.inl z);have J:=S.J;refine⟨⟨J.A.upd (λz=>G<|.inl z) (λxs z=>by rw[hb]at z;cases z),by rw[af λz=>G (.inr<|.inr z.symm)];exact J.di,J.nd,J.kb,J.iv,J.le,J.dy,J.D,J.tb,J.mx,J.fl,J.ho⟩,S.C.go λz o' O h=>?_,S.nF,S.nm,?_,S.I,S.cS.put hb⟩
 .rw[af λy=>?_]
  .exact O
  .rcases h with h|⟨xs,h⟩
   .exact U<|y▸h
   .rw[y,hb,h]at O;cases O
 .rw[af λy=>by have h:=S.hn;rw[y,hb]at h;cases h];exact S.hn
def Pd.turn (S:Pd K t H sc a d c p dd n F x ds X kd av e ns) {g:Addr} {G:List DR} (U:X.mut c dd g) (J:H' d=some (.dK<|aB x.st.kv)->¬F' d->Jd K t H' a d F' x' G) (C:P8 t H' c a p dd kd av e X') (nF:∀b,X'.adr c p dd b->¬F' b) (I:Inv kd av e G X') (Y:∀b o,H b=some o->X'.mut c dd b->X.mut c dd b) (k:∀b o,b≠g->¬F b->H b=some o->H' b=some o/\¬F' b):Pd K t H' sc a d c p dd n F' x' G X' kd av e ns/\Fr (Ot F X c dd d) (Ot F' X' c dd d) H H':=by
 have fo:Fr (Ot F X c dd d) (Ot F' X' c dd d) H H':=λb o O Z=>by
  obtain⟨h1,h2⟩:=k b o (λz=>O<|.inr<|.inl<|z▸U) (λz=>O<|.inl z) Z;exact⟨h1,λz=>z.elim h2 λz=>z.elim (λz=>O<|.inr<|.inl<|Y b o Z z) λz=>O<|.inr (.inr z)⟩
 obtain⟨d1,d2⟩:=k d _ (λz=>S.nm<|z▸U) S.J.nd S.J.di;exact⟨⟨J d1 d2,C,nF,λz=>S.nm<|Y d _ S.J.di z,(k n _ (λz=>S.C.nmut S.hn (λ_ _ _ z=>by cases z) (λ_ z=>by cases z)<|z▸U) (S.J.A.notup S.hn) S.hn).1,I,S.cS.fr fo⟩,fo⟩
def LH {P G:PQ} (O:X.pg=some P) (I:X'.pg=some G) (U:G.g=P.g) (e2:G.nd=P.nd) (z:X'.mut c dd b):X.mut c dd b:=by
 rcases z with z|z|⟨Y,z,h⟩
 .exact .inl z
 .exact .inr<|.inl z
 .rw[I]at z;cases z;rw[U,e2]at h;exact .inr<|.inr ⟨P,O,h⟩
def U_hO {ta:V} (U:GI t H1 F st kd m ta e v ts a' R) (z:Int):R z=hO v kd a' e z:=by
 rcases U.rest with⟨h1,h2⟩|⟨q,h1,_,_,_,h2,_⟩
 .rw[h1,h2];unfold hO;rw[Vp M]
 .rw[h1,h2,Bk]
end
def TkU (t:OJ) (H:Hp) (E:Addr->Prop) (v:V) (kd:Int) (a e:V):Prop:=v= .non\/∃q,v= .ref q/\PB t H q kd a e/\Ph kd a e/\¬E q
def TkU.fr {kd:Int} {a:V} (h:TkU t H E v kd a e) (f:Fr E E' H H'):TkU t H' E' v kd a e:=
 h.imp id λ⟨q,h1,⟨dx,fs,h2,G⟩,I,z⟩=>⟨q,h1,⟨dx,fs,(f _ _ z h2).1,G⟩,I,(f _ _ z h2).2⟩
structure RU (t:OJ) (H:Hp) (E:Addr->Prop) (l:Addr) (ts:List Tp) (v:V) (kd:Int) (a e:V):Prop where
 hl:H l=some (.lst<|ts.map λu=>V.ref u.p)/\¬E l
 tu:∀u∈ts,H u.p=some (.tup [.int u.k,u.v])/\¬E u.p
 rs:TkU t H E v kd a e
def RU.fr {l:Addr} {kd:Int} {a:V} (R:RU t H E l ts v kd a e) (f:Fr E E' H H'):RU t H' E' l ts v kd a e:=
 ⟨f _ _ R.hl.2 R.hl.1,λu hu=>f _ _ (R.tu u hu).2 (R.tu u hu).1,R.rs.fr f⟩
def RU.wr {l:Addr} {kd:Int} {a:V} (R:RU t H E l ts v kd a e) (hb:H b=some (.dK kvs)):RU t (upd H b o) E l ts v kd a e:=
 ⟨⟨by rw[af (cq R.hl.1 hb λz=>by cases z)];exact R.hl.1,R.hl.2⟩,λu hu=>⟨by rw[af (cq (R.tu u hu).1 hb λz=>by cases z)];exact(R.tu u hu).1,(R.tu u hu).2⟩,R.rs.imp id λ⟨q,h1,h2,G⟩=>⟨q,h1,h2.up (h2.nd hb λ_ _ _ z=>by cases z),G⟩⟩
def IT {m:Nat}:∀(i:Nat) (x:DR),((ds.drop n).take m)[i]?=some x->ds[n+i]?=some x:=λi d h=>by
 rw[ZD]at h;split at h
 .rwa [ZC]at h
 .cases h
section
variable {sc d n:Addr} {x:OZ} {X':OY} {kd:Int}
def Pd.off (S:Pd K t H sc a d c p dd n F x ds X kd av e ns) (hb:H b=some o) (I:∀C d fs,o≠ .ins C d fs) (G:∀k,o≠ .dK k) (O:¬F b):¬Ot F X c dd d b:=λz=>by
 rcases z with z|z|z
 .exact O z
 .exact S.C.nmut hb I G z
 .rw[z,S.J.di]at hb;exact G _ (Vq hb).symm
def Pd.new (S:Pd K t H sc a d c p dd n F x ds X kd av e ns) (hb:H b=none):¬Ot F X c dd d b:=λz=>by
 rcases z with z|z|z
 .exact S.J.A.out hb z
 .obtain⟨o,G,_⟩:=S.C.dom (.inl z);rw[hb]at G;cases G
 .rw[z,S.J.di]at hb;cases hb
def Pd.tk (S:Pd K t H sc a d c p dd n F x ds X kd av e ns) (h:PB t H q kd a' e) (I:¬F q):¬Ot F X c dd d q:=λz=>by
 obtain⟨dx,ho⟩:=S.C.ob;rcases z with z|(z|z|⟨P,G,z|z⟩)|z
 .exact I z
 .exact h.ne ho M z
 .exact h.nd S.C.cp (λ_ _ _ z=>by cases z) z
 .obtain⟨U,O⟩:=(S.C.pg P G).1.ob;exact h.ne O M z
 .exact h.nd (S.C.pg P G).1.no (λ_ _ _ z=>by cases z) z
 .exact h.nd S.J.di (λ_ _ _ z=>by cases z) z
def Pd.ho (S:Pd K t H sc a d c p dd n F x ds X kd av e ns) (A:OW K t H' a F' x) (f:Fr F F' H H'):Pd K t H' sc a d c p dd n F' x ds X kd av e ns/\Fr (Ot F X c dd d) (Ot F' X c dd d) H H':=by
 have h:=S.go (more:=[]) (by rw[Zj];exact S.J.fr A f) f.wh;rwa [Zj]at h
def Jd.kl (J:Jd K t H a d F x ds):x.ks.length<=400:=by
 have G:x.ks.Nodup:=J.A.rise.imp λh=>Int.ne_of_lt h;have:=gO G (S:=x.st.kv.map (·.1)) λz hz=>O0.mpr ((J.A.ok.ks z).mp hz);rw[Q0]at this;exact Qz this J.le
def Jd.k0 (J:Jd K t H a d F x ds):∀k∈x.ks,0<=k/\k<10^40:=λk hk=>J.kb k (O0.mpr<|(J.A.ok.ks k).mp hk)
end
def RV {r:Dw}:qT r.vs [.str "mark",.int m]=true↔r= .mark m:=by
 cases r with
 |put k v=>exact⟨(λz=>by simp[Dw.vs,qT]at z),(λz=>by cases z)⟩
 |drop k=>exact⟨(λz=>by
   have h:(RB (.str "drop") (.str "mark")&&qT [.int k] [.int m])=true:=z;have h2:RB (.str "drop") (.str "mark")=false:=by decide+kernel
   rw[h2]at h;cases h),(λz=>by cases z)⟩
 |mark i=>
  have h2:RB (.str "mark") (.str "mark")=true:=by decide+kernel
  have h:qT (Dw.mark i).vs [.str "mark",.int m]=(i==m):=by
   show(RB (.str "mark") (.str "mark")&&(RB (.int i) (.int m)&&true))=(i==m);rw[h2,ZT,Bool.and_true];rfl
  rw[h];exact⟨λz=>by rw[eq_of_beq z],λz=>by cases z;exact VT _⟩
def J0 {r:Dw}:r.vs.all io=true:=by
 cases r<;>rfl
def Hf (K:JK):Sp:=λvs H Q _=>∃(a:Addr) (ns:List Int),vs=[.ref a]/\Fb K H a (ns.map V.int)/\ns.length<=63/\∀H',Q (.bl true) H'
def ML:CU P w K mg base OL 11 t.LS t.E9 ["_law_script"] (Hf K):=by
 have Y0:=vG (P:=P) (w:=w) (base:=base) T;refine T.OC.okl Ms λs H vs Q E O h _=>?_;intro X;obtain⟨sc,ns,rfl,hS,an,q⟩:=h;refine aj (ub (aL (y6 T) O.mo {_} T.KO T.BH.kp T.K8 .nil ay (ac (cn c6 BC (b6 ae)<|b6 ae) ai))<|w5 M<|dA (Pr 1)<|dA (Pr 2) rS)
   (aj (OM 3<|aL (vD T) O.mo {_} T.HY T.yk.kp T.Jf .nil ay (ac (aL (vF T) O.mo {_} T.xD T.pf.kp T.xZ .nil ay (ac BC<|ac ae ai))<|ac (aE (sM O.hd) {_} T.BL uM (ac O1 ai)) ai))
   (aj (OM 4<|aL (vF T) O.mo {_} T.xD T.pf.kp T.xZ .nil ay (ac BC<|ac ae ai))
   (aj (OM 5<|jx T.ND (vI T) O.mo {_} T.NF T.vP.choose_spec.1 T.vP.choose_spec.2 ay (ac M2<|ac (aL (yZ T) O.mo {_} T.KM T.BF.kp T.K5 .nil ay (ac OR ai)) ai))
   (aj (aN<|aZ Pj T.aF T.Dk (oj T) O.mo T.Dq .nil ay)
   (bU (λx=>(dW VC M (cK<|cn c6 BC (b6 ae)<|b6 ae) (Pr 6)
    x)) ?_)))))
 refine aA (aN<|aL (rY T) O.mo {_} T.oz T.jH.kp T.oN .nil ay (ac M2<|ac O1<|ac (ao aP RN ae) ai)) ?_
 intros
 refine aj (ub (aL (HC T) O.mo {_} T.Ol T.LX.kp T.Es.choose_spec.1 T.Es.choose_spec.2 ay (ac M2<|ac (aZ Pj T.aF T.i6 (mE T) O.mo T.jp .nil ay)<|ac (ao bx ae<|ao aT PF ae) ai))<|w5 M<|dA (Pr 7)<|dA (Pr 8) rS)
   (aj (OM 9<|aR Pj T.aF T.Dj (oi T) O.mo T.Dp .nil ay<|ac (ao bx ae<|ao aT PF ae) ai)
   (aj (aQ (aq (MH K M O.u20) Ry SN<|aw _)
    (az<|aD nS)
    aI)
   (bU (λx=>(dW VC M (cK<|cn c6 BC (b6 ae)<|b6 ae) (Pr 6)
    x)) ?_)))
 refine aj (aN<|aL (rY T) O.mo {_} T.oz T.jH.kp T.oN .nil ay (ac M2<|ac O1<|ac (ao aP RN ae) ai))
   (oo (λx=>aQ (PW.pt<|dU (aq w6 (aE aC {_} T.bL bf (ac Ry ai)) ae<|aw _)<|cJ<|aq bP (ao aT RN ae) ae<|aw _) x aI) ?_)
 refine aj (OM 10<|aS bB (aS aU Ry (ao aT (ao aP RN ae)<|aE aC {_} T.bL bf (ac Ry ai))<|λ_ _=>M) ae<|λ_ _=>M)
   (aj (aN<|aR M2 T.aO T.Bb (pX T) O.mo T.By .nil ay<|ac pv10<|ac (ao aT RN<|ao gr ae ae) ai)
   (aA (jw (i8 O) O1 pv10 (ao aT RN<|ao gr ae ae) M) ?_))
 intros
 refine aj (OM 11<|aZ Pj T.aF T.Cv (mV T) O.mo T.CZ .nil ay)
   (bU (λx=>(dW VC M (cK<|cn c6 BC (b6 ae)<|b6 ae) (Pr 6)
    x)) ?_)
 refine aA (aN<|aL (rY T) O.mo {_} T.oz T.jH.kp T.oN .nil ay (ac M2<|ac O1<|ac (ao aP RN ae) ai)) ?_
 intros
 refine bU (λx=>(dW VC M (iF {_} T.pj (ac ae ai)) (Pr 12)
    x)) ?_
 refine aj (aQ (lJ<|cx<|aL (ui T) O.mo {_} T.vL T.mP.kp T.vN .nil ay (ac Pj<|ac M2<|ac OR ai))
    (az<|aD nS)
    aI)
   (aj (aQ (PW.pt<|dU (aq (FM K M O.u20) (bO<|ac gk<|ac pv11 ai) (cn c6 (aZ M2 T.aO T.fI (eK T) O.mo T.bV.choose_spec.1 T.bV.choose_spec.2 ay) gJ<|b6<|aZ Pj T.aF T.mG (kD T) O.mo T.mH .nil ay) M)<|cJ<|aq (MG O.u20) (aZ Pj T.aF T.oy (mF T) O.mo T.oQ .nil ay) eE<|aw _)
    (az<|aD nS)
    aI)
   (aj (OM 13<|aZ Pj T.aF T.oy (mF T) O.mo T.oQ .nil ay)
   (aj (OM 14<|gl rc {_} T.Dv vZ (ac My ai))
   (aj (aN<|aR Pj T.aF T.uv (sd T) O.mo T.uO .nil ay<|ac (ao bx ae<|ao aT (ao aP PF ae) ae) ai)
   (aj (aQ (aq (Ku O.u20) My pv14<|aw _)
    (az<|aD nS)
    aI)
   (aA (aN<|ud QD PySem.F.slot_dict_clear PySem.F.type_dict_clear FV My) ?_))))))
 intros
 refine aj (aN<|aR Pj T.aF T.uv (sd T) O.mo T.uO .nil ay<|ac (ao gr ae ae) ai)
   (aj (aQ (PW.pt<|ie (aq zL (aZ Pj T.aF T.mG (kD T) O.mo T.mH .nil ay) (aE aC {_} T.bL bf (ac (aZ M2 T.aO T.fI (eK T) O.mo T.bV.choose_spec.1 T.bV.choose_spec.2 ay) ai))<|aw _)<|ie (aq (MF K M O.u20) (aZ M2 T.aO T.Jx (xo T) O.mo T.JH .nil ay) (bZ ai)<|aw _)<|gZ<|aq zL (au M2 M) ae<|aw _)
    (az<|aD nS)
    aI)
   (aj (aQ (PW.pt<|ie (aq zL (bF cX Rt a7<|aw _) (bF cX (aZ Pj T.aF T.i6 (mE T) O.mo T.jp .nil ay) a7<|aw _)<|aw _)<|gZ<|PW.pt<|dU (aq jy Rt a7<|aw _)<|cJ<|aq zL (zI (kk:=2) (fN (bR T.bC T.ux Y0 T.dH (_))<|fN (bR T.f7 T.Cu Y0 T.dH (_))<|bR T.b7 T.zn Y0 T.dH (_)) O.mo Rt) (zI (kk:=2) (fN (bR T.bC T.ux Y0 T.dH (_))<|fN (bR T.f7 T.Cu Y0 T.dH (_))<|bR T.b7 T.zn Y0 T.dH (_)) O.mo<|aZ Pj T.aF T.i6 (mE T) O.mo T.jp .nil ay)<|aw _)
    (az<|aD nS)
    aI)
   (aA (aD<|aL (ui T) O.mo {_} T.vL T.mP.kp T.vN .nil ay (ac Pj<|ac M2<|ac OR ai)) ?_)))
 intros
 obtain⟨cs,de,sb⟩:=sL ns (some 3) (some 13);refine⟨_,M,_,M,_,M,sc,_,M,hS,λp1 df=>?_⟩;rw[de];have fm:cs.length<=63:=Qz sb.length_le an;have cS:=(RM.of (F:=λ_=>False) hS λ_ _ z=>z).new (o:= .lst<|cs.map V.int) df;have h1:upd H p1 (.lst<|cs.map V.int) p1=some (.lst<|cs.map V.int):=ag
 (try dsimp only)
 generalize upd H p1 (.lst<|cs.map V.int)=H1 at cS h1⊢;refine⟨p1,cs,M,h1,fm,λH2 r2 a d F x ds fn dg b4 J l2 fq e2 o2=>?_⟩;have cS:=cS.fr (F':=Wh F d) (H':=H2) λb o _ e=>o2 b o e;refine⟨r2,_,M,OX.of b4,M,_,_,M,_,_,M,M,?_⟩;clear hS h1 o2 df de sb b4 fn dg;obtain⟨c1,dj⟩:∃c:Int,ns.getD (1:Int).toNat 0=c:=⟨_,M⟩;obtain⟨c2,dm⟩:∃c:Int,ns.getD (2:Int).toNat 0=c:=⟨_,M⟩;refine⟨_,M,sc,ns,1,M,cS.sq,(_),?_⟩;rw[dj];refine⟨_,M,d,_,x.st.kv.map (·.1),M,.inl J.di,uC,λl ms nl pm pw=>?_⟩;have s3:=ak (o:= .lst<|ms.map V.int) nl;have h3:upd H2 l (.lst<|ms.map V.int) l=some (.lst<|ms.map V.int):=ag
 (try dsimp only)
 generalize upd H2 l (.lst<|ms.map V.int)=H3 at s3 h3⊢;refine⟨_,l,ms,M,h3,λk hk=>J.kb k<|pm.mem_iff.mp hk,?_⟩;intro H4 n av e s4 hn on ba be;obtain⟨kd,fx⟩:∃kd:Int,c1%3=kd:=⟨_,M⟩;rw[fx]at hn on;have ce:=s3.trans s4;have J4:=J.same ce;have cg:=cS.fr (Fr.of_same ce);clear s3 s4 h3 nl pm pw cS J;refine⟨_,M,sc,ns,2,M,cg.sq,(_),?_⟩;rw[dm]
 (try dsimp only)
 refine⟨_,M,_,M,n,kd,av,e,M,OX.of hn,on,λH5 p s5 np TK=>?_⟩;have J5:=J4.same s5;have b1:¬F p:=J4.A.out np;have dp:=cg.fr (Fr.of_same s5);have dq:=s5 _ _ hn;clear np s5 ce hn cg J4;refine λc dx nc dv fy=>?_;have b5:=cm (ak (o:= .own c) dv) (o:= .ins t.aW dx []) nc;refine⟨c,dx,a,p,kd,av,e,F,x,M,ag,J5.A.same b5,TK.same b5,on,λH6 dd C dz kp=>⟨M,?_⟩⟩;have s6:Fa H5 H6:=λb o e=>kp b o (am e nc) (b5 _ _ e);have b8:H5 dd=none:=eP b5 dz;have ed:ds.length=x.di.length:=by rw[J5.dy,Q0]
 rw[<-ed]at C;have S6:Pd K t H6 sc a d c p dd n F x ds ⟨.ref p,av,ds.length,[],none⟩ kd av e ns:=by
  refine⟨J5.same s6,C,λb hb=>?_,λz=>?_,s6 _ _ dq,Inv.begin,(dp.fr (F':=Ot F ⟨.ref p,av,ds.length,[],none⟩ c dd d) λb o nb eb=>⟨s6 _ _ eb,λz=>?_⟩)⟩
  .rcases hb with(rfl|rfl|⟨P,z,_⟩)|rfl|h|⟨P,z,_⟩
   .exact J5.A.out nc
   .exact J5.A.out b8
   .cases z
   .exact b1
   .cases h;exact b1
   .cases z
  .rcases z with z|z|⟨P,z,_⟩
   .rw[<-z,J5.di]at nc;cases nc
   .rw[<-z,J5.di]at b8;cases b8
   .cases z
  .rcases z with z|(z|z|⟨P,z,_⟩)|z
   .exact nb<|.inl z
   .rw[z,nc]at eb;cases eb
   .rw[z,b8]at eb;cases eb
   .cases z
   .exact nb (.inr z)
 clear kp s6 b5 J5 TK dq dp b1 dz b8 nc dv fy C ed;obtain⟨dc,hc⟩:=S6.C.ob;refine⟨_,M,c,dc,_,M,hc,{_},c,a,p,dd,p,kd,av,e,_,F,x,M,S6.C,M,M,S6.J.A,S6.nF,(),λH8 F8 r8 g nd A8 C8 e0 e1 e4 k8=>?_⟩;obtain⟨S8,f8⟩:=S6.turn (.inl M) (λh1 h2=>S6.J.mark A8 h1 h2 M M M M M) C8 e0 (S6.I.open M).more (λb o eb z=>by
  rcases z with z|z|⟨P,z,h⟩
  .exact .inl z
  .exact .inr<|.inl z
  .cases z;rcases h with h|h
   .rw[show b=g from h,e1]at eb;cases eb
   .rw[show b=nd from h,e4]at eb;cases eb) k8
 clear S6 A8 C8 e0 e1 e4 k8 hc f8;have q8:∃x8 ci X8,Pd K t H8 sc a d c p dd n F8 x8 ci X8 kd av e ns/\x8.now<=756/\x8.ma=1/\x8.st.kv.length<=300/\X8.pg=some (RX g nd p av):=⟨_,_,_,S8,by show x.now<=756;lia,by show x.ma+1=1;lia,e2,M⟩;clear S8 e2 fq l2 dj dm;obtain⟨x8,ci,X8,S8,n8,m8,e8,p8⟩:=q8;obtain⟨c3,e5,e9⟩:=sL ns (some 3) (some 5)
 (try dsimp only)
 refine⟨_,M,_,M,_,M,sc,_,M,S8.cS.sq,λp2 cj=>?_⟩;rw[e5];have gy:c3.length<=63:=Qz e9.length_le an;have s9:=ak (o:= .lst<|c3.map V.int) cj;have h9:upd H8 p2 (.lst<|c3.map V.int) p2=some (.lst<|c3.map V.int):=ag;have Z:=S8.same s9;have n9:¬Ot F8 X8 c dd d p2:=S8.new cj
 (try dsimp only)
 generalize upd H8 p2 (.lst<|c3.map V.int)=H9 at Z h9⊢;clear S8 s9 cj e5 e9;refine⟨p2,M,⟨_,Fb.of h9⟩,fc (K:=K) (a:=p2) (xs:=c3.map V.int) (λi B H'=>∃(F':Addr->Prop) (x':OZ) (U:List DR) (v6:Option V),B=[some (.ref sc),some (.ref a),some (.ref d),some (.ref n),some (.int c2),some (.ref c),v6,none,none,none,none,none,none,none,none]/\Pd K t H' sc a d c p dd n F' x' U X8 kd av e ns/\x'.now<=756+12*i/\x'.ma=1/\x'.st.kv.length<=300/\H' p2=some (.lst<|c3.map V.int)/\¬Ot F' X8 c dd d p2) ⟨F8,x8,ci,none,M,Z,(),m8,e8,h9,n9⟩ (λi B H' _ w=>by obtain⟨_,_,_,_,_,_,_,_,_,h,_⟩:=w;exact Fb.of h) (λi z B H' hz w=>?_)<|λB H' w=>?_⟩
 .obtain⟨F',x',U,v6,rfl,S,l1,m1,k1,h2,n2⟩:=w;have hi:=(Q2.mp hz).1;rw[Q0]at hi;obtain⟨z',_,rfl⟩:=Q9.mp (Q1 hz);unfold fL
  (try dsimp only)
  refine⟨_,M,_,M,_,M,_,_,M,M,⟨(_),(_)⟩,a,d,_,F',x',U,300,M,S.J,(),k1,(_),(_),λH3 F3 x3 mo J3 l3 m3 e3 f3=>?_⟩;obtain⟨S3,fo⟩:=S.go J3 f3;obtain⟨h3,n3⟩:=fo _ _ n2 h2;exact⟨F3,x3,_,_,M,S3,(),m3.trans m1,e3,h3,n3⟩
 obtain⟨F',x',U,v6,rfl,S,l1,m1,k1,_,_⟩:=w;rw[Q0]at l1;clear Z h9 n9 n8 m8 e8;obtain⟨fz,ea⟩:=S.C.ob;have pq:=S.I.pg _ p8;have ck:X8.rv= .ref p:=pq.rn;have ec:X8.ra=av:=pq.ra.symm;have c0:=Qf c2 (show(30:Int)≠0 by decide);have c9:=Qc c2 (show(0:Int)<30 by decide);have kl:=S.J.kl;have bo:=S.J.k0;have b1:¬F' p:=S.nF p (.inr<|.inl M);refine⟨_,M,_,M,c,fz,_,M,ea,{_},c,a,p,dd,kd,av,e,X8,M,S.C,?_⟩;rw[ck];refine⟨_,M,_,_,M,M,(by show(0:Int)<30;decide),_,_,M,M,a,p,_,kd,av,e,F',x',M,S.J.A,S.C.tk.1,on,b1,(),(),(),(),λk hk=>(bo k hk).1,S.J.iv,λH2 F2 r2 g2 v2 g0 a2 R2 A2 f2 a3 U2=>?_⟩;obtain⟨Y,g1⟩:=S.ho A2 f2;refine⟨r2,_,M,OX.of a3.tu,M,_,_,M,_,_,M,M,?_⟩;have ee:RU t H2 (Ot F2 X8 c dd d) g2 g0 v2 kd a2 e:=⟨⟨a3.li,Y.off a3.li (λ_ _ _ z=>by cases z) (λ_ z=>by cases z) a3.ng.2⟩,λu hu=>⟨(a3.rw u hu).1,Y.off (a3.rw u hu).1 (λ_ _ _ z=>by cases z) (λ_ z=>by cases z)<|Y.J.A.notup (a3.rw u hu).1⟩,by
  rcases U2.rest with h|⟨q',h1,h2,h3,h4,_⟩
  .exact .inl h.1
  .exact .inr ⟨q',h1,h2,h3,Y.tk h2 h4⟩⟩
 obtain⟨g3,ef⟩:=Y.C.ob;have co:=Y.J.iv
 (try dsimp only)
 refine⟨_,M,c,g3,_,M,ef,{_},_,M,_,_,M,M,(by show(0:Int)<30;decide),_,_,M,M,c,a,p,dd,_,kd,av,e,X8,_,F2,x',M,Y.C,p8,M,Y.J.A,Y.nF,(),(),(),(),λk hk=>(bo k hk).1,co,λH3 F3 f l v ts a' R A3 C3 eg k3 E3 hl nl lf lo=>?_⟩;obtain⟨H1,U3⟩:=E3;obtain⟨S3,eh⟩:=Y.turn (.inr<|.inr ⟨_,p8,.inl M⟩) (λh1 h2=>⟨A3,h1,h2,Y.J.kb,Y.J.iv,Y.J.le,Y.J.dy,Y.J.D,Y.J.tb,Y.J.mx,Y.J.fl,Y.J.ho⟩) C3 eg (Y.I.read p8 M U3.nd (by rw[Y.J.tb];exact U3.me) U3.less<|U_hO U3) (λb o _=>LH p8 M M M) k3;have R3:=ee.fr eh;obtain⟨ej,b2⟩:=RG.uniq (U3.tell x'.ks Y.J.A.rise Y.J.A.ok.ks) (U2.tell x'.ks Y.J.A.rise Y.J.A.ok.ks);have ek:=S3.off hl (λ_ _ _ z=>by cases z) (λ_ z=>by cases z) nl;have a1:∀u∈ts,H3 u.p=some (.tup [.int u.k,u.v]):=((S3.C.pg _ M).1.fd _ M).2;have ct:=Hm (K:=K) co U3.me ej
 (try dsimp only)
 refine⟨_,M,_,M,l,g2,_,_,M,M,.inl ⟨Fb.of hl,Fb.of R3.hl.1⟩,ct.1,ct.2 a1<|λu hu=>(R3.tu u hu).1,_,M,cu ?_⟩;unfold mZ
 (try dsimp only)
 have q4:RU t H3 (Ot F3 {X8 with pg:=some {RX g nd p av with fd:=some (f,ts),ah:=v,aa:=a'}} c dd d) l ts v2 kd a2 e:=⟨⟨hl,ek⟩,λu hu=>⟨a1 u hu,S3.off (a1 u hu) (λ_ _ _ z=>by cases z) (λ_ z=>by cases z)<|S3.J.A.notup (a1 u hu)⟩,R3.rs⟩;have kk:∀u∈ts,0<=u.k/\u.k<10^40:=λu hu=>Y.J.kb u.k (Q9.mpr ⟨_,((U3.me u.k u.v).mp<|Zm (f:=Tp.kv) hu).1,M⟩);have bd:v≠ .non->Re a':=λh=>by
  have h1:=U3.tell x'.ks Y.J.A.rise Y.J.A.ok.ks;rw[Vo h]at h1;rcases U3.rest with z|⟨q',_,_,o,_⟩
  .exact Vt z.1 h
  .exact h1.bd (λk hk=>(bo k hk).2) o
 clear ee R3 ct Y S U2 U3 A2 A3 C3 eg k3 eh g1 f2 a3 co ea ef a1 lo lf nl ek hl ej pq R R2 H1;obtain⟨X3,bb⟩:∃X3:OY,X3={X8 with pg:=some {RX g nd p av with fd:=some (f,ts),ah:=v,aa:=a'}}:=⟨_,M⟩;have p3:X3.pg=some {RX g nd p av with fd:=some (f,ts),ah:=v,aa:=a'}:=by rw[bb]
 have cc:X3.rv= .ref p:=by rwa[bb]
 have cd:X3.ra=av:=by rwa[bb]
 rw[<-bb]at S3 q4;clear bb ck ec p8;obtain⟨c4,el,en⟩:=sL ns (some 5) (some 10);refine⟨_,M,_,M,_,M,sc,_,M,S3.cS.sq,λp4 cw=>?_⟩;rw[el];have gz:c4.length<=63:=Qz en.length_le an;have s9:=ak (o:= .lst<|c4.map V.int) cw;have h9:upd H3 p4 (.lst<|c4.map V.int) p4=some (.lst<|c4.map V.int):=ag;have Z:=S3.same s9;have q9:=q4.fr (Fr.of_same s9);have n9:=S3.new cw
 (try dsimp only)
 generalize upd H3 p4 (.lst<|c4.map V.int)=H9 at Z h9 q9⊢;clear S3 s9 cw el en q4;refine⟨p4,M,⟨_,Fb.of h9⟩,fc (K:=K) (a:=p4) (xs:=c4.map V.int) (λi B H'=>∃(F':Addr->Prop) (x':OZ) (U:List DR) (v6 a0:Option V),B=[some (.ref sc),some (.ref a),some (.ref d),some (.ref n),some (.int c2),some (.ref c),v6,some (.ref g2),some v2,some (.ref l),a0,none,none,none,none]/\Pd K t H' sc a d c p dd n F' x' U X3 kd av e ns/\RU t H' (Ot F' X3 c dd d) l ts v2 kd a2 e/\x'.now<=1512+13*i/\x'.ma=1/\x'.st.kv.length<=300+i/\H' p4=some (.lst<|c4.map V.int)/\¬Ot F' X3 c dd d p4) ⟨F3,x',U,_,none,M,Z,q9,(),m1,k1,h9,n9⟩ (λi B H' _ w=>by obtain⟨_,_,_,_,_,_,_,_,_,_,_,h,_⟩:=w;exact Fb.of h) (λi z B H' hz w=>?_)<|λB H' w=>?_⟩
 .clear Z h9 q9 n9 l1 m1 k1;obtain⟨F',x',U,v6,a0,rfl,S,q5,l1,m1,k1,h2,n2⟩:=w;have hi:=(Q2.mp hz).1;rw[Q0]at hi;obtain⟨z',_,rfl⟩:=Q9.mp (Q1 hz);unfold fL
  (try dsimp only)
  refine⟨_,M,_,M,_,M,_,_,M,M,⟨(_),(_)⟩,a,d,_,F',x',U,300+i,M,S.J,(),k1,(),(),λH3 F3 x3 mo J3 l3 m3 e3 f3=>?_⟩;obtain⟨S3,fo⟩:=S.go J3 f3;obtain⟨h3,n3⟩:=fo _ _ n2 h2;have q6:=q5.fr fo;clear S q5 h2 n2 fo J3 f3;have fin:∀(a0:Option V),(λB H'=>∃(F':Addr->Prop) (x':OZ) (U:List DR) (v6 a0:Option V),B=[some (.ref sc),some (.ref a),some (.ref d),some (.ref n),some (.int c2),some (.ref c),v6,some (.ref g2),some v2,some (.ref l),a0,none,none,none,none]/\Pd K t H' sc a d c p dd n F' x' U X3 kd av e ns/\RU t H' (Ot F' X3 c dd d) l ts v2 kd a2 e/\x'.now<=1512+13*((i+1:Nat):Int)/\x'.ma=1/\x'.st.kv.length<=300+(i+1)/\H' p4=some (.lst<|c4.map V.int)/\¬Ot F' X3 c dd d p4) [some (.ref sc),some (.ref a),some (.ref d),some (.ref n),some (.int c2),some (.ref c),some (.int z'),some (.ref g2),some v2,some (.ref l),a0,none,none,none,none] H3:=λa0=>⟨F3,x3,_,_,a0,M,S3,q6,(),m3.trans m1,(),h3,n3⟩;refine⟨_,M,l,_,M,.inl<|Fb.of q6.hl.1,_,_,M,M,_,M,bQ (λy=>?_)<|λy=>fin _⟩;have y:=Vw y;rw[Q0]at y;have y':(0:Int)<(ts.length:Int):=y;have z0:=Qf (z'/2) (QU y');have z1:=Qc (z'/2) y';obtain⟨u,hu⟩:∃u,ts[(z'/2%(ts.length:Int)).toNat]?=some u:=⟨_,Q3 ()⟩;have um:=Q1 hu;have at1:RF (ts.map λu=>V.ref u.p) (z'/2%(ts.length:Int))=some (.ref u.p):=by
   rw[<-Xi z0];refine sP ?_;rw[Qn,hu];rfl
  refine⟨_,M,_,_,M,M,(by show(0:Int)<2;decide),M,_,M,bQ (λy2=>?_)<|λy2=>fin _⟩;refine⟨_,M,_,M,_,_,M,M,⟨(_),(_)⟩,_,M,l,_,M,.inl<|Fb.of q6.hl.1,_,_,M,M,(by rwa[Q0]),l,_,_,_,M,M,Fb.of q6.hl.1,(by rwa[Q0]),u.p,_,_,_,M,M,OX.of (q6.tu u um).1,M,?_⟩;obtain⟨da,fa,ha,hm,_⟩:=S3.J.A.ins;have eo:(0:Int)<10^(39:Int).toNat:=by decide
  (try dsimp only)
  refine⟨_,M,a,da,fa,M,ha,hm _ ∅,_,M,_,M,_,_,M,M,⟨(_),(_),(_)⟩,_,_,M,M,eo,a,u.k,_,F3,x3,M,S3.J.A,(kk u um).1,(),λH5 F5 h0 r5 q5 he A5 N5 f5=>?_⟩;have J5:=S3.J.put A5 f5 M M M M M (kk u um) ();obtain⟨d5,_⟩:=f5 _ _ S3.J.nd S3.J.di;obtain⟨S5,eq⟩:=S3.go J5 (f5.wh.trans Fr.wd);obtain⟨h5,n5⟩:=eq _ _ n3 h3;have q7:=q6.fr eq;refine⟨_,M,_,_,M,M,⟨(_),(_),(_)⟩,_,_,M,M,eo,_,M,_,M,d,_,M,Pm.k (k:=Sum.inl u.k) d5 (by rw[bj];exact bg ()),?_⟩;rw[b9];exact⟨F5,_,_,_,_,M,S5,q7,by show x3.now+1<=_;lia,m3.trans m1,by rw[show(x3.st.put u.k<|.int<|z'%10^(39:Int).toNat).kv=bi x3.st.kv u.k (.int<|z'%10^(39:Int).toNat) from O8.three_kv];have:=bW x3.st.kv u.k (.int<|z'%10^(39:Int).toNat);lia,h5,n5⟩
 clear Z h9 q9 n9 l1 m1 k1 kl bo b1;obtain⟨F',x',U,v6,a0,rfl,S,q5,l1,m1,k1,_,_⟩:=w;rw[Q0]at l1 k1;obtain⟨d0,bt⟩:=S.C.ob
 (try dsimp only)
 refine⟨_,M,c,d0,_,M,bt,{_},c,a,p,dd,kd,av,e,X3,_,(f,ts),F',x',M,S.C,p3,M,M,S.J.A,S.nF,(),λH4 F4 r4 A4 C4 er k4=>?_⟩;obtain⟨S4,et⟩:=S.turn (.inr<|.inr ⟨_,p3,.inl M⟩) (λh1 h2=>S.J.mark A4 h1 h2 M M M M M) C4 er (S.I.close p3 M M) (λb o _=>LH p3 M M M) k4;have q6:=q5.fr et;have T4:RL av p v a' (x'.ma+1) (U++ [⟨r4,.mark<|x'.ma+1⟩]) {X3 with pg:=some {({RX g nd p av with fd:=some (f,ts),ah:=v,aa:=a'}:PQ)with cl:=some (x'.ma+1)}}:= .inl ⟨cc,cd,_,M,M,M,M⟩;obtain⟨m,em⟩:∃m,x'.ma+1=m:=⟨_,M⟩;have q8:∃x4 bv X4,Pd K t H4 sc a d c p dd n F4 x4 bv X4 kd av e ns/\RU t H4 (Ot F4 X4 c dd d) l ts v2 kd a2 e/\RL av p v a' m bv X4/\x4.now<=2331/\x4.ma=2/\x4.st.kv.length<=363:=⟨_,_,_,S4,q6,by rwa[<-em],by show x'.now<=2331;lia,by show x'.ma+1=2;lia,by show x'.st.kv.length<=363;lia⟩;rw[em];clear S4 q6 T4 et S q5 A4 C4 er k4 em l1 m1 k1 p3 cc cd bt;obtain⟨x4,bv,X4,S4,q4,T4,l4,m4,k4⟩:=q8;obtain⟨c5,eu,ew⟩:=sL ns (some 10) (some 15)
 (try dsimp only)
 refine⟨_,M,_,M,_,M,sc,_,M,S4.cS.sq,λp5 d1=>?_⟩;rw[eu];have hf:c5.length<=63:=Qz ew.length_le an;have s9:=ak (o:= .lst<|c5.map V.int) d1;have h9:upd H4 p5 (.lst<|c5.map V.int) p5=some (.lst<|c5.map V.int):=ag;have Z:=S4.same s9;have q9:=q4.fr (Fr.of_same s9);have n9:=S4.new d1
 (try dsimp only)
 generalize upd H4 p5 (.lst<|c5.map V.int)=H9 at Z h9 q9⊢;clear S4 s9 d1 eu ew q4;refine⟨p5,M,⟨_,Fb.of h9⟩,fc (K:=K) (a:=p5) (xs:=c5.map V.int) (λi B H'=>∃(F':Addr->Prop) (x':OZ) (U:List DR) (v6:Option V),B=[some (.ref sc),some (.ref a),some (.ref d),some (.ref n),some (.int c2),some (.ref c),v6,some (.ref g2),some v2,some (.ref l),a0,some (.int m),none,none,none]/\Pd K t H' sc a d c p dd n F' x' U X4 kd av e ns/\RU t H' (Ot F' X4 c dd d) l ts v2 kd a2 e/\RL av p v a' m U X4/\x'.now<=2331+12*i/\x'.ma=2/\x'.st.kv.length<=363/\H' p5=some (.lst<|c5.map V.int)/\¬Ot F' X4 c dd d p5) ⟨F4,x4,bv,_,M,Z,q9,T4,(),m4,k4,h9,n9⟩ (λi B H' _ w=>by obtain⟨_,_,_,_,_,_,_,_,_,_,_,h,_⟩:=w;exact Fb.of h) (λi z B H' hz w=>?_)<|λB H' w=>?_⟩
 .clear Z h9 q9 n9 l4 m4 k4 T4;obtain⟨F',x',U,v6,rfl,S,q5,TT,l1,m1,k1,h2,n2⟩:=w;have hi:=(Q2.mp hz).1;rw[Q0]at hi;obtain⟨z',_,rfl⟩:=Q9.mp (Q1 hz);unfold fL
  (try dsimp only)
  refine⟨_,M,_,M,_,M,_,_,M,M,⟨(_),(_)⟩,a,d,_,F',x',U,363,M,S.J,(),k1,(_),(_),λH3 F3 x3 mo J3 l3 m3 e3 f3=>?_⟩;obtain⟨S3,fo⟩:=S.go J3 f3;obtain⟨h3,n3⟩:=fo _ _ n2 h2;exact⟨F3,x3,_,_,M,S3,q5.fr fo,TT.more,(),m3.trans m1,e3,h3,n3⟩
 clear Z h9 q9 n9 l4 m4 k4 T4;obtain⟨F5,x5,G,v6,rfl,S5,q5,T5,l5,m5,k5,_,_⟩:=w;rw[Q0]at l5;have dl:G.length<=5000:=by
  have:=S5.J.len;lia
 refine⟨12,M,(_),(_),xM (n:=(12:Int).toNat) (λi B H'=>∃(X':OY) (u1 u2 u3:Option V),B=[some (.ref sc),some (.ref a),some (.ref d),some (.ref n),some (.int c2),some (.ref c),v6,some (.ref g2),some v2,some (.ref l),a0,some (.int m),u1,u2,u3]/\Pd K t H' sc a d c p dd n F5 x5 G X' kd av e ns/\RU t H' (Ot F5 X' c dd d) l ts v2 kd a2 e/\RL av p v a' m G X') ⟨X4,none,none,none,M,S5,q5,T5⟩ (λi B H2 hi w=>?_)<|λB H2 w=>?_⟩
 .clear S5 q5 T5;obtain⟨X',u1,u2,u3,rfl,S,q5,TT⟩:=w;unfold fL
  (try dsimp only)
  refine⟨_,M,_,M,_,M,c,a,p,dd,n,kd,av,e,X',F5,x5,G,M,S.C,S.J.A,S.J.dy,S.I,S.J.D,dl,S.hn,λH3 s3=>⟨_,M,cu ?_⟩⟩;unfold mZ
  (try dsimp only)
  have S3:=S.same s3;have q6:=q5.fr (Fr.of_same s3);clear S q5 s3;refine dM (λB H'=>B=[some (.ref sc),some (.ref a),some (.ref d),some (.ref n),some (.int c2),some (.ref c),v6,some (.ref g2),some v2,some (.ref l),a0,some (.int m),some (.int<|0+(i:Int)),u2,u3]/\Fa H3 H') (λnx go=>?_)<|λB H4 w=>?_
  .refine⟨_,M,(by show 2<=sizeLine;decide),λmt ey=>?_⟩;have s4:=ak (o:= .tup [.str "mark",.int m]) ey;have ez:upd H3 mt (.tup [.str "mark",.int m]) mt=some (.tup [.str "mark",.int m]):=ag;have nn:∀b o,H3 b=some o->b≠mt:=λb o e=>am e ey
   (try dsimp only)
   generalize upd H3 mt (.tup [.str "mark",.int m])=H4 at s4 ez⊢;have S4:=S3.same s4;obtain⟨da,fa,ha,hm,_⟩:=S4.J.A.ins;refine⟨_,M,a,da,fa,M,ha,hm _ ∅,a,0,F5,x5,M,S4.J.A,Zg _,λH5 r s5 nr O=>?_⟩;have dy:=S3.J.dy;unfold Rl at dy;rw[show(0:Int).toNat=0 from rfl,Z1,dy,Qs]at O;have O:H5 r=some (.lst<|G.map λd=>V.ref d.p):=O;have S5:=S4.same s5;obtain⟨d0,bt⟩:=S5.C.ob;refine⟨_,M,c,d0,_,M,bt,{_},c,a,p,dd,kd,av,e,X',M,S5.C,_,M,r,_,M,Fb.of O,λl6 g4=>?_⟩;rw[jo (),<-Z8,QJ];have s6:=ak (o:= .lst<|(G.take X'.n).map λd=>V.ref d.p) g4;have h6:upd H5 l6 (.lst<|(G.take X'.n).map λd=>V.ref d.p) l6=some (.lst<|(G.take X'.n).map λd=>V.ref d.p):=ag
   (try dsimp only)
   generalize upd H5 l6 (.lst<|(G.take X'.n).map λd=>V.ref d.p)=H6 at s6 h6⊢;have a1:∀z∈G,H3 z.p=some (.tup z.r.vs):=λz hz=>S3.J.A.di (z.p,z.r.vs) (by rw[dy];exact Q9.mpr ⟨z,hz,M⟩);have bc:=(s4.trans s5).trans s6;have tO:∀z∈G,rp H6 z.p=z.r.vs:=λz hz=>by unfold rp;rw[bc _ _ (a1 z hz)]
   have S6:=S3.same bc;refine⟨mt,l6,_,(G.take X'.n).map (·.p),M,M,s6 _ _<|s5 _ _ ez,M,Fb.of (by rwa[Qs]),λb hb=>?_,_,M,?_⟩
   .obtain⟨z,hz,rfl⟩:=Q9.mp hb;have hz:=QC hz;exact⟨nn _ _<|a1 z hz,_,bc _ _<|a1 z hz,J0⟩
   rw[Vp M];cases ca:((G.take X'.n).map (·.p)).any λb=>qT (rp H6 b) [.str "mark",.int m]with
   |true=>exact cu<|go _ _ ⟨M,bc⟩
   |false=>
    have g5:X'.cp=[]:=by
     rcases TT with⟨h1,h2,_⟩|⟨_,_,_,j,z,h1,h2,h3⟩
     .exact S3.I.none h1 h2
     .exfalso;have hz:z∈G.take X'.n:=Q1 (i:=j) (by rwa[ZD,Vp h1]);have:=List.any_eq_false.mp ca z.p (Q9.mpr ⟨z,hz,M⟩);rw[tO z (QC hz)]at this;exact this<|RV.mpr h3
    obtain⟨d2,bw⟩:=S6.C.ob;refine cH ⟨_,M,c,d2,_,M,bw,{_},c,a,p,dd,kd,av,e,X',M,S6.C,λr7 n7=>?_⟩;have s7:=ak (o:= .dK<|aB X'.cp) n7;have h7:upd H6 r7 (.dK<|aB X'.cp) r7=some (.dK<|aB X'.cp):=ag
    (try dsimp only)
    generalize upd H6 r7 (.dK<|aB X'.cp)=H7 at s7 h7⊢;refine λr8 n8=>⟨r7,r8,_,M,M,.inl<|ak n8 _ _ h7,.inl ag,_,M,?_⟩;rw[g5];exact cu<|go _ _ ⟨M,(bc.trans s7).trans<|ak n8⟩
  obtain⟨rfl,s4⟩:=w;have S4:=S3.same s4;have q7:=q6.fr (Fr.of_same s4);clear S3 q6 s4;obtain⟨f0,f1⟩:=S4.C.ob
  (try dsimp only)
  refine⟨_,M,c,f0,_,M,f1,{_},c,a,p,dd,kd,av,e,X',M,S4.C,λr8 n8=>?_⟩;have s8:=ak (o:= .dK<|aB X'.cp) n8;have h8:upd H4 r8 (.dK<|aB X'.cp) r8=some (.dK<|aB X'.cp):=ag;have o8:=S4.new n8
  (try dsimp only)
  generalize upd H4 r8 (.dK<|aB X'.cp)=H8 at s8 h8⊢;have S8:=S4.same s8;have q8:=q7.fr (Fr.of_same s8);clear S4 q7 s8 n8 f1 f0;refine⟨_,M,r8,_,M,h8,λr9 n9=>?_⟩;have s9:=ak (o:= .dK<|aB X'.cp) n9;have h9:upd H8 r9 (.dK<|aB X'.cp) r9=some (.dK<|aB X'.cp):=ag;have o9:=S8.new n9;have h8:=s9 _ _ h8
  (try dsimp only)
  generalize upd H8 r9 (.dK<|aB X'.cp)=H9 at s9 h9 h8⊢;have Z:=S8.same s9;have q9:=q8.fr (Fr.of_same s9);clear S8 q8 s9 n9;obtain⟨a5,ab⟩:=Z.C.ob;have z0:=Qf (c2/30) (show(9:Int)≠0 by decide);refine⟨_,M,c,a5,_,M,ab,{_},_,M,_,_,M,M,⟨(_),(_)⟩,_,_,M,M,(by show(0:Int)<9;decide),_,_,M,M,c,a,p,dd,kd,_,av,e,X',F5,x5,G,M,Z.C,Z.J.A,Z.J.dy,Z.I,Z.J.D,dl,(),λg6 X10 f4 f6 f9 fb=>?_⟩;obtain⟨a4,ax⟩:=Z.fo f4 f6 f9 fb;have g7:=q9.fr ax;have g9:RL av p v a' m G X10:=by rw[f4];exact TT.fold IT
  obtain⟨bl,ga⟩:=ax _ _ o8 h8;obtain⟨gc,_⟩:=ax _ _ o9 h9;have pm:=Z.I.due Z.J.D;have ge:=Z.I.nd;clear Z q9 f6 f9 fb ax o8 o9 h8 h9 ab a5 TT
  (try dsimp only)
  refine⟨_,M,_,M,r8,r9,_,_,M,M,bl,gc,M,λz hz=>?_,_,M,cu ?_⟩
  .unfold aB at hz;obtain⟨w,hw,rfl⟩:=Q9.mp hz;obtain⟨i,ei⟩:=DG (l:=G.take X'.n) (λ_ z=>by cases z) w (Qu.mp<|pm.mem_iff.mp hw).1;exact⟨by show Fl w.2;rw[ei];exact VG,by show aG (aB _) (Sum.inl w.1)=_;rw[O6];exact bD ge hw⟩
  unfold mZ
  (try dsimp only)
  refine⟨_,M,.inr<|.inr<|.inl ⟨M,.inl ⟨_,bl⟩⟩,r8,_,M,M,bl,?_⟩;exact⟨X10,_,_,_,M,a4.wr bl ga,g7.wr bl,g9⟩
 clear S5 q5 T5;obtain⟨X5,u1,u2,u3,rfl,S5,q5,T5⟩:=w;obtain⟨a5,ab⟩:=S5.C.ob
 (try dsimp only)
 refine⟨_,M,c,a5,_,M,ab,{_},_,_,M,M,⟨(_),(_),(_)⟩,c,a,p,dd,kd,_,av,e,X5,F5,x5,G,M,S5.C,S5.J.A,S5.J.dy,S5.I,S5.J.D,dl,(_),λH6 X6 e6 C6 I6 k6=>?_⟩;obtain⟨S6,fe⟩:=S5.fo e6 C6 I6 k6;have q6:=q5.fr fe;have T6:RL av p v a' m G X6:=by rw[e6];exact T5.fold IT
 have n6:X6.n=G.length:=by
  rw[e6,Ek,Q6,QH];have h1:5000<=((10:Int)^(39:Int).toNat).toNat:=by decide+kernel
  have:=S5.I.le;lia
 clear S5 q5 T5 C6 I6 k6 fe e6 ab a5;have d3:X6.rv=v/\X6.ra=a':=by
  rcases T6 with⟨_,_,P,h1,_,_,h2⟩|⟨_,h1,h2,_⟩
  .exfalso;have pq:=S6.I.pg P h1;cases cf:P.fd with
   |none=>rw[(pq.un cf).2]at h2;cases h2
   |some y=>
    obtain⟨nr,mr,_,_,_,_,_,_,_,cl⟩:=pq.fd y cf;obtain⟨j,z,hj,_,_,hg⟩:=cl m h2;have:=(Q2.mp hj).1;lia
  .exact⟨h1,h2⟩
 obtain⟨d2,bw⟩:=S6.C.ob;obtain⟨da,fa,ha,hm,_⟩:=S6.J.A.ins
 (try dsimp only)
 refine⟨_,M,c,d2,_,M,bw,{_},c,a,p,dd,kd,av,e,X6,M,S6.C,_,M,a,da,fa,M,ha,hm _ ∅,a,0,F5,x5,M,S6.J.A,Zg _,λH7 r7 s7 gg ff=>⟨r7,_,M,.inl<|Fb.of ff,?_⟩⟩;rw[Q0,show(0:Int).toNat=0 from rfl,Z1,S6.J.dy,Q0,n6];have S7:=S6.same s7;have q7:=q6.fr (Fr.of_same s7);clear S6 q6 ff gg s7 ha hm bw;obtain⟨da,fa,ha,hm,_,cb⟩:=S7.J.A.ins;refine⟨M,_,M,i7 M ⟨_,M,a,da,fa,M,ha,hm _ ∅,a,F5,x5,M,S7.J.A,by rw[S7.J.ho];decide,λH8 l8 ms s8 gm fg d4 _=>?_⟩⟩;have gn:ms=[]:=by rw[S7.J.ho]at d4;exact d4.eq_nil
 subst gn;have S8:=S7.same s8;have q8:=q7.fr (Fr.of_same s8);clear S7 q7 d4 ha hm cb;obtain⟨da,fa,ha,hm,_,cb⟩:=S8.J.A.ins;rw[S8.J.fl]at cb;refine⟨(by show 0<=sizeLine;decide),λe8 d6=>⟨l8,e8,_,M,M,Fb.of<|ak d6 _ _ fg,Fb.of ag,_,M,cu ?_⟩⟩;have s9:=ak (o:= .lst []) d6
 (try dsimp only)
 generalize upd H8 e8 (.lst [])=H9 at s9⊢;have Z:=S8.same s9;have q9:=q8.fr (Fr.of_same s9);have gq:=s9 _ _ ha;clear S8 q8 ha hm fg gm d6 s8;refine⟨_,M,a,_,da,fa,_,M,gq,T.aO,T.xt,cb,M,_,M,i7 M ?_⟩;unfold mZ
 (try dsimp only)
 have ev:(v= .non/\v2= .non)\/(v≠ .non/\v2≠ .non/\a'=a2):=by
  by_cases h1:v= .non<;>by_cases h2:v2= .non
  .exact .inl ⟨h1,h2⟩
  .rw[Vp h1,Vo h2]at b2;cases b2
  .rw[Vo h1,Vp h2]at b2;cases b2
  .rw[Vo h1,Vo h2]at b2;exact .inr ⟨h1,h2,Vq b2⟩
 obtain⟨a5,ab⟩:=Z.C.ob;refine dM (λB H'=>B=[some (.ref sc),some (.ref a),some (.ref d),some (.ref n),some (.int c2),some (.ref c),v6,some (.ref g2),some v2,some (.ref l),a0,some (.int m),u1,u2,u3]/\Fa H9 H') (λnx go=>?_)<|λB g6 w=>?_
 .refine⟨_,M,M,_,M,c,a5,_,M,ab,{_},c,a,p,dd,kd,av,e,X6,M,Z.C,M,?_⟩;rw[d3.1];rcases ev with⟨h1,h2⟩|⟨h1,h2,h3⟩
  .rw[h1,h2];exact⟨M,_,M,i7 M ⟨_,M,M,_,M,i7 M<|go _ _ ⟨by rw[h2],Fa.refl _⟩⟩⟩
  .rw[VA h1,VA h2];refine⟨M,_,M,i7 M ⟨_,M,M,_,M,Eg h2 ?_⟩⟩;rcases q9.rs with h|⟨q',hq,TK,oq,_⟩
   .exact Vt h h2
   subst hq;obtain⟨dr,fr,fh,tr⟩:=TK;have d7:=bd h1;rw[h3]at d7;refine⟨_,M,q',_,dr,fr,_,M,fh,tr.wo,dWN oq.kd,q',dr,kd,fr,a2,e,M,fh,tr,oq,d7,be,λH2 s2=>?_⟩;have Y:=Z.same s2;obtain⟨gs,gt⟩:=Y.C.ob;refine⟨_,M,c,gs,_,M,gt,{_},c,a,p,dd,kd,av,e,X6,M,Y.C,?_⟩;rcases Y.C.rt with h|⟨q2,gu,gv,d8⟩
   .exact Vt (d3.1.symm.trans h) h1
   rw[gu];obtain⟨fi,fk,b4,d9⟩:=gv;rw[d3.2,h3]at d8 d9;refine⟨q2,_,fi,fk,_,M,b4,d9.wo,dWN d8.kd,q2,fi,kd,fk,a2,e,M,b4,d9,d8,d7,be,λH3 s3=>⟨M,_,M,i7 M<|go _ _ ⟨M,s2.trans s3⟩⟩⟩
 obtain⟨rfl,gw⟩:=w;have a4:=Z.same gw
 (try dsimp only)
 exact⟨_,M,_,M,_,M,c,a,p,dd,n,kd,av,e,X6,F5,x5,G,M,a4.C,a4.J.A,a4.J.dy,a4.I,a4.J.D,dl,a4.hn,λH3 s3=>q _⟩
end
end SW
namespace ZK
open PySem PySem.W SW L2
def fM {P:Params} {x qual:Str} {st:Stmt} {a:Addr} {kV G I z ct:Value} {O:Option Addr} (l:(K P).lookup a=some (f<|D x qual st N kV G I O z ct):=by kernel_rfl) (c:codeIn (K P) z qual=true:=by kernel_rfl) (k:keepIn (K P) (.ref a)=true:=by kernel_rfl):OQ (K P) x qual st a (D x qual st N kV G I O z ct):=Nf l c k
def nA {P:Params} {C:Addr} {x:Str} (h:findIn (K P) (.ref C) x=some none:=by kernel_rfl):CV (K P) C x:=h
def fT {P:Params} {x qual:Str} {st:Stmt} {a b:Addr} {kV G I z ct:Value} {O:Option Addr} (l:(K P).lookup a=some (f<|D x qual st (R b) kV G I O z ct):=by kernel_rfl) (c:codeIn (K P) z qual=true:=by kernel_rfl) (k:keepIn (K P) (.ref a)=true:=by kernel_rfl):Nx (K P) x qual st b a (D x qual st (R b) kV G I O z ct):=E1 l c k
def fU {P:Params} {x qual:Str} {st:Stmt} {a b:Addr} {kV G I z ct:Value} {O:Option Addr} (l:(K P).lookup a=some (f<|D x qual st (R b) kV G I O z ct):=by kernel_rfl) (c:codeIn (K P) z qual=true:=by kernel_rfl) (k:keepIn (K P) (.ref a)=true:=by kernel_rfl):Pw (K P) x qual st a (D x qual st (R b) kV G I O z ct):=(E1 l c k).1
def Nu {P:Params}:(K P).lookup 233=some ⟨(T "tuple"),none,.seq #[(.int 0 479),(.int 65536 480)] 0, #[]⟩:=by kernel_rfl
def Nt {P:Params}:(K P).lookup 260=some ⟨(T "tuple"),none,.seq #[(.int 0 514),N] 0, #[]⟩:=by kernel_rfl
def Nr {P:Params}:(K P).lookup 287=some ⟨(T "tuple"),none,.seq #[N,(.int 0 548)] 0, #[]⟩:=by kernel_rfl
def Nq {P:Params}:(K P).lookup 307=some ⟨(T "tuple"),none,.seq #[(.int 10 574),N] 0, #[]⟩:=by kernel_rfl
def T407 {P:Params}:(K P).lookup 407=some ⟨(T "tuple"),none,.seq #[N] 0, #[]⟩:=by kernel_rfl
def T422 {P:Params}:(K P).lookup 422=some ⟨(T "tuple"),none,.seq #[(.int 10 730)] 0, #[]⟩:=by kernel_rfl
def T815 {P:Params}:(K P).lookup 815=some ⟨(T "tuple"),none,.seq #[(.int 0 1241)] 0, #[]⟩:=by kernel_rfl
end ZK
namespace SW
open PySem L2
set_option maxHeartbeats 0
variable {α:Type} {YP:World->Heap->Prop}
def SF {us:List α} (hl:us.length=1):∃z,us=[z]:=by rcases us with _|⟨z,_|⟨y,t⟩⟩<;>first|exact⟨_,M⟩|simp at hl
def SD {us:List α} (hl:us.length=2):∃z G,us=[z,G]:=by rcases us with _|⟨z,_|⟨G,_|⟨y,t⟩⟩⟩<;>first|exact⟨_,_,M⟩|simp at hl
def SE {us:List α} (hl:us.length=3):∃z G I,us=[z,G,I]:=by rcases us with _|⟨z,_|⟨G,_|⟨I,_|⟨y,t⟩⟩⟩⟩<;>first|exact⟨_,_,_,M⟩|simp at hl
def us4 {us:List α} (hl:us.length=4):∃z G I O,us=[z,G,I,O]:=by rcases us with _|⟨z,_|⟨G,_|⟨I,_|⟨O,_|⟨y,t⟩⟩⟩⟩⟩<;>first|exact⟨_,_,_,_,M⟩|simp at hl
open ZK in
def txt {P:Params} {h:Heap} {mg:Str->Option Value} (X:(ZK.K P).In h) (G:h.Ns mainGlobals mg):Txt (ZK.K P) mg ZK.t:=by
 constructor
 case g_BITS=>exact⟨348,ZE X G<|by kernel_rfl⟩
 case g_PLACES=>exact⟨350,ZE X G<|by kernel_rfl⟩
 case g_STRETCHES_A_KEY=>exact⟨572,ZE X G<|by kernel_rfl⟩
 case g_MOST_IN_LEAF=>exact⟨836,ZE X G<|by kernel_rfl⟩
 case g_LEAST_IN_TWO=>exact⟨838,ZE X G<|by kernel_rfl⟩
 case g_LEAST_SIZE=>exact⟨1012,ZE X G<|by kernel_rfl⟩
 case g_GREATEST_SIZE=>exact⟨1014,ZE X G<|by kernel_rfl⟩
 all_goals first
  |exact ZK.fM
  |exact⟨(by kernel_rfl),(by kernel_rfl),(by kernel_rfl)⟩
  |exact ZE X G<|by kernel_rfl
  |exact .all λus hl=>by obtain⟨_,_,rfl⟩:=SD hl;rfl
  |exact ZK.nA
  |exact .all λus hl=>by obtain⟨_,rfl⟩:=SF hl;rfl
  |exact⟨(by kernel_rfl),(by kernel_rfl),(by kernel_rfl),(by kernel_rfl)⟩
  |exact Ij (by kernel_rfl) (by kernel_rfl) (by kernel_rfl)<|λz=>Vt z (_)
  |exact .all λus hl=>by obtain⟨_,_,_,rfl⟩:=SE hl;rfl
  |exact PySem.W.mg_none_of X G<|by kernel_rfl
  |exact ZK.fU
  |exact⟨⟨_,_,_,_,_,_,_,_,_,_,_,_,_,_,{_}⟩,⟨[ZK.t.cw],M⟩,(by kernel_rfl),(by kernel_rfl),(by kernel_rfl),(by kernel_rfl)⟩
  |exact Ij (by kernel_rfl) (by kernel_rfl) (by kernel_rfl)<|λ_=>M
  |exact .all λus hl=>by obtain⟨_,_,_,_,rfl⟩:=us4 hl;rfl
  |exact cZ (ds:=[]) 2 M (fT (a:=429)) T422 λ_ _ _ _ _ _ us hl=>by obtain⟨_,_,rfl⟩:=SD hl;exact⟨_,M,M⟩
  |exact cZ (ds:=[]) 2 M (fT (a:=822)) T815 λ_ _ _ _ _ _ us hl=>by obtain⟨_,_,rfl⟩:=SD hl;exact⟨_,M,M⟩
  |exact cZ (ds:=[]) 3 M (fT (a:=240)) Nu λ_ _ _ _ _ _ us hl=>by obtain⟨_,_,_,rfl⟩:=SE hl;exact⟨_,M,M⟩
  |exact cZ (ds:=[]) 3 M (fT (a:=267)) Nt λ_ _ _ _ _ _ us hl=>by obtain⟨_,_,_,rfl⟩:=SE hl;exact⟨_,M,M⟩
  |exact cZ (ds:=[]) 3 M (fT (a:=294)) Nr λ_ _ _ _ _ _ us hl=>by obtain⟨_,_,_,rfl⟩:=SE hl;exact⟨_,M,M⟩
  |exact cZ (ds:=[]) 4 M (fT (a:=312)) Nq λ_ _ _ _ _ _ us hl=>by obtain⟨_,_,_,_,rfl⟩:=us4 hl;exact⟨_,M,M⟩
  |exact cZ (ds:=[]) 4 M (fT (a:=414)) T407 λ_ _ _ _ _ _ us hl=>by obtain⟨_,_,_,_,rfl⟩:=us4 hl;exact⟨_,M,M⟩
  |exact⟨_,cZ (ds:=[(.int 0 1241)]) 1 M (fT (a:=822)) T815 λ_ _ _ _ _ _ us hl=>by obtain⟨_,rfl⟩:=SF hl;exact⟨_,M,M⟩,(.cons ⟨_,M⟩ .nil)⟩
  |exact⟨_,cZ (ds:=[(.int 0 479),(.int 65536 480)]) 1 M (fT (a:=240)) Nu λ_ _ _ _ _ _ us hl=>by obtain⟨_,rfl⟩:=SF hl;exact⟨_,M,M⟩,(.cons ⟨_,M⟩<|.cons ⟨_,M⟩ .nil)⟩
  |exact⟨_,cZ (ds:=[(.int 0 514),N]) 1 M (fT (a:=267)) Nt λ_ _ _ _ _ _ us hl=>by obtain⟨_,rfl⟩:=SF hl;exact⟨_,M,M⟩,(.cons ⟨_,M⟩<|.cons M .nil)⟩
  |exact⟨_,cZ (ds:=[(.int 0 548)]) 2 M (fT (a:=294)) Nr λ_ _ _ _ _ _ us hl=>by obtain⟨_,_,rfl⟩:=SD hl;exact⟨_,M,M⟩,(.cons ⟨_,M⟩ .nil)⟩
  |exact⟨_,cZ (ds:=[(.int 10 574),N]) 2 M (fT (a:=312)) Nq λ_ _ _ _ _ _ us hl=>by obtain⟨_,_,rfl⟩:=SD hl;exact⟨_,M,M⟩,(.cons ⟨_,M⟩<|.cons M .nil)⟩
  |exact⟨_,cZ (ds:=[(.int 10 730)]) 1 M (fT (a:=429)) T422 λ_ _ _ _ _ _ us hl=>by obtain⟨_,rfl⟩:=SF hl;exact⟨_,M,M⟩,(.cons ⟨_,M⟩ .nil)⟩
  |exact⟨_,cZ (ds:=[(.int 65536 480)]) 2 M (fT (a:=240)) Nu λ_ _ _ _ _ _ us hl=>by obtain⟨_,_,rfl⟩:=SD hl;exact⟨_,M,M⟩,(.cons ⟨_,M⟩ .nil)⟩
  |exact⟨_,cZ (ds:=[N,(.int 0 548)]) 1 M (fT (a:=294)) Nr λ_ _ _ _ _ _ us hl=>by obtain⟨_,rfl⟩:=SF hl;exact⟨_,M,M⟩,(.cons M<|.cons ⟨_,M⟩ .nil)⟩
  |exact⟨_,cZ (ds:=[N]) 2 M (fT (a:=267)) Nt λ_ _ _ _ _ _ us hl=>by obtain⟨_,_,rfl⟩:=SD hl;exact⟨_,M,M⟩,(.cons M .nil)⟩
  |exact⟨_,cZ (ds:=[N]) 3 M (fT (a:=312)) Nq λ_ _ _ _ _ _ us hl=>by obtain⟨_,_,_,rfl⟩:=SE hl;exact⟨_,M,M⟩,(.cons M .nil)⟩
  |exact⟨_,cZ (ds:=[N]) 3 M (fT (a:=414)) T407 λ_ _ _ _ _ _ us hl=>by obtain⟨_,_,_,rfl⟩:=SE hl;exact⟨_,M,M⟩,(.cons M .nil)⟩
  |exact⟨⟨_,_,_,_,_,_,_,_,_,_,_,_,_,_,{_}⟩,⟨[],M⟩,(by kernel_rfl),(by kernel_rfl),(by kernel_rfl),(by kernel_rfl)⟩
def walk {l:PySem.W.OpenLaw} {q:Program} {loose:List Str} {XP:(Str->Option Value)->Heap->Prop} {d:DefRec} {K:Params->JK} (U:l.most=some 63) (I:d.params.defaults=[])
  (Y:∀(w:World) (h:Heap),YP w h->(K w.params).In h) (hd:d.name="law")
  (F:∀(w:World) (mg:Str->Option Value) (h:Heap),(K w.params).In h->h.Ns mainGlobals mg->∃t,Txt (K w.params) mg t):
  PySem.W.WalkO q loose XP YP l.row.toRowW d [] (λf vs=>PySem.call f vs):=by
 refine L2.walk_of (n:=63) (k:=11) (x:="_law_script") (CX:=λ_=>OL) (sp:=λw=>Hf<|K w.params) U (_) I ⟨M,(_),(_)⟩ Y (λw mg fa h Z G O=>?_) (λ_ _ a ns hl _ hS=>⟨a,ns,M,hS,hl,λ_=>M⟩) λ_ _ _ _ _ z=>z;obtain⟨t,T⟩:=F w mg h Z G;have e:=O.symm.trans ((VH mg hd).trans T.OH);cases e;obtain⟨oc,od,kV,a0,pm,an,a1,ct,a2,e1,lk,a3⟩:=T.OC.ex;refine⟨t.E9,λs u=>?_,λbase _ _=>ML T⟩;rw[e1];exact .of_eq M
end SW
open PySem PySem.W PyProof.Rows
set_option maxRecDepth 100000 in
set_option maxHeartbeats 0 in
theorem PySem.Challenge.cw_staywalk_k54_changes_win_holds : PySem.Challenge.rw_staywalk_k54_changes_win.Holds := by
 w_on
 refine holds_law ZK.said λsaid=>?_;refine holds_open (q:=ZK.q) (loose:=["BySlots","Up","Down","ask"]) (Xt:=λs=>xlAt ZK.q [] s&&recOk (RowW.records<|OpenRow.toRowW<|OpenLaw.row PySem.Challenge.rw_staywalk_k54_changes_win) s) (XP:=XL ZK.q []) (Yf:=Hook.obs ZK.H) (Ya:=Hook.val ZK.H) (YP:=Hook.says ZK.H) ZK.left (Hook.of ZK.H) (Hook.keeps ZK.H) (λs e=>xl_of s (QL.mp e).1) XL.keeps {_} {_} {_} (λs e=>recFacts_of (QL.mp e).2) {_} (by first|assumption|decide+kernel) ∅ ⟨M,M,M,M,M,∅⟩ ?hw ?hc
 (case hw=>w_witness2)
 exact SW.walk (l:=PySem.Challenge.rw_staywalk_k54_changes_win) M M (λw h Y=>kIn_of Y) M λw mg h KX G=>⟨_,SW.txt KX G⟩
#print axioms PySem.Challenge.cw_staywalk_k54_changes_win_holds
