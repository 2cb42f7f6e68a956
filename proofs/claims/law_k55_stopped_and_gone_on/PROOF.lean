import PyProof.Rows.All
import PySem.Challenge.RW_staywalk_k55_stopped_and_gone_on
import KE.KFromBytes
import KE.KIntText
import KE.KPairComp
import KE.KSortTup
import KE.KIsAll
import KE.KDictSum
import KE.KRevIter
import KE.KRevSl
import KE.KEqDict
import KE.LcSums
import KE.KDictOf
set_option Elab.async false
set_option linter.all false
set_option maxRecDepth 100000
noncomputable section
local macro_rules | `(()) => `(by lia)
local macro_rules | `((_)) => `(by decide)
local macro_rules | `(∅) => `(by decide+kernel)
local macro_rules | `({_}) => `(by rfl)
abbrev M:=@rfl
set_option genSizeOf false
set_option maxHeartbeats 0
abbrev Q0:=@List.length_map
abbrev Q1:=@List.getElem?_eq_some_iff
abbrev Q2:=@List.mem_of_getElem?
abbrev Q3:=@List.getElem?_eq_getElem
abbrev Q4:=@Nat.le_refl
abbrev Q5:=@List.mem_append
abbrev Q6:=@List.length_take
abbrev Q7:=@List.mem_singleton
abbrev Q8:=@List.length_append
abbrev Q9:=@Array.length_toList
abbrev Qx:=@Int.emod_lt_of_pos
abbrev Qy:=@List.mem_map
abbrev Qz:=@Bool.false_ne_true
abbrev QA:=@Int.emod_nonneg
abbrev QB:=@List.mem_cons_self
abbrev QC:=@List.map_append
abbrev QD:=@List.mem_cons_of_mem
abbrev QE:=@List.append_assoc
abbrev QF:=@Nat.zero_le
abbrev QG:=@List.size_toArray
abbrev QH:=@List.mem_cons
abbrev QI:=@List.pairwise_append
abbrev QJ:=@List.getD_eq_getElem?_getD
abbrev QK:=@List.length_filter_le
abbrev QL:=@List.take_add_one
abbrev QM:=@List.length_cons
abbrev QN:=@PySem.F.plainAttrs_list
abbrev QO:=@List.map_cons
abbrev QP:=@List.getElem?_map
abbrev QQ:=@Nat.le_trans
abbrev QR:=@List.map_map
abbrev QS:=@List.mem_filter
abbrev QT:=@List.take_of_length_le
abbrev QU:=@Nat.lt_of_lt_of_le
abbrev QV:=@List.mem_append_right
abbrev QW:=@List.getElem?_set
abbrev QX:=@List.take_length
abbrev QY:=@PySem.F.plainAttrs_dict
abbrev QZ:=@Array.getElem?_toList
abbrev Z0:=@List.filter_append
abbrev Z1:=@List.getElem_of_mem
abbrev Z2:=@List.take_append_of_le_length
abbrev Za:=@Nat.ne_of_lt
abbrev Zb:=@Bool.and_eq_true
abbrev Zc:=@Nat.sub_one_lt_of_le
abbrev Zd:=@List.mem_of_mem_take
abbrev Ze:=@Bool.and_eq_true_iff
abbrev Zf:=@List.length_drop
abbrev Zg:=@Int.toNat_natCast
abbrev Zh:=@Nat.lt_of_le_of_ne
abbrev Zi:=@List.take_append_drop
abbrev Zj:=@Array.toList_append
abbrev Zk:=@List.length_set
abbrev Zl:=@Nat.le_of_lt
abbrev Zm:=@List.pairwise_map
abbrev Zn:=@List.nodup_cons
abbrev Zo:=@Nat.max_eq_right
abbrev Zp:=@Bool.eq_false_iff
abbrev Zq:=@List.getElem?_append_right
abbrev Zr:=@Nat.le_of_eq
abbrev Zs:=@Int.ne_of_gt
abbrev Zt:=@List.getElem?_append_left
abbrev Zu:=@List.pairwise_iff_getElem
abbrev Zv:=@List.extract_eq_take_drop
abbrev Zw:=@List.length_singleton
abbrev Zx:=@List.nodup_nil
abbrev Zy:=@PySem.F.slot_list_append
abbrev Zz:=@PySem.F.type_list_append
abbrev ZA:=@PySem.W.kia_one
abbrev ZB:=@List.append_nil
abbrev ZC:=@Int.eq_ofNat_of_zero_le
abbrev ZD:=@List.map_congr_left
abbrev ZE:=@List.length_pos_iff
abbrev ZF:=@List.length_reverse
abbrev ZG:=@List.drop_eq_getElem_cons
abbrev ZH:=@Nat.add_lt_of_lt_sub'
abbrev ZI:=@List.mem_of_mem_eraseIdx
abbrev ZJ:=@List.map_take
abbrev ZL:=@Array.toList_extract
abbrev ZM:=@List.drop_zero
abbrev ZN:=@List.pairwise_singleton
abbrev ZO:=@Nat.le_succ_of_le
abbrev ZP:=@List.flatten_cons
abbrev ZQ:=@Nat.min_eq_left
abbrev ZR:=@List.flatten_append
abbrev ZS:=@Option.map_eq_some_iff
abbrev ZT:=@List.drop_eq_nil_of_le
abbrev ZU:=@Nat.le_succ
abbrev ZV:=@List.getElem_mem
abbrev ZW:=@List.not_mem_nil
abbrev ZX:=@Bool.false_eq_true
abbrev ZY:=@List.length_replicate
abbrev ZZ:=@PySem.F.slot_dict_pop
abbrev X0:=@List.getElem?_eq_none_iff
abbrev X9:=@List.ne_nil_of_length_pos
abbrev Xa:=@Int.le_refl
abbrev Xb:=@Nat.lt_irrefl
abbrev Xc:=@List.eq_of_mem_replicate
abbrev Xd:=@Nat.lt_succ_self
abbrev Xe:=@List.all_eq_true
abbrev Xf:=@Nat.eq_zero_or_pos
abbrev Xg:=@List.getElem?_drop
abbrev Xh:=@List.pairwise_cons
abbrev Xi:=@PySem.W.mg_of
abbrev Xj:=@PySem.W.methodCall_KW
abbrev Xk:=@List.getElem_take
abbrev Xl:=@Bool.false_and
abbrev Xm:=@List.lookup_cons
abbrev Xn:=@List.mem_flatMap
abbrev Xo:=@List.mem_reverse
abbrev Xp:=@Nat.add_le_add_left
abbrev Xq:=@List.mem_map_of_mem
abbrev Xr:=@List.filter_sublist
abbrev Xs:=@Option.isSome_iff_exists
abbrev Xu:=@PySem.F.slot_dict_values
abbrev Xv:=@PySem.F.slot_list_extend
abbrev Xw:=@PySem.F.type_list_extend
abbrev Xx:=@List.find?_cons
abbrev Xy:=@PySem.W.callWith_K
abbrev Xz:=@List.getElem?_take
abbrev XA:=@Nat.pow_succ
abbrev XB:=@Nat.mul_comm
abbrev XC:=@Nat.add_zero
abbrev XD:=@List.getElem_drop
abbrev XE:=@Nat.zero_lt_of_lt
abbrev XF:=@List.filter_eq_nil_iff
abbrev XG:=@List.foldl_append
abbrev XH:=@List.perm_append_comm
abbrev XI:=@PySem.F.type_dict_pop
abbrev XJ:=@List.filter_cons
abbrev XM:=@List.any_cons
abbrev XN:=@List.map_drop
abbrev XO:=@Bool.true_and
abbrev XQ:=@Array.toArray_toList
abbrev XR:=@List.mem_append_left
abbrev XS:=@List.mem_iff_getElem
abbrev XT:=@Array.push_eq_append
abbrev XU:=@List.mem_of_mem_drop
abbrev XV:=@List.length_nil
abbrev XW:=@Int.lt_ediv_add_one_mul_self
abbrev XX:=@Nat.zero_add
abbrev XY:=@Nat.lt_of_le_of_lt
abbrev XZ:=@Nat.pos_of_ne_zero
abbrev V0:=@Array.perm_iff_toList_perm
abbrev V1:=@Int.mul_nonneg
abbrev V2:=@List.take_sublist
abbrev V3:=@Nat.le_pred_of_lt
abbrev V4:=@List.getElem?_take_of_lt
abbrev V5:=@List.sum_cons
abbrev V6:=@List.take_nil
abbrev V7:=@PySem.F.type_dict_values
abbrev V8:=@List.any_eq_true
abbrev V9:=@PySem.F.slot_dict_items
abbrev Va:=@List.getElem?_cons_succ
abbrev Vb:=@List.getElem?_set_self
abbrev Vc:=@Nat.ne_of_gt
abbrev Vd:=@Nat.div_div_eq_div_mul
abbrev Ve:=@List.drop_of_length_le
abbrev Vf:=@Bool.eq_iff_iff
abbrev Vg:=@Option.map_some
abbrev Vh:=@List.getElem?_eq_none
abbrev Vi:=@Int.mul_ediv_add_emod
abbrev Vj:=@Array.getElem_push_lt
abbrev Vk:=@List.pairwise_reverse
abbrev Vl:=@Nat.add_le_add_right
abbrev Vm:=@List.getElem?_append
abbrev Vn:=@List.length_eraseIdx
abbrev Vo:=@List.take_take
abbrev Vp:=@List.filterMap_cons
abbrev Vq:=@PySem.W.plainGet_of
abbrev Vr:=@PySem.W.callWith_K0
abbrev Vs:=@Int.toNat_of_nonneg
abbrev Vt:=@List.take_succ_cons
abbrev Vu:=@Int.natCast_nonneg
abbrev Vv:=@Nat.lt_or_eq_of_le
abbrev Vw:=@List.eraseIdx_append_of_length_le
abbrev Vx:=@List.map_nil
abbrev Vy:=@Option.isSome_map
abbrev Vz:=@Int.mul_comm
abbrev VA:=@Int.le_of_lt
abbrev VB:=@Nat.lt_of_succ_lt
abbrev VC:=@Nat.sub_pos_of_lt
abbrev VD:=@Array.toList_push
abbrev VE:=@Nat.lt_succ_of_lt
abbrev VF:=@List.map_id'
abbrev VG:=@List.filter_congr
abbrev VH:=@List.nodup_append
abbrev VI:=@Bool.not_eq_true'
abbrev VJ:=@List.eraseIdxIfInBounds_toArray
abbrev VL:=@PySem.W.kat_cons
abbrev VM:=@List.mem_flatten
abbrev VN:=@Nat.min_eq_right
abbrev VO:=@Int.mul_le_mul_of_nonneg_right
abbrev VP:=@Nat.add_mul
abbrev VQ:=@Int.mul_le_mul_of_nonneg_left
abbrev VR:=@List.of_mem_zip
abbrev VS:=@List.nil_append
abbrev VT:=@PySem.F.slot_dict_setdefault
abbrev VU:=@Int.ediv_nonneg
abbrev VV:=@PySem.W.kat_yes
abbrev VW:=@List.mem_range
abbrev VX:=@Int.fdiv_eq_ediv_of_nonneg
abbrev VY:=@List.drop_drop
abbrev VZ:=@Nat.sub_le
abbrev W2:=@Array.toList_setIfInBounds
abbrev W3:=@PySem.W.kat_go
abbrev W4:=@PySem.W.kat_no
abbrev W5:=@List.perm_ext_iff_of_nodup
abbrev W6:=@if_neg
abbrev W7:=@if_pos
abbrev W8:=@Option.some.inj
abbrev W9:=@PySem.Heap.get?_push_of_some
abbrev Wa:=@PyProof.Rows.wpS_bind
abbrev Wb:=@absurd
abbrev Wc:=@PyProof.Rows.wpS_pure
abbrev Wd:=@of_decide_eq_true
abbrev We:=@PySem.wpAny_bind
abbrev Wf:=@decide_eq_true
abbrev Wg:=@PySem.Heap.lt_size
abbrev Wi:=@PySem.Heap.get?_push_size
abbrev Wj:=@decide_eq_false
abbrev Wk:=@beq_iff_eq
abbrev Wl:=@PySem.wpAny_pure
abbrev Wm:=@PySem.PassesOwn.never
abbrev Wn:=@decide_eq_true_eq
abbrev Wo:=@beq_eq_false_iff_ne
abbrev Wp:=@True.intro
abbrev Wq:=@PyProof.Rows.wpS_forRange
abbrev Wr:=@congrArg
abbrev Ws:=@List.Pairwise.nil
abbrev Wt:=@PySem.wpAny_truthy_bool
abbrev Wu:=@of_decide_eq_false
abbrev Wv:=@PySem.wpAny_mono
abbrev Ww:=@List.Perm.append_right
abbrev Wx:=@List.Perm.trans
abbrev Wy:=@PyProof.Rows.wpS_modify
abbrev Wz:=@PySem.wpAny_passesOwn
abbrev WA:=@PySem.wpAny_holding
abbrev WB:=@PySem.Heap.get?_none_of_le
abbrev WC:=@List.Perm.of_eq
abbrev WD:=@PySem.wpAny_Call_Name_kw
abbrev WE:=@List.Perm.append_left
abbrev WF:=@beq_self_eq_true
abbrev WG:=@PySem.Heap.get?_update_other
abbrev WH:=@PySem.call_meetsIn
abbrev WI:=@PyProof.Rows.wpS_mono
abbrev WJ:=@PyProof.Rows.wpS_get
abbrev WK:=@PySem.wpAny_rule
abbrev WL:=@Prod.mk.inj
namespace L2
open PySem PySem.Spec PyProof.Rows
noncomputable def aK (s:Stmt) (j:Nat):Stmt:=match s with
 | .ClassDef _ _ _ body _ _ _ _ _ _ _=>body.getD j (.Pass ⟨0,0,0,0⟩)
 |_=> .Pass ⟨0,0,0,0⟩
noncomputable def iQ (s:Stmt):Arguments:=match s with
 | .FunctionDef _ a _ _ _ _ _ _ _ _=>a
 |_=>{posonlyargs:=[],args:=[],vararg:=none,kwonlyargs:=[],kw_defaults:=[],kwarg:=none,defaults:=[]}
noncomputable def eO (s:Stmt):List Stmt:=match s with
 | .FunctionDef _ _ b _ _ _ _ _ _ _=>b
 |_=> []
noncomputable def al (s:Stmt):Scope:=match s with
 | .FunctionDef _ _ _ _ _ _ sc _ _ _=>sc
 |_=>{kind:= .function,names:=[],isGenerator:=false,isCoroutine:=false}
end L2
namespace HD
open PySem PySem.W
noncomputable def KC (p:Program) (w:World) (n₀:Nat) (ann:Option Value):Nat->SharedT->Thread->Option SharedT
 |0,_,_=>none
 |n+1,s,t=>match through t with
  |true=>some s
  |false=>match Fast.tw6613529449190102663 n₀ ann t with
   |false=>none
   |true=>match Fast.tw10156331382660048174 (Fast.tw11892475500146522536 Fast.tw14364793385576792824) p w s t with
    |some (s',t')=>KC p w n₀ ann n s' t'
    |none=>none
def E1 {p:Program} {w:World} {z:Nat} {G:Option Value}:∀{n:Nat} {s s':SharedT} {t:Thread},KC p w z G n s t=some s'->topRun treeTable p w z G n s.abs t=some s'.abs
 |0,_,_,_,h=>by cases h
 |n+1,s,s',t,h=>by
  unfold KC at h;rw[<-Fast.te6613529449190102663,<-Fast.te10156331382660048174,<-Fast.te11892475500146522536,<-Fast.te14364793385576792824]at h;unfold topRun;cases I:through t with
  |true=>rw[I]at h;cases h;rfl
  |false=>
   rw[I]at h;cases hk:stepOk z G t with
   |false=>rw[hk]at h;cases h
   |true=>
    rw[hk]at h;cases hs:stepT (denote treeTable) p w s t with
    |none=>rw[hs]at h;cases h
    |some x=>
     obtain⟨O,U⟩:=x;rw[hs]at h;show(match step (denote treeTable) p w s.abs t with| .go s' t'=>topRun treeTable p w z G n s' t'| .halt _ _=>none)=_;rw[stepT_spec hs];exact E1 h
noncomputable def IL:List Obj->BT->Nat->Option (BT×Nat)
 | [],t,n=>some (t,n)
 |o::r,t,n=>match ((t.ins n o).get n).isSome with
  |true=>IL r (t.ins n o) (n+1)
  |false=>none
def Fh {z:Life}:∀{l:List Obj} {t t':BT} {n n':Nat},IL l t n=some (t',n')->absHeap t' n' z=⟨(absHeap t n z).objs++l.toArray,z⟩
 | [],t,t',n,n',h=>by
  cases h;rw[Array.append_empty];rfl
 |o::r,t,t',n,n',h=>by
  unfold IL at h;cases g:((t.ins n o).get n).isSome with
  |false=>rw[g]at h;cases h
  |true=>
   rw[g]at h;rw[Fh h,absHeap_ins g];show Heap.mk _ _=Heap.mk _ _;congr 1;show(absHeap t n z).objs.push o++r.toArray=_;rw[<-Array.append_singleton,Array.append_assoc];congr 1;simp
def toT (s:Shared):Option SharedT:=match IL s.heap.objs.toList .nil 0 with
 |some (t,n)=>some ⟨t,n,s.heap.life,s.gens,s.drawn,s.toks,s.os⟩
 |none=>none
def My {s:Shared} {S:SharedT} (h:toT s=some S):S.abs=s:=by
 unfold toT at h;cases e:IL s.heap.objs.toList .nil 0 with
 |none=>rw[e]at h;cases h
 |some x=>
  obtain⟨t,n⟩:=x;rw[e]at h;cases h;obtain⟨⟨G,z⟩,gens,drawn,toks,os⟩:=s;show Shared.mk (absHeap t n z) _ _ _ _=_;rw[Fh e];show Shared.mk (Heap.mk (#[]++G.toList.toArray) z) _ _ _ _=_;rw[XQ,Array.empty_append]
def Nz (p:Program) (w:World) (N:Nat) (s₀:Shared):Option Shared:=match toT s₀ with
 |some S=>(KC p w S.n (s₀.heap.nsMap mainGlobals "__annotations__") N S<|topStub p).map SharedT.abs
 |none=>none
def Ll {p:Program} {w:World} {N:Nat} {s₀ s₁:Shared} (h:Nz p w N s₀=some s₁):topRun treeTable p w s₀.heap.objs.size (s₀.heap.nsMap mainGlobals "__annotations__") N s₀ (topStub p)=some s₁:=by
 unfold Nz at h;cases e:toT s₀ with
 |none=>rw[e]at h;cases h
 |some S=>
  rw[e]at h;obtain⟨I,h1,rfl⟩:=ZS.mp h;have z:=My e;have G:S.n=s₀.heap.objs.size:=by
   rw[<-z];exact(absHeap_size _ _ _).symm
  rw[G]at h1;have:=E1 h1;rw[z]at this;exact this
def endP (p:Program) (w:World) (N:Nat):Option Shared:=((Fast.tw10274390034422433532 Fast.tw14364793385576792824 (opening p) w N (start<|opening p).1 (start<|opening p).2).bind<|Fast.tw14289696077712309145 p).bind λs₀=>match s₀.heap.isNs mainGlobals&&s₀.gens.size==0 with
 |true=>(Nz p w N s₀).bind λs₁=>match staticsOk (importedModules p.main.body) s₀.heap s₁.heap&&namesBound p s₁.heap&&gensDone s₁&&laidKept s₀.heap s₁.heap with
  |true=>some s₁
  |false=>none
 |false=>none
def lA (p q:Program) (N:Nat) (w:World):=(endP p w N).map λs=>(Fast.tw5160383126252970620 (R.mapR (λx=>x.name)<|Fast.tw3399658132070893891 q) (Fast.tw5991557255702980513 q) [] {s with gens:= #[]},s.heap.bltView)
def lB (p q:Program) (loose:List Str) (Xt:Shared->Bool) (N:Nat) (w:World):=(endP p w N).map λs=>(Fast.tw10880121769531294198 s.heap (Fast.tw821141287760084731 q loose) (R.mapR (λx=>x.name)<|Fast.tw3399658132070893891 q) (R.mapR (λx=>x.fst)<|Fast.tw7409074990110511671 q) (R.mapR (λx=>x.name)<|Fast.tw13664370479719496447 q<|Fast.tw821141287760084731 q loose)&&Fast.tw14722251495701143533 s.heap (importedModules p.main.body)&&s.heap.isNs mainGlobals&&s.heap.isNs builtinsNs&&Fast.tw10994771534591457954 q s.heap&&Xt s&&(s.gens.size==0),Fast.tw479339242167458305 q s)
def lC (p q:Program) (loose:List Str) (N:Nat) (w:World):=(endP p w N).map λs=>(Fast.tw16090120013241838585 q (Fast.tw3247288618530077131 q) s,Fast.tw2386780881361962483 q (Fast.tw821141287760084731 q loose) s,Fast.tw11698064438423848299 q loose s,Fast.tw7317090234206586261 q s,Fast.tw7369524293546568484 q loose s)
def left_of {p q:Program} {loose:List Str} {Xt:Shared->Bool} {α:Type} {Yf:Shared->α} {Ya:World->α} {N:Nat} (O:∀w,lA p q N w=some ((openGood q loose).1,(openGood q loose).2.1)) (U:∀w,lB p q loose Xt N w=some (true,true)) (Y:∀w,lC p q loose N w=some (openGood q loose).2.2.2.2) (hD:∀w,(endP p w N).map Yf=some (Ya w)):LeftO p q loose Xt Yf Ya N:=λw=>by
 obtain⟨s₁,e,a⟩:=ZS.mp (O w);obtain⟨_,e2,b⟩:=ZS.mp (U w);rw[e]at e2;cases e2;obtain⟨_,z,c⟩:=ZS.mp (Y w);rw[e]at z;cases z;obtain⟨_,G,d⟩:=ZS.mp (hD w);rw[e]at G;cases G;obtain⟨Z,a2⟩:=WL a;obtain⟨b1,b2⟩:=WL b;have g:Fast.tw4187177175401517315 q loose (importedModules p.main.body) Xt true s₁=openGood q loose:=by
  exact Prod.ext Z<|Prod.ext a2 (Prod.ext b1<|Prod.ext b2 c)
 rw[<-Fast.te4187177175401517315]at g;unfold endP at e;rw[<-Fast.te10274390034422433532,<-Fast.te14364793385576792824,<-Fast.te14289696077712309145]at e;obtain⟨s₀,h0,e⟩:=Option.bind_eq_some_iff.mp e;unfold openEnds fencedOpening;rw[h0];show(topFrom treeTable p w N s₀).map _=_;unfold topFrom;cases I:(s₀.heap.isNs mainGlobals&&s₀.gens.size==0)with
 |false=>rw[I]at e;cases e
 |true=>
  rw[I]at e;obtain⟨s₂,h1,e⟩:=Option.bind_eq_some_iff.mp e;show Option.map _ ((topRun treeTable p w s₀.heap.objs.size (s₀.heap.nsMap mainGlobals "__annotations__") N s₀<|topStub p).bind _)=_;rw[Ll h1];cases hs:(staticsOk (importedModules p.main.body) s₀.heap s₂.heap&&namesBound p s₂.heap&&gensDone s₂&&laidKept s₀.heap s₂.heap)with
  |false=>rw[hs]at e;cases e
  |true=>
   rw[hs]at e;cases e;show Option.map _ (match (staticsOk (importedModules p.main.body) s₀.heap s₁.heap&&namesBound p s₁.heap&&gensDone s₁&&laidKept s₀.heap s₁.heap)with|true=>some s₁|false=>none)=_;rw[hs];show some (_,_)=some (_,_);rw[g,d]
end HD
namespace SW
open PySem L2
set_option maxHeartbeats 0
noncomputable def top (i:Nat):Stmt:=PySem.Challenge.pw_staywalk_k55_stopped_and_gone_on.main.body.getD i (.Pass ⟨0,0,0,0⟩)
abbrev qo:=aK (top 5) 0
abbrev qm:=aK (top 6) 0
abbrev oj:=aK (top 7) 0
abbrev kL:=aK (top 8) 0
abbrev xn:=top 12
abbrev uy:=top 13
abbrev rh:=top 14
abbrev uw:=top 15
abbrev lG:=top 16
abbrev ux:=top 17
abbrev rj:=top 19
abbrev uA:=top 21
abbrev uv:=top 22
abbrev jV:=aK (top 23) 0
abbrev i9:=aK (top 23) 1
abbrev ii:=aK (top 24) 0
abbrev gv:=aK (top 24) 1
abbrev rp:=aK (top 25) 0
abbrev oi:=aK (top 25) 1
abbrev lX:=aK (top 26) 0
abbrev j7:=aK (top 26) 1
abbrev HM:=top 29
abbrev hV:=top 30
abbrev fv:=top 31
abbrev fw:=top 32
abbrev n8:=top 33
abbrev i4:=top 34
abbrev uz:=top 36
abbrev xo:=top 37
abbrev lU:=aK (top 38) 0
abbrev lT:=aK (top 38) 1
abbrev gp:=aK (top 38) 2
abbrev hZ:=aK (top 38) 3
abbrev jf:=aK (top 39) 0
abbrev dW:=aK (top 39) 1
abbrev dU:=aK (top 39) 2
abbrev dB:=aK (top 39) 3
abbrev gr:=aK (top 39) 4
abbrev cZ:=aK (top 39) 5
abbrev cI:=aK (top 39) 6
abbrev jg:=aK (top 39) 7
abbrev gu:=aK (top 39) 8
abbrev ig:=aK (top 39) 9
abbrev je:=aK (top 39) 10
abbrev ie:=aK (top 39) 11
abbrev fG:=aK (top 39) 12
abbrev jc:=aK (top 43) 0
abbrev gO:=aK (top 43) 1
abbrev fE:=aK (top 43) 2
abbrev j3:=aK (top 43) 3
abbrev ot:=aK (top 43) 4
abbrev c8:=aK (top 43) 6
abbrev cE:=aK (top 43) 7
abbrev fB:=aK (top 43) 8
abbrev dS:=aK (top 43) 9
abbrev dA:=aK (top 43) 10
abbrev j2:=aK (top 45) 0
abbrev jZ:=aK (top 45) 1
abbrev jI:=top 49
abbrev jX:=aK (top 50) 0
abbrev lP:=aK (top 50) 1
abbrev jY:=aK (top 50) 2
abbrev lR:=aK (top 50) 3
abbrev lQ:=aK (top 50) 4
abbrev gN:=aK (top 50) 6
abbrev oo:=aK (top 50) 7
abbrev eC:=aK (top 50) 9
abbrev jW:=aK (top 50) 10
abbrev gl:=aK (top 50) 11
abbrev fA:=aK (top 50) 12
abbrev eP:=aK (top 50) 13
abbrev eQ:=aK (top 50) 14
abbrev j4:=aK (top 52) 0
abbrev lV:=aK (top 52) 1
abbrev j5:=aK (top 52) 2
abbrev lW:=aK (top 52) 3
abbrev sw:=aK (top 52) 4
abbrev fF:=aK (top 52) 6
abbrev jd:=aK (top 52) 7
abbrev qp:=aK (top 52) 11
abbrev j6:=aK (top 52) 15
abbrev i8:=top 54
abbrev lM:=top 55
abbrev lK:=top 56
abbrev i5:=top 57
abbrev oh:=top 58
abbrev lN:=top 59
abbrev dR:=top 60
abbrev i6:=top 61
abbrev lI:=top 62
abbrev lO:=top 63
abbrev i7:=top 64
abbrev lJ:=top 65
abbrev hX:=top 66
abbrev lH:=top 67
abbrev lL:=top 68
abbrev oe:=top 69
abbrev HL:=top 70
set_option genInjectivity false in
structure P5 where
 Dv:Addr
 yd:FuncData
 AJ:Addr
 uX:FuncData
 yj:Addr
 rK:FuncData
 AH:Addr
 uV:FuncData
 tG:Addr
 mB:FuncData
 AI:Addr
 uW:FuncData
 yk:Addr
 rL:FuncData
 AL:Addr
 uZ:FuncData
 AG:Addr
 uU:FuncData
 kI:Addr
 kj:FuncData
 dJ:Addr
 jx:FuncData
 nC:Addr
 cW:FuncData
 lw:Addr
 gL:FuncData
 yp:Addr
 jw:FuncData
 vt:Addr
 oY:FuncData
 tW:Addr
 fZ:FuncData
 qR:Addr
 kG:FuncData
 Mm:Addr
 Dk:FuncData
 m9:Addr
 iu:FuncData
 pC:Addr
 jr:FuncData
 pD:Addr
 js:FuncData
 vn:Addr
 oU:FuncData
 pB:Addr
 jq:FuncData
 AK:Addr
 uY:FuncData
 Dx:Addr
 ye:FuncData
 tT:Addr
 mP:FuncData
 tS:Addr
 mO:FuncData
 lh:Addr
 gI:FuncData
 nu:Addr
 iy:FuncData
 pK:Addr
 f8:FuncData
 iI:Addr
 d9:FuncData
 iH:Addr
 cG:FuncData
 hJ:Addr
 dI:FuncData
 lq:Addr
 gJ:FuncData
 gj:Addr
 c4:FuncData
 fc:Addr
 cO:FuncData
 pL:Addr
 jA:FuncData
 lu:Addr
 gK:FuncData
 nB:Addr
 iA:FuncData
 pJ:Addr
 jz:FuncData
 nz:Addr
 iz:FuncData
 jS:Addr
 f7:FuncData
 pH:Addr
 jy:FuncData
 qN:Addr
 kC:FuncData
 jQ:Addr
 fW:FuncData
 qM:Addr
 kB:FuncData
 jP:Addr
 fV:FuncData
 iG:Addr
 d8:FuncData
 jO:Addr
 fS:FuncData
 iF:Addr
 d6:FuncData
 g9:Addr
 dH:FuncData
 qL:Addr
 kA:FuncData
 qK:Addr
 kx:FuncData
 vo:Addr
 oV:FuncData
 qI:Addr
 kt:FuncData
 tP:Addr
 mL:FuncData
 qJ:Addr
 ku:FuncData
 tR:Addr
 mN:FuncData
 tQ:Addr
 mM:FuncData
 qH:Addr
 kr:FuncData
 qG:Addr
 kq:FuncData
 qF:Addr
 ko:FuncData
 lg:Addr
 gH:FuncData
 jN:Addr
 fR:FuncData
 jD:Addr
 eT:FuncData
 jE:Addr
 eU:FuncData
 qO:Addr
 kD:FuncData
 tU:Addr
 mQ:FuncData
 qP:Addr
 kE:FuncData
 tV:Addr
 mR:FuncData
 jR:Addr
 fX:FuncData
 pI:Addr
 fY:FuncData
 qQ:Addr
 kF:FuncData
 pG:Addr
 jv:FuncData
 tM:Addr
 mH:FuncData
 tK:Addr
 mF:FuncData
 yo:Addr
 rM:FuncData
 vq:Addr
 oX:FuncData
 tN:Addr
 mJ:FuncData
 iE:Addr
 dZ:FuncData
 pE:Addr
 jt:FuncData
 tI:Addr
 mD:FuncData
 tO:Addr
 mK:FuncData
 pF:Addr
 ju:FuncData
 tJ:Addr
 mE:FuncData
 ni:Addr
 iw:FuncData
 tH:Addr
 mC:FuncData
 tL:Addr
 mG:FuncData
 vp:Addr
 oW:FuncData
 Ml:Addr
 Fx:FuncData
 cz:Addr
 p8:Addr
 gS:Addr
 aV:Addr
 dQ:Addr
 cr:Addr
 bR:Addr
 aU:Addr
 bI:Addr
 gT:Addr
 aZ:Addr
 bf:Addr
end SW
namespace ZK
open PySem PySem.W SW L2
noncomputable abbrev N:Value:= .none
noncomputable abbrev WM (b:Bool):Value:= .bool b
noncomputable abbrev I (i:Int):Value:= .int i 0
noncomputable abbrev S (x:Str) (t:Nat):Value:= .str x t
noncomputable abbrev F (t:Nat):Value:= .str "/claim/cut.py" t
noncomputable abbrev R (a:Addr):Value:= .ref a
noncomputable abbrev T (n:String):Value:= .type n
noncomputable abbrev E (P:Params) (x:Str) (t:Nat) (v:Value):DictEntry:=⟨PyData.keyHash P x,.str x t,v⟩
noncomputable abbrev c (vs:List Value):Obj:=⟨.type "code",none,.fields vs.toArray, #[]⟩
abbrev o (n:Str) (a:Nat) (m:Str) (b d:Nat) (e g h i j:Int) (k:Addr) (l:Int) (r s t u:Addr) (v w:Int) (x:Nat):Obj:=c [S n a,S m b,F d,I e,I g,I h,I i,I j,R k,WM true,I l,R r,N,R s,R t,R u,I v,I w,F x]
abbrev D (nm qn:Str) (s:Stmt) (df kV dc pm:Value) (an:Option Addr) (cd ct:Value):FuncData:=fnOf nm qn (iQ s) (eO s) (al s) df kV dc pm an cd ct
noncomputable abbrev f (d:FuncData):Obj:=⟨.type "function",none,.func d, #[]⟩
abbrev d10:=λx q s r=>D x q s N N N (S "law_staywalk_k55_stopped_and_gone_on" 1350) none (R r) N
abbrev d11:=λx q s r=>D x q s N N N (S "staywalk.asks" 570) none (R r) N
abbrev d12:=λx q s r=>D x q s N N N (S "staywalk.bits" 346) none (R r) N
abbrev d13:=λx q s r=>D x q s N N N (S "staywalk.copier" 623) none (R r) N
abbrev d14:=λx q s r=>D x q s N N N (S "staywalk.house" 1173) none (R r) N
abbrev d15:=λx q s r=>D x q s N N N (S "staywalk.leaves" 834) none (R r) N
abbrev d16:=λx q s r=>D x q s N N N (S "staywalk.makes" 947) none (R r) N
abbrev d17:=λx q s r=>D x q s N N N (S "staywalk.slots" 1010) none (R r) N
abbrev d18:=λx q s r=>D x q s N N N (S "staywalk.tokens" 410) none (R r) N
def t:P5:=⟨141,d12 "turned" "turned" xn 140,148,d12 "mark_of" "mark_of" uy 147,155,d12 "place_of" "place_of" rh 154,162,d12 "slot_of" "slot_of" uw 161,169,d12 "stretch_of" "stretch_of" lG 168,176,d12 "slot_at" "slot_at" ux 175,183,D "is_whole" "is_whole" rj N N N (S "staywalk.wholes" 401) none (R 182) N,190,d18 "is_from" "is_from" uA 189,197,d18 "word_of" "word_of" uv 196,211,d18 "__init__" "Token.__init__" jV 210,218,d18 "words" "Token.words" i9 217,240,D "__init__" "BySlots.__init__" ii (R 233) N N (S "staywalk.tokens" 410) none (R 239) N,247,d18 "holds" "BySlots.holds" gv 246,267,D "__init__" "Up.__init__" rp (R 260) N N (S "staywalk.tokens" 410) none (R 266) N,274,d18 "holds" "Up.holds" oi 273,294,D "__init__" "Down.__init__" lX (R 287) N N (S "staywalk.tokens" 410) none (R 293) N,301,d18 "holds" "Down.holds" j7 300,312,D "ask" "ask" HM (R 307) N N (S "staywalk.asks" 570) none (R 311) N,319,d11 "page_by_slots" "page_by_slots" hV 318,324,d11 "page_by_keys" "page_by_keys" fv 323,329,d11 "keys_of_page" "keys_of_page" fw 328,336,d11 "keys_near" "keys_near" n8 335,343,d11 "token_behind" "token_behind" i4 342,350,d13 "is_left" "is_left" uz 349,357,d13 "change" "change" xo 356,371,d13 "__init__" "Page.__init__" lU 370,378,d13 "read" "Page.read" lT 377,385,d13 "in_piece" "Page.in_piece" gp 384,392,d13 "outcome" "Page.outcome" hZ 391,414,D "__init__" "Copier.__init__" jf (R 407) N N (S "staywalk.copier" 623) none (R 413) N,421,d13 "open_page" "Copier.open_page" dW 420,429,D "read_page" "Copier.read_page" dU (R 422) N N (S "staywalk.copier" 623) none (R 428) N,436,d13 "close_page" "Copier.close_page" dB 435,443,d13 "follow" "Copier.follow" gr 442,450,d13 "follow_mark" "Copier.follow_mark" cZ 449,457,d13 "follow_change" "Copier.follow_change" cI 456,464,d13 "copy" "Copier.copy" jg 463,471,d13 "covers" "Copier.covers" gu 470,478,d13 "place" "Copier.place" ig 477,485,d13 "left" "Copier.left" je 484,492,d13 "total" "Copier.total" ie 491,499,d13 "stopped" "Copier.stopped" fG 498,520,d15 "__init__" "Leaves.__init__" jc 519,525,d15 "add" "Leaves.add" gO 524,532,d15 "discard" "Leaves.discard" fE 531,539,d15 "has" "Leaves.has" j3 538,556,d15 "from_on" "Leaves.from_on" c8 555,561,d15 "down_from" "Leaves.down_from" cE 560,568,d15 "leaf_of" "Leaves.leaf_of" fB 567,575,d15 "part_leaf" "Leaves.part_leaf" dS 574,582,d15 "join_small" "Leaves.join_small" dA 581,603,d16 "__init__" "Makes.__init__" j2 602,610,d16 "note" "Makes.note" jZ 609,643,d17 "empty_row" "empty_row" jI 642,657,d17 "__init__" "Slots.__init__" jX 656,664,d17 "put" "Slots.put" lP 663,671,d17 "drop" "Slots.drop" jY 670,678,d17 "get" "Slots.get" lR 677,685,d17 "has" "Slots.has" lQ 684,697,d17 "rows" "Slots.rows" gN 696,716,d17 "span" "Slots.span" eC 715,723,d17 "stop" "Slots.stop" jW 722,730,d17 "cell_of" "Slots.cell_of" gl 729,737,d17 "lying_at" "Slots.lying_at" fA 736,744,d17 "move_slot" "Slots.move_slot" eP 743,751,d17 "begin_row" "Slots.begin_row" eQ 750,772,d14 "__init__" "House.__init__" j4 771,779,d14 "put" "House.put" lV 778,786,d14 "drop" "House.drop" j5 785,793,d14 "get" "House.get" lW 792,814,d14 "lay_mark" "House.lay_mark" fF 813,822,D "diary" "House.diary" jd (R 815) N N (S "staywalk.house" 1173) none (R 821) N,879,d14 "done" "House.done" j6 878,907,d10 "_law_cell_at" "_law_cell_at" i8 906,914,d10 "_law_mixed" "_law_mixed" lM 913,921,d10 "_law_place" "_law_place" lK 920,926,d10 "_law_run" "_law_run" i5 925,933,d10 "_law_deed" "_law_deed" oh 932,940,d10 "_law_house" "_law_house" lN 939,947,d10 "_law_numbers_told" "_law_numbers_told" dR 946,954,d10 "_law_numbers" "_law_numbers" i6 953,961,d10 "_law_token" "_law_token" lI 960,968,d10 "_law_holds" "_law_holds" lO 967,975,d10 "_law_covered" "_law_covered" i7 974,982,d10 "_law_table" "_law_table" lJ 981,989,d10 "_law_is_right" "_law_is_right" hX 988,996,d10 "_law_words" "_law_words" lH 995,1003,d10 "_law_pages" "_law_pages" lL 1002,1010,d10 "_law_half" "_law_half" oe 1009,1017,d10 "law" "law" HL 1016,31,44,221,250,277,304,395,502,585,634,754,896⟩
def K:Params->Frag:=λP=>(nat_lit 2,⟨N,none,.dict #[] 0, #[]⟩)::
(nat_lit 3,⟨(T "dict"),none,.dict #[E P "__name__" 165 (S "law_staywalk_k55_stopped_and_gone_on" 1350),E P "__doc__" 166 N,E P "__package__" 167 N,E P "__loader__" 168 (.builtin "__main__.__loader__#opaque"),E P "__spec__" 169 N,E P "__annotations__" 170 (R 6),E P "__builtins__" 171 (R 4),E P "__file__" 173 (S "/claim/cut.py" 172),E P "__cached__" 174 N,E P "_wall" 193 (R 21),E P "WalkError" 213 (R 31),E P "NoToken" 229 (R 44),E P "OutOfTurn" 245 (R 56),E P "NoKey" 270 (R 75),E P "Twice" 295 (R 94),E P "TooOld" 320 (R 113),E P "NoMoment" 345 (R 132),E P "BITS" 349 (.int 16 348),E P "PLACES" 351 (.int 65536 350),E P "turned" 361 (R 141),E P "mark_of" 368 (R 148),E P "place_of" 375 (R 155),E P "slot_of" 383 (R 162),E P "stretch_of" 392 (R 169),E P "slot_at" 400 (R 176),E P "is_whole" 409 (R 183),E P "is_from" 419 (R 190),E P "word_of" 426 (R 197),E P "Token" 466 (R 221),E P "BySlots" 501 (R 250),E P "Up" 535 (R 277),E P "Down" 569 (R 304),E P "STRETCHES_A_KEY" 573 (.int 4 572),E P "ask" 580 (R 312),E P "page_by_slots" 593 (R 319),E P "page_by_keys" 599 (R 324),E P "keys_of_page" 605 (R 329),E P "keys_near" 614 (R 336),E P "token_behind" 622 (R 343),E P "is_left" 632 (R 350),E P "change" 640 (R 357),E P "Page" 700 (R 395),E P "Copier" 833 (R 502),E P "MOST_IN_LEAF" 837 (.int 8 836),E P "LEAST_IN_TWO" 839 (.int 5 838),E P "Leaves" 946 (R 585),E P "Makes" 1009 (R 634),E P "LEAST_SIZE" 1013 (.int 4 1012),E P "GREATEST_SIZE" 1015 (.int 256 1014),E P "empty_row" 1021 (R 643),E P "Slots" 1172 (R 754),E P "House" 1349 (R 896),E P "_law_cell_at" 1359 (R 907),E P "_law_mixed" 1368 (R 914),E P "_law_place" 1376 (R 921),E P "_law_run" 1382 (R 926),E P "_law_deed" 1394 (R 933),E P "_law_house" 1404 (R 940),E P "_law_numbers_told" 1414 (R 947),E P "_law_numbers" 1426 (R 954),E P "_law_token" 1433 (R 961),E P "_law_holds" 1444 (R 968),E P "_law_covered" 1453 (R 975),E P "_law_table" 1462 (R 982),E P "_law_is_right" 1478 (R 989),E P "_law_words" 1485 (R 996),E P "_law_pages" 1497 (R 1003),E P "_law_half" 1508 (R 1010),E P "law" 1526 (R 1017)] 69, #[]⟩)::
(nat_lit 30,⟨(T "dict"),none,.dict #[E P "__module__" 203 (S "staywalk.errors" 194),E P "__firstlineno__" 207 (.int 5 206),E P "__static_attributes__" 208 (R 29),E P "__weakref__" 210 (R 32),E P "__doc__" 211 N] 3, #[]⟩)::
(nat_lit 31,⟨(T "type"),none,.cls ⟨"WalkError",[(T "ValueError")],[(R 31),(T "ValueError"),(T "Exception"),(T "BaseException"),(T "object")],30,"WalkError",true,[],[(R 44),(R 56),(R 75),(R 94),(R 113),(R 132)],false,none,false⟩, #[some (R 22),none,some (S "WalkError" 196),some (S "WalkError" 204),some (.builtin "ValueError.__new__"),some (WM true)]⟩)::
(nat_lit 43,⟨(T "dict"),none,.dict #[E P "__module__" 221 (S "staywalk.errors" 194),E P "__firstlineno__" 225 (.int 7 224),E P "__static_attributes__" 226 (R 42),E P "__doc__" 227 N] 2, #[]⟩)::
(nat_lit 44,⟨(T "type"),none,.cls ⟨"NoToken",[(R 31)],[(R 44),(R 31),(T "ValueError"),(T "Exception"),(T "BaseException"),(T "object")],43,"NoToken",true,[],[],false,none,false⟩, #[some (R 35),none,some (S "NoToken" 214),some (S "NoToken" 222),some (.builtin "ValueError.__new__"),some (WM true)]⟩)::
(nat_lit 140,o "turned" 352 "turned" 353 354 34 1 0 0 3 135 181 136 137 138 139 359 34 360)::
(nat_lit 141,f t.yd)::
(nat_lit 147,o "mark_of" 362 "mark_of" 363 364 41 1 0 0 3 142 181 143 144 145 146 366 41 367)::
(nat_lit 148,f t.uX)::
(nat_lit 154,o "place_of" 369 "place_of" 370 371 43 1 0 0 3 149 181 150 151 152 153 373 43 374)::
(nat_lit 155,f t.rK)::
(nat_lit 161,o "slot_of" 376 "slot_of" 377 378 45 2 0 0 3 156 181 157 158 159 160 381 45 382)::
(nat_lit 162,f t.uV)::
(nat_lit 168,o "stretch_of" 384 "stretch_of" 385 386 47 2 0 0 3 163 181 164 165 166 167 390 47 391)::
(nat_lit 169,f t.mB)::
(nat_lit 175,o "slot_at" 393 "slot_at" 394 395 50 2 0 0 3 170 181 171 172 173 174 398 50 399)::
(nat_lit 176,f t.uW)::
(nat_lit 182,o "is_whole" 403 "is_whole" 404 405 53 1 0 0 3 177 181 178 179 180 181 407 53 408)::
(nat_lit 183,f t.rL)::
(nat_lit 189,o "is_from" 412 "is_from" 413 414 56 2 0 0 3 184 181 185 186 187 188 417 56 418)::
(nat_lit 190,f t.uZ)::
(nat_lit 196,o "word_of" 420 "word_of" 421 422 58 1 0 0 3 191 181 192 193 194 195 424 58 425)::
(nat_lit 197,f t.uU)::
(nat_lit 210,o "__init__" 439 "Token.__init__" 440 441 62 4 0 0 3 205 181 206 207 208 209 446 62 447)::
(nat_lit 211,f t.kj)::
(nat_lit 217,o "words" 449 "Token.words" 450 451 67 1 0 0 3 212 181 213 214 215 216 453 67 454)::
(nat_lit 218,f t.jx)::
(nat_lit 220,⟨(T "dict"),none,.dict #[E P "__module__" 434 (S "staywalk.tokens" 410),E P "__firstlineno__" 438 (.int 60 437),E P "__init__" 448 (R 211),E P "words" 455 (R 218),E P "__static_attributes__" 459 (R 219),E P "__dict__" 461 (R 222),E P "__weakref__" 463 (R 223),E P "__doc__" 464 N] 4, #[]⟩)::
(nat_lit 221,⟨(T "type"),none,.cls ⟨"Token",[(T "object")],[(R 221),(T "object")],220,"Token",true,[],[(R 250),(R 277),(R 304)],false,none,false⟩, #[none,none,some (S "Token" 427),some (S "Token" 435),some (.builtin "object.__new__"),some (WM true)]⟩)::
(nat_lit 233,⟨(T "tuple"),none,.seq #[(.int 0 479),(.int 65536 480)] 0, #[]⟩)::
(nat_lit 239,o "__init__" 481 "BySlots.__init__" 482 483 71 3 0 0 3 234 181 235 236 237 238 487 71 488)::
(nat_lit 240,f t.cW)::
(nat_lit 246,o "holds" 490 "BySlots.holds" 491 492 76 2 0 0 3 241 181 242 243 244 245 495 76 496)::
(nat_lit 247,f t.gL)::
(nat_lit 249,⟨(T "dict"),none,.dict #[E P "__module__" 474 (S "staywalk.tokens" 410),E P "__firstlineno__" 478 (.int 69 477),E P "__init__" 489 (R 240),E P "holds" 497 (R 247),E P "__static_attributes__" 498 (R 248),E P "__doc__" 499 N] 2, #[]⟩)::
(nat_lit 250,⟨(T "type"),none,.cls ⟨"BySlots",[(R 221)],[(R 250),(R 221),(T "object")],249,"BySlots",true,[],[],false,none,false⟩, #[some (R 226),none,some (S "BySlots" 467),some (S "BySlots" 475),some (.builtin "object.__new__"),some (WM true)]⟩)::
(nat_lit 260,⟨(T "tuple"),none,.seq #[(.int 0 514),N] 0, #[]⟩)::
(nat_lit 266,o "__init__" 515 "Up.__init__" 516 517 80 3 0 0 3 261 181 262 263 264 265 521 80 522)::
(nat_lit 267,f t.jw)::
(nat_lit 273,o "holds" 524 "Up.holds" 525 526 85 2 0 0 3 268 181 269 270 271 272 529 85 530)::
(nat_lit 274,f t.oY)::
(nat_lit 276,⟨(T "dict"),none,.dict #[E P "__module__" 509 (S "staywalk.tokens" 410),E P "__firstlineno__" 513 (.int 78 512),E P "__init__" 523 (R 267),E P "holds" 531 (R 274),E P "__static_attributes__" 532 (R 275),E P "__doc__" 533 N] 2, #[]⟩)::
(nat_lit 277,⟨(T "type"),none,.cls ⟨"Up",[(R 221)],[(R 277),(R 221),(T "object")],276,"Up",true,[],[],false,none,false⟩, #[some (R 253),none,some (S "Up" 502),some (S "Up" 510),some (.builtin "object.__new__"),some (WM true)]⟩)::
(nat_lit 287,⟨(T "tuple"),none,.seq #[N,(.int 0 548)] 0, #[]⟩)::
(nat_lit 293,o "__init__" 549 "Down.__init__" 550 551 89 3 0 0 3 288 181 289 290 291 292 555 89 556)::
(nat_lit 294,f t.fZ)::
(nat_lit 300,o "holds" 558 "Down.holds" 559 560 94 2 0 0 3 295 181 296 297 298 299 563 94 564)::
(nat_lit 301,f t.kG)::
(nat_lit 303,⟨(T "dict"),none,.dict #[E P "__module__" 543 (S "staywalk.tokens" 410),E P "__firstlineno__" 547 (.int 87 546),E P "__init__" 557 (R 294),E P "holds" 565 (R 301),E P "__static_attributes__" 566 (R 302),E P "__doc__" 567 N] 2, #[]⟩)::
(nat_lit 304,⟨(T "type"),none,.cls ⟨"Down",[(R 221)],[(R 304),(R 221),(T "object")],303,"Down",true,[],[],false,none,false⟩, #[some (R 280),none,some (S "Down" 536),some (S "Down" 544),some (.builtin "object.__new__"),some (WM true)]⟩)::
(nat_lit 307,⟨(T "tuple"),none,.seq #[(.int 10 574),N] 0, #[]⟩)::
(nat_lit 311,c [(S "ask" 575),(S "ask" 576),(F 577),(I 98),(I 4),(I 0),(I 0),(I 3),(R 308),(WM true),(I 181),(R 309),N,N,N,(R 310),(I 578),(I 98),(F 579)])::
(nat_lit 312,f t.Dk)::
(nat_lit 318,o "page_by_slots" 581 "page_by_slots" 582 583 106 3 0 0 3 313 181 314 315 316 317 591 106 592)::
(nat_lit 319,f t.iu)::
(nat_lit 323,c [(S "page_by_keys" 594),(S "page_by_keys" 595),(F 596),(I 120),(I 3),(I 0),(I 0),(I 3),(R 320),(WM true),(I 181),(R 321),N,N,N,(R 322),(I 597),(I 120),(F 598)])::
(nat_lit 324,f t.jr)::
(nat_lit 328,c [(S "keys_of_page" 600),(S "keys_of_page" 601),(F 602),(I 123),(I 3),(I 0),(I 0),(I 3),(R 325),(WM true),(I 181),(R 326),N,N,N,(R 327),(I 603),(I 123),(F 604)])::
(nat_lit 329,f t.js)::
(nat_lit 335,o "keys_near" 606 "keys_near" 607 608 132 3 0 0 3 330 181 331 332 333 334 612 132 613)::
(nat_lit 336,f t.oU)::
(nat_lit 342,o "token_behind" 615 "token_behind" 616 617 136 2 0 0 3 337 181 338 339 340 341 620 136 621)::
(nat_lit 343,f t.jq)::
(nat_lit 349,o "is_left" 625 "is_left" 626 627 141 2 0 0 3 344 181 345 346 347 348 630 141 631)::
(nat_lit 350,f t.uY)::
(nat_lit 356,o "change" 633 "change" 634 635 143 2 0 0 3 351 181 352 353 354 355 638 143 639)::
(nat_lit 357,f t.ye)::
(nat_lit 370,o "__init__" 653 "Page.__init__" 654 655 150 2 0 0 3 365 181 366 367 368 369 658 150 659)::
(nat_lit 371,f t.mP)::
(nat_lit 377,o "read" 661 "Page.read" 662 663 157 3 0 0 3 372 181 373 374 375 376 668 157 669)::
(nat_lit 378,f t.mO)::
(nat_lit 384,o "in_piece" 671 "Page.in_piece" 672 673 162 2 0 0 3 379 181 380 381 382 383 676 162 677)::
(nat_lit 385,f t.gI)::
(nat_lit 391,o "outcome" 679 "Page.outcome" 680 681 165 1 0 0 3 386 181 387 388 389 390 685 165 686)::
(nat_lit 392,f t.iy)::
(nat_lit 394,⟨(T "dict"),none,.dict #[E P "__module__" 648 (S "staywalk.copier" 623),E P "__firstlineno__" 652 (.int 148 651),E P "__init__" 660 (R 371),E P "read" 670 (R 378),E P "in_piece" 678 (R 385),E P "outcome" 687 (R 392),E P "__static_attributes__" 693 (R 393),E P "__dict__" 695 (R 396),E P "__weakref__" 697 (R 397),E P "__doc__" 698 N] 4, #[]⟩)::
(nat_lit 395,⟨(T "type"),none,.cls ⟨"Page",[(T "object")],[(R 395),(T "object")],394,"Page",true,[],[],false,none,false⟩, #[none,none,some (S "Page" 641),some (S "Page" 649),some (.builtin "object.__new__"),some (WM true)]⟩)::
(nat_lit 407,⟨(T "tuple"),none,.seq #[N] 0, #[]⟩)::
(nat_lit 413,o "__init__" 713 "Copier.__init__" 714 715 172 4 0 0 3 408 181 409 410 411 412 720 172 721)::
(nat_lit 414,f t.f8)::
(nat_lit 420,o "open_page" 723 "Copier.open_page" 724 725 182 1 0 0 3 415 181 416 417 418 419 727 182 728)::
(nat_lit 421,f t.d9)::
(nat_lit 422,⟨(T "tuple"),none,.seq #[(.int 10 730)] 0, #[]⟩)::
(nat_lit 428,o "read_page" 731 "Copier.read_page" 732 733 190 2 0 0 3 423 181 424 425 426 427 737 190 738)::
(nat_lit 429,f t.cG)::
(nat_lit 435,o "close_page" 740 "Copier.close_page" 741 742 197 1 0 0 3 430 181 431 432 433 434 745 197 746)::
(nat_lit 436,f t.dI)::
(nat_lit 442,o "follow" 748 "Copier.follow" 749 750 204 2 0 0 3 437 181 438 439 440 441 755 204 756)::
(nat_lit 443,f t.gJ)::
(nat_lit 449,o "follow_mark" 758 "Copier.follow_mark" 759 760 214 2 0 0 3 444 181 445 446 447 448 764 214 765)::
(nat_lit 450,f t.c4)::
(nat_lit 456,o "follow_change" 767 "Copier.follow_change" 768 769 222 2 0 0 3 451 181 452 453 454 455 774 222 775)::
(nat_lit 457,f t.cO)::
(nat_lit 463,o "copy" 777 "Copier.copy" 778 779 230 1 0 0 3 458 181 459 460 461 462 781 230 782)::
(nat_lit 464,f t.jA)::
(nat_lit 470,o "covers" 784 "Copier.covers" 785 786 233 2 0 0 3 465 181 466 467 468 469 789 233 790)::
(nat_lit 471,f t.gK)::
(nat_lit 477,o "place" 792 "Copier.place" 793 794 236 1 0 0 3 472 181 473 474 475 476 796 236 797)::
(nat_lit 478,f t.iA)::
(nat_lit 484,o "left" 799 "Copier.left" 800 801 239 1 0 0 3 479 181 480 481 482 483 803 239 804)::
(nat_lit 485,f t.jz)::
(nat_lit 491,o "total" 806 "Copier.total" 807 808 242 1 0 0 3 486 181 487 488 489 490 810 242 811)::
(nat_lit 492,f t.iz)::
(nat_lit 498,o "stopped" 813 "Copier.stopped" 814 815 245 1 0 0 3 493 181 494 495 496 497 817 245 818)::
(nat_lit 499,f t.f7)::
(nat_lit 501,⟨(T "dict"),none,.dict #[E P "__module__" 708 (S "staywalk.copier" 623),E P "__firstlineno__" 712 (.int 170 711),E P "__init__" 722 (R 414),E P "open_page" 729 (R 421),E P "read_page" 739 (R 429),E P "close_page" 747 (R 436),E P "follow" 757 (R 443),E P "follow_mark" 766 (R 450),E P "follow_change" 776 (R 457),E P "copy" 783 (R 464),E P "covers" 791 (R 471),E P "place" 798 (R 478),E P "left" 805 (R 485),E P "total" 812 (R 492),E P "stopped" 819 (R 499),E P "__static_attributes__" 826 (R 500),E P "__dict__" 828 (R 503),E P "__weakref__" 830 (R 504),E P "__doc__" 831 N] 4, #[]⟩)::
(nat_lit 502,⟨(T "type"),none,.cls ⟨"Copier",[(T "object")],[(R 502),(T "object")],501,"Copier",true,[],[],false,none,false⟩, #[none,none,some (S "Copier" 701),some (S "Copier" 709),some (.builtin "object.__new__"),some (WM true)]⟩)::
(nat_lit 519,o "__init__" 852 "Leaves.__init__" 853 854 252 1 0 0 3 514 181 515 516 517 518 856 252 857)::
(nat_lit 520,f t.jy)::
(nat_lit 524,c [(S "add" 859),(S "Leaves.add" 860),(F 861),(I 255),(I 2),(I 0),(I 0),(I 3),(R 521),(WM true),(I 181),(R 522),N,N,N,(R 523),(I 862),(I 255),(F 863)])::
(nat_lit 525,f t.kC)::
(nat_lit 531,o "discard" 865 "Leaves.discard" 866 867 267 2 0 0 3 526 181 527 528 529 530 871 267 872)::
(nat_lit 532,f t.fW)::
(nat_lit 538,o "has" 874 "Leaves.has" 875 876 278 2 0 0 3 533 181 534 535 536 537 880 278 881)::
(nat_lit 539,f t.kB)::
(nat_lit 543,c [(S "many" 883),(S "Leaves.many" 884),(F 885),(I 282),(I 1),(I 0),(I 0),(I 3),(R 540),(WM true),(I 181),(R 541),N,N,N,(R 542),(I 886),(I 282),(F 887)])::
(nat_lit 555,c [(S "from_on" 896),(S "Leaves.from_on" 897),(F 898),(I 288),(I 3),(I 0),(I 0),(I 3),(R 552),(WM true),(I 181),(R 553),N,N,N,(R 554),(I 899),(I 288),(F 900)])::
(nat_lit 556,f t.fV)::
(nat_lit 560,c [(S "down_from" 902),(S "Leaves.down_from" 903),(F 904),(I 296),(I 3),(I 0),(I 0),(I 3),(R 557),(WM true),(I 181),(R 558),N,N,N,(R 559),(I 905),(I 296),(F 906)])::
(nat_lit 561,f t.d8)::
(nat_lit 567,o "leaf_of" 908 "Leaves.leaf_of" 909 910 306 2 0 0 3 562 181 563 564 565 566 916 306 917)::
(nat_lit 568,f t.fS)::
(nat_lit 574,o "part_leaf" 919 "Leaves.part_leaf" 920 921 317 2 0 0 3 569 181 570 571 572 573 926 317 927)::
(nat_lit 575,f t.d6)::
(nat_lit 581,o "join_small" 929 "Leaves.join_small" 930 931 323 2 0 0 3 576 181 577 578 579 580 935 323 936)::
(nat_lit 582,f t.dH)::
(nat_lit 584,⟨(T "dict"),none,.dict #[E P "__module__" 847 (S "staywalk.leaves" 834),E P "__firstlineno__" 851 (.int 250 850),E P "__init__" 858 (R 520),E P "add" 864 (R 525),E P "discard" 873 (R 532),E P "has" 882 (R 539),E P "many" 888 (R 544),E P "all_of" 895 (R 551),E P "from_on" 901 (R 556),E P "down_from" 907 (R 561),E P "leaf_of" 918 (R 568),E P "part_leaf" 928 (R 575),E P "join_small" 937 (R 582),E P "__static_attributes__" 939 (R 583),E P "__dict__" 941 (R 586),E P "__weakref__" 943 (R 587),E P "__doc__" 944 N] 4, #[]⟩)::
(nat_lit 585,⟨(T "type"),none,.cls ⟨"Leaves",[(T "object")],[(R 585),(T "object")],584,"Leaves",true,[],[],false,none,false⟩, #[none,none,some (S "Leaves" 840),some (S "Leaves" 848),some (.builtin "object.__new__"),some (WM true)]⟩)::
(nat_lit 602,o "__init__" 961 "Makes.__init__" 962 963 333 1 0 0 3 597 181 598 599 600 601 965 333 966)::
(nat_lit 603,f t.kA)::
(nat_lit 609,o "note" 968 "Makes.note" 969 970 336 3 0 0 3 604 181 605 606 607 608 974 336 975)::
(nat_lit 610,f t.kx)::
(nat_lit 633,⟨(T "dict"),none,.dict #[E P "__module__" 956 (S "staywalk.makes" 947),E P "__firstlineno__" 960 (.int 331 959),E P "__init__" 967 (R 603),E P "note" 976 (R 610),E P "all_told" 983 (R 617),E P "value_at" 992 (R 624),E P "sweep" 1000 (R 631),E P "__static_attributes__" 1002 (R 632),E P "__dict__" 1004 (R 635),E P "__weakref__" 1006 (R 636),E P "__doc__" 1007 N] 4, #[]⟩)::
(nat_lit 634,⟨(T "type"),none,.cls ⟨"Makes",[(T "object")],[(R 634),(T "object")],633,"Makes",true,[],[],false,none,false⟩, #[none,none,some (S "Makes" 949),some (S "Makes" 957),some (.builtin "object.__new__"),some (WM true)]⟩)::
(nat_lit 642,c [(S "empty_row" 1016),(S "empty_row" 1017),(F 1018),(I 353),(I 1),(I 0),(I 0),(I 3),(R 639),(WM true),(I 181),(R 640),N,N,N,(R 641),(I 1019),(I 353),(F 1020)])::
(nat_lit 643,f t.oV)::
(nat_lit 656,o "__init__" 1034 "Slots.__init__" 1035 1036 357 1 0 0 3 651 181 652 653 654 655 1038 357 1039)::
(nat_lit 657,f t.kt)::
(nat_lit 663,o "put" 1041 "Slots.put" 1042 1043 362 3 0 0 3 658 181 659 660 661 662 1048 362 1049)::
(nat_lit 664,f t.mL)::
(nat_lit 670,o "drop" 1051 "Slots.drop" 1052 1053 370 2 0 0 3 665 181 666 667 668 669 1056 370 1057)::
(nat_lit 671,f t.ku)::
(nat_lit 677,o "get" 1059 "Slots.get" 1060 1061 378 2 0 0 3 672 181 673 674 675 676 1065 378 1066)::
(nat_lit 678,f t.mN)::
(nat_lit 684,o "has" 1068 "Slots.has" 1069 1070 384 2 0 0 3 679 181 680 681 682 683 1073 384 1074)::
(nat_lit 685,f t.mM)::
(nat_lit 696,c [(S "rows" 1083),(S "Slots.rows" 1084),(F 1085),(I 390),(I 1),(I 0),(I 0),(I 3),(R 693),(WM true),(I 181),(R 694),N,N,N,(R 695),(I 1086),(I 390),(F 1087)])::
(nat_lit 697,f t.kr)::
(nat_lit 715,c [(S "span" 1103),(S "Slots.span" 1104),(F 1105),(I 399),(I 3),(I 0),(I 0),(I 3),(R 712),(WM true),(I 181),(R 713),N,N,N,(R 714),(I 1106),(I 399),(F 1107)])::
(nat_lit 716,f t.kq)::
(nat_lit 722,o "stop" 1109 "Slots.stop" 1110 1111 409 2 0 0 3 717 181 718 719 720 721 1115 409 1116)::
(nat_lit 723,f t.ko)::
(nat_lit 729,o "cell_of" 1118 "Slots.cell_of" 1119 1120 413 2 0 0 3 724 181 725 726 727 728 1126 413 1127)::
(nat_lit 730,f t.gH)::
(nat_lit 736,o "lying_at" 1129 "Slots.lying_at" 1130 1131 421 2 0 0 3 731 181 732 733 734 735 1140 421 1141)::
(nat_lit 737,f t.fR)::
(nat_lit 743,o "move_slot" 1143 "Slots.move_slot" 1144 1145 430 1 0 0 3 738 181 739 740 741 742 1151 430 1152)::
(nat_lit 744,f t.eT)::
(nat_lit 750,o "begin_row" 1154 "Slots.begin_row" 1155 1156 443 1 0 0 3 745 181 746 747 748 749 1159 443 1160)::
(nat_lit 751,f t.eU)::
(nat_lit 753,⟨(T "dict"),none,.dict #[E P "__module__" 1029 (S "staywalk.slots" 1010),E P "__firstlineno__" 1033 (.int 355 1032),E P "__init__" 1040 (R 657),E P "put" 1050 (R 664),E P "drop" 1058 (R 671),E P "get" 1067 (R 678),E P "has" 1075 (R 685),E P "many" 1082 (R 692),E P "rows" 1088 (R 697),E P "moved" 1095 (R 704),E P "cells" 1102 (R 711),E P "span" 1108 (R 716),E P "stop" 1117 (R 723),E P "cell_of" 1128 (R 730),E P "lying_at" 1142 (R 737),E P "move_slot" 1153 (R 744),E P "begin_row" 1161 (R 751),E P "__static_attributes__" 1165 (R 752),E P "__dict__" 1167 (R 755),E P "__weakref__" 1169 (R 756),E P "__doc__" 1170 N] 4, #[]⟩)::
(nat_lit 754,⟨(T "type"),none,.cls ⟨"Slots",[(T "object")],[(R 754),(T "object")],753,"Slots",true,[],[],false,none,false⟩, #[none,none,some (S "Slots" 1022),some (S "Slots" 1030),some (.builtin "object.__new__"),some (WM true)]⟩)::
(nat_lit 771,o "__init__" 1187 "House.__init__" 1188 1189 454 1 0 0 3 766 181 767 768 769 770 1191 454 1192)::
(nat_lit 772,f t.kD)::
(nat_lit 778,o "put" 1194 "House.put" 1195 1196 464 3 0 0 3 773 181 774 775 776 777 1200 464 1201)::
(nat_lit 779,f t.mQ)::
(nat_lit 785,o "drop" 1203 "House.drop" 1204 1205 470 2 0 0 3 780 181 781 782 783 784 1208 470 1209)::
(nat_lit 786,f t.kE)::
(nat_lit 792,o "get" 1211 "House.get" 1212 1213 475 2 0 0 3 787 181 788 789 790 791 1216 475 1217)::
(nat_lit 793,f t.mR)::
(nat_lit 813,o "lay_mark" 1234 "House.lay_mark" 1235 1236 484 1 0 0 3 808 181 809 810 811 812 1238 484 1239)::
(nat_lit 814,f t.fX)::
(nat_lit 815,⟨(T "tuple"),none,.seq #[(.int 0 1241)] 0, #[]⟩)::
(nat_lit 821,o "diary" 1242 "House.diary" 1243 1244 489 2 0 0 3 816 181 817 818 819 820 1247 489 1248)::
(nat_lit 822,f t.fY)::
(nat_lit 878,o "done" 1307 "House.done" 1308 1309 514 3 0 0 3 873 181 874 875 876 877 1314 514 1315)::
(nat_lit 879,f t.kF)::
(nat_lit 895,⟨(T "dict"),none,.dict #[E P "__module__" 1182 (S "staywalk.house" 1173),E P "__firstlineno__" 1186 (.int 452 1185),E P "__init__" 1193 (R 772),E P "put" 1202 (R 779),E P "drop" 1210 (R 786),E P "get" 1218 (R 793),E P "has" 1226 (R 800),E P "many" 1233 (R 807),E P "lay_mark" 1240 (R 814),E P "diary" 1249 (R 822),E P "makes" 1257 (R 829),E P "hold" 1264 (R 836),E P "let_go" 1272 (R 843),E P "held" 1279 (R 850),E P "sweep" 1286 (R 857),E P "was" 1295 (R 864),E P "page_at" 1306 (R 872),E P "done" 1316 (R 879),E P "refuse_outside" 1324 (R 886),E P "value_then" 1333 (R 893),E P "__static_attributes__" 1342 (R 894),E P "__dict__" 1344 (R 897),E P "__weakref__" 1346 (R 898),E P "__doc__" 1347 N] 4, #[]⟩)::
(nat_lit 896,⟨(T "type"),none,.cls ⟨"House",[(T "object")],[(R 896),(T "object")],895,"House",true,[],[],false,none,false⟩, #[none,none,some (S "House" 1175),some (S "House" 1183),some (.builtin "object.__new__"),some (WM true)]⟩)::
(nat_lit 906,o "_law_cell_at" 1352 "_law_cell_at" 1353 1354 530 2 0 0 3 901 181 902 903 904 905 1357 530 1358)::
(nat_lit 907,f t.jv)::
(nat_lit 913,o "_law_mixed" 1360 "_law_mixed" 1361 1362 534 2 0 0 3 908 181 909 910 911 912 1366 534 1367)::
(nat_lit 914,f t.mH)::
(nat_lit 920,o "_law_place" 1369 "_law_place" 1370 1371 537 1 0 0 3 915 181 916 917 918 919 1374 537 1375)::
(nat_lit 921,f t.mF)::
(nat_lit 925,c [(S "_law_run" 1377),(S "_law_run" 1378),(F 1379),(I 543),(I 1),(I 0),(I 0),(I 3),(R 922),(WM true),(I 181),(R 923),N,N,N,(R 924),(I 1380),(I 543),(F 1381)])::
(nat_lit 926,f t.rM)::
(nat_lit 932,o "_law_deed" 1383 "_law_deed" 1384 1385 560 3 0 0 3 927 181 928 929 930 931 1392 560 1393)::
(nat_lit 933,f t.oX)::
(nat_lit 939,o "_law_house" 1395 "_law_house" 1396 1397 573 1 0 0 3 934 181 935 936 937 938 1402 573 1403)::
(nat_lit 940,f t.mJ)::
(nat_lit 946,o "_law_numbers_told" 1405 "_law_numbers_told" 1406 1407 579 2 0 0 3 941 181 942 943 944 945 1412 579 1413)::
(nat_lit 947,f t.dZ)::
(nat_lit 953,o "_law_numbers" 1415 "_law_numbers" 1416 1417 590 2 0 0 3 948 181 949 950 951 952 1424 590 1425)::
(nat_lit 954,f t.jt)::
(nat_lit 960,o "_law_token" 1427 "_law_token" 1428 1429 608 1 0 0 3 955 181 956 957 958 959 1431 608 1432)::
(nat_lit 961,f t.mD)::
(nat_lit 967,o "_law_holds" 1434 "_law_holds" 1435 1436 614 2 0 0 3 962 181 963 964 965 966 1442 614 1443)::
(nat_lit 968,f t.mK)::
(nat_lit 974,o "_law_covered" 1445 "_law_covered" 1446 1447 621 3 0 0 3 969 181 970 971 972 973 1451 621 1452)::
(nat_lit 975,f t.ju)::
(nat_lit 981,o "_law_table" 1454 "_law_table" 1455 1456 625 1 0 0 3 976 181 977 978 979 980 1460 625 1461)::
(nat_lit 982,f t.mE)::
(nat_lit 988,o "_law_is_right" 1463 "_law_is_right" 1464 1465 633 3 0 0 3 983 181 984 985 986 987 1476 633 1477)::
(nat_lit 989,f t.iw)::
(nat_lit 995,o "_law_words" 1479 "_law_words" 1480 1481 649 1 0 0 3 990 181 991 992 993 994 1483 649 1484)::
(nat_lit 996,f t.mC)::
(nat_lit 1002,o "_law_pages" 1486 "_law_pages" 1487 1488 653 5 0 0 3 997 181 998 999 1000 1001 1495 653 1496)::
(nat_lit 1003,f t.mG)::
(nat_lit 1009,o "_law_half" 1498 "_law_half" 1499 1500 663 5 0 0 3 1004 181 1005 1006 1007 1008 1506 663 1507)::
(nat_lit 1010,f t.oW)::
(nat_lit 1016,o "law" 1509 "law" 1510 1511 673 1 0 0 3 1011 181 1012 1013 1014 1015 1524 673 1525)::
(nat_lit 1017,f t.Fx)::[]
noncomputable abbrev as:List Addr:=[2,3,30,31,43,44,140,141,147,148,154,155,161,162,168,169,175,176,182,183,189,190,196,197,210,211,217,218,220,221,233,239,240,246,247,249,250,260,266,267,273,274,276,277,287,293,294,300,301,303,304,307,311,312,318,319,323,324,328,329,335,336,342,343,349,350,356,357,370,371,377,378,384,385,391,392,394,395,407,413,414,420,421,422,428,429,435,436,442,443,449,450,456,457,463,464,470,471,477,478,484,485,491,492,498,499,501,502,519,520,524,525,531,532,538,539,543,555,556,560,561,567,568,574,575,581,582,584,585,602,603,609,610,633,634,642,643,656,657,663,664,670,671,677,678,684,685,696,697,715,716,722,723,729,730,736,737,743,744,750,751,753,754,771,772,778,779,785,786,792,793,813,814,815,821,822,878,879,895,896,906,907,913,914,920,921,925,926,932,933,939,940,946,947,953,954,960,961,967,968,974,975,981,982,988,989,995,996,1002,1003,1009,1010,1016,1017]
noncomputable abbrev p:Program:=PySem.Challenge.pw_staywalk_k55_stopped_and_gone_on
abbrev q:Program:=view p [0,2,3,4,5,6,7,8,10,11,12,13,14,15,16,17,19,21,22,23,24,25,26,28,30,31,32,33,34,36,37,38,39,41,42,43,45,47,48,49,50,52,54,55,56,57,58,59,60,61,62,63,64,65,66,67,68,69,70]
abbrev H:Hook:=kHook K as λ_=>rfl
def said:OpenLaw.wellSaid PySem.Challenge.rw_staywalk_k55_stopped_and_gone_on=true:=by
 rw[Fast.te9446332074065402090]
 kernel_rfl
noncomputable abbrev M':Nat:=14592
noncomputable abbrev L:List Str:=["BySlots","Up","Down","ask"]
abbrev X:Shared->Bool:=λs=>xlAt q [] s&&recOk [] s
def lA:∀w,HD.lA p q M' w=some ((openGood q L).1,(openGood q L).2.1):=λw=>by kernel_rfl
def lB:∀w,HD.lB p q L X M' w=some (true,true):=λw=>by kernel_rfl
def lC:∀w,HD.lC p q L M' w=some (openGood q L).2.2.2.2:=λw=>by kernel_rfl
def lD:∀w,(HD.endP p w M').map (Hook.obs H)=some (Hook.val H w):=λw=>by kernel_rfl
def left:LeftO p q L X (Hook.obs H) (Hook.val H) M':=HD.left_of lA lB lC lD
end ZK
namespace L2
open PySem PySem.Spec PyProof.Rows
abbrev Key:=Sum Int Str
noncomputable def oT:Key->Value->Bool
 | .inl k,v=>Value.isInt k v
 | .inr x,v=>Value.isStrOf x v
noncomputable def keyH (w:World):Key->Int
 | .inl k=>hashInt k
 | .inr x=>hashStr w x
def cv:∀{k:Key} {v:Value},oT k v=true->(∃i t,k=Sum.inl i/\v=Value.int i t)\/(∃x t,k=Sum.inr x/\v=Value.str x t)
 | .inl i,v,h=>by
  obtain⟨t,e⟩:=Value.isInt_shape (k:=i) (v:=v) h;exact .inl ⟨i,t,M,e⟩
 | .inr x,v,h=>by
  obtain⟨t,e⟩:=Value.isStrOf_shape (x:=x) (v:=v) h;exact .inr ⟨x,t,M,e⟩
def GE (i:Int) (t:Tok):oT (.inl i) (.int i t)=true:=by simp[oT,Value.isInt]
def GD (x:Str) (t:Tok):oT (.inr x) (.str x t)=true:=by simp[oT,Value.isStrOf]
def Nl (a b:Int):decide ((Sum.inl a:Key)=Sum.inl b)=(a==b):=by
 by_cases e:a=b
 .subst e;simp
 .have h:¬(Sum.inl a:Key)=Sum.inl b:=λq=>e (Sum.inl.inj q);rw[Wj h];exact(Wo.mpr e).symm
def Ni (a b:Str):decide ((Sum.inr a:Key)=Sum.inr b)=decide (a=b):=by
 by_cases e:a=b
 .subst e;simp
 .have h:¬(Sum.inr a:Key)=Sum.inr b:=λq=>e (Sum.inr.inj q);rw[Wj h,Wj e]
def Nk (a:Int) (b:Str):decide ((Sum.inl a:Key)=Sum.inr b)=false:=Wj (λq=>nomatch q)
def Nj (a:Str) (b:Int):decide ((Sum.inr a:Key)=Sum.inl b)=false:=Wj (λq=>nomatch q)
def a9 (prog:Program) (w:World):PySem.KeyKind prog w Key where
 is:=oT
 hash:=keyH w
 inj:=λv a b ha hb=>by
  rcases cv ha with⟨i,t,rfl,rfl⟩|⟨x,t,rfl,rfl⟩
  .rcases cv hb with⟨j,u,rfl,e⟩|⟨y,u,rfl,e⟩
   .injection e with e1 _;rw[e1]
   .exact nomatch e
  .rcases cv hb with⟨j,u,rfl,e⟩|⟨y,u,rfl,e⟩
   .exact nomatch e
   .injection e with e1 _;rw[e1]
 byValue:=λk v h=>by
  rcases cv h with⟨i,t,rfl,rfl⟩|⟨x,t,rfl,rfl⟩<;>rfl
 pyHash:=λhv h=>by
  rcases cv hv with⟨i,t,rfl,rfl⟩|⟨x,t,rfl,rfl⟩
  .exact wpAny_pyHash_int h
  .exact wpAny_pyHash_str h
 eqBool:=λhu hv h=>by
  rcases cv hu with⟨i,t,rfl,rfl⟩|⟨x,t,rfl,rfl⟩
  .rcases cv hv with⟨j,u,rfl,rfl⟩|⟨y,u,rfl,rfl⟩
   .rw[Nl]at h;exact wpAny_eqBool_int h
   .rw[Nk]at h;exact SeqAt.EqAt.int_str i t y u _ _ _ _ h
  .rcases cv hv with⟨j,u,rfl,rfl⟩|⟨y,u,rfl,rfl⟩
   .rw[Nj]at h;exact SeqAt.EqAt.str_int x t j u _ _ _ _ h
   .rw[Ni]at h;exact wpAny_eqBool_str h
 «strs»:=λk x t v h=>by
  rcases cv h with⟨i,u,rfl,e⟩|⟨y,u,rfl,e⟩
  .exact nomatch e
  .injection e with e1 _;subst e1;cases v<;>rfl
def Es (prog:Program) (w:World) (k:Key) (v:Value):(a9 prog w).is k v=oT k v:=rfl
def CV (prog:Program) (w:World) (i:Int) (t:Tok):(a9 prog w).is (.inl i) (.int i t)=true:=GE i t
def CU (prog:Program) (w:World) (x:Str) (t:Tok):(a9 prog w).is (.inr x) (.str x t)=true:=GD x t
inductive V where
 |non|bl (b:Bool)|int (i:Int)|str (x:Str)|byt (b:Array UInt8)|flt (b:UInt64)|ref (a:Addr)|ty (n:String)
 deriving DecidableEq
variable {a b:Addr} {o u:HO} {h h':Heap} {H:Hp} {P:Program} {w:World}
def RelV:V->Value->Prop
 | .non,u=>u=Value.none
 | .bl b,u=>u=Value.bool b
 | .int i,u=>∃t,u=Value.int i t
 | .str x,u=>∃t,u=Value.str x t
 | .byt b,u=>∃t,u=Value.bytes b t
 | .flt b,u=>∃t,u=Value.float b t
 | .ref a,u=>u=Value.ref a
 | .ty n,u=>u=Value.type n
abbrev G1:List V->List Value->Prop:=Paired RelV
def G1.length {xs:List V} {us:List Value} (r:G1 xs us):xs.length=us.length:=Paired.length r
def G1.get:∀{xs:List V} {us:List Value} {i:Nat} {x:V},G1 xs us->xs[i]?=some x->∃u,us[i]?=some u/\RelV x u
 |_,_,_,_,.nil,e=>by simp at e
 |_,_,0,_,.cons r _,e=>by simp at e;subst e;exact⟨_,M,r⟩
 |_,_,i+1,x,.cons _ t,e=>by
  obtain⟨u,h1,h2⟩:=G1.get (i:=i) (x:=x) t (by simpa using e);exact⟨u,by simpa using h1,h2⟩
def G1.set {x:V} {u:Value} (r:RelV x u):∀{xs:List V} {us:List Value} (i:Nat),G1 xs us->G1 (xs.set i x) (us.set i u)
 |_,_,_,.nil=> .nil
 |_,_,0,.cons _ t=> .cons r t
 |_,_,i+1,.cons q t=> .cons q (G1.set r i t)
def G1.append:∀{xs ys:List V} {us z:List Value},G1 xs us->G1 ys z->G1 (xs++ys) (us++z)
 |_,_,_,_,.nil,s=>s
 |_,_,_,_,.cons r t,s=> .cons r (G1.append t s)
def G1.take:∀{xs:List V} {us:List Value} (n:Nat),G1 xs us->G1 (xs.take n) (us.take n)
 |_,_,0,_=> .nil
 |_,_,_+1,.nil=> .nil
 |_,_,n+1,.cons r t=> .cons r (G1.take n t)
def G1.drop:∀{xs:List V} {us:List Value} (n:Nat),G1 xs us->G1 (xs.drop n) (us.drop n)
 |_,_,0,r=>r
 |_,_,_+1,.nil=> .nil
 |_,_,n+1,.cons _ t=>G1.drop n t
def Pp:Option V->Option Value->Prop
 |some v,some u=>RelV v u
 |none,none=>True
 |_,_=>False
def KV {κ:Type}:List (κ×V)->List (κ×Value)->Prop:=Paired λ(p:κ×V) (q:κ×Value)=>p.1=q.1/\RelV p.2 q.2
noncomputable def kV:Key->V
 | .inl i=> .int i
 | .inr x=> .str x
inductive HO where
 |lst (xs:List V)
 |tup (xs:List V)
 |dK (kvs:List (Key×V))|dT (kvs:List (List Key×V))
 |set (S:Int->Bool) (n:Nat)
 |ins (C dx:Addr) (fs:List (Str×V))
 |own (x:Addr)
 |xd (fs:List (Str×V))
 |met (f x:Addr)
 |rng (lo hi:Int)
 |frz (o:Obj) (u:HO)
 |tbl (ps:Array Value)
 |ext (φ:Heap->Prop)
abbrev Hp:=Addr->Option HO
def upd (H:Hp) (a:Addr) (o:HO):Hp:=λb=>if b=a then some o else H b
def ai:upd H a o a=some o:=by unfold upd;rw[W7 M]
def ae (h:b≠a):upd H a o b=H b:=by unfold upd;rw[W6 h]
def eE:upd (upd H a o) a u=upd H a u:=by
 funext b;unfold upd;split<;>rfl
def cU (h:H a=some o) (h':H b=some u) (d:o≠u):a≠b:=by
 intro e;subst e;rw[h]at h';exact d<|W8 h'
def am (h:H a=some o) (h':H b=none):a≠b:=by
 intro e;subst e;rw[h]at h';cases h'
section
variable (P:Program) (w:World)
def O9 (H:Hp) (h:Heap) (a:Addr):HO->Prop
 | .lst xs=>xs.length<=sizeLine/\∃(its:List Value) (n:Nat),G1 xs its/\h.get? a=some {cls:= .type "list",data:= .seq its.toArray n}
 | .tup xs=>xs.length<=sizeLine/\∃its:List Value,G1 xs its/\IsTup h a its.toArray
 | .dK kvs=>kvs.length<=sizeLine/\(a==sysModules)=false/\∃vs,KV kvs vs/\h.DictOf (a9 P w) a vs
 | .dT kvs=>kvs.length<=sizeLine/\(a==sysModules)=false/\∃xs:List (List Key×Addr×Value),
   Paired (λ(p:List Key×V) (q:List Key×Addr×Value)=>p.1=q.1/\H q.2.1=some (.tup<|p.1.map kV)/\RelV p.2 q.2.2) kvs xs/\
   ∃o es ep,h.get? a=some o/\o.ExactDict/\o.data= .dict es ep/\es.toList=xs.map (entryOfKey<|tupleKind<|a9 P w)/\(xs.map (·.1)).Nodup
 | .set S n=>h.SetOf (intKind P w) a S n
 | .ins C dx fs=>H dx=some (.own a)/\fs.length<=1000/\dx≠a/\h.get? a=some (PySem.W.instObj C dx)/\
   ∃mA,h.Ns1 dx mA/\(∀f,Pp (fs.lookup f) (mA f))/\PySem.Within mA (fs.map (·.1))
 | .own _=>∃o,h.get? a=some o
 | .xd fs=>∃mA,h.Ns1 a mA/\∀f,Pp (fs.lookup f) (mA f)
 | .rng lo hi=>∃t u v,h.get? a=some {cls:= .type "range",data:= .fields #[.int lo t,.int hi u,.int 1 v]}
 | .frz o u=>h.get? a=some o/\O9 H h a u
 | .tbl ps=>h.get? a=some {cls:= .none,data:= .fields ps}
 | .met f x=>h.get? a=some (PySem.W.methodObj (.ref f)<|.ref x)
 | .ext φ=>φ h/\(∃o,h.get? a=some o)/\∀h1 h2:Heap,φ h1->(∀o,h1.get? a=some o->h2.get? a=some o)->φ h2
def Pj (H:Hp) (h:Heap):Prop:=∀a o,H a=some o->O9 P w H h a o
end
section
variable {H':Hp}
def O9.lt (x:O9 P w H h a o):a<h.objs.size:=by
 cases o with
 |lst xs=>obtain⟨_,_,_,_,e⟩:=x;exact Wg e
 |tup xs=>obtain⟨_,_,_,p⟩:=x;exact p.lt
 |dK kvs=>obtain⟨_,_,_,_,o,_,_,e,_⟩:=x;exact Wg e
 |dT kvs=>obtain⟨_,_,_,_,o,_,_,e,_⟩:=x;exact Wg e
 |set S n=>obtain⟨o,_,_,_,e,_⟩:=x;exact Wg e
 |ins C dx fs=>obtain⟨_,_,_,e,_⟩:=x;exact Wg e
 |own y=>obtain⟨_,e⟩:=x;exact Wg e
 |xd fs=>obtain⟨_,⟨_,_,_,e,_⟩,_⟩:=x;exact Wg e
 |rng lo hi=>obtain⟨_,_,_,e⟩:=x;exact Wg e
 |frz ob u=>obtain⟨e,_⟩:=x;exact Wg e
 |tbl ps=>exact Wg<|show h.get? a=some _ from x
 |met f y=>exact Wg<|show h.get? a=some _ from x
 |ext z=>obtain⟨_,⟨_,e⟩,_⟩:=x;exact Wg e
def Paired.mapP {α β:Type} {F G:α->β->Prop}:∀{z:List α} {I:List β},Paired F z I->(∀a b,F a b->G a b)->Paired G z I
 |_,_,.nil,_=> .nil
 |_,_,.cons r t,f=> .cons (f _ _ r) (Paired.mapP t f)
def O9.stay (x:O9 P w H h a o) (k:∀b u,(b=a\/H b=some (.own a))->h.get? b=some u->h'.get? b=some u)
  (I:∀b,H b=some (.own a)->H' b=some (.own a)) (O:∀b xs,H b=some (.tup xs)->H' b=some (.tup xs)):O9 P w H' h' a o:=by
 induction o with
 |lst xs=>obtain⟨z,its,n,r,e⟩:=x;exact⟨z,its,n,r,k _ _ (.inl M) e⟩
 |tup xs=>obtain⟨z,its,r,ob,e,c⟩:=x;exact⟨z,its,r,ob,k _ _ (.inl M) e,c⟩
 |dK kvs=>obtain⟨z,y,vs,r,ob,es,ep,e,c⟩:=x;exact⟨z,y,vs,r,ob,es,ep,k _ _ (.inl M) e,c⟩
 |dT kvs=>
  obtain⟨z,y,xs,r,ob,es,ep,e,c⟩:=x;exact⟨z,y,xs,Paired.mapP r λp q z=>⟨z.1,O _ _ z.2.1,z.2.2⟩,ob,es,ep,k _ _ (.inl M) e,c⟩
 |set S n=>obtain⟨ob,es,ep,t,e,c⟩:=x;exact⟨ob,es,ep,t,k _ _ (.inl M) e,c⟩
 |ins C dx fs=>
  obtain⟨d,z,ne,e,mA,⟨G,es,ep,e2,c⟩,r⟩:=x;exact⟨I _ d,z,ne,k _ _ (.inl M) e,mA,⟨G,es,ep,k _ _ (.inr d) e2,c⟩,r⟩
 |own y=>obtain⟨ob,e⟩:=x;exact⟨ob,k _ _ (.inl M) e⟩
 |xd fs=>obtain⟨mA,⟨G,es,ep,e,c⟩,r⟩:=x;exact⟨mA,⟨G,es,ep,k _ _ (.inl M) e,c⟩,r⟩
 |rng lo hi=>obtain⟨t,u,v,e⟩:=x;exact⟨t,u,v,k _ _ (.inl M) e⟩
 |frz ob u U=>obtain⟨e,q⟩:=x;exact⟨k _ _ (.inl M) e,U q⟩
 |tbl ps=>
  have e:h.get? a=some {cls:= .none,data:= .fields ps}:=x;show h'.get? a=some {cls:= .none,data:= .fields ps};exact k a _ (.inl M) e
 |met f y=>
  have e:h.get? a=some (PySem.W.methodObj (.ref f)<|.ref y):=x;show h'.get? a=some (PySem.W.methodObj (.ref f)<|.ref y);exact k a _ (.inl M) e
 |ext Y=>obtain⟨p,⟨o,e⟩,st⟩:=x;exact⟨st _ _ p λo q=>k _ _ (.inl M) q,⟨o,k _ _ (.inl M) e⟩,st⟩
def Pj.lt (x:Pj P w H h) (e:H a=some o):a<h.objs.size:=(x a o e).lt
def Pj.fresh (x:Pj P w H h) (e:h.objs.size<=a):H a=none:=by
 cases q:H a with
 |none=>rfl
 |some u=>exact Wb (QU (x.lt q) e)<|Xb _
def Pj.kept (x:Pj P w H h) (k:∀b u,h.get? b=some u->h'.get? b=some u):Pj P w H h':=λa o e=>
 (x a o e).stay (λb u _ q=>k b u q) (λ_ q=>q) λ_ _ q=>q
def Pj.laid (x:Pj P w H h) (k:∀b u,h.get? b=some u->h'.get? b=some u) (G:h.objs.size<=a) (new:O9 P w (upd H a o) h' a o):Pj P w (upd H a o) h':=λb u e=>by
 have z:=x.fresh G;by_cases hb:b=a
 .subst hb;rw[ai]at e;cases e;exact new
 .rw[ae hb]at e;exact(x b u e).stay (λc v _ q=>k c v q) (λc q=>by rw[ae (am q z)];exact q) λc xs q=>by rw[ae (am q z)];exact q
end
def Rd (H:Hp) (a:Addr) (u:HO):Prop:=H a=some u\/∃o,H a=some (.frz o u)
def Rd.ok (r:Rd H a u) (x:Pj P w H h):O9 P w H h a u:=by
 rcases r with r|⟨o,r⟩
 .exact x a u r
 .obtain⟨_,q⟩:=x a _ r;exact q
def Mut:Option HO->Prop
 |some (.lst _)=>True
 |some (.dK _)=>True
 |some (.dT _)=>True
 |some (.set _ _)=>True
 |some (.ins _ _ _)=>True
 |some (.ext _)=>True
 |_=>False
section
variable {x e:Addr} {o':HO}
def Pj.write (ok:Pj P w H h) (U:Mut (H x)) (he:e=x\/H e=some (.own x)) (k:∀b u,b≠e->h.get? b=some u->h'.get? b=some u) (Y:∃u,h'.get? e=some u)
  (new:O9 P w (upd H x o') h' x o'):Pj P w (upd H x o') h':=λb u q=>by
 have I:∀c y,H c=some (.own y)->c≠x:=λc y r z=>by subst z;rw[r]at U;exact U
 have O:∀c xs,H c=some (.tup xs)->c≠x:=λc xs r z=>by subst z;rw[r]at U;exact U
 by_cases hb:b=x
 .subst hb;rw[ai]at q;cases q;exact new
 .rw[ae hb]at q;by_cases G:b=e
  .have Z:H b=some (.own x):=by
    rcases he with z|z
    .exact Wb (G.trans z) hb
    .rwa[G]
   rw[q]at Z;cases Z;obtain⟨v,hv⟩:=Y;exact⟨v,by rwa[G]⟩
  .refine(ok b u q).stay (λc v hc r=>k c v ?_ r) (λc r=>by rwa[ae (I c b r)]) λc xs r=>by rwa[ae (O c xs r)]
   rcases hc with rfl|hc
   .exact G
   .rintro rfl;rcases he with z|z
    .exact I c b hc z
    .rw[hc]at z;cases z;exact hb M
end
structure Un (fs ex:List Addr) (H H':Hp) (h h':Heap):Prop where
 keep:∀b o,h.get? b=some o->H b=none->b∉fs->b∉ex->h'.get? b=some o
 slot:∀b o,h.get? b=some o->H b=none->b∈fs->b∉ex->∃sl,h'.get? b=some {o with slots:=sl}
 free:∀b o,h.get? b=some o->H b=none->b∉ex->H' b=none
 there:∀b o,h.get? b=some o->b∉ex->∃o',h'.get? b=some o'
 tups:∀b xs,H b=some (.tup xs)->H' b=some (.tup xs)
 frzs:∀b o u,H b=some (.frz o u)->H' b=some (.frz o u)
 tbls:∀b ps,H b=some (.tbl ps)->∃more,H' b=some (.tbl<|ps++more)
section
variable {fs fs' ex ex':List Addr} {H1 H2:Hp} {h1 h2:Heap} {x e:Addr}
def Un.any (u:Un fs ex H H1 h h1) {ob:Obj} (q:h.get? b=some ob) (n:H b=none) (hx:b∉ex):∃z,h1.get? b=some {ob with slots:=z}:=by
 by_cases hb:b∈fs
 .exact u.slot b ob q n hb hx
 .exact⟨ob.slots,u.keep b ob q n hb hx⟩
def Un.kept (k:∀b u,h.get? b=some u->h'.get? b=some u):Un fs ex H H h h':=
 ⟨λb ob q _ _ _=>k b ob q,λb ob q _ _ _=>⟨ob.slots,k b ob q⟩,λ_ _ _ n _=>n,λb ob q _=>⟨ob,k b ob q⟩,λ_ _ q=>q,λ_ _ _ q=>q,λ_ ps q=>⟨#[],by rw[q];simp⟩⟩
def Un.refl:Un fs ex H H h h:=Un.kept λ_ _ q=>q
def Un.laid (k:∀b u,h.get? b=some u->h'.get? b=some u) (G:h.objs.size<=a) (z:H a=none):Un fs ex H (upd H a o) h h' where
 keep:=λb u q _ _ _=>k b u q
 slot:=λb u q _ _ _=>⟨u.slots,k b u q⟩
 free:=λb u q n _=>by rwa[ae (Za<|QU (Wg q) G)]
 there:=λb u q _=>⟨u,k b u q⟩
 tups:=λb xs q=>by rw[ae (am q z)];exact q
 frzs:=λb u xs q=>by rw[ae (am q z)];exact q
 tbls:=λb ps q=>⟨#[],by rw[ae (am q z),q];simp⟩
def Un.write (I:Mut (H x)) (he:e=x\/H e=some (.own x)) (k:∀b u,b≠e->h.get? b=some u->h'.get? b=some u) (O:∃u,h'.get? e=some u):Un fs ex H (upd H x o) h h':=by
 have hx:∀b,H b=none->b≠x:=λb n z=>by subst z;rw[n]at I;exact I
 have hb:∀b,H b=none->b≠e:=λb n z=>by
  subst z;rcases he with r|r
  .exact hx b n r
  .rw[n]at r;cases r
 have U:∀b u,H b=some u->¬Mut (some u)->b≠x:=λb u q Y z=>by subst z;rw[q]at I;exact Y I
 refine⟨λb u q n _ _=>k b u (hb b n) q,λb u q n _ _=>⟨u.slots,k b u (hb b n) q⟩,λb u q n _=>by rwa[ae (hx b n)],λb u q _=>?_,
  λb xs q=>by rw[ae (U b _ q λz=>z)];exact q,λb u xs q=>by rw[ae (U b _ q λz=>z)];exact q,λb ps q=>⟨#[],by rw[ae (U b _ q λz=>z),q];simp⟩⟩
 by_cases G:b=e
 .subst G;exact O
 .exact⟨u,k b u G q⟩
end
def Rt (h:Heap) (H:Hp):List Addr:=(List.range h.objs.size).filter λa=>(H a).isSome
def BJ (h:Heap) (H:Hp):Heap:=PySem.W.hideAll h (Rt h H)
def GJ (h:Heap) (H:Hp):(BJ h H).objs.size=h.objs.size:=PySem.W.hideAll_size _ _
def IZ {o:Obj} (e:h.get? b=some o) (n:H b=none):(BJ h H).get? b=some o:=
 PySem.W.hideAll_get _ e λz=>by
  have q:(H b).isSome=true:=(QS.mp z).2;rw[n]at q;simp at q
def KU {o:Obj} (e:(BJ h H).get? b=some o):h.get? b=some o/\H b=none:=by
 have G:h.get? b=some o:=PySem.W.of_hideAll (Rt h H) e;refine⟨G,?_⟩;cases q:H b with
 |none=>rfl
 |some x=>
  have I:b∈Rt h H:=QS.mpr ⟨VW.mpr<|Wg G,by simp[q]⟩;have z:(BJ h H).get? b=none:=PySem.W.hideAll_none (Rt h H) I;rw[z]at e;cases e
abbrev WN:=PySem.W.Frag
variable {C a b dx f it:Addr} {A:Around} {g':Array GenState} {CX:CXT} {op:CmpOp} {X:Cx} {d':Drawn} {c e tg:Expr} {fd:FuncData} {base h h':Heap} {H H':Hp} {lo:Int} {g:Int->Int->Int} {W:List (Addr×Obj)} {kw:List (Str×Value)} {ch fp:List Addr} {outer:List Env} {es:List Expr} {body:List Stmt} {N ps:List Str} {vs xs:List V} {us:List Value} {M':Model} {i j n t':Nat} {o:Option Value} {p pos pos':Pos} {P prog:Program} {K:WN} {r:R2} {R:Result->Shared->Prop} {scope:Scope} {s s':Shared} {sp:Sp} {B:St} {m name qual x:Str} {t ta te:TE} {tb:TS} {tc:TT} {v y:V} {u:Value} {E Q:Value->Shared->Prop} {rd:V->V->Hp->VK->Prop} {w:World}
structure Mod (K:WN) (mg:Str->Option Value) (base:Heap):Prop where
 kin:K.In base
 glob:base.Ns mainGlobals mg
 blt:∃mb,base.Ns builtinsNs mb/\∀x:Str,x≠"__name__"->mb x=bootBuiltins x
 nolimit:base.NoLimit
structure Cx where
 prog:Program
 w:World
 K:WN
 mg:Str->Option Value
 base:Heap
 A:Around
 N:List Str
 s₀:Shared
 H₀:Hp
 env:Env
 outer:List Env
 stack:List Env
 ex:List Addr
 fn:Str->Bool
 calm:Bool
 pn:List (Addr×Obj)
 xe:Value->Shared->Prop
noncomputable def RH (l:List Env):List Addr:=l.filterMap (·.frame)
abbrev Cx.fs (X:Cx):List Addr:=RH X.outer
def SA (sc:Scope) (x:Str):Prop:=sc.names.lookup x=some .local\/sc.names.lookup x=some .cell\/sc.names.lookup x=some .free
def Loc (sc:Scope) (x:Str):Prop:=sc.names.lookup x=some .local\/sc.names.lookup x=some .cell
def Look (env:Env) (h:Heap) (m:Str->Option Value) (x:Str) (u:Value):Prop:=
 (env.kindOf x=some .local/\m x=some u)\/((env.kindOf x=some .cell\/env.kindOf x=some .free)/\∃c,env.cells.lookup x=some c/\h.IsCell c (some u))
structure Cx.Ok (X:Cx):Prop where
 mod:Mod X.K X.mg X.base
 kind:X.env.scope.kind= .function
 glob:X.env.globals=mainGlobals
 blt:X.env.builtins=builtinsNs
 above:X.s₀.heap.objs.size<=X.env.locals
 inj:∀x y c,X.env.cells.lookup x=some c->X.env.cells.lookup y=some c->x=y
 has:∀x,(X.env.kindOf x=some .cell\/X.env.kindOf x=some .free)->∃c,X.env.cells.lookup x=some c
 cab:∀x c,X.fn x=true->X.env.cells.lookup x=some c->X.s₀.heap.objs.size<=c
 hd:X.calm=true->X.A.handled=none
 frames:X.A.frames=some X.stack
 stk:X.stack=X.outer\/(X.stack=X.env::X.outer/\X.env.frame=some X.env.locals)
 exf:∀b∈X.ex,b≠X.env.locals/\∀x c,X.env.cells.lookup x=some c->c≠b
 bs:∀b o,X.base.get? b=some o->X.s₀.heap.get? b=some o/\X.H₀ b=none
 bsz:X.base.objs.size<=X.s₀.heap.objs.size
 noex:∀b o,X.base.get? b=some o->b∉X.ex
 exfs:∀b∈X.ex,b∉X.fs
 funs:X.s₀.heap.FunFrames X.base X.outer
 frf:∀b∈X.fs,X.H₀ b=none
structure Inv (X:Cx) (W:List (Addr×Obj)) (B:List (Option V)) (H:Hp) (s:Shared):Prop where
 ok:X.Ok
 os:s.os=X.s₀.os
 bare:AllBare s.gens
 base:Un X.fs X.ex X.H₀ H X.s₀.heap s.heap
 loc:∃m,s.heap.Ns X.env.locals m/\∀(i:Nat) (x:Str) (v:V),X.N[i]?=some x->B[i]?=some (some v)->SA X.env.scope x->∃u,RelV v u/\Look X.env s.heap m x u
 cell:∀x c,X.env.cells.lookup x=some c->∃v,s.heap.IsCell c v
 free:H X.env.locals=none
 freeC:∀x c,X.env.cells.lookup x=some c->H c=none
 pin:∀p∈X.pn++W,s.heap.get? p.1=some p.2/\H p.1=none/\p.1≠X.env.locals/\p.1∉X.fs/\∀v,p.2.data≠ .cell v
 hok:Pj X.prog X.w H s.heap
 len:B.length=X.N.length
section
variable {B:List (Option V)}
def Cx.Ok.nofr (ok:X.Ok) {o:Obj} (e:X.base.get? b=some o):b∉X.fs:=λhb=>by
 have:=(ok.funs.mem hb).1;rw[e]at this;cases this
def Inv.bs (I:Inv X W B H s):∀b o,X.base.get? b=some o->s.heap.get? b=some o/\H b=none:=λb o e=>
 ⟨I.base.keep b o (I.ok.bs b o e).1 (I.ok.bs b o e).2 (I.ok.nofr e)<|I.ok.noex b o e,I.base.free b o (I.ok.bs b o e).1 (I.ok.bs b o e).2<|I.ok.noex b o e⟩
def Inv.bk (I:Inv X W B H s):∀b o,X.base.get? b=some o->s.heap.get? b=some o:=λb o e=>(I.bs b o e).1
def Inv.mod (I:Inv X W B H s):Mod X.K X.mg X.base:=I.ok.mod
def Inv.kIn (I:Inv X W B H s):X.K.In s.heap:=I.ok.mod.kin.keeps I.bk
def Inv.lt (I:Inv X W B H s):X.env.locals<s.heap.objs.size:=let⟨_,hn,_⟩:=I.loc;hn.lt
def Inv.sz (I:Inv X W B H s):X.s₀.heap.objs.size<=s.heap.objs.size:=QQ I.ok.above (Zl I.lt)
def Inv.nofs (I:Inv X W B H s) (h:s.heap.objs.size<=a):a∉X.fs:=λhb=>by
 obtain⟨_,o,z,_⟩:=I.ok.funs.mem hb;exact Wb (QU (Wg z)<|QQ I.sz h)<|Xb _
def Inv.cne (I:Inv X W B H s):∀x c,X.env.cells.lookup x=some c->c≠X.env.locals:=λx c e z=>by
 obtain⟨v,o,U,hd⟩:=I.cell x c e;obtain⟨m,⟨o',es,ep,G,O,_⟩,_⟩:=I.loc;rw[z,G]at U;cases U;rw[O]at hd;cases hd
def Inv.funs (I:Inv X W B H s):s.heap.FunFrames X.base X.outer:=by
 have all:∀(l:List Env),(∀b∈RH l,b∈X.fs)->X.s₀.heap.FunFrames X.base l->s.heap.FunFrames X.base l:=by
  intro l
  induction l with
  |nil=>intro _ _;trivial
  |cons env r O=>
   intro hs hl;obtain⟨hk,⟨L,o,hf,U,Y,hd⟩,Z⟩:=hl;have G:L∈X.fs:=hs L (by unfold RH;rw[Vp,hf];exact QB);obtain⟨sl,e⟩:=I.base.slot L o Y (I.ok.frf L G) G λz=>I.ok.exfs L z G;exact⟨hk,⟨L,_,hf,U,e,hd⟩,O (λb hb=>hs b<|by unfold RH;rw[Vp,hf];exact QD _ hb) Z⟩
 exact all X.outer (λ_ hb=>hb) I.ok.funs
def Inv.stack (I:Inv X W B H s):s.heap.FunFrames X.base X.stack:=by
 rcases I.ok.stk with e|⟨e,hf⟩
 .rw[e];exact I.funs
 .rw[e];obtain⟨m,z,_⟩:=I.loc;refine .cons (by rw[I.ok.kind];decide) hf z ?_ I.funs;exact WB<|QQ I.ok.bsz I.ok.above
def Inv.stkSub (I:Inv X W B H s):∀b∈RH X.stack,b∈X.env.locals::X.fs:=λb hb=>by
 rcases I.ok.stk with e|⟨e,hf⟩
 .rw[e]at hb;exact QD _ hb
 .rw[e]at hb;unfold RH at hb;rw[Vp,hf]at hb;exact hb
def Inv.stkFree (I:Inv X W B H s):∀b∈RH X.stack,H b=none:=λb hb=>by
 rcases QH.mp (I.stkSub b hb)with e|hb
 .rw[e];exact I.free
 .obtain⟨_,o,G,_⟩:=I.ok.funs.mem hb;exact I.base.free b o G (I.ok.frf b hb) λz=>I.ok.exfs b z hb
def Inv.step (I:Inv X W B H s)
  (G:∀b∈ch,(b∈X.ex\/X.s₀.heap.objs.size<=b)/\b≠X.env.locals/\(∀x c,X.env.cells.lookup x=some c->c≠b)/\∀p∈X.pn++W,p.1≠b)
  (keep:∀b o,b≠X.env.locals->b∉X.fs->b∉ch->s.heap.get? b=some o->H b=none->h'.get? b=some o)
  (slot:∀b o,b≠X.env.locals->b∈X.fs->b∉ch->s.heap.get? b=some o->H b=none->∃sl,h'.get? b=some {o with slots:=sl}) (free:∀b o,b∉ch->s.heap.get? b=some o->H b=none->H' b=none)
  (there:∀b o,b∉ch->s.heap.get? b=some o->∃o',h'.get? b=some o')
  (tups:∀b xs,H b=some (.tup xs)->H' b=some (.tup xs)) (frzs:∀b o u,H b=some (.frz o u)->H' b=some (.frz o u)) (tbls:∀b ps,H b=some (.tbl ps)->∃more,H' b=some (.tbl<|ps++more))
  (ns:∀m,s.heap.Ns X.env.locals m->h'.Ns X.env.locals m) (hok:Pj X.prog X.w H' h') (hg:AllBare g'):
  Inv X W B H' {s with heap:=h',gens:=g',drawn:=d',toks:=t'}:=by
 have a0:∀b o,X.s₀.heap.get? b=some o->b≠X.env.locals:=λb o e=>Za (QU (Wg e) I.ok.above);have Y:∀b o,X.s₀.heap.get? b=some o->b∉X.ex->b∉ch:=λb o e hx hb=>by
  rcases(G b hb).1 with z|z
  .exact hx z
  .exact Wb (QU (Wg e) z)<|Xb _
 have O:∀x c,X.env.cells.lookup x=some c->∀v,s.heap.IsCell c v->h'.IsCell c v:=λx c e v ⟨o,ho,hd⟩=>by
  have U:c∉ch:=λz=>(G c z).2.2.1 x c e M;by_cases hc:c∈X.fs
  .obtain⟨sl,q⟩:=slot c o (I.cne x c e) hc U ho (I.freeC x c e);exact⟨_,q,hd⟩
  .exact⟨o,keep c o (I.cne x c e) hc U ho<|I.freeC x c e,hd⟩
 refine⟨I.ok,I.os,hg,⟨λb o e n hb hx=>?_,λb o e n hb hx=>?_,λb o e n hx=>?_,λb o e hx=>?_,λb xs e=>tups b xs<|I.base.tups b xs e,λb o xs e=>frzs b o xs<|I.base.frzs b o xs e,λb ps e=>?_⟩,?_,λx c e=>?_,?_,λx c e=>?_,λp hp=>?_,hok,I.len⟩
 .exact keep b o (a0 b o e) hb (Y b o e hx) (I.base.keep b o e n hb hx)<|I.base.free b o e n hx
 .obtain⟨sl,Z⟩:=I.base.slot b o e n hb hx;obtain⟨a1,e2⟩:=slot b _ (a0 b o e) hb (Y b o e hx) Z (I.base.free b o e n hx);exact⟨a1,e2⟩
 .obtain⟨o',Z⟩:=I.base.there b o e hx;exact free b o' (Y b o e hx) Z<|I.base.free b o e n hx
 .obtain⟨o',Z⟩:=I.base.there b o e hx;exact there b o' (Y b o e hx) Z
 .obtain⟨m1,Z⟩:=I.base.tbls b ps e;obtain⟨m2,e2⟩:=tbls b _ Z;exact⟨m1++m2,by rw[e2,Array.append_assoc]⟩
 .obtain⟨m,hn,hl⟩:=I.loc;refine⟨m,ns m hn,λi x v Z e2 e3=>?_⟩;obtain⟨u,r,l⟩:=hl i x v Z e2 e3;refine⟨u,r,?_⟩;rcases l with l|⟨k,c,e,z⟩
  .exact .inl l
  .exact .inr ⟨k,c,e,O x c e _ z⟩
 .obtain⟨v,z⟩:=I.cell x c e;exact⟨v,O x c e v z⟩
 .obtain⟨m,⟨o,_,_,ho,_⟩,_⟩:=I.loc;exact free _ o (λz=>(G _ z).2.1 rfl) ho I.free
 .obtain⟨v,o,ho,hd⟩:=I.cell x c e;exact free c o (λz=>(G c z).2.2.1 x c e M) ho<|I.freeC x c e
 .obtain⟨e,n,ne,nf,d⟩:=I.pin p hp;have U:p.1∉ch:=λz=>(G p.1 z).2.2.2 p hp M;exact⟨keep p.1 p.2 ne nf U e n,free p.1 p.2 U e n,ne,nf,d⟩
def Inv.un (I:Inv X W B H s) (u:Un X.fs [] H H' s.heap h') (hok:Pj X.prog X.w H' h'):Inv X W B H' {s with heap:=h',toks:=t'}:=by
 obtain⟨m,⟨o,es,ep,Y,r⟩,_⟩:=id I.loc;obtain⟨sl,Z⟩:=u.any Y I.free (by simp);exact I.step (g':=s.gens) (d':=s.drawn) (ch:=[]) (λ_ z=>nomatch z) (λb o _ hb _ e n=>u.keep b o e n hb<|by simp) (λb o _ hb _ e n=>u.slot b o e n hb<|by simp) (λb o _ e n=>u.free b o e n<|by simp) (λb o _ e=>u.there b o e<|by simp) u.tups u.frzs u.tbls (λm' hm=>by
  obtain⟨o',O,U,G,r'⟩:=hm;rw[Y]at G;cases G;exact⟨_,O,U,Z,r'⟩) hok I.bare
def Inv.call (I:Inv X W B H s) (u:Un (RH X.stack) ch H H' s.heap h') (hok:Pj X.prog X.w H' h') (hg:AllBare g')
  (G:∀b∈ch,(b∈X.ex\/X.s₀.heap.objs.size<=b)/\b≠X.env.locals/\(∀x c,X.env.cells.lookup x=some c->c≠b)/\∀p∈X.pn++W,p.1≠b):
  Inv X W B H' {s with heap:=h',gens:=g',drawn:=d',toks:=t'}:=by
 obtain⟨m,⟨o,es,ep,ho,r⟩,_⟩:=id I.loc;obtain⟨sl,U⟩:=u.any ho I.free λz=>(G _ z).2.1 rfl;exact I.step (ch:=ch) G (λb o U hb hc e n=>u.keep b o e n (λz=>(QH.mp<|I.stkSub b z).elim U hb) hc) (λb o _ _ hc e n=>u.any e n hc) (λb o hc e n=>u.free b o e n hc) (λb o hc e=>u.there b o e hc) u.tups u.frzs u.tbls (λm' hm=>by
  obtain⟨o',Y,Z,O,r'⟩:=hm;rw[ho]at O;cases O;exact⟨_,Y,Z,U,r'⟩) hok hg
def Inv.turned (I:Inv X W B H s) (k:∀b o,b≠it->s.heap.get? b=some o->h'.get? b=some o) (U:H it=none) (O:it≠X.env.locals)
  (h1:it∈X.ex\/X.s₀.heap.objs.size<=it) (h2:∀x c,X.env.cells.lookup x=some c->c≠it) (Y:∀p∈X.pn++W,p.1≠it):Inv X W B H {s with heap:=h',toks:=t'}:=by
 have G:∀b u,H b=some u->b≠it:=λb u e z=>by rw[z,U]at e;cases e
 refine I.step (g':=s.gens) (d':=s.drawn) (ch:=[it]) (λb hb=>?_) (λb o _ _ hc e _=>k b o (λz=>hc<|by simp[z]) e) (λb o _ _ hc e _=>⟨o.slots,k b o (λz=>hc<|by simp[z]) e⟩) (λ_ _ _ _ n=>n)
  (λb o hc e=>⟨o,k b o (λz=>hc<|by simp[z]) e⟩) (λ_ _ e=>e) (λ_ _ _ e=>e) (λb ps e=>⟨#[],by rw[e];simp⟩) (λm Z=>?_) (λb u e=>?_) I.bare
 .have e:b=it:=by simpa using hb
  subst e;exact⟨h1,O,h2,Y⟩
 .obtain⟨o,es,ep,ho,r⟩:=Z;exact⟨o,es,ep,k _ o (Ne.symm O) ho,r⟩
 .refine(I.hok b u e).stay (λc v hc q=>k c v ?_ q) (λ_ q=>q) λ_ _ q=>q;rcases hc with z|z
  .rw[z];exact G b u e
  .exact G c _ z
def Inv.tok (I:Inv X W B H s) (t:Nat):Inv X W B H {s with toks:=t}:=I.un (h':=s.heap) (t':=t) Un.refl I.hok
def Inv.kept (I:Inv X W B H s) (k:∀b u,s.heap.get? b=some u->h'.get? b=some u):Inv X W B H {s with heap:=h',toks:=t'}:=I.un (Un.kept k) (I.hok.kept k)
def Inv.laid {o:HO} (I:Inv X W B H s) (k:∀b u,s.heap.get? b=some u->h'.get? b=some u) (z:s.heap.objs.size<=a) (new:O9 X.prog X.w (upd H a o) h' a o):
  Inv X W B (upd H a o) {s with heap:=h',toks:=t'}:=I.un (Un.laid k z<|I.hok.fresh z) (I.hok.laid k z new)
def Inv.write {x e:Addr} {o:HO} (I:Inv X W B H s) (G:Mut (H x)) (he:e=x\/H e=some (.own x)) (k:∀b u,b≠e->s.heap.get? b=some u->h'.get? b=some u) (z:∃u,h'.get? e=some u)
  (new:O9 X.prog X.w (upd H x o) h' x o):Inv X W B (upd H x o) {s with heap:=h',toks:=t'}:=I.un (Un.write G he k z) (I.hok.write G he k z new)
def Inv.pins_of {G:List (Addr×Obj)} (I:Inv X W B H s) (h:∀p∈G,s.heap.get? p.1=some p.2/\H p.1=none/\p.1≠X.env.locals/\p.1∉X.fs/\∀v,p.2.data≠ .cell v):Inv X G B H s:=
 ⟨I.ok,I.os,I.bare,I.base,I.loc,I.cell,I.free,I.freeC,λp O=>(Q5.mp O).elim (λz=>I.pin p<|XR _ z)<|h p,I.hok,I.len⟩
def CN (hN:N.Nodup) (a:N[i]?=some x) (b:N[j]?=some x):i=j:=by
 obtain⟨h1,z⟩:=Q1.mp a;obtain⟨h2,e2⟩:=Q1.mp b;exact(List.getElem_inj hN).mp<|z.trans e2.symm
def zX {Q:Unit->Shared->Prop} (I:Inv X W B H s) (hN:X.N.Nodup) (hi:X.N[i]?=some x) (hx:Loc X.env.scope x) (r:RelV v u)
  (h:∀s',Inv X W (B.set i<|some v) H s'->(∃a,Heap.SameBut a s.heap s'.heap/\(a=X.env.locals\/X.env.cells.lookup x=some a))->Q Unit.unit s') (hf:X.fn x=true\/X.env.scope.names.lookup x=some .local:=by first|exact .inl M|exact .inr M|assumption):wpAny M' A (storeName X.env x u) Q E s:=by
 obtain⟨m,hn,hl⟩:=id I.loc;have a1:(X.env.scope.kind== .class||(X.env.scope.kind== .module&&X.env.locals !=X.env.globals))=false:=by rw[I.ok.kind];rfl
 have Y:i<B.length:=by rw[I.len];exact(Q1.mp hi).1
 have cne:=I.cne;have G:∀{a:Addr} {h':Heap},(∃o,s.heap.get? a=some o/\H a=none)->Heap.SameBut a s.heap h'->Pj X.prog X.w H h':=λ{a h'} ha hs b ob e=>by
  obtain⟨_,_,U⟩:=ha;refine(I.hok b ob e).stay (λc w' hc q=>(hs.2 c ?_).trans q) (λ_ q=>q) λ_ _ q=>q;rintro rfl;rcases hc with rfl|hc
  .rw[U]at e;cases e
  .rw[U]at hc;cases hc
 rcases hx with hk|hk
 .refine wpAny_storeName_local hk hn (λh' aa hs=>?_) a1;obtain⟨oL,_,_,ab,_⟩:=id hn;refine h _ ⟨I.ok,I.os,I.bare,⟨λb o e n hb hx=>?_,λb o e n hb hx=>?_,I.base.free,λb o e hx=>?_,I.base.tups,I.base.frzs,I.base.tbls⟩,⟨_,aa,λj y v' O e2 e3=>?_⟩,λy c e=>?_,I.free,I.freeC,λp hp=>?_,G ⟨oL,ab,I.free⟩ hs,by simpa using I.len⟩ ⟨_,hs,.inl M⟩
  .exact(hs.2 b<|Za<|QU (Wg e) I.ok.above).trans<|I.base.keep b o e n hb hx
  .obtain⟨sl,O⟩:=I.base.slot b o e n hb hx;exact⟨sl,(hs.2 b<|Za<|QU (Wg e) I.ok.above).trans O⟩
  .obtain⟨o',O⟩:=I.base.there b o e hx;exact⟨o',(hs.2 b<|Za<|QU (Wg e) I.ok.above).trans O⟩
  .by_cases Z:j=i
   .subst Z;rw[hi]at O;cases O;rw[Vb Y]at e2;cases e2;exact⟨u,r,.inl ⟨hk,by simp⟩⟩
   .rw[List.getElem?_set_ne (Ne.symm Z)]at e2;obtain⟨u',r',q⟩:=hl j y v' O e2 e3;refine⟨u',r',?_⟩;rcases q with⟨k,e⟩|⟨k,c,e,z⟩
    .refine .inl ⟨k,?_⟩;have:y≠x:=λe=>Z (CN hN O<|e▸hi);simp[this,e]
    .exact .inr ⟨k,c,e,z.sameBut hs<|cne y c e⟩
  .obtain⟨w',z⟩:=I.cell y c e;exact⟨w',z.sameBut hs<|cne y c e⟩
  .obtain⟨e,n,ne,nf,d⟩:=I.pin p hp;exact⟨(hs.2 p.1 ne).trans e,n,ne,nf,d⟩
 .have a0:X.fn x=true:=by
   rcases hf with z|z
   .exact z
   .rw[z]at hk;cases hk
  obtain⟨c,hc⟩:=I.ok.has x (.inl hk);obtain⟨w',z⟩:=I.cell x c hc;refine wpAny_storeName_cell I.ok.kind hk hc z<|λh' a2 hs=>?_;obtain⟨oc,a3,a4⟩:=id z;refine h {s with heap:=h'} ⟨I.ok,I.os,I.bare,⟨λb o e n hb hx=>?_,λb o e n hb hx=>?_,I.base.free,λb o e hx=>?_,I.base.tups,I.base.frzs,I.base.tbls⟩,⟨m,hn.sameBut hs<|Ne.symm<|cne x c hc,λj y v' O e2 e3=>?_⟩,λy c' e=>?_,I.free,I.freeC,λp hp=>?_,G ⟨oc,a3,I.freeC x c hc⟩ hs,by simpa using I.len⟩ ⟨c,hs,.inr hc⟩
  .exact(hs.2 b<|Za<|QU (Wg e)<|I.ok.cab x c a0 hc).trans<|I.base.keep b o e n hb hx
  .obtain⟨sl,O⟩:=I.base.slot b o e n hb hx;exact⟨sl,(hs.2 b<|Za<|QU (Wg e)<|I.ok.cab x c a0 hc).trans O⟩
  .obtain⟨o',O⟩:=I.base.there b o e hx;exact⟨o',(hs.2 b<|Za<|QU (Wg e)<|I.ok.cab x c a0 hc).trans O⟩
  .by_cases Z:j=i
   .subst Z;rw[hi]at O;cases O;rw[Vb Y]at e2;cases e2;exact⟨u,r,.inr ⟨.inl hk,c,hc,a2⟩⟩
   .rw[List.getElem?_set_ne (Ne.symm Z)]at e2;obtain⟨u',r',q⟩:=hl j y v' O e2 e3;refine⟨u',r',?_⟩;rcases q with q|⟨k,c',e,z'⟩
    .exact .inl q
    .refine .inr ⟨k,c',e,z'.sameBut hs ?_⟩;rintro rfl;exact Z<|CN hN O (I.ok.inj _ _ _ e hc▸hi)
  .by_cases a5:c'=c
   .subst a5;exact⟨_,a2⟩
   .obtain⟨w2,z2⟩:=I.cell y c' e;exact⟨w2,z2.sameBut hs a5⟩
  .obtain⟨e,n,ne,nf,d⟩:=I.pin p hp;refine⟨(hs.2 p.1 ?_).trans e,n,ne,nf,d⟩;intro q;rw[q,a3]at e;have q':oc=p.2:=W8 e;exact d w'<|by rwa[<-q']
def wG {Q:Unit->Shared->Prop} (I:Inv X W B H s) (hN:X.N.Nodup) (hi:X.N[i]?=some x) (hx:Loc X.env.scope x) (r:RelV v u)
  (h:∀s',Inv X W (B.set i<|some v) H s'->Q Unit.unit s') (hf:X.fn x=true\/X.env.scope.names.lookup x=some .local:=by first|exact .inl M|exact .inr M|assumption):wpAny M' A (storeName X.env x u) Q E s:=
 zX I hN hi hx r (λs' z _=>h s' z) hf
def Inv.call' (I:Inv X W B H s) (G:s'.os=s.os) (u:Un (RH X.stack) ch H H' s.heap s'.heap) (hok:Pj X.prog X.w H' s'.heap) (O:AllBare s'.gens)
  (z:∀b∈ch,(b∈X.ex\/X.s₀.heap.objs.size<=b)/\b≠X.env.locals/\(∀x c,X.env.cells.lookup x=some c->c≠b)/\∀p∈X.pn++W,p.1≠b):Inv X W B H' s':=by
 obtain⟨h',g',d',t',o'⟩:=s';have e:o'=s.os:=G;subst e;exact I.call (g':=g') (t':=t') (d':=d') u hok O z
end
abbrev XK:=Value->Option Addr->Hp->Prop
abbrev St:=List (Option V)
abbrev VK:=V->Hp->Prop
abbrev TE:=St->Hp->VK->Prop
abbrev TT:=St->Hp->(Bool->Hp->Prop)->Prop
abbrev TA:=St->Hp->(List V->Hp->Prop)->Prop
structure ub where
 nx:St->Hp->Prop
 rt:VK
 bk:St->Hp->Prop:=λ_ _=>False
 ct:St->Hp->Prop:=λ_ _=>False
abbrev TS:=ub->St->Hp->Prop
def EP (X:Cx) (W:List (Addr×Obj)) (B:St) (Q:VK) (u:Value) (s':Shared):Prop:=∃v H',Inv X W B H' s'/\RelV v u/\Q v H'
def TP (X:Cx) (W:List (Addr×Obj)) (B:St) (Q:Bool->Hp->Prop) (b:Bool) (s':Shared):Prop:=∃H',Inv X W B H' s'/\Q b H'
def AP (X:Cx) (W:List (Addr×Obj)) (B:St) (Q:List V->Hp->Prop) (us:List Value) (s':Shared):Prop:=∃vs H',Inv X W B H' s'/\G1 vs us/\Q vs H'
def SP (X:Cx) (W:List (Addr×Obj)) (D:ub) (f:Flow) (s':Shared):Prop:=
 match f with
 | .next=>∃σ' H',Inv X W σ' H' s'/\D.nx σ' H'
 | .brk=>∃σ' H',Inv X W σ' H' s'/\D.bk σ' H'
 | .cont=>∃σ' H',Inv X W σ' H' s'/\D.ct σ' H'
 | .ret u=>∃v σ' H',Inv X W σ' H' s'/\RelV v u/\D.rt v H'
abbrev WO (X:Cx) {a}:=@wpAny a (model X.prog X.w) X.A
def PE (X:Cx) (e:Expr) (t:TE):Prop:=
 ∀(W:List (Addr×Obj)) (s:Shared) (B:St) (H:Hp) (Q:VK),Inv X W B H s->t B H Q->WO X (eval e X.env) (EP X W B Q) X.xe s
def PT (X:Cx) (e:Expr) (t:TT):Prop:=
 ∀(W:List (Addr×Obj)) (s:Shared) (B:St) (H:Hp) (Q:Bool->Hp->Prop),Inv X W B H s->t B H Q->WO X (isTrue e X.env<|eval e X.env) (TP X W B Q) X.xe s
def PW (X:Cx) (e:Expr) (t:TT):Prop:=
 ∀(whole:Sem Value) (W:List (Addr×Obj)) (s:Shared) (B:St) (H:Hp) (Q:Bool->Hp->Prop),Inv X W B H s->t B H Q->WO X (isTrue e X.env whole) (TP X W B Q) X.xe s
def PW.pt {t:TT} (h:PW X e t):PT X e t:=h _
def PA (X:Cx) (es:List Expr) (t:TA):Prop:=
 ∀(pos:Pos) (W:List (Addr×Obj)) (s:Shared) (B:St) (H:Hp) (Q:List V->Hp->Prop),Inv X W B H s->t B H Q->WO X (spliced<|backTo pos<|starEach es X.env) (AP X W B Q) X.xe s
def PS (X:Cx) (st:Stmt) (t:TS):Prop:=
 ∀(W:List (Addr×Obj)) (s:Shared) (B:St) (H:Hp) (D:ub),Inv X W B H s->t D B H->WO X (exec st X.env) (SP X W D) X.xe s
def Pt (X:Cx) (st:List Stmt) (t:TS):Prop:=
 ∀(W:List (Addr×Obj)) (s:Shared) (B:St) (H:Hp) (D:ub),Inv X W B H s->t D B H->WO X (execs st X.env) (SP X W D) X.xe s
def P0 {α:Type} {t:Sem α} {Q Q':α->Shared->Prop} (h:wpAny M' A t Q E s) (z:∀a s,Q a s->Q' a s):wpAny M' A t Q' E s:=Wv h z λ_ _ x=>x
section
inductive MB (i:Nat) (B:St) (H:Hp) (Q:VK):Prop
 |mk (v:_) (_:B[i]?=some (some v)) (_:Q v H)
def tC (v:V):TE:=λ_ H Q=>Q v H
def MX {i:Nat} (hN:X.N[i]?=some x) (O:SA X.env.scope x) (hd:(x==("__debug__":Str))=false:=by decide) (G:(x==("__classdict__":Str))=false:=by decide):PE X (.Name x pos) (MB i):=by
 intro W s B H Q I h;obtain⟨v,e,h⟩:=h;obtain⟨m,U,hl⟩:=I.loc;obtain⟨u,r,l⟩:=hl i x v hN e O;have fin:EP X W B Q u s:=⟨v,H,I,r,h⟩;rcases l with⟨hk,Y⟩|⟨hk,c,hc,z⟩
 .exact wpAny_Name (wpAny_loadName_local I.ok.kind hk U Y fin) hd
 .rcases hk with hk|hk
  .exact wpAny_Name (wpAny_loadName_cell I.ok.kind hk hc z fin) hd
  .exact wpAny_Name (wpAny_loadName_free I.ok.kind hk hc z fin G) hd
def af {i j pos}:PE X (.Constant (.int i) j pos) (tC<|.int i):=λ_ _ _ H _ I h=>wpAny_Constant_int ⟨.int i,H,I.tok _,⟨_,M⟩,h⟩
def oB {b j pos}:PE X (.Constant (.bool b) j pos) (tC<|.bl b):=λ_ _ _ H _ I h=>Constant_bool ⟨.bl b,H,I,M,h⟩
def a8 {j pos}:PE X (.Constant .none j pos) (tC .non):=λ_ _ _ H _ I h=>Constant_none ⟨.non,H,I,M,h⟩
def gy {x j pos}:PE X (.Constant (.str x) j pos) (tC<|.str x):=λ_ _ _ H _ I h=>Calls.Constant_str ⟨.str x,H,I.tok _,⟨_,M⟩,h⟩
def Gl (X:Cx) (x:Str):Prop:=X.env.kindOf x=some .globalImplicit
def sS {B:St} {H:Hp} {Q:Value->Shared->Prop} (I:Inv X W B H s) (z:Gl X x) (G:X.mg x=some u) (h:Q u s)
  (hd:(x==("__debug__":Str))=false:=by decide):WO X (eval (.Name x pos) X.env) Q E s:=
 Calls.Name_function_global I.ok.kind z (Calls.loadGlobal_global (by rw[I.ok.glob];exact I.mod.glob.keeps I.bk) G h) hd
def uQ {B:St} {H:Hp} {Q:Value->Shared->Prop} (I:Inv X W B H s) (z:Gl X x) (G:X.mg x=none) (O:bootBuiltins x=some u) (h:Q u s)
  (U:x≠"__name__":=by decide) (hd:(x==("__debug__":Str))=false:=by decide):WO X (eval (.Name x pos) X.env) Q E s:=by
 obtain⟨Y,h1,h2⟩:=I.mod.blt;exact Calls.Name_function_global I.ok.kind z (Calls.loadGlobal_builtin (by rw[I.ok.glob];exact I.mod.glob.keeps I.bk) G (by rw[I.ok.blt];exact h1.keeps I.bk) ((h2 x U).trans O) h) hd
def db {v:V} (z:Gl X x) (G:X.mg x=some u) (r:RelV v u) (hd:(x==("__debug__":Str))=false:=by decide):PE X (.Name x pos) (tC v):=
 λ_ _ _ H _ I h=>sS I z G ⟨v,H,I,r,h⟩ hd
def wu {v:V} (z:Gl X x) (G:X.mg x=none) (O:bootBuiltins x=some u) (r:RelV v u) (U:x≠"__name__":=by decide) (hd:(x==("__debug__":Str))=false:=by decide):PE X (.Name x pos) (tC v):=
 λ_ _ _ H _ I h=>uQ I z G O ⟨v,H,I,r,h⟩ U hd
variable {a b:Expr} {tb:TE}
def PC (X:Cx) (op:CmpOp) (a b:Expr) (t:TE):Prop:=
 ∀(W:List (Addr×Obj)) (s:Shared) (B:St) (H:Hp) (Q:VK),Inv X W B H s->t B H Q->
  WO X (eval a X.env) (λv s₁=>WO X (eval b X.env) (λu s₂=>WO X (compareOp op v u) (EP X W B Q) X.xe s₂) X.xe s₁) X.xe s
inductive tBR (Q:Bool->Hp->Prop) (x:V) (H1:Hp):Prop
 |mk (c:_) (_:x= .bl c) (_:Q c H1)
def tB (t:TE):TT:=λB H Q=>t B H λx H1=>tBR Q x H1
def Ic (h:PC X op a b t) (h1:behindInMarks op b=false:=by first|exact nobehind _ (_) (_)|rfl):PE X (.Compare a [op] [b] pos) t:=λW s B H Q I hw=>wpAny_Compare1 (h W s B H Q I hw) h1
def Eh (h:PC X op a b t) (h1:behindInMarks op b=false:=by first|exact nobehind _ (_) (_)|rfl):PT X (.Compare a [op] [b] pos) (tB t):=by
 intro W s B H Q I hw;refine wpAny_isTrue_Compare1 (P0 (h W s B H _ I hw) λv s1 h1=>P0 h1 λu U h2=>P0 h2 λc s3 z=>?_) h1;obtain⟨x,H1,G,r1,O⟩:=z;obtain⟨d,rfl,q⟩:=O;cases r1;exact Wt ⟨H1,G,q⟩
def bV (h:PE X e t) (he:∀z,isTrue e X.env z=(do let v<-z;standAt e.pos;holding [v] (truthy v)):=by intro _;rfl):PT X e (tB t):=by
 intro W s B H Q I hw;refine isTrue_plain (P0 (h W s B H _ I hw) λv s1 G=>?_)<|he _;obtain⟨x,H1,O,r1,U⟩:=G;obtain⟨d,rfl,q⟩:=U;cases r1;exact Wt ⟨H1,O,q⟩
variable {tA tB':TT} {rest:List Expr}
def tAnd (t u:TT):TT:=λB H Q=>t B H λc H1=>if c=true then u B H1 Q else Q false H1
def tOr (t u:TT):TT:=λB H Q=>t B H λc H1=>if c=true then Q true H1 else u B H1 Q
def tNot (t:TT):TT:=λB H Q=>t B H λc H1=>Q (!c) H1
def eG (ha:PT X a tA):PW X (.BoolOp .And [a] pos) tA:=by
 intro wh W s B H Q I h;refine isTrue_and<|P0 (ha W s B H Q I h) λc s1 e=>?_;cases c with
 |true=>exact isTrue_and_nil e
 |false=>exact e
def gw (ha:PT X a tA):PW X (.BoolOp .Or [a] pos) tA:=by
 intro wh W s B H Q I h;refine isTrue_or<|P0 (ha W s B H Q I h) λc s1 e=>?_;cases c with
 |false=>exact isTrue_or_nil e
 |true=>exact e
def gx (ha:PT X a tA) (hb:PW X (.BoolOp .And (b::rest) pos) tB'):PW X (.BoolOp .And (a::b::rest) pos) (tAnd tA tB'):=by
 intro wh W s B H Q I h;refine isTrue_and<|P0 (ha W s B H _ I h) λc s1 ⟨H1,z,G⟩=>?_;cases c with
 |true=>exact hb wh W s1 B H1 Q z G
 |false=>exact⟨H1,z,G⟩
def gU (ha:PT X a tA) (hb:PW X (.BoolOp .Or (b::rest) pos) tB'):PW X (.BoolOp .Or (a::b::rest) pos) (tOr tA tB'):=by
 intro wh W s B H Q I h;refine isTrue_or<|P0 (ha W s B H _ I h) λc s1 ⟨H1,z,G⟩=>?_;cases c with
 |true=>exact⟨H1,z,G⟩
 |false=>exact hb wh W s1 B H1 Q z G
def io (ha:PT X a tA):PT X (.UnaryOp .Not a pos) (tNot tA):=by
 intro W s B H Q I h;exact isTrue_not<|ha W s B H (λc H1=>Q (!c) H1) I h
def Od (ta tb:TE):TE:=λB H Q=>ta B H λx H1=>∃c,x= .bl c/\if c=true then tb B H1 Q else Q (.bl false) H1
def tOrV (ta tb:TE):TE:=λB H Q=>ta B H λx H1=>∃c,x= .bl c/\if c=true then Q (.bl true) H1 else tb B H1 Q
def N6 (ta:TE):TE:=λB H Q=>ta B H λx H1=>∃c,x= .bl c/\Q (.bl<|!c) H1
def dD {op} (h:PE X a t):PE X (.BoolOp op [a] pos) t:=λW s B H Q I hw=>BoolOp_one (h W s B H Q I hw)
def gA (ha:PE X a ta) (hb:PE X (.BoolOp .And (b::rest) pos) tb):PE X (.BoolOp .And (a::b::rest) pos) (Od ta tb):=by
 intro W s B H Q I h;refine BoolOp_and<|P0 (ha W s B H _ I h) λv s1 G=>?_;obtain⟨x,H1,O,r1,z⟩:=G;obtain⟨c,rfl,z⟩:=z;cases r1;refine Wt ?_;cases c with
 |true=>exact hb W s1 B H1 Q O z
 |false=>exact⟨.bl false,H1,O,M,z⟩
def CG (ha:PE X a ta) (hb:PE X (.BoolOp .Or (b::rest) pos) tb):PE X (.BoolOp .Or (a::b::rest) pos) (tOrV ta tb):=by
 intro W s B H Q I h;refine BoolOp_or<|P0 (ha W s B H _ I h) λv s1 G=>?_;obtain⟨x,H1,O,r1,z⟩:=G;obtain⟨c,rfl,z⟩:=z;cases r1;refine Wt ?_;cases c with
 |false=>exact hb W s1 B H1 Q O z
 |true=>exact⟨.bl true,H1,O,M,z⟩
def Bo (ha:PE X a ta):PE X (.UnaryOp .Not a pos) (N6 ta):=by
 intro W s B H Q I h;refine UnaryOp_<|P0 (ha W s B H _ I h) λv s1 z=>?_;obtain⟨x,H1,O,r1,G⟩:=z;obtain⟨c,rfl,G⟩:=G;cases r1;exact not_of<|Wt ⟨.bl<|!c,H1,O,M,G⟩
def tIf (t:TT) (ta tb:TE):TE:=λB H Q=>t B H λc H1=>if c=true then ta B H1 Q else tb B H1 Q
def Ib (hc:PT X c tA) (ha:PE X a ta) (hb:PE X b tb):PE X (.IfExp c a b pos) (tIf tA ta tb):=by
 intro W s B H Q I h;refine wpAny_IfExp<|P0 (hc W s B H _ I h) λd s1 ⟨H1,z,G⟩=>?_;cases d with
 |true=>exact ha W s1 B H1 Q z G
 |false=>exact hb W s1 B H1 Q z G
end
def Fz (K:WN) (H:Hp) (a:Addr) (xs:List V):Prop:=
 Rd H a (.lst xs)\/
  ∃(o:Obj) (its:Array Value) (n:Nat),K.lookup a=some o/\o.cls= .type "list"/\o.dict=none/\o.data= .seq its n/\its.size<=sizeLine/\G1 xs its.toList
def PX (K:WN) (H:Hp) (a:Addr) (xs:List V):Prop:=
 Rd H a (.tup xs)\/
  ∃(o:Obj) (its:Array Value) (n:Nat),K.lookup a=some o/\o.cls= .type "tuple"/\o.data= .seq its n/\its.size<=sizeLine/\G1 xs its.toList
noncomputable def absV:Value->Option V
 | .none=>some .non
 | .bool b=>some (.bl b)
 | .int i _=>some (.int i)
 | .str x _=>some (.str x)
 | .bytes b _=>some (.byt b)
 | .float b _=>some (.flt b)
 | .ref a=>some (.ref a)
 | .type n=>some (.ty n)
 |_=>none
def RelV.abs {x:V} (r:RelV x u):absV u=some x:=by
 cases x with
 |non=>cases r;rfl
 |bl _=>cases r;rfl
 |int _=>obtain⟨t,rfl⟩:=r;rfl
 |str _=>obtain⟨t,rfl⟩:=r;rfl
 |byt _=>obtain⟨t,rfl⟩:=r;rfl
 |flt _=>obtain⟨t,rfl⟩:=r;rfl
 |ref _=>cases r;rfl
 |ty _=>cases r;rfl
def RelV.inj {x:V} (r:RelV x u) (q:RelV y u):x=y:=W8 (r.abs.symm.trans q.abs)
def G1.inj:∀{xs ys:List V} {us:List Value},G1 xs us->G1 ys us->xs=ys
 |_,_,_,.nil,.nil=>rfl
 |_,_,_,.cons r t,.cons r' t'=>by rw[r.inj r',G1.inj t t']
section
variable {ys:List V}
def Fz.of (h:H a=some (.lst xs)):Fz K H a xs:= .inl (.inl h)
def PX.of (h:H a=some (.tup xs)):PX K H a xs:= .inl (.inl h)
def Inv.list (I:Inv X W B H s) (h:Fz X.K H a xs):∃its:List Value,G1 xs its/\PlainL s.heap a its.toArray/\xs.length<=sizeLine:=by
 rcases h with h|⟨o,its,n,hk,hc,hd,hs,hz,r⟩
 .obtain⟨z,its,n,r,e⟩:=h.ok I.hok;exact⟨its,r,⟨_,n,e,M,M,M⟩,z⟩
 .refine⟨its.toList,r,⟨o,n,I.kIn a o hk,hc,hd,by simpa using hs⟩,?_⟩;have e:=r.length;simp only[Q9]at e;lia
def Inv.tuple (I:Inv X W B H s) (h:PX X.K H a xs):∃its:List Value,G1 xs its/\IsTup s.heap a its.toArray/\xs.length<=sizeLine:=by
 rcases h with h|⟨o,its,n,hk,hc,hs,hz,r⟩
 .obtain⟨z,its,r,p⟩:=h.ok I.hok;exact⟨its,r,p,z⟩
 .refine⟨its.toList,r,⟨o,I.kIn a o hk,hc,n,by simpa using hs⟩,?_⟩;have e:=r.length;simp only[Q9]at e;lia
def Inv.list_inj (I:Inv X W B H s) (h:Fz X.K H a xs) (h':Fz X.K H a ys):xs=ys:=by
 obtain⟨its,r,⟨o,n,e,_,_,d⟩,_⟩:=I.list h;obtain⟨its',G,⟨o',n',z,_,_,d'⟩,_⟩:=I.list h';rw[e]at z;cases z;rw[d]at d';injection d' with d1 _;have:its=its':=by simpa using Wr Array.toList d1
 subst this;exact r.inj G
end
abbrev Cx.wish (X:Cx) (E:Value->Shared->Prop):Cx:={X with xe:=E}
abbrev Cx.nox (X:Cx):Cx:=X.wish λ_ _=>False
def Cx.Ok.wish (ok:X.Ok) (E:Value->Shared->Prop):(X.wish E).Ok:=
 ⟨ok.mod,ok.kind,ok.glob,ok.blt,ok.above,ok.inj,ok.has,ok.cab,ok.hd,ok.frames,ok.stk,ok.exf,ok.bs,ok.bsz,ok.noex,ok.exfs,ok.funs,ok.frf⟩
def Cx.Ok.unwish (ok:(X.wish E).Ok):X.Ok:=
 ⟨ok.mod,ok.kind,ok.glob,ok.blt,ok.above,ok.inj,ok.has,ok.cab,ok.hd,ok.frames,ok.stk,ok.exf,ok.bs,ok.bsz,ok.noex,ok.exfs,ok.funs,ok.frf⟩
def Inv.wish (I:Inv X W B H s) (E:Value->Shared->Prop):Inv (X.wish E) W B H s:=⟨I.ok.wish E,I.os,I.bare,I.base,I.loc,I.cell,I.free,I.freeC,I.pin,I.hok,I.len⟩
def Inv.unwish (I:Inv (X.wish E) W B H s):Inv X W B H s:=⟨I.ok.unwish,I.os,I.bare,I.base,I.loc,I.cell,I.free,I.freeC,I.pin,I.hok,I.len⟩
def SP.unwish {D:ub} {f:Flow} (h:SP (X.wish E) W D f s'):SP X W D f s':=by
 cases f with
 |next=>obtain⟨z,H',I,q⟩:=h;exact⟨z,H',I.unwish,q⟩
 |brk=>obtain⟨z,H',I,q⟩:=h;exact⟨z,H',I.unwish,q⟩
 |cont=>obtain⟨z,H',I,q⟩:=h;exact⟨z,H',I.unwish,q⟩
 |ret u=>obtain⟨v,z,H',I,r,q⟩:=h;exact⟨v,z,H',I.unwish,r,q⟩
def Pt.nox {st:List Stmt} {t:TS} (h:Pt X.nox st t):Pt X st t:=λW s B H D I hw=>
 Wv (h W s B H D (I.wish _) hw) (λ_ _ q=>q.unwish) λ_ _ z=>False.elim z
section
variable {st:Stmt} {rest:List Stmt} {t u:TS}
def nQ:TS:=λD B H=>D.nx B H
def yC (t u:TS):TS:=λD B H=>t {D with nx:=u D} B H
def aE:Pt X [] nQ:=λ_ _ B H _ I h=>wpAny_execs_nil ⟨B,H,I,h⟩
def oy (h1:PS X st t) (h2:Pt X rest u):Pt X (st::rest) (yC t u):=by
 intro W s B H D I h;refine wpAny_execs_cons<|P0 (h1 W s B H {D with nx:=u D} I h) λf s1 q=>?_;cases f with
 |next=>
  obtain⟨z,H',G,q⟩:=q;exact h2 W s1 z H' D G q
 |ret v=>exact q
 |brk=>exact q
 |cont=>exact q
def aB (h1:PS X st t):Pt X [st] t:=by
 intro W s B H D I h;refine wpAny_execs_cons<|P0 (h1 W s B H D I h) λf s1 q=>?_;cases f with
 |next=>exact wpAny_execs_nil q
 |ret v=>exact q
 |brk=>exact q
 |cont=>exact q
def MH:TS:=λD B H=>D.bk B H
def HZ:PS X (.Break pos) MH:=λ_ _ B H _ I h=>wpAny_Break ⟨B,H,I,h⟩
def Inv.quiet (I:Inv X W B H s):interactive X.env=false:=by simp[interactive,I.ok.kind]
def N8 (te:TE):TS:=λD B H=>te B H λ_ H1=>D.nx B H1
def aM (he:PE X e te) (hs:swapsWith e none pos.line X.env=pure false:=by rfl):PS X (.Expr e pos) (N8 te):=by
 intro W s B H D I h;exact wpAny_Expr_any (P0 (he W s B H _ I h) λv s1 ⟨x,H1,z,r1,G⟩=>⟨B,H1,z,G⟩) I.quiet hs
def tRet (te:TE):TS:=λD B H=>te B H D.rt
def aD (he:PE X e te):PS X (.Return (some e) pos) (tRet te):=by
 intro W s B H D I h;exact wpAny_Return_some<|P0 (he W s B H _ I h) λv s1 ⟨x,H1,z,r1,G⟩=>⟨x,B,H1,z,r1,G⟩
def N0:TS:=λD _ H=>D.rt .non H
def pR:PS X (.Return none pos) N0:=λ_ _ B H _ I h=>wpAny_Return_none ⟨.non,B,H,I,M,h⟩
def tIfS (c:TT) (t u:TS):TS:=λD B H=>c B H λb H1=>if b=true then t D B H1 else u D B H1
def aO {a b:List Stmt} (hc:PT X c tc) (ha:Pt X a t) (hb:Pt X b u):PS X (.If c a b pos) (tIfS tc t u):=by
 intro W s B H D I h;refine wpAny_If<|P0 (hc W s B H _ I h) λd s1 ⟨H1,z,G⟩=>?_;cases d with
 |true=>exact ha W s1 B H1 D z G
 |false=>exact hb W s1 B H1 D z G
end
abbrev TG:=V->St->Hp->(St->Hp->Prop)->Prop
abbrev TGs:=List V->St->Hp->(St->Hp->Prop)->Prop
def PG (X:Cx) (target:Expr) (t:TG):Prop:=
 ∀(W:List (Addr×Obj)) (s:Shared) (B:St) (H:Hp) (v:V) (u:Value) (Q:St->Hp->Prop),Inv X W B H s->RelV v u->t v B H Q->
  WO X (assign target X.env u) (λ_ s'=>∃σ' H',Inv X W σ' H' s'/\Q σ' H') X.xe s
def PGs (X:Cx) (ts:List Expr) (t:TGs):Prop:=
 ∀(W:List (Addr×Obj)) (s:Shared) (B:St) (H:Hp) (vs:List V) (us:List Value) (Q:St->Hp->Prop),Inv X W B H s->G1 vs us->t vs B H Q->
  WO X (assignInOrder ((assignEach ts X.env).map (·.2)) us) (λ_ s'=>∃σ' H',Inv X W σ' H' s'/\Q σ' H') X.xe s
abbrev NK:=V->V->V->Hp->(Hp->Prop)->Prop
def PSet (X:Cx) (t:NK):Prop:=
 ∀(W:List (Addr×Obj)) (s:Shared) (B:St) (H:Hp) (o i v:V) (ov iv u:Value) (Q:Hp->Prop),Inv X W B H s->RelV o ov->RelV i iv->RelV v u->t o i v H Q->
  WO X (setItem ov iv u) (λ_ s'=>∃H',Inv X W B H' s'/\Q H') X.xe s
abbrev TIp:=V->V->Hp->VK->Prop
def PIp (X:Cx) (op:Operator) (t:TIp):Prop:=
 ∀(W:List (Addr×Obj)) (s:Shared) (B:St) (H:Hp) (x y:V) (v u:Value) (Q:VK),Inv X W B H s->RelV x v->RelV y u->t x y H Q->
  WO X (inplaceOp op v u) (EP X W B Q) X.xe s
abbrev g7 (i:Nat):TG:=λv B H Q=>Q (B.set i<|some v) H
def E3 (hN:X.N.Nodup) (hi:X.N[i]?=some x) (hx:Loc X.env.scope x) (hf:X.fn x=true\/X.env.scope.names.lookup x=some .local:=by first|exact .inl M|exact .inr M|assumption):PG X (.Name x pos) (g7 i):=by
 intro W s B H v u Q I r h;exact wpAny_assign_Name<|wG I hN hi hx r (λs' z=>⟨_,H,z,h⟩) hf
def gNil:TGs:=λvs B H Q=>vs=[]/\Q B H
inductive OP (t:TG) (u:TGs) (vs:List V) (B:St) (H:Hp) (Q:St->Hp->Prop):Prop
 |mk (v r:_) (_:vs=v::r) (_:t v B H λσ' H'=>u r σ' H' Q)
def wt:PGs X [] gNil:=by
 intro W s B H vs us Q I r h;obtain⟨e,h⟩:=h;subst e;cases r;exact assignInOrder_nil ⟨B,H,I,h⟩
def fI {t:TG} {u:TGs} (h1:PG X e t) (h2:PGs X es u)
  (hs:(assignEach (e::es) X.env).map (·.2)=assign e X.env::(assignEach es X.env).map (·.2):=by rfl):PGs X (e::es) (OP t u):=by
 intro W s B H vs us Q I r h;obtain⟨v,vr,O,h⟩:=h;subst O;cases r with
 |cons r U=>
  rw[hs];refine assignInOrder_cons<|P0 (h1 W s B H _ _ _ I r h) λ_ s1 z=>?_;obtain⟨G,H1,Y,Z⟩:=z;exact h2 W s1 G H1 _ _ Q Y U Z
inductive gTup (K:WN) (n:Nat) (t:TGs) (v:V) (B:St) (H:Hp) (Q:St->Hp->Prop):Prop
 |mk (a xs:_) (_:v= .ref a) (_:PX K H a xs) (_:xs.length=n) (_:t xs B H Q)
def Bm {k:Nat} {t:TGs} (hc:X.calm=true) (h:PGs X es t)
  (G:(assignEach es X.env).length=n:=by rfl) (z:(assignEach es X.env).findIdx? (·.1)=none:=by rfl):PG X (.Tuple es k pos) (gTup X.K n t):=by
 intro W s B H v u Q I r hw;obtain⟨a,xs,O,hq,hl,hw⟩:=hw;subst O;cases r;obtain⟨its,rv,U,hz⟩:=I.tuple hq;refine assign_Tuple_tuple (I.ok.hd hc) U (by simp[G,<-hl,rv.length]) z λh' hx=>?_;have Y:Inv X W B H {s with heap:=h'}:=I.kept (t':=s.toks) λb o e=>hx b o (Za<|Wg e) e;exact h W _ B H xs _ Q Y (by simpa using rv) hw
def gSub (to ti:TE) (t:NK):TG:=λv B H Q=>to B H λo H1=>ti B H1 λi H2=>t o i v H2 λH3=>Q B H3
def Ek {o i:Expr} {to U:TE} {t:NK} (Y:PE X o to) (hi:PE X i U) (hs:PSet X t)
  (ha:∀v,assign (.Subscript o i pos) X.env v=(do
   let G<-holding [v] (eval o X.env)
   let O<-holding [v,G] (eval i X.env)
   standAt pos
   holding [v,G,O] (setItem G O v)
   release [v,G,O] []):=by intro _;rfl):PG X (.Subscript o i pos) (gSub to U t):=by
 intro W s B H v u Q I r h;rw[ha];refine We<|WA (P0 (Y W s B H _ I h) λG s1 z=>?_);obtain⟨x,H1,Z,r1,q1⟩:=z;refine We<|WA (P0 (hi W s1 B H1 _ Z q1) λO s2 z=>?_);obtain⟨y,H2,I2,r2,q2⟩:=z;refine We<|wpAny_standAt (We<|WA<|P0 (hs W s2 B H2 x y v G O u _ I2 r1 r2 r q2) λ_ s3 z=>?_);obtain⟨H3,I3,q3⟩:=z;exact wpAny_release ⟨B,H3,I3,q3⟩
def HE (te:TE) (g:TG):TS:=λD B H=>te B H λx H1=>g x B H1 D.nx
def xq {g:TG} (he:PE X e te) (G:PG X tg g) (hs:swapsWithSole [tg] e pos.line X.env=pure false:=by rfl) (hw:swappedStores [tg] e X.env=pure none:=by rfl)
  (h1:(assignEach [tg] X.env).map (·.2)=[assign tg X.env]:=by rfl):PS X (.Assign [tg] e pos) (HE te g):=by
 intro W s B H D I h;refine wpAny_Assign_stores (P0 (he W s B H _ I h) λv s1 z=>?_) hs hw;obtain⟨x,H1,O,r1,U⟩:=z;rw[h1];exact P0 (G W s1 B H1 x v _ O r1 U) λ_ Y q=>q
def oA (hN:X.N.Nodup) (hi:X.N[i]?=some x) (hx:Loc X.env.scope x) (he:PE X e te) (hs:swapsWith e (some<|.Name x pos') pos.line X.env=pure false:=by rfl) (hf:X.fn x=true\/X.env.scope.names.lookup x=some .local:=by first|exact .inl M|exact .inr M|assumption):
  PS X (.Assign [.Name x pos'] e pos) (HE te<|g7 i):=by
 intro W s B H D I h;refine wpAny_Assign_Name (P0 (he W s B H _ I h) λv s1 z=>?_) hs;obtain⟨y,H1,G,r1,O⟩:=z;exact wG G hN hi hx r1 (λY U=>⟨_,H1,U,O⟩) hf
inductive tAug (i:Nat) (te:TE) (ti:TIp) (D:ub) (B:St) (H:Hp):Prop
 |mk (x:_) (_:B[i]?=some (some x)) (_:te B H λy H1=>ti x y H1 λz H2=>D.nx (B.set i<|some z) H2)
def Ei {op:Operator} {Z:TIp} (hN:X.N.Nodup) (hi:X.N[i]?=some x) (hx:Loc X.env.scope x) (he:PE X e te) (ho:PIp X op Z) (hf:X.fn x=true\/X.env.scope.names.lookup x=some .local:=by first|exact .inl M|exact .inr M|assumption):
  PS X (.AugAssign (.Name x pos') op e pos) (tAug i te Z):=by
 intro W s B H D I h;obtain⟨v,e1,h⟩:=h;obtain⟨m,hn,hl⟩:=I.loc;have Y:SA X.env.scope x:=by rcases hx with k|k;exact .inl k;exact .inr<|.inl k
 obtain⟨u,r,l⟩:=hl i x v hi e1 Y;refine wpAny_AugAssign_Name ?_;have go:WO X (eval e X.env) (λw s₂=>WO X (inplaceOp op u w) (λr U=>WO X (storeName X.env x r) (λ_=>SP X W D .next) X.xe U) X.xe s₂) X.xe s:=by
  refine P0 (he W s B H _ I h) λw s1 G=>?_;obtain⟨y,H1,I1,r1,q1⟩:=G;refine P0 (ho W s1 B H1 v y u w _ I1 r r1 q1) λz s2 G=>?_;obtain⟨zv,H2,I2,r2,q2⟩:=G;exact wG I2 hN hi hx r2 (λs3 I3=>⟨_,H2,I3,q2⟩) hf
 rcases l with⟨hk,hm⟩|⟨hk,c,hc,O⟩
 .exact wpAny_loadName_local I.ok.kind hk hn hm go
 .rcases hk with hk|hk
  .exact wpAny_loadName_cell I.ok.kind hk hc O go
  .rcases hx with k|k
   .have:X.env.scope.names.lookup x=some .free:=hk;rw[k]at this;cases this
   .have:X.env.scope.names.lookup x=some .free:=hk;rw[k]at this;cases this
inductive ipI (f:Int->Int->Int) (x y:V) (H:Hp) (Q:VK):Prop
 |mk (i j:_) (_:x= .int i) (_:y= .int j) (_:Q (.int<|f i j) H)
def IV:PIp X .Add (ipI λi j=>i+j):=by
 intro W s B H x y v u Q I r1 z h;obtain⟨i,j,G,e2,q⟩:=h;subst G;subst e2;obtain⟨t,rfl⟩:=r1;obtain⟨t',rfl⟩:=z;exact iadd_int ⟨.int _,H,I.tok _,⟨_,M⟩,q⟩
def Nn:PIp X .Sub (ipI λi j=>i-j):=by
 intro W s B H x y v u Q I r1 z h;obtain⟨i,j,G,e2,q⟩:=h;subst G;subst e2;obtain⟨t,rfl⟩:=r1;obtain⟨t',rfl⟩:=z;exact isub_int ⟨.int _,H,I.tok _,⟨_,M⟩,q⟩
def Hz (c:TT) (tb:TS):TS:=λD B H=>∃JK:Nat->St->Hp->Prop,(∃m,JK m B H)/\∀m B H,JK m B H->
 c B H λb H1=>if b=true then ∃N:St->Hp->Prop,(∀σ' H',N σ' H'->∃m',m'<m/\JK m' σ' H')/\tb {D with nx:=N,ct:=N,bk:=D.nx} B H1 else D.nx B H1
def oz (hp:PassesOwn (model X.prog X.w) X.A X.env X.xe) (hc:PT X c tc) (hb:Pt X body tb):PS X (.While c body [] pos) (Hz tc tb):=by
 intro W s B H D I h;obtain⟨JK,⟨m0,w0⟩,turn⟩:=h;refine wpAny_While<|codeAny_whileLoop (λn s'=>∃O H',Inv X W O H' s'/\JK n O H') ?_ m0 ⟨B,H,I,w0⟩;rintro n s1 ⟨G,H1,I1,w1⟩;refine Wz hp<|P0 (hc W s1 G H1 _ I1<|turn n G H1 w1) λb s2 ⟨H2,I2,U⟩=>?_;cases b with
 |true=>
  obtain⟨N,hN,U⟩:=U;rw[W7 M];refine Wz hp<|P0 (hb W s2 G H2 _ I2 U) λf s3 Y=>?_;cases f with
  |next=>
   obtain⟨z,H3,Z,n3⟩:=Y;obtain⟨m',hm,w3⟩:=hN z H3 n3;exact⟨m',hm,z,H3,Z,w3⟩
  |cont=>
   obtain⟨z,H3,Z,n3⟩:=Y;obtain⟨m',hm,w3⟩:=hN z H3 n3;exact⟨m',hm,z,H3,Z,w3⟩
  |brk=>exact Y
  |ret v=>exact Y
 |false=>
  rw[W6 Qz];exact wpAny_execs_nil ⟨G,H2,I2,U⟩
structure It where
 go:Nat->Hp->Prop
 yld:Nat->Hp->V->Hp->Prop
 stop:Nat->Hp->Prop
def Dz (X:Cx) (W:List (Addr×Obj)) (H:Hp) (b:Addr):Prop:=
 H b=none/\b≠X.env.locals/\b∉X.fs/\(b∈X.ex\/X.s₀.heap.objs.size<=b)/\(∀x c,X.env.cells.lookup x=some c->c≠b)/\∀p∈X.pn++W,p.1≠b
def Inv.fpOk (I:Inv X W B H s) (hb:s.heap.objs.size<=b) (G:H' b=none):Dz X W H' b:=by
 refine⟨G,Vc<|QU I.lt hb,I.nofs hb,.inr<|QQ I.sz hb,λx c e z=>?_,λp O z=>?_⟩
 .obtain⟨v,q⟩:=I.cell x c e;exact Wb (QU q.lt<|by rwa[z])<|Xb _
 .exact Wb (QU (Wg (I.pin p O).1)<|by rwa[z]) (Xb _)
structure Dy (P:Program) (w:World) (K:WN) (tg:Expr) (J:It) (fp:List Addr) (it:Addr) (tn:Nat->Heap->Prop):Prop where
 mem:it∈fp
 obj:∀i h,tn i h->∀b∈fp,∃o,h.get? b=some o/\∀v,o.data≠ .cell v
 keep:∀i h h',tn i h->(∀b∈fp,∀o,h.get? b=some o->h'.get? b=some o)->tn i h'
 item:∀(X:Cx),X.prog=P->X.w=w->X.K=K->X.calm=true->∀(i:Nat) (W:List (Addr×Obj)) (s:Shared) (B:St) (H:Hp) (E:Value->Shared->Prop),Inv X W B H s->(∀b∈fp,Dz X W H b)->tn i s.heap->J.go i H->
  wpAny (model P w) X.A (pyNext<|.ref it) (λr s1=>∃u,r=some u/\
   wpAny (model P w) X.A (letOwnedTupleGo tg (.ref it) u) (λ_ s2=>∃x H',Inv X W B H' s2/\RelV x u/\J.yld i H x H'/\tn (i+1) s2.heap/\∀b∈fp,H' b=none) E s1) E s
 done:∀(X:Cx),X.prog=P->X.w=w->X.K=K->X.calm=true->∀(i:Nat) (W:List (Addr×Obj)) (s:Shared) (B:St) (H:Hp) (E:Value->Shared->Prop),Inv X W B H s->(∀b∈fp,Dz X W H b)->tn i s.heap->J.stop i H->
  wpAny (model P w) X.A (pyNext<|.ref it) (λr s1=>r=none/\Inv X W B H s1) E s
 self:∀(A:Around) (i:Nat) (s:Shared) (Q:Value->Shared->Prop) (E:Value->Shared->Prop),tn i s.heap->Q (.ref it) s->wpAny (model P w) A (pyIter<|.ref it) Q E s
abbrev TI:=St->Hp->(It->Hp->Prop)->Prop
def PIE (X:Cx) (W:List (Addr×Obj)) (B:St) (tg:Expr) (R:It->Hp->Prop) (itv:Value) (s2:Shared):Prop:=
 ∃(it:Addr) (fp:List Addr) (tn:Nat->Heap->Prop) (J:It) (H':Hp),itv= .ref it/\Inv X W B H' s2/\Dy X.prog X.w X.K tg J fp it tn/\tn 0 s2.heap/\(∀b∈fp,Dz X W H' b)/\R J H'
def PI (X:Cx) (tg iter:Expr) (wi:TI):Prop:=
 ∀(W:List (Addr×Obj)) (s:Shared) (B:St) (H:Hp) (R:It->Hp->Prop),Inv X W B H s->wi B H R->
  WO X (eval iter X.env) (λv s1=>WO X (pyIter v) (PIE X W B tg R) X.xe s1) X.xe s
def An {o:Obj} {n:String} {vs:Array Value} {Q:Unit->Shared->Prop} (G:s.heap.get? it=some o) (hc:o.cls= .type n) (hd:o.data= .fields vs)
  (I:["enumerate","zip","dict_itemiterator","dict_reverseitemiterator","odict_iterator","itertools.zip_longest","itertools.pairwise"].contains n=false) (z:Q Unit.unit s):wpAny M' A (letOwnedTupleGo tg (.ref it) u) Q E s:=by
 unfold letOwnedTupleGo;cases tg<;>first
  |exact Wl z
  |(cases u<;>first
    |exact Wl z
    |(refine We<|wpAny_load G ?_
      rw[hc,hd];show wpAny M' A (if(["enumerate","zip","dict_itemiterator","dict_reverseitemiterator","odict_iterator","itertools.zip_longest","itertools.pairwise"].contains n&&vs[0]?==some (rawInt _))=true then _ else _) Q E s;rw[W6 (by intro h;rw[I,Xl]at h;cases h)];exact Wl z))
def RG (K:WN) (a:Addr):It:=
 ⟨λi H=>∃xs x,Fz K H a xs/\xs[i]?=some x,λi H x H'=>H'=H/\∀xs,Fz K H a xs->xs[i]?=some x,λi H=>∃xs,Fz K H a xs/\xs.length<=i⟩
def RN (lo:Int) (n:Nat):It:=⟨λi _=>i<n,λi H x H'=>H'=H/\x= .int (lo+i),λi _=>n<=i⟩
def FS (a it:Addr):Dy P w K tg (RG K a) [it] it (λi h=>h.IsListIter it a i) where
 mem:=by simp
 obj:=λi h st b hb=>by
  have e:b=it:=by simpa using hb
  subst e;obtain⟨o,e,c,d⟩:=st;exact⟨o,e,λv z=>by rw[d]at z;cases z⟩
 keep:=λi h h' st k=>st.at λo e=>k it (by simp) o e
 item:=by
  intro X G hw hK hc i W s B H E I hf st O;subst G hw hK;obtain⟨xs,x,hq,hx⟩:=O;obtain⟨its,rv,p,hz⟩:=I.list hq;obtain⟨u,hu,ru⟩:=rv.get hx;obtain⟨U,Y,f2,Z,f4,f5⟩:=hf it (by simp);refine wpAny_pyNext_list_item st p.isList (x:=u) (by simpa using hu) λh' st' sb=>?_;have I1:Inv X W B H {s with heap:=h'}:=I.turned (t':=s.toks) (λb o hb e=>(sb.2 b hb).trans e) U Y Z f4 f5;obtain⟨o,e,c,d⟩:=id st';exact⟨u,M,An (s:={s with heap:=h'}) e c d (_) ⟨x,H,I1,ru,⟨M,λys hy=>by rwa[I.list_inj hy hq]⟩,st',λb hb=>(hf b hb).1⟩⟩
 done:=by
  intro X G hw hK hc i W s B H E I hf st O;subst G hw hK;obtain⟨xs,hq,hx⟩:=O;obtain⟨its,rv,p,hz⟩:=I.list hq;obtain⟨U,Y,f2,Z,f4,f5⟩:=hf it (by simp);have hl:=rv.length;exact wpAny_pyNext_list_end (I.ok.hd hc) st p.isList (by simp;lia) λh' eb=>⟨M,I.turned (t':=s.toks) (λb o hb e=>eb b o hb e) U Y Z f4 f5⟩
 self:=λ_ _ _ _ _ st h=>wpAny_pyIter_listiter st h
def DV (it:Addr) (lo:Int) (n:Nat):Dy P w K tg (RN lo n) [it] it (λi h=>IsRangeIter h it (lo+(i:Nat)*1) ((n:Int)-(i:Nat)) 1) where
 mem:=by simp
 obj:=λi h st b hb=>by
  have e:b=it:=by simpa using hb
  subst e;exact⟨_,st,λv z=>by
   have z':Data.fields _=Data.cell v:=z;cases z'⟩
 keep:=λi h h' st k=>k it (by simp) _ st
 item:=by
  intro X G hw hK hc i W s B H E I hf st O;subst G hw hK;obtain⟨U,Y,f2,Z,f4,f5⟩:=hf it (by simp);have JK:=Walks.range (prog:=X.prog) (w:=X.w) (I.ok.hd hc) it lo 1 n;refine JK.item i s _ _ O st λv h' tk hv st' kk=>?_;obtain⟨t,rfl⟩:=hv;have I1:Inv X W B H {s with heap:=h',toks:=tk}:=I.turned (λb o hb e=>kk b o (by simpa using hb) e) U Y Z f4 f5;refine⟨_,M,An (s:={s with heap:=h',toks:=tk}) (n:="range_iterator") st' M M (_) ⟨.int<|lo+i,H,I1,⟨t,?_⟩,⟨M,M⟩,st',λb hb=>(hf b hb).1⟩⟩;rw[Int.mul_one]
 done:=by
  intro X G hw hK hc i W s B H E I hf st O;subst G hw hK;obtain⟨U,Y,f2,Z,f4,f5⟩:=hf it (by simp);exact wpAny_pyNext_range_end (I.ok.hd hc) st (by have:n<=i:=O;lia) λh' eb=>⟨M,I.turned (t':=s.toks) (λb o hb e=>eb b o hb e) U Y Z f4 f5⟩
 self:=λ_ _ _ _ _ st h=>wpAny_pyIter_rangeiter st h
inductive Nq (K:WN) (R:It->Hp->Prop) (x:V) (H1:Hp):Prop
 |mk (a:_) (_:x= .ref a) (_:(∃xs,Fz K H1 a xs)) (_:R (RG K a) H1)
def OM (K:WN) (tl:TE):TI:=λB H R=>tl B H λx H1=>Nq K R x H1
def dO {l:Expr} {tl:TE} (hl:PE X l tl):PI X tg l (OM X.K tl):=by
 intro W s B H R I h;refine P0 (hl W s B H _ I h) λv s1 G=>?_;obtain⟨x,H1,z,r1,O⟩:=G;obtain⟨a,e,⟨xs,hq⟩,q⟩:=O;subst e;cases r1;obtain⟨its,rv,p,hz⟩:=z.list hq;refine wpAny_pyIter_list p.isList ?_;refine⟨s1.heap.objs.size,[s1.heap.objs.size],_,_,H1,M,z.kept (t':=s1.toks) λb o e=>W9 _ e,FS a _,⟨_,Wi _ M,M,M⟩,λb hb=>?_,q⟩;have e:b=s1.heap.objs.size:=by simpa using hb
 subst e;exact z.fpOk (Q4 _)<|z.hok.fresh (Q4 _)
def HR {R:It->Hp->Prop} {hi:Int} {t u v:Tok} {tk:Nat} (I:Inv X W B H s) (h1: -(2^62)<=lo) (h2:lo<2^62) (G: -(2^62)<=hi) (O:hi<2^62)
  (q:R (RN lo (hi-lo).toNat) H):WO X (pyIter<|.ref s.heap.objs.size) (PIE X W B tg R) E {s with heap:=s.heap.push {cls:= .type "range",data:= .fields #[.int lo t,.int hi u,.int 1 v]},toks:=tk}:=by
 refine wpAny_pyIter_range (IsRange.new ..) (small_one h1 h2 G O) ?_;have z:Inv X W B H {s with heap:=s.heap.push {cls:= .type "range",data:= .fields #[.int lo t,.int hi u,.int 1 v]},toks:=tk}:=I.kept λb o e=>W9 _ e;refine⟨(s.heap.push {cls:= .type "range",data:= .fields #[.int lo t,.int hi u,.int 1 v]}).objs.size,[(s.heap.push {cls:= .type "range",data:= .fields #[.int lo t,.int hi u,.int 1 v]}).objs.size],_,_,H,M,
  z.kept (t':=tk) λb o e=>W9 _ e,DV _ lo (hi-lo).toNat,?_,λb hb=>?_,q⟩
 .have U:lo+((0:Nat):Int)*1=lo:=by simp
  have e2:(((hi-lo).toNat:Nat):Int)-((0:Nat):Int)=Builtin.Range.rangeSize lo hi 1:=by rw[rangeSize_one];split<;>lia
  show IsRangeIter _ _ (lo+((0:Nat):Int)*1) ((((hi-lo).toNat:Nat):Int)-((0:Nat):Int)) 1;rw[U,e2];exact Wi _ M
 .have e:b=(s.heap.push {cls:= .type "range",data:= .fields #[.int lo t,.int hi u,.int 1 v]}).objs.size:=by simpa using hb
  subst e;exact z.fpOk (Q4 _) (z.hok.fresh<|Q4 _)
inductive Np (R:It->Hp->Prop) (vs:List V) (H1:Hp):Prop
 |mk (j:Int) (_:vs=[.int j]) (_: -(2^62)<=j) (_:j<2^62) (_:R (RN 0 j.toNat) H1)
def OL (ta:TA):TI:=λB H R=>ta B H λvs H1=>Np R vs H1
def iU {a:Expr} {ta:TA} (O:Gl X "range") (U:X.mg "range"=none) (ha:PA X [a] ta) (hs:starEach [a] X.env=[(false,eval a X.env)]:=by rfl):PI X tg (.Call (.Name "range" p) [a] [] pos) (OL ta):=by
 intro W s B H R I h;refine Call_<|uQ I O U boot_range (PyProof.Rows.callWith_type1 (P0 (ha pos W s B H _ I h) λus s1 z=>?_) hs M);obtain⟨vs,H1,Y,r1,G⟩:=z;obtain⟨j,e,G,Z,q⟩:=G;subst e;cases r1 with
 |cons r rr=>
  cases rr;obtain⟨t,rfl⟩:=r;exact call_range_1<|HR Y () () G Z (by simpa using q)
def tFor (wi:TI) (g:TG) (tb:TS):TS:=λD B H=>wi B H λJ H1=>∃JK:Nat->Nat->St->Hp->Prop,(∃m,JK 0 m B H1)/\∀i m B H,JK i m B H->
 (J.stop i H/\D.nx B H)\/(J.go i H/\∃N:St->Hp->Prop,(∀σ' H',N σ' H'->∃m',m'<m/\JK (i+1) m' σ' H')/\∀x H',J.yld i H x H'->g x B H' λσ2 H2=>tb {D with nx:=N,ct:=N,bk:=D.nx} σ2 H2)
def xt (fp:List Addr) (h:Heap):List (Addr×Obj):=fp.filterMap λb=>(h.get? b).map λo=>(b,o)
def mj {o:Obj} (hb:b∈fp) (e:h.get? b=some o):(b,o)∈xt fp h:=List.mem_filterMap.mpr ⟨b,hb,by rw[e];rfl⟩
def Gj {p:Addr×Obj} (z:p∈xt fp h):p.1∈fp/\h.get? p.1=some p.2:=by
 obtain⟨b,hb,e⟩:=List.mem_filterMap.mp z;cases q:h.get? b with
 |none=>rw[q]at e;cases e
 |some o=>
  rw[q]at e;have G:(b,o)=p:=W8 e;subst G;exact⟨hb,q⟩
def Inv.pinned (I:Inv X W B H s) (hf:∀b∈fp,Dz X W H b) (O:∀b∈fp,∃o,s.heap.get? b=some o/\∀v,o.data≠ .cell v):Inv X (W++xt fp s.heap) B H s:=
 I.pins_of λp U=>(Q5.mp U).elim (λz=>I.pin p<|QV _ z) λz=>by
  obtain⟨hb,e⟩:=Gj z;obtain⟨Y,Z,f2,_⟩:=hf p.1 hb;obtain⟨o,G,d⟩:=O p.1 hb;rw[e]at G;cases G;exact⟨e,Y,Z,f2,d⟩
def Inv.unpinned {pl:List (Addr×Obj)} (I:Inv X (W++pl) B H s):Inv X W B H s:=I.pins_of λp z=>I.pin p (QV _<|XR _ z)
def fH {iter:Expr} {wi:TI} {g:TG} (hp:PassesOwn (model X.prog X.w) X.A X.env X.xe) (hc:X.calm=true) (hi:PI X tg iter wi) (hg:PG X tg g) (hb:Pt X body tb)
  (hs:∀x,foldedSetIterable iter X.env x=pure x:=by intro _;rfl):PS X (.For tg iter body [] pos) (tFor wi g tb):=by
 intro W s B H D I h;refine wpAny_For (P0 (hi W s B H _ I h) λv s1 h1=>P0 h1 λab s2 h2=>?_) hs;obtain⟨it,fp,tn,J,H2,e,I2,T,st2,f2,JK,⟨m0,w0⟩,turn⟩:=h2;subst e;have G:∀{H':Hp},(∀b∈fp,H' b=none)->∀b∈fp,Dz X W H' b:=λhn b hb=>⟨hn b hb,(f2 b hb).2⟩;refine codeAny_forLoop_any (λn s'=>∃i O H',Inv X W O H' s'/\tn i s'.heap/\(∀b∈fp,H' b=none)/\JK i n O H') ?_ m0 ⟨0,B,H2,I2,st2,λb hb=>(f2 b hb).1,w0⟩;rintro n s3 ⟨i,U,H3,I3,a2,a3,w3⟩;rcases turn i n U H3 w3 with⟨stop,qn⟩|⟨go,N,hN,step⟩
 .refine Wz hp<|P0 (T.done X M M M hc i W s3 U H3 X.xe I3 (G a3) a2 stop) λr s4 ⟨hr,I4⟩=>?_;subst hr;exact wpAny_execs_nil ⟨U,H3,I4,qn⟩
 .refine Wz hp<|P0 (T.item X M M M hc i W s3 U H3 X.xe I3 (G a3) a2 go) λr s4 ⟨u,hr,h4⟩=>?_;subst hr;refine Wz hp<|P0 h4 λ_ s5 a0=>?_;obtain⟨x,H5,I5,r5,y5,a1,a4⟩:=a0;have a5:=I5.pinned (G a4) (T.obj _ _ a1);refine Wz hp<|P0 (hg _ s5 U H5 x u _ a5 r5<|step x H5 y5) λ_ s6 a0=>?_;obtain⟨aa,H6,I6,q6⟩:=a0;refine Wz hp<|P0 (hb _ s6 aa H6 _ I6 q6) λf s7 q7=>?_;have again:∀{z:St} {Y:Hp},Inv X (W++xt fp s5.heap) z Y s7->N z Y->∃m,m<n/\∃i O H',Inv X W O H' s7/\tn i s7.heap/\(∀b∈fp,H' b=none)/\JK i m O H':=λ{z Y} Z n7=>by
   obtain⟨m',hm,w7⟩:=hN z Y n7;refine⟨m',hm,i+1,z,Y,Z.unpinned,T.keep _ _ _ a1 λb hb o e=>(Z.pin (b,o)<|QV _<|QV _<|mj hb e).1,λb hb=>?_,w7⟩;obtain⟨o,e,d⟩:=T.obj _ _ a1 b hb;exact(Z.pin (b,o)<|QV _<|QV _<|mj hb e).2.1
  cases f with
  |next=>obtain⟨z,Y,Z,n7⟩:=q7;exact again Z n7
  |cont=>obtain⟨z,Y,Z,n7⟩:=q7;exact again Z n7
  |brk=>obtain⟨z,Y,Z,q7⟩:=q7;exact⟨z,Y,Z.unpinned,q7⟩
  |ret v=>obtain⟨x7,z,Y,Z,r7,q7⟩:=q7;exact⟨x7,z,Y,Z.unpinned,r7,q7⟩
def Jj {g:TG} {D:ub} (Pv:Nat->St->Hp->Prop) (O:Pv 0 B H) (hl:∀i B H,i<=xs.length->Pv i B H->Fz K H a xs)
  (hs:∀i x B H,xs[i]?=some x->Pv i B H->g x B H λz H2=>tb {D with nx:=Pv (i+1),ct:=Pv (i+1),bk:=D.nx} z H2) (hd:∀B H,Pv xs.length B H->D.nx B H):
  ∃JK:Nat->Nat->St->Hp->Prop,(∃m,JK 0 m B H)/\∀i m B H,JK i m B H->
   ((RG K a).stop i H/\D.nx B H)\/((RG K a).go i H/\∃N:St->Hp->Prop,(∀G H',N G H'->∃m',m'<m/\JK (i+1) m' G H')/\∀x H',(RG K a).yld i H x H'->g x B H' λz H2=>tb {D with nx:=N,ct:=N,bk:=D.nx} z H2):=by
 refine⟨λi m B H=>m=xs.length-i/\i<=xs.length/\Pv i B H,⟨xs.length,by simp,QF _,O⟩,?_⟩;rintro i m B H ⟨rfl,hi,p⟩;have q:=hl i B H hi p;by_cases I:i<xs.length
 .refine .inr ⟨⟨xs,xs[i],q,by simp[I]⟩,Pv<|i+1,λG H' U=>⟨xs.length-(i+1),(),M,I,U⟩,λx H' y=>?_⟩;obtain⟨e,y⟩:=y;subst e;exact hs i x B _ (y xs q) p
 .have e:i=xs.length:=();subst e;exact .inl ⟨⟨xs,q,Q4 _⟩,hd B H p⟩
def Ap {g:TG} {D:ub} (Pv:Nat->St->Hp->Prop) (O:Pv 0 B H)
  (hs:∀i B H,i<n->Pv i B H->g (.int<|lo+i) B H λz H2=>tb {D with nx:=Pv (i+1),ct:=Pv (i+1),bk:=D.nx} z H2) (hd:∀B H,Pv n B H->D.nx B H):
  ∃JK:Nat->Nat->St->Hp->Prop,(∃m,JK 0 m B H)/\∀i m B H,JK i m B H->
   ((RN lo n).stop i H/\D.nx B H)\/((RN lo n).go i H/\∃N:St->Hp->Prop,(∀G H',N G H'->∃m',m'<m/\JK (i+1) m' G H')/\∀x H',(RN lo n).yld i H x H'->g x B H' λz H2=>tb {D with nx:=N,ct:=N,bk:=D.nx} z H2):=by
 refine⟨λi m B H=>m=n-i/\i<=n/\Pv i B H,⟨n,by simp,QF _,O⟩,?_⟩;rintro i m B H ⟨rfl,hi,p⟩;by_cases I:i<n
 .refine .inr ⟨I,Pv<|i+1,λG H' U=>⟨n-(i+1),(),M,I,U⟩,λx H' y=>?_⟩;obtain⟨e,y⟩:=y;subst e y;exact hs i B _ I p
 .have e:i=n:=();subst e;exact .inl ⟨Q4 _,hd B H p⟩
abbrev R2:=V->V->Hp->VK->Prop
def Qa (X:Cx) (f:Value->Value->Sem Value) (r:R2):Prop:=
 ∀(W:List (Addr×Obj)) (s:Shared) (B:St) (H:Hp) (x y:V) (v u:Value) (Q:VK),Inv X W B H s->RelV x v->RelV y u->r x y H Q->
  WO X (f v u) (EP X W B Q) X.xe s
def UnR (X:Cx) (f:Value->Sem Value) (r:V->Hp->VK->Prop):Prop:=
 ∀(W:List (Addr×Obj)) (s:Shared) (B:St) (H:Hp) (x:V) (v:Value) (Q:VK),Inv X W B H s->RelV x v->r x H Q->
  WO X (f v) (EP X W B Q) X.xe s
def gk (X:Cx) (f:Value) (r:List V->Hp->VK->Prop):Prop:=
 ∀(W:List (Addr×Obj)) (s:Shared) (B:St) (H:Hp) (xs:List V) (us:List Value) (Q:VK),Inv X W B H s->G1 xs us->r xs H Q->
  WO X (call f us) (EP X W B Q) X.xe s
def tOp (r:R2) (ta tb:TE):TE:=λB H Q=>ta B H λx H1=>tb B H1 λy H2=>r x y H2 Q
def tUn (r:V->Hp->VK->Prop) (ta:TE):TE:=λB H Q=>ta B H λx H1=>r x H1 Q
inductive rI (C:Int->Int->Prop) (g:Int->Int->V) (x y:V) (H:Hp) (Q:VK):Prop
 |mk (i j:_) (_:x= .int i) (_:y= .int j) (_:C i j) (_:Q (g i j) H)
inductive Rh (g:Int->Int->V) (x y:V) (H:Hp) (Q:VK):Prop
 |mk (i j:_) (_:x= .int i) (_:y= .int j) (_:Q (g i j) H)
inductive rU (g:Int->V) (x:V) (H:Hp) (Q:VK):Prop
 |mk (i:_) (_:x= .int i) (_:Q (g i) H)
section
variable {a b:Expr} {tb tc:TE}
def NF (ha:PE X a ta) (hb:PE X b tb) {R:V->V->Hp->Prop} (I:Inv X W B H s)
  (h:ta B H λx H1=>tb B H1 λy H2=>R x y H2) {f:Value->Value->Sem Value}
  (hf:∀v u G x y H2,Inv X W B H2 G->RelV x v->RelV y u->R x y H2->WO X (f v u) Q X.xe G):
  WO X (eval a X.env) (λv s₁=>WO X (eval b X.env) (λu s₂=>WO X (f v u) Q X.xe s₂) X.xe s₁) X.xe s:=by
 refine P0 (ha W s B H _ I h) λv s1 z=>?_;obtain⟨x,H1,O,r1,U⟩:=z;refine P0 (hb W s1 B H1 _ O U) λu G z=>?_;obtain⟨y,H2,Y,Z,q2⟩:=z;exact hf v u G x y H2 Y r1 Z q2
def ao {op:Operator} (z:Qa X (binaryOp op) r) (ha:PE X a ta) (hb:PE X b tb):PE X (.BinOp a op b pos) (tOp r ta tb):=by
 intro W s B H Q I h;exact wpAny_BinOp<|NF ha hb I h λv u G x y H2 O U Y q=>z W G B H2 x y v u Q O U Y q
def Ia {op:UnaryOp} {r:V->Hp->VK->Prop} (z:UnR X (unaryOp op) r) (ha:PE X a ta):PE X (.UnaryOp op a pos) (tUn r ta):=by
 intro W s B H Q I h;exact UnaryOp_<|P0 (ha W s B H _ I h) λv s1 ⟨x,H1,G,r1,O⟩=>z W s1 B H1 x v Q G r1 O
def opI {f:Value->Value->Sem Value} {C:Int->Int->Prop} 
  (rule:∀(i j:Int) (t u:Tok) (s:Shared) (Q:Value->Shared->Prop) (E:Value->Shared->Prop),C i j->Q (.int (g i j) s.toks) {s with toks:=s.toks+1}->WO X (f (.int i t)<|.int j u) Q E s):
  Qa X f (rI C λi j=> .int<|g i j):=by
 intro W s B H x y v u Q I z G h;obtain⟨i,j,rfl,rfl,hc,q⟩:=h;obtain⟨t,rfl⟩:=z;obtain⟨t',rfl⟩:=G;exact rule i j t t' s _ _ hc ⟨.int<|g i j,H,I.tok _,⟨_,M⟩,q⟩
def M1 {f:Value->Value->Sem Value} 
  (rule:∀(i j:Int) (t u:Tok) (s:Shared) (Q:Value->Shared->Prop) (E:Value->Shared->Prop),Q (.int (g i j) s.toks) {s with toks:=s.toks+1}->WO X (f (.int i t)<|.int j u) Q E s):
  Qa X f (Rh λi j=> .int<|g i j):=by
 intro W s B H x y v u Q I z G h;obtain⟨i,j,rfl,rfl,q⟩:=h;obtain⟨t,rfl⟩:=z;obtain⟨t',rfl⟩:=G;exact rule i j t t' s _ _ ⟨.int<|g i j,H,I.tok _,⟨_,M⟩,q⟩
def KR {f:Value->Value->Sem Value} {g:Int->Int->Bool}
  (rule:∀(i j:Int) (t u:Tok) (s:Shared) (Q:Value->Shared->Prop) (E:Value->Shared->Prop),Q (.bool<|g i j) s->WO X (f (.int i t)<|.int j u) Q E s):
  Qa X f (Rh λi j=> .bl<|g i j):=by
 intro W s B H x y v u Q I z G h;obtain⟨i,j,rfl,rfl,q⟩:=h;obtain⟨t,rfl⟩:=z;obtain⟨t',rfl⟩:=G;exact rule i j t t' s _ _ ⟨.bl<|g i j,H,I,M,q⟩
def CDiv (i j:Int):Prop:=0<j/\j<1073741824
def CPow (i j:Int):Prop:=0<=j/\j<=1000000/\i.natAbs<2^64
def Rm (i j:Int):Prop:=(-(2^64)<i/\i<2^64)\/(-(2^64)<j/\j<2^64)
def Rm.ok {i j:Int} (h:Rm i j):IntMulOk i j:=by
 rcases h with⟨h1,h2⟩|⟨h1,h2⟩
 .exact .of_left<|intBits_le_64 h1 h2
 .exact .of_right<|intBits_le_64 h1 h2
def bF:Qa X (binaryOp .Add) (Rh λi j=> .int<|i+j):=M1 λ_ _ _ _ _ _ _ q=>add_int q
def ji:Qa X (binaryOp .Sub) (Rh λi j=> .int<|i-j):=M1 λ_ _ _ _ _ _ _ q=>sub_int q
def cQ:Qa X (binaryOp .Mult) (rI Rm λi j=> .int<|i*j):=opI λ_ _ _ _ _ _ _ hc q=>mul_int q hc.ok
def aR:Qa X (binaryOp .FloorDiv) (rI CDiv λi j=> .int<|i/j):=opI λi j _ _ _ _ _ hc q=>by
 have h1:(0:Int)<j:=hc.1;have h2:j<1073741824:=hc.2;exact floordiv_int () (by rw[VX i ()];exact q)<|.inl (PyProof.noPylong_small ())
def aS:Qa X (binaryOp .Mod) (rI (λ_ j=>0<j) λi j=> .int<|i%j):=opI λi j _ _ _ _ _ hc q=>by
 have h1:(0:Int)<j:=hc;exact mod_int' ()<|by rw[Int.fmod_eq_emod_of_nonneg i ()];exact q
def j8:Qa X (binaryOp .Pow) (rI CPow λi j=> .int<|i^j.toNat):=opI λ_ _ _ _ _ _ _ hc q=>pow_int_small hc.1 hc.2.1 hc.2.2 q
def uE:Qa X (binaryOp .BitAnd) (Rh λi j=> .int<|Builtin.bitAnd i j):=M1 λ_ _ _ _ _ _ _ q=>and_int q
def unI {f:Value->Sem Value} {g:Int->Int}
  (rule:∀(i:Int) (t:Tok) (s:Shared) (Q:Value->Shared->Prop) (E:Value->Shared->Prop),Q (.int (g i) s.toks) {s with toks:=s.toks+1}->WO X (f<|.int i t) Q E s):
  UnR X f (rU λi=> .int<|g i):=by
 intro W s B H x v Q I z h;obtain⟨i,rfl,q⟩:=h;obtain⟨t,rfl⟩:=z;exact rule i t s _ _ ⟨.int<|g i,H,I.tok _,⟨_,M⟩,q⟩
def DU:UnR X (unaryOp .USub) (rU λi=> .int<|-i):=unI λ_ _ _ _ _ q=>neg_int q
end
noncomputable def scal:V->V->Bool
 | .non,.non=>true| .non,.int _=>true| .int _,.non=>true| .non,.bl _=>true| .bl _,.non=>true| .non,.str _=>true| .str _,.non=>true
 | .int _,.int _=>true| .bl _,.bl _=>true| .str _,.str _=>true| .byt _,.byt _=>true
 | .int _,.str _=>true| .str _,.int _=>true| .bl _,.str _=>true| .str _,.bl _=>true
 |_,_=>false
def rEq:R2:=λx y H Q=>scal x y=true/\Q (.bl<|decide (x=y)) H
def rNe:R2:=λx y H Q=>scal x y=true/\Q (.bl<|!decide (x=y)) H
def Fv {i j:Int}:decide (V.int i=V.int j)=(i==j):=by
 rw[Vf];simp
def Jv {i j:Bool}:decide (V.bl i=V.bl j)=(i==j):=by
 rw[Vf];simp
def Fu {i j:Str}:decide (V.str i=V.str j)=(i==j):=by
 rw[Vf];simp
def Fw {i j:Array UInt8}:decide (V.byt i=V.byt j)=(i.toList==j.toList):=by
 rw[Vf];cases i;cases j;simp
section
variable {a b:Expr} {tb tc:TE}
def bu {Q:VK} {k k':Bool} (I:Inv X W B H s) (q:Q (.bl k) H) (e:k=k'):EP X W B Q (.bool k') s:=by
 subst e;exact⟨.bl k,H,I,M,q⟩
def bT:Qa X (compareOp .Eq) rEq:=by
 intro W s B H x y v u Q I G z h;obtain⟨hs,q⟩:=h;cases x with
 |non=>
  cases G;cases y with
  |non=>cases z;exact PySem.EqNone.eq_none_none<|bu I q (by simp)
  |bl j=>cases z;exact PySem.EqNone.eq_none_bool<|bu I q (by simp)
  |int j=>obtain⟨t',rfl⟩:=z;exact PySem.EqNone.eq_none_int<|bu I q (by simp)
  |str j=>obtain⟨t',rfl⟩:=z;exact PySem.EqNone.eq_none_str<|bu I q (by simp)
  |_=>exact Wb (show false=true from hs) Qz
 |bl i=>
  cases G;cases y with
  |non=>cases z;exact PySem.EqNone.eq_bool_none<|bu I q (by simp)
  |bl j=>cases z;exact eq_bool<|bu I q Jv
  |str j=>obtain⟨t',rfl⟩:=z;exact PySem.EqMixed.eq_bool_str<|bu I q (by simp)
  |_=>exact Wb (show false=true from hs) Qz
 |int i=>
  obtain⟨t,rfl⟩:=G;cases y with
  |non=>cases z;exact PySem.EqNone.eq_int_none<|bu I q (by simp)
  |int j=>obtain⟨t',rfl⟩:=z;exact eq_int<|bu I q Fv
  |str j=>obtain⟨t',rfl⟩:=z;exact PySem.EqMixed.eq_int_str<|bu I q (by simp)
  |_=>exact Wb (show false=true from hs) Qz
 |str i=>
  obtain⟨t,rfl⟩:=G;cases y with
  |non=>cases z;exact PySem.EqNone.eq_str_none<|bu I q (by simp)
  |bl j=>cases z;exact PySem.EqMixed.eq_str_bool<|bu I q (by simp)
  |int j=>obtain⟨t',rfl⟩:=z;exact PySem.EqMixed.eq_str_int<|bu I q (by simp)
  |str j=>obtain⟨t',rfl⟩:=z;exact eq_str<|bu I q Fu
  |_=>exact Wb (show false=true from hs) Qz
 |byt i=>
  obtain⟨t,rfl⟩:=G;cases y with
  |byt j=>obtain⟨t',rfl⟩:=z;exact PySem.W.eq_bytes<|bu I q Fw
  |_=>exact Wb (show false=true from hs) Qz
 |_=>cases y<;>exact Wb (show false=true from hs) Qz
def E7:Qa X (compareOp .NotEq) rNe:=by
 intro W s B H x y v u Q I G z h;obtain⟨hs,q⟩:=h;cases x with
 |non=>
  cases G;cases y with
  |non=>cases z;exact PySem.EqNone.ne_none_none<|bu I q (by simp)
  |bl j=>cases z;exact PySem.EqNone.ne_none_bool<|bu I q (by simp)
  |int j=>obtain⟨t',rfl⟩:=z;exact PySem.EqNone.ne_none_int<|bu I q (by simp)
  |str j=>obtain⟨t',rfl⟩:=z;exact PySem.EqNone.ne_none_str<|bu I q (by simp)
  |_=>exact Wb (show false=true from hs) Qz
 |bl i=>
  cases G;cases y with
  |non=>cases z;exact PySem.EqNone.ne_bool_none<|bu I q (by simp)
  |bl j=>cases z;exact ne_bool<|bu I q (Wr not Jv)
  |str j=>obtain⟨t',rfl⟩:=z;exact PySem.EqMixed.ne_bool_str<|bu I q (by simp)
  |_=>exact Wb (show false=true from hs) Qz
 |int i=>
  obtain⟨t,rfl⟩:=G;cases y with
  |non=>cases z;exact PySem.EqNone.ne_int_none<|bu I q (by simp)
  |int j=>obtain⟨t',rfl⟩:=z;exact ne_int<|bu I q (Wr not Fv)
  |str j=>obtain⟨t',rfl⟩:=z;exact PySem.EqMixed.ne_int_str<|bu I q (by simp)
  |_=>exact Wb (show false=true from hs) Qz
 |str i=>
  obtain⟨t,rfl⟩:=G;cases y with
  |non=>cases z;exact PySem.EqNone.ne_str_none<|bu I q (by simp)
  |bl j=>cases z;exact PySem.EqMixed.ne_str_bool<|bu I q (by simp)
  |int j=>obtain⟨t',rfl⟩:=z;exact PySem.EqMixed.ne_str_int<|bu I q (by simp)
  |str j=>obtain⟨t',rfl⟩:=z;exact ne_str<|bu I q (Wr not Fu)
  |_=>exact Wb (show false=true from hs) Qz
 |byt i=>
  obtain⟨t,rfl⟩:=G;cases y with
  |byt j=>obtain⟨t',rfl⟩:=z;exact PySem.W.ne_bytes<|bu I q (Wr not Fw)
  |_=>exact Wb (show false=true from hs) Qz
 |_=>cases y<;>exact Wb (show false=true from hs) Qz
def eD:Qa X (compareOp .Lt) (Rh λi j=> .bl<|decide (i<j)):=KR λ_ _ _ _ _ _ _ q=>lt_int q
def oC:Qa X (compareOp .LtE) (Rh λi j=> .bl<|decide (i<=j)):=KR λ_ _ _ _ _ _ _ q=>le_int q
def sJ:Qa X (compareOp .Gt) (Rh λi j=> .bl<|decide (j<i)):=KR λ_ _ _ _ _ _ _ q=>gt_int q
def Ac:Qa X (compareOp .GtE) (Rh λi j=> .bl<|decide (j<=i)):=KR λ_ _ _ _ _ _ _ q=>ge_int q
def dF:Qa X (compareOp .Is) (λx y H Q=>y= .non/\Q (.bl<|decide (x= .non)) H):=by
 intro W s B H x y v u Q I z G h;obtain⟨rfl,q⟩:=h;cases G;refine is_none_gen<|bu I q ?_;cases x<;>first
  |(cases z;rfl)
  |(obtain⟨t,rfl⟩:=z;rfl)
def iM:Qa X (compareOp .IsNot) (λx y H Q=>y= .non/\Q (.bl<|!decide (x= .non)) H):=by
 intro W s B H x y v u Q I z G h;obtain⟨rfl,q⟩:=h;cases G;refine isnot_none_gen<|bu I q ?_;cases x<;>first
  |(cases z;rfl)
  |(obtain⟨t,rfl⟩:=z;rfl)
def ay (b:Expr) (h:op≠ .In:=by decide) (h2:op≠ .NotIn:=by decide):behindInMarks op b=false:=by
 have z:(op==CmpOp.In)=false:=by cases op<;>first|rfl|exact Wb M h
 have e2:(op==CmpOp.NotIn)=false:=by cases op<;>first|rfl|exact Wb M h2
 cases b<;>simp[behindInMarks,z,e2]
def bG (z:Qa X (compareOp op) r) (ha:PE X a ta) (hb:PE X b tb) (G:behindInMarks op b=false):PE X (.Compare a [op] [b] pos) (tOp r ta tb):=by
 intro W s B H Q I h;exact wpAny_Compare1 (NF ha hb I h λv u O x y H2 U Y Z q=>z W O B H2 x y v u Q U Y Z q) G
inductive MC (Q:Bool->Hp->Prop) (x:V) (H':Hp):Prop
 |mk (k:_) (_:x= .bl k) (_:Q k H')
def LO (t:TE):TT:=λB H Q=>t B H λx H'=>MC Q x H'
def aw (G:Qa X (compareOp op) r) (ha:PE X a ta) (hb:PE X b tb) (O:behindInMarks op b=false):PT X (.Compare a [op] [b] pos) (LO<|tOp r ta tb):=by
 intro W s B H Q I h;refine wpAny_isTrue_Compare1 (P0 (ha W s B H _ I h) λv s1 ⟨x,H1,U,r1,Y⟩=>P0 (hb W s1 B H1 _ U Y) λu Z ⟨y,H2,I2,r2,q2⟩=>
  P0 (G W Z B H2 x y v u _ I2 r1 r2 q2) λc s3 ⟨z,H3,I3,r3,k,e,q3⟩=>?_) O
 subst e;cases r3;exact Wt ⟨H3,I3,q3⟩
def HC (r r':R2) (ta tb tc:TE):TE:=λB H Q=>ta B H λx H1=>tb B H1 λy H2=>r x y H2 λz H3=>∃k,z= .bl k/\
 (if k=true then tc B H3 λw' H4=>r' y w' H4 Q else Q (.bl false) H3)
def Ie {G:CmpOp} {U:R2} (ho:Qa X (compareOp op) r) (O:Qa X (compareOp G) U) (ha:PE X a ta) (hb:PE X b tb) (hc:PE X c tc)
  (hm:lastMarks [op,G] [b,c]=false:=by with_unfolding_all rfl):PE X (.Compare a [op,G] [b,c] pos) (HC r U ta tb tc):=by
 intro W s B H Q I h;refine Compare_chain (P0 (ha W s B H _ I h) λv s1 ⟨x,H1,I1,r1,q1⟩=>chain_link (P0 (hb W s1 B H1 _ I1 q1) λu s2 ⟨y,H2,I2,Y,q2⟩=>
  P0 (ho W s2 B H2 x y v u _ I2 r1 Y q2) λd s3 ⟨z,H3,Z,r3,k,e,q3⟩=>?_)) hm
 subst e;cases r3;refine Wt ?_;cases k with
 |false=>exact ite_ff ⟨.bl false,H3,Z,M,q3⟩
 |true=>exact ite_tt<|chain_last (P0 (hc W s3 B H3 _ Z q3) λw' s4 ⟨z',H4,I4,r4,q4⟩=>O W s4 B H4 y z' u w' Q I4 Y r4 q4)
def HW {G:CmpOp} {Y:R2} (ho:Qa X (compareOp op) r) (O:Qa X (compareOp G) Y) (ha:PE X a ta) (hb:PE X b tb) (hc:PE X c tc)
  (hm:lastMarks [op,G] [b,c]=false:=by with_unfolding_all rfl):PT X (.Compare a [op,G] [b,c] pos) (LO<|HC r Y ta tb tc):=by
 intro W s B H Q I h;refine isTrue_chain (P0 (ha W s B H _ I h) λv s1 ⟨x,H1,I1,r1,q1⟩=>test_link (P0 (hb W s1 B H1 _ I1 q1) λu s2 ⟨y,H2,I2,Z,q2⟩=>
  P0 (ho W s2 B H2 x y v u _ I2 r1 Z q2) λd s3 ⟨z,H3,I3,r3,k,e,q3⟩=>?_)) hm
 subst e;cases r3;refine Wt ?_;cases k with
 |false=>
  obtain⟨k',e',q'⟩:=q3;cases e';exact ite_ff ⟨H3,I3,q'⟩
 |true=>
  refine ite_tt<|test_last (P0 (hc W s3 B H3 _ I3 q3) λw' s4 ⟨z',H4,I4,r4,q4⟩=>P0 (O W s4 B H4 y z' u w' _ I4 Z r4 q4) λd' s5 U=>?_);obtain⟨z2,H5,I5,r5,k2,e2,q5⟩:=U;subst e2;cases r5;exact Wt ⟨H5,I5,q5⟩
def xQ:(sizeLine:Nat)<2^63:=by rw[sizeLine_eq];decide
def mV {x:V} (r:G1 [x] us):∃u,us=[u]/\RelV x u:=by
 cases r with
 |cons r1 z=>cases z;exact⟨_,M,r1⟩
def va {x:V} (r:G1 [x,y] us):∃u w',us=[u,w']/\RelV x u/\RelV y w':=by
 cases r with
 |cons r1 z=>
  cases z with
  |cons G I=>cases I;exact⟨_,_,M,r1,G⟩
def p6 (hc:X.calm=true):gk X (.builtin "max") (λxs H Q=>∃i j,xs=[.int i,.int j]/\Q (.int<|if j>i then j else i) H):=by
 intro W s B H xs us Q I r h;obtain⟨i,j,rfl,q⟩:=h;obtain⟨u,w',rfl,⟨t,rfl⟩,⟨t',rfl⟩⟩:=va r;refine max_two_ints (I.ok.hd hc) λh' tk k=>⟨_,H,I.kept k,?_,q⟩;by_cases z:j>i
 .rw[W7 z,W7 z];exact⟨_,M⟩
 .rw[W6 z,W6 z];exact⟨_,M⟩
def pZ (hc:X.calm=true):gk X (.builtin "min") (λxs H Q=>∃i j,xs=[.int i,.int j]/\Q (.int<|if j<i then j else i) H):=by
 intro W s B H xs us Q I r h;obtain⟨i,j,rfl,q⟩:=h;obtain⟨u,w',rfl,⟨t,rfl⟩,⟨t',rfl⟩⟩:=va r;refine min_two_ints (I.ok.hd hc) λh' tk k=>⟨_,H,I.kept k,?_,q⟩;by_cases z:j<i
 .rw[W7 z,W7 z];exact⟨_,M⟩
 .rw[W6 z,W6 z];exact⟨_,M⟩
def BO:gk X (.type "str") (λxs H Q=>∃i,xs=[.int i]/\i.natAbs.log2<1920/\Q (.str<|toString i) H):=by
 intro W s B H xs us Q I r h;obtain⟨i,rfl,hz,q⟩:=h;obtain⟨u,rfl,t,rfl⟩:=mV r;exact PySem.P.str_of_int hz ⟨.str _,H,I.tok _,⟨_,M⟩,q⟩
end
structure RC (h:Heap) (x dx C:Addr) (mA:Str->Option Value):Prop where
 obj:h.get? x=some (PySem.W.instObj C dx)
 ns:h.Ns1 dx mA
 ne:dx≠x
def GB {mA:Str->Option Value} (n:h.Ns1 dx mA):∃I,h.get? dx=some I/\∀name,PySem.W.lookIn name I=some (mA name):=by
 obtain⟨o,es,ep,O,hd,hk,_,U⟩:=n;refine⟨o,O,λname=>?_⟩;have e:=U name;unfold nsFind findBy at e;rw[<-Array.find?_toList]at e;unfold PySem.W.lookIn;rw[hd];dsimp only;split
 .rename_i y q
  rw[q]at e;exact Wr some e
 .rename_i q
  rw[q]at e;have a:es.toList.any (·.refKey)=false:=by
   rw[List.any_eq_false];intro y hy;obtain⟨z,t,G⟩:=hk y (Array.mem_toList_iff.mp hy);simp[DictEntry.refKey,G]
  have a':¬es.toList.any (·.refKey)=true:=by rw[a];exact Qz
  rw[W6 a'];exact Wr some e
def RC.look {x:Addr} {mA:Str->Option Value} (I:RC h x dx C mA):∃z,PySem.W.InstAt h x (PySem.W.instObj C dx) C (some z)/\∀name,PySem.W.lookIn name z=some (mA name):=
 let⟨z,ho,hl⟩:=GB I.ns
 ⟨z,⟨I.obj,M,M,ho⟩,hl⟩
section
variable {x:Addr} {mA:Str->Option Value} {v:Value}
def Li {z:Bool} (X:K.In s.heap) (I:RC s.heap x dx C mA) (O:PySem.W.plainGet K C name=true) (U:PySem.W.hasDictIn K C=true)
  (ha:PySem.W.findIn K (.ref C) name=some none) (Y:mA name=some v) (G:PySem.W.handedIn v=true) (h:Q v {s with toks:=s.toks+1}):
  wpAny (model prog w) A (getAttr (.ref x) name z) Q E s:=by
 obtain⟨Z,J,hl⟩:=I.look;exact PySem.W.get_value X J (Vq O).1 (PySem.W.findObj_own U ha M<|by rw[hl,Y]) G h
def Je {pl:Sem Bool} {Q:Value×List Value->Shared->Prop} (X:K.In s.heap) (I:RC s.heap x dx C mA) (z:PySem.W.plainGet K C name=true)
  (hf:PySem.W.findIn K (.ref C) name=some (some<|.ref f)) (G:PySem.W.isFn K (.ref f)=true) (O:mA name=none) (h:Q (.ref f,[.ref x]) s):
  wpAny (model prog w) A (getMethod (.ref x) name pl) Q E s:=by
 obtain⟨U,J,hl⟩:=I.look;exact PySem.W.method_fn X J (Vq z).1 (Vq z).2 hf (Wk.mp G) (by show(PySem.W.lookIn name U).map (·.isSome)=some false;rw[hl,O];rfl) h
def Kz {ns:List Str} {Q:Unit->Shared->Prop} (X:K.In s.heap) (I:RC s.heap x dx C mA)
  (hs:PySem.W.findIn K (.ref C) "__setattr__"=some (some<|.builtin "object.__setattr__")) (hp:PySem.W.plainOver K C=true) (ht:PySem.W.takerIn K C name=some none) (hh:PySem.W.hasDictIn K C=true)
  (hw:PySem.Within mA ns) (hsz:ns.length<=sizeLine)
  (h:∀h',RC h' x dx C (λy=>if y=name then some v else mA y)->Heap.SameBut dx s.heap h'->Q Unit.unit {s with heap:=h',toks:=s.toks+2}):
  wpAny (model prog w) A (setAttr (.ref x) name v) Q E s:=by
 obtain⟨od,J,hl⟩:=I.look;refine PySem.W.set_plain X J hs<|PySem.W.osa_open (s:={s with toks:=s.toks+1}) (r:=none) X J hp ht λb=>?_;obtain⟨cd,hc,O⟩:=PySem.W.any_some hh;have hx:s.heap.get? x=some ⟨.ref C,some dx,.plain, #[]⟩:=I.obj;refine We<|Wl (We<|We<|wpAny_loadPart hx<|We<|PySem.W.Looks.here (s:={s with toks:=s.toks+1}) (PySem.W.looks_clsIn X hc) ?_);rw[O];refine Wl (a:=some dx)<|We (Wl<|We ?_);refine wpAny_nsSet1 (s:={s with toks:=s.toks+1}) I.ns λh' z G=>?_;obtain⟨oD,a0,a1,U,Y,Z⟩:=z.count (PySem.Within.cons name v hw);refine We<|wpAny_lookBehind U (by rw[Y];exact pastItsLine_dict<|QQ Z<|by rw[QM];lia) ?_;exact Wl<|h _ ⟨(G.2 _<|Ne.symm I.ne).trans I.obj,z,I.ne⟩ G
def Iz {vs:List Value} (X:K.In s.heap) (z:PySem.W.makesIn K C=true)
  (hi:PySem.W.findIn K (.ref C) "__init__"=some (some<|.ref f)) (hf:PySem.W.typeIn K (.ref f)=some (.type "function"))
  (h:codeAny (model prog w) (A.under<|.builtin "type.__call__" ⟨.ref C::vs,kw⟩) (.call (.ref f) ⟨.ref (s.heap.objs.size+1)::vs,kw⟩) (PySem.W.InitBack (s.heap.objs.size+1) R)
   {s with heap:=(s.heap.push PySem.W.emptyDict).push (PySem.W.instObj C s.heap.objs.size)}):
  codeAny (model prog w) A (.call (.ref C) ⟨vs,kw⟩) R s:=by
 obtain⟨G,g,d,t,os⟩:=s;exact PySem.W.make_core (PySem.W.makes_of X z) (PySem.W.looks_findIn X hi) (λself=>PySem.W.bind_fn X self hf) (.inl M) h
end
def bL (f:Str) (v:V):List (Str×V)->List (Str×V)
 | []=> [(f,v)]
 |(g,x)::r=>if g=f then(g,v)::r else(g,x)::bL f v r
def bx (f g:Str) (v:V):∀fs:List (Str×V),(bL f v fs).lookup g=if g=f then some v else fs.lookup g
 | []=>by
  show List.lookup g [(f,v)]=_;by_cases h:g=f
  .have hb:(g==f)=true:=Wk.mpr h;simp only[List.lookup,hb,W7 h]
  .have hb:(g==f)=false:=Wo.mpr h;simp only[List.lookup,hb,W6 h]
 |(k,x)::r=>by
  have z:=bx f g v r;rw[show bL f v ((k,x)::r)=(if k=f then(k,v)::r else(k,x)::bL f v r) from rfl];by_cases hk:k=f
  .rw[W7 hk];by_cases h:g=k
   .have hb:(g==k)=true:=Wk.mpr h;simp only[List.lookup,hb,W7 (h.trans hk)]
   .have hb:(g==k)=false:=Wo.mpr h;simp only[List.lookup,hb,W6 (λe:g=f=>h<|e.trans hk.symm)]
  .rw[W6 hk];by_cases h:g=k
   .have hb:(g==k)=true:=Wk.mpr h;simp only[List.lookup,hb,W6 (λe:g=f=>hk<|h.symm.trans e)]
   .have hb:(g==k)=false:=Wo.mpr h;simp only[List.lookup,hb];exact z
def uR (f:Str) (v:V):∀fs:List (Str×V),f∈(bL f v fs).map (·.1)/\∀g,g∈fs.map (·.1)->g∈(bL f v fs).map (·.1)
 | []=>⟨by simp[bL],λg h=>by simp at h⟩
 |(k,x)::r=>by
  obtain⟨z,G⟩:=uR f v r;rw[show bL f v ((k,x)::r)=(if k=f then(k,v)::r else(k,x)::bL f v r) from rfl];by_cases hk:k=f
  .rw[W7 hk];subst hk;exact⟨by simp,λg h=>by simpa using h⟩
  .rw[W6 hk];refine⟨?_,λg h=>?_⟩
   .rw[QO];exact QD _ z
   .rw[QO]at h⊢;rcases QH.mp h with e|e
    .exact QH.mpr<|.inl e
    .exact QD _<|G g e
def vh (f:Str) (v:V):∀fs:List (Str×V),(bL f v fs).length<=fs.length+1
 | []=>by simp[bL]
 |(k,x)::r=>by
  have z:=vh f v r;rw[show bL f v ((k,x)::r)=(if k=f then(k,v)::r else(k,x)::bL f v r) from rfl];by_cases hk:k=f
  .rw[W7 hk,QM,QM];lia
  .rw[W6 hk,QM,QM];lia
def Pp.some_of (r:Pp (some v) o):∃u,o=some u/\RelV v u:=by
 cases o with
 |none=>exact(show False from r).elim
 |some u=>exact⟨u,M,r⟩
def Pp.none_of (r:Pp none o):o=none:=by
 cases o with
 |none=>rfl
 |some u=>exact(show False from r).elim
def GK (r:RelV v u):PySem.W.handedIn u=true:=by
 cases v with
 |non=>cases (show u=Value.none from r);rfl
 |bl b=>cases (show u=Value.bool b from r);rfl
 |int i=>obtain⟨t,e⟩:=(show ∃t,u=Value.int i t from r);cases e;rfl
 |str x=>obtain⟨t,e⟩:=(show ∃t,u=Value.str x t from r);cases e;rfl
 |byt b=>obtain⟨t,e⟩:=(show ∃t,u=Value.bytes b t from r);cases e;rfl
 |flt b=>obtain⟨t,e⟩:=(show ∃t,u=Value.float b t from r);cases e;rfl
 |ref a=>cases (show u=Value.ref a from r);rfl
 |ty n=>cases (show u=Value.type n from r);rfl
section
variable {fs fs':List (Str×V)}
def Pf (hok:Pj P w H h) (e:H a=some (.ins C dx fs)):∃mA,RC h a dx C mA/\(∀f,Pp (fs.lookup f) (mA f))/\PySem.Within mA (fs.map (·.1))/\fs.length<=1000/\H dx=some (.own a):=by
 obtain⟨d,z,ne,ob,mA,n,r,q⟩:=(show O9 P w H h a (.ins C dx fs) from hok a _ e);exact⟨mA,⟨ob,n,ne⟩,r,q,z,d⟩
end
structure Qj (K:WN) (C:Addr):Prop where
 pg:PySem.W.plainGet K C Str.empty=true
 hd:PySem.W.hasDictIn K C=true
 po:PySem.W.plainOver K C=true
 sa:PySem.W.findIn K (.ref C) "__setattr__"=some (some<|.builtin "object.__setattr__")
def Qj.get (c:Qj K C) (f:Str):PySem.W.plainGet K C f=true:=c.pg
def Fy (K:WN) (C:Addr) (f:Str):Prop:=PySem.W.findIn K (.ref C) f=some none
def Fy.taker {f:Str} (n:Fy K C f):PySem.W.takerIn K C f=some none:=by
 unfold PySem.W.takerIn;rw[show PySem.W.findIn K (.ref C) f=some none from n];rfl
structure bJ (K:WN) (C:Addr) (m:Str) (f:Addr):Prop where
 at_:PySem.W.findIn K (.ref C) m=some (some<|.ref f)
 fn:PySem.W.isFn K (.ref f)=true
 kp:PySem.W.keepIn K (.ref f)=true
section
variable {fs:List (Str×V)} {f:Str}
def xX {b:Bool} (I:Inv X W B H s) (e:H a=some (.ins C dx fs)) (c:Qj X.K C) (n:Fy X.K C f) (l:fs.lookup f=some v)
  (h:∀u s',Inv X W B H s'->RelV v u->Q u s'):wpAny (model X.prog X.w) A (getAttr (.ref a) f b) Q E s:=by
 obtain⟨mA,O,r,_,_,_⟩:=Pf I.hok e;obtain⟨u,hu,z⟩:=Pp.some_of (v:=v) (o:=mA f) (by rw[<-l];exact r f);exact Li I.kIn O (c.get f) c.hd n hu (GK z)<|h u _ (I.tok _) z
def my {g:Addr} {pl:Sem Bool} {Q:Value×List Value->Shared->Prop} (I:Inv X W B H s) (e:H a=some (.ins C dx fs)) (c:Qj X.K C) (k:bJ X.K C m g) (l:fs.lookup m=none)
  (h:Q (.ref g,[.ref a]) s):wpAny (model X.prog X.w) A (getMethod (.ref a) m pl) Q E s:=by
 obtain⟨mA,O,r,_,_,_⟩:=Pf I.hok e;have z:mA m=none:=Pp.none_of (by rw[<-l];exact r m);exact Je I.kIn O (c.get m) k.at_ k.fn z h
def wU {Q:Unit->Shared->Prop} (I:Inv X W B H s) (e:H a=some (.ins C dx fs)) (c:Qj X.K C) (n:Fy X.K C f) (hl:fs.length<1000) (Y:RelV y u)
  (h:∀s',Inv X W B (upd H a<|.ins C dx<|bL f y fs) s'->Q Unit.unit s'):wpAny (model X.prog X.w) A (setAttr (.ref a) f u) Q E s:=by
 obtain⟨mA,O,r,wi,_,U⟩:=Pf I.hok e;have hz:(fs.map (·.1)).length<=sizeLine:=by rw[Q0,sizeLine_eq];lia
 refine Kz I.kIn O c.sa c.po n.taker c.hd wi hz λh' G Z=>h _ ?_;have hd:∃o,h'.get? dx=some o:=let⟨o,_,_,e',_⟩:=G.ns;⟨o,e'⟩
 refine I.write (x:=a) (e:=dx) (by rw[e];exact Wp) (.inr U) (λb q hb z=>(Z.2 b hb).trans z) hd ?_;refine⟨by rwa[ae O.ne],?_,O.ne,G.obj,_,G.ns,λg=>?_,λg hg=>?_⟩
 .have:=vh f y fs;lia
 .show Pp ((bL f y fs).lookup g) (if g=f then some u else mA g);rw[bx];by_cases q:g=f
  .rwa[W7 q,W7 q]
  .rw[W6 q,W6 q];exact r g
 .by_cases q:g=f
  .rw[q];exact(uR f y fs).1
  .refine(uR f y fs).2 g<|wi g λz=>hg ?_;show(if g=f then some u else mA g)=none;rwa[W6 q]
def Inv.made (I:Inv X W B H s):Inv X W B (upd (upd H s.heap.objs.size<|.own<|s.heap.objs.size+1) (s.heap.objs.size+1)<|.ins C s.heap.objs.size [])
  {s with heap:=(s.heap.push PySem.W.emptyDict).push (PySem.W.instObj C s.heap.objs.size)}:=by
 have z:(s.heap.push PySem.W.emptyDict).get? s.heap.objs.size=some PySem.W.emptyDict:=Wi s.heap M;have e2:((s.heap.push PySem.W.emptyDict).push<|PySem.W.instObj C s.heap.objs.size).get? (s.heap.objs.size+1)=some (PySem.W.instObj C s.heap.objs.size):=by
  have:=Wi (s.heap.push PySem.W.emptyDict) (o:=PySem.W.instObj C s.heap.objs.size) M;rwa [Heap.size_push]at this
 have G:(s.heap.push PySem.W.emptyDict).Ns s.heap.objs.size (λ_=>none):=⟨PySem.W.emptyDict, #[],_,z,M,(λe he=>Wb he<|by simp),λ_=>M⟩;have O:=I.laid (a:=s.heap.objs.size) (o:= .own<|s.heap.objs.size+1) (h':=s.heap.push PySem.W.emptyDict) (t':=s.toks) (λb u q=>W9 _ q) (Q4 _) ⟨_,z⟩;refine O.laid (a:=s.heap.objs.size+1) (o:= .ins C s.heap.objs.size []) (t':=s.toks) (λb u q=>W9 _ q) (Zr<|Heap.size_push _ _) ?_;have ne:s.heap.objs.size≠s.heap.objs.size+1:=Za (Xd _);refine⟨by rw[ae ne,ai],QF _,ne,e2,λ_=>none,(Heap.Ns1.of_empty G).at λo q=>W9 _ q,λ_=>Wp,λy hy=>Wb M hy⟩
def LB {env:Env} {f:Str} (hb:attributeBase e f env (eval e env)=eval e env)
  (h:wpAny (model prog w) A (eval e env) (λo s₁=>wpAny (model prog w) A (getAttr o f true) Q E s₁) E s):wpAny (model prog w) A (eval (.Attribute e f pos) env) Q E s:=
 Attribute_any_ h (by rw[arm_eval_Attribute,hb])
end
inductive N7 (K:WN) (f:Str) (Q:VK) (x:V) (H1:Hp):Prop
 |mk (a C dx fs v:_) (_:x= .ref a) (_:H1 a=some (.ins C dx fs)) (_:Qj K C) (_:Fy K C f) (_:fs.lookup f=some v) (_:Q v H1)
def tFld (K:WN) (ta:TE) (f:Str):TE:=λB H Q=>ta B H λx H1=>N7 K f Q x H1
inductive Of (K:WN) (f:Str) (D:ub) (B:St) (y x:V) (H2:Hp):Prop
 |mk (a C dx fs:_) (_:x= .ref a) (_:H2 a=some (.ins C dx fs)) (_:Qj K C) (_:Fy K C f) (_:fs.length<1000) (_:D.nx B (upd H2 a<|.ins C dx<|bL f y fs))
def sFld (K:WN) (ta tv:TE) (f:Str):TS:=λD B H=>tv B H λy H1=>ta B H1 λx H2=>Of K f D B y x H2
def NQ (X:Cx) (op:Operator) (rd:V->V->Hp->VK->Prop):Prop:=
 ∀(W:List (Addr×Obj)) (s:Shared) (B:St) (H:Hp) (x y:V) (u v:Value) (Q:VK),Inv X W B H s->RelV x u->RelV y v->rd x y H Q->WO X (inplaceOp op u v) (EP X W B Q) X.xe s
inductive HN (K:WN) (tv:TE) (rd:V->V->Hp->VK->Prop) (f:Str) (D:ub) (B:St) (x:V) (H1:Hp):Prop
 |mk (a C dx fs v:_) (_:x= .ref a) (_:H1 a=some (.ins C dx fs)) (_:Qj K C) (_:Fy K C f) (_:fs.lookup f=some v) (_:tv B H1 λy H2=>rd v y H2 λz H3=>∃dx' fs',H3 a=some (.ins C dx' fs')/\fs'.length<1000/\D.nx B (upd H3 a<|.ins C dx'<|bL f z fs'))
def KA (K:WN) (ta tv:TE) (rd:V->V->Hp->VK->Prop) (f:Str):TS:=λD B H=>ta B H λx H1=>HN K tv rd f D B x H1
section
variable {o value:Expr} {f:Str} {tpos:Pos} {tv:TE}
def au (he:PE X e ta) (hb:attributeBase e f X.env (eval e X.env)=eval e X.env):PE X (.Attribute e f pos) (tFld X.K ta f):=by
 intro W s B H Q I h;refine LB hb<|P0 (he W s B H _ I h) λu s1 z=>?_;obtain⟨x,H1,G,O,a,C,dx,fs,v,ex,U,c,n,l,q⟩:=z;subst ex;obtain rfl:u=Value.ref a:=O;exact xX G U c n l λu' s2 Y Z=>⟨v,H1,Y,Z,q⟩
def bh (ha:PE X o ta) (G:PE X value tv) (hs:swapsWith value (some<|.Attribute o f pos') pos.line X.env=pure false):PS X (.Assign [.Attribute o f pos'] value pos) (sFld X.K ta tv f):=by
 intro W s B H D I h;refine plainObj_wpAny_Assign_Attribute (P0 (G W s B H _ I h) λu s1 ⟨y,H1,O,U,q⟩=>P0 (ha W s1 B H1 _ O q) λY s2 z=>?_) hs;obtain⟨x,H2,Z,rx,a,C,dx,fs,ex,ea,c,n,l,q2⟩:=z;subst ex;obtain rfl:Y=Value.ref a:=rx;exact wU Z ea c n l U λs3 I3=>⟨B,_,I3,q2⟩
def iT {op:Operator} (ha:PE X o ta) (Y:PE X value tv) (O:NQ X op rd):PS X (.AugAssign (.Attribute o f tpos) op value pos) (KA X.K ta tv rd f):=by
 intro W s B H D I h;refine wpAny_AugAssign_AttributeAny<|P0 (ha W s B H _ I h) λZ s1 G=>?_;obtain⟨x,H1,I1,rx,a,C,dx,fs,v,ex,ea,c,n,l,q⟩:=G;subst ex;obtain rfl:Z=Value.ref a:=rx;refine xX I1 ea c n l λu s2 I2 ru=>P0 (Y W s2 B H1 _ I2 q) λw3 s3 ⟨y,H2,I3,ry,q3⟩=>P0 (O W s3 B H2 v y u w3 _ I3 ru ry q3) λw4 s4 G=>?_;obtain⟨z,H3,I4,rz,a0,fs',U,l',q4⟩:=G;exact wU I4 U c n l' rz λs5 I5=>⟨B,_,I5,q4⟩
inductive rAdd (x y:V) (H:Hp) (Q:VK):Prop
 |mk (i j:_) (_:x= .int i) (_:y= .int j) (_:Q (.int<|i+j) H)
inductive rSub (x y:V) (H:Hp) (Q:VK):Prop
 |mk (i j:_) (_:x= .int i) (_:y= .int j) (_:Q (.int<|i-j) H)
def xV:NQ X .Add rAdd:=by
 rintro W s B H x y u v Q I z G ⟨i,j,rfl,rfl,q⟩;obtain⟨t,rfl⟩:=(show ∃t,u=Value.int i t from z);obtain⟨t',rfl⟩:=(show ∃t',v=Value.int j t' from G);exact PyProof.Rows.iadd_int ⟨.int<|i+j,H,I.tok _,⟨_,M⟩,q⟩
def No:NQ X .Sub rSub:=by
 rintro W s B H x y u v Q I z G ⟨i,j,rfl,rfl,q⟩;obtain⟨t,rfl⟩:=(show ∃t,u=Value.int i t from z);obtain⟨t',rfl⟩:=(show ∃t',v=Value.int j t' from G);exact PyProof.Rows.isub_int ⟨.int<|i-j,H,I.tok _,⟨_,M⟩,q⟩
end
section
variable {c:Value} {b:Bool}
inductive PP (K:WN) (H:Hp):V->Value->Prop where
 |non:PP K H .non (.type "NoneType")
 |bl (x:Bool):PP K H (.bl x) (.type "bool")
 |int (i:Int):PP K H (.int i) (.type "int")
 |str (x:Str):PP K H (.str x) (.type "str")
 |flt (x:UInt64):PP K H (.flt x) (.type "float")
 |lst {a:Addr} {xs:List V} (e:H a=some (.lst xs)):PP K H (.ref a) (.type "list")
 |frz {a:Addr} {o:Obj} {xs:List V} (e:H a=some (.frz o<|.lst xs)):PP K H (.ref a) (.type "list")
 |tup {a:Addr} {xs:List V} (e:H a=some (.tup xs)):PP K H (.ref a) (.type "tuple")
 |dK {a:Addr} {kvs:List (Key×V)} (e:H a=some (.dK kvs)):PP K H (.ref a) (.type "dict")
 |dT {a:Addr} {kvs:List (List Key×V)} (e:H a=some (.dT kvs)):PP K H (.ref a) (.type "dict")
 |ins {a C dx:Addr} {fs:List (Str×V)} (e:H a=some (.ins C dx fs)) (cl:Qj K C) (ha:PySem.W.findIn K (.ref C) "__class__"=some (some<|.builtin "object.__class__"))
   (hn:PySem.W.specialIn K (.builtin "object.__class__") "__get__"=some (some<|.builtin "getset_descriptor.__get__")) (htk:PySem.W.takesIn K (.builtin "object.__class__")=some true)
   (hm:PySem.W.mroIn K C (.type "object")=some true):PP K H (.ref a) (.ref C)
def Am {x:V} {t:Value} (I:Inv X W B H s) (G:RelV x u) (ty:PP X.K H x t) (e:PySem.W.kitOne X.K t c=some b) (h:∀tk,Q (.bool b) {s with toks:=tk}):
  wpAny (model X.prog X.w) A (call (.builtin "isinstance") [u,c]) Q E s:=by
 cases ty with
 |non=>cases (show u=Value.none from G);exact ZA PySem.W.kitx_none I.kIn Wp e (λz=>nomatch z) h
 |bl y=>cases (show u=Value.bool y from G);exact ZA PySem.W.kitx_bool I.kIn Wp e (λz=>nomatch z) h
 |int i=>obtain⟨t,q⟩:=(show ∃t,u=Value.int i t from G);cases q;exact ZA PySem.W.kitx_int I.kIn Wp e (λz=>nomatch z) h
 |str y=>obtain⟨t,q⟩:=(show ∃t,u=Value.str y t from G);cases q;exact ZA PySem.W.kitx_str I.kIn Wp e (λz=>nomatch z) h
 |flt y=>obtain⟨t,q⟩:=(show ∃t,u=Value.float y t from G);cases q;exact ZA PySem.W.kitx_float I.kIn Wp e (λz=>nomatch z) h
 | @lst a xs U=>
  cases (show u=Value.ref a from G);obtain⟨_,_,n,_,h1⟩:=(show O9 X.prog X.w H s.heap a (.lst xs) from I.hok a _ U);exact ZA PySem.W.kitx_list I.kIn ⟨_,h1,M⟩ e (λz=>nomatch z) h
 | @frz a ob xs U=>
  cases (show u=Value.ref a from G);obtain⟨_,_,_,n,_,h1⟩:=(show O9 X.prog X.w H s.heap a (.frz ob<|.lst xs) from I.hok a _ U);exact ZA PySem.W.kitx_list I.kIn ⟨_,h1,M⟩ e (λz=>nomatch z) h
 | @tup a xs U=>
  cases (show u=Value.ref a from G);obtain⟨_,_,_,p⟩:=(show O9 X.prog X.w H s.heap a (.tup xs) from I.hok a _ U);obtain⟨o,h1,h2,_⟩:=p;exact ZA PySem.W.kitx_tuple I.kIn ⟨o,h1,h2⟩ e (λz=>nomatch z) h
 | @dK a kvs U=>
  cases (show u=Value.ref a from G);obtain⟨_,_,vs,_,p⟩:=(show O9 X.prog X.w H s.heap a (.dK kvs) from I.hok a _ U);obtain⟨o,es,ep,h1,h2,_⟩:=p;exact ZA PySem.W.kitx_dict I.kIn ⟨o,h1,h2.1⟩ e (λz=>nomatch z) h
 | @dT a kvs U=>
  cases (show u=Value.ref a from G);obtain⟨_,_,xs,_,o,es,ep,h1,h2,_⟩:=(show O9 X.prog X.w H s.heap a (.dT kvs) from I.hok a _ U);exact ZA PySem.W.kitx_dict I.kIn ⟨o,h1,h2.1⟩ e (λz=>nomatch z) h
 | @ins a C dx fs U cl ha Z Y hm=>
  cases (show u=Value.ref a from G);obtain⟨mA,O,_⟩:=Pf I.hok U;obtain⟨od,J,_⟩:=O.look;exact ZA (PySem.W.kitx_own (cl.get _) cl.hd ha Z Y hm) I.kIn J e (λz=>nomatch z) h
end
structure PL (k:Nat) (A:Around):Prop where
 hd:A.handled=none
 dp:A.depth+3*k+5<recursionLimit
 un:A.units+16*k+200<cLine
def PL.mono {k:Nat} (r:PL k A) (h:j<=k):PL j A:=⟨r.hd,by have:=r.dp;lia,by have:=r.un;lia⟩
def PL.deeper {k:Nat} (r:PL (k+1) A) (env:Env):PL k (A.deeper env):=
 ⟨r.hd,by have:=r.dp;show A.depth+1+3*k+5<_;lia,by have:=r.un;show A.units+3+16*k+200<_;lia⟩
def Ev:(A.under<|.builtin "type.__call__" ⟨.ref C::us,kw⟩).depth=A.depth+1:=by
 first|rfl|simp[Around.under,Code.weight,Code.isCreation,Code.isGuard,Code.isCaller,Code.frames,Code.isFrame,guardIds]
def Eu:(A.under<|.builtin "type.__call__" ⟨.ref C::us,kw⟩).units=A.units+1:=by
 first|rfl|simp[Around.under,Code.cUnits,Code.frames,Code.isFrame]
def PL.make {k:Nat} (r:PL (k+1) A) (C:Addr) (us:List Value) (kw:List (Str×Value)):PL k (A.under<|.builtin "type.__call__" ⟨.ref C::us,kw⟩):=
 ⟨r.hd,by have:=r.dp;rw[Ev];lia,by have:=r.un;rw[Eu];lia⟩
def PL.depth {k:Nat} (r:PL k A):A.depth<recursionLimit:=by have:=r.dp;lia
def PL.units {k:Nat} (r:PL k A):A.units+64<cLine:=by have:=r.un;lia
def Kv:TA:=λ_ H Q=>Q [] H
def Ob (ta:TE) (tr:TA):TA:=λB H Q=>ta B H λx H1=>tr B H1 λxs H2=>Q (x::xs) H2
section
variable {t:TA}
def ag:PA X [] Kv:=λ_ _ _ _ H Q I h=>Calls.spliced_nil ⟨[],H,I,.nil,h⟩
def ac (ha:PE X e te) (G:PA X es t) (hs:starEach (e::es) X.env=(false,eval e X.env)::starEach es X.env:=by rfl):PA X (e::es) (Ob te t):=by
 intro pos W s B H Q I h;rw[hs];show wpAny _ _ (spliced ((false,eval e X.env)::backTo pos (starEach es X.env))) _ _ s;refine Calls.spliced_cons<|P0 (ha W s B H _ I h) λu s1 z=>?_;obtain⟨x,H1,O,r1,U⟩:=z;exact P0 (G pos W s1 B H1 _ O U) λus s2 ⟨xs,H2,Y,Z,q2⟩=>⟨x::xs,H2,Y,.cons r1 Z,q2⟩
def tTup (t:TA):TE:=λB H Q=>t B H λxs H1=>xs.length<=sizeLine/\∀p,H1 p=none->Q (.ref p) (upd H1 p<|.tup xs)
def tLst (t:TA):TE:=λB H Q=>t B H λxs H1=>xs.length<=sizeLine/\∀p,H1 p=none->Q (.ref p) (upd H1 p<|.lst xs)
def bQ {x1} (h:PA X es t):PE X (.Tuple es x1 pos) (tTup t):=by
 intro W s B H Q I hq;refine wpAny_Tuple_spliced<|P0 (h pos W s B H _ I hq) λus s1 ⟨xs,H1,G,r,z,q⟩=>⟨by rwa[<-r.length],?_⟩;have hf:H1 s1.heap.objs.size=none:=G.hok.fresh (Q4 _);refine⟨.ref s1.heap.objs.size,upd H1 s1.heap.objs.size<|.tup xs,G.laid (t':=s1.toks) (λb u e=>W9 _ e) (Q4 _) ?_,M,q _ hf⟩;exact⟨z,us,r,⟨_,Wi _ M,M,_,M⟩⟩
def cn (h:PA X es t):PE X (.List es pos) (tLst t):=by
 intro W s B H Q I hq;refine wpAny_List_spliced<|P0 (h pos W s B H _ I hq) λus s1 ⟨xs,H1,G,r,z,q⟩=>⟨by rwa[<-r.length],?_⟩;have hf:H1 s1.heap.objs.size=none:=G.hok.fresh (Q4 _);refine⟨.ref s1.heap.objs.size,upd H1 s1.heap.objs.size<|.lst xs,G.laid (t':=s1.toks) (λb u e=>W9 _ e) (Q4 _) ?_,M,q _ hf⟩;exact⟨z,us,0,r,Wi _ M⟩
end
abbrev Sp:=List V->Hp->VK->XK->Prop
abbrev CXT:=List Env->Hp->Shared->XK->Value->Shared->Prop
structure RE (P:Program) (w:World) (K:WN) (mg:Str->Option Value) (base:Heap) (A:Around) (outer:List Env) (s:Shared) (H:Hp):Prop where
 frames:A.frames=some outer
 mod:Mod K mg base
 bs:∀b o,base.get? b=some o->s.heap.get? b=some o/\H b=none
 bsz:base.objs.size<=s.heap.objs.size
 funs:s.heap.FunFrames base outer
 frf:∀b∈RH outer,H b=none
 hok:Pj P w H s.heap
 bare:AllBare s.gens
def CE (outer:List Env) (P:Program) (w:World) (H:Hp) (s:Shared) (Q:VK) (u:Value) (s':Shared):Prop:=
 ∃v H',s'.os=s.os/\AllBare s'.gens/\Un (RH outer) [] H H' s.heap s'.heap/\Pj P w H' s'.heap/\RelV v u/\Q v H'
def CR (CX:CXT) (outer:List Env) (P:Program) (w:World) (H:Hp) (s:Shared) (Q:VK) (E:XK) (r:Result) (s':Shared):Prop:=
 match r with
 | .ok (.ret u)=>CE outer P w H s Q u s'
 | .ok _=>False
 | .error e=>CX outer H s E e s'
structure Dr (P:Program) (w:World) (K:WN) (mg:Str->Option Value) (base:Heap) (CX:CXT) (k:Nat) (f:Addr) (fd:FuncData) (ps:List Str) (sp:Sp):Prop where
 len:∀vs H Q E,sp vs H Q E->vs.length=ps.length
 run:∀(A:Around) (outer:List Env) (s:Shared) (H:Hp) (args:Args) (us:List Value) (vs:List V) (Q:VK) (E:XK),PL k A->RE P w K mg base A outer s H->BindsTo s fd args (ps.zip us)->G1 vs us->sp vs H Q E->
  codeAny (model P w) A (.call (.ref f) args) (CR CX outer P w H s Q E) s
def Dr.mono {mg:Str->Option Value} {k:Nat} (F:Dr P w K mg base CX j f fd ps sp) (h:j<=k):
  Dr P w K mg base CX k f fd ps sp:=⟨F.len,λA outer s H args us vs Q E z=>F.run A outer s H args us vs Q E<|z.mono h⟩
def RE.make {mg:Str->Option Value} (e:RE P w K mg base A outer s H) (C:Addr) (us:List Value) (kw:List (Str×Value)):
  RE P w K mg base (A.under<|.builtin "type.__call__" ⟨.ref C::us,kw⟩) outer s H:=⟨by first|exact e.frames|(simpa[Around.under,Code.envs,Code.isFrame,pushEnvs]using e.frames),e.mod,e.bs,e.bsz,e.funs,e.frf,e.hok,e.bare⟩
def Inv.env0 (I:Inv X W B H s):RE X.prog X.w X.K X.mg X.base X.A X.stack s H:=
 ⟨I.ok.frames,I.ok.mod,I.bs,QQ I.ok.bsz I.sz,I.stack,I.stkFree,I.hok,I.bare⟩
def Inv.after {Q:VK} (I:Inv X W B H s) (h:CE X.stack X.prog X.w H s Q u s'):EP X W B Q u s':=by
 obtain⟨v,H',os,bare,un,hok,r,q⟩:=h;obtain⟨O,g,d,t,G⟩:=s';obtain rfl:G=s.os:=os;exact⟨v,H',I.call (h':=O) (g':=g) (d':=d) (t':=t) (ch:=[]) un hok bare<|λb z=>Wb z (by simp),r,q⟩
def LR (sp:Sp) (dvs:List V) (E:XK) (t:TA):TE:=λB H Q=>t B H λvs H1=>sp (vs++dvs) H1 Q E
inductive ME (C:Addr) (m:Str) (sp:Sp) (dvs:List V) (E:XK) (t:TA) (B:St) (Q:VK) (x:V) (H1:Hp):Prop
 |mk (a dx fs:_) (_:x= .ref a) (_:H1 a=some (.ins C dx fs)) (_:fs.lookup m=none) (_:t B H1 λvs H2=>sp (x::(vs++dvs)) H2 Q E)
def LP (C:Addr) (m:Str) (sp:Sp) (dvs:List V) (E:XK) (ta:TE) (t:TA):TE:=λB H Q=>ta B H λx H1=>ME C m sp dvs E t B Q x H1
def LQ (C:Addr) (sp:Sp) (dvs:List V) (E:XK) (t:TA):TE:=λB H Q=>t B H λvs H1=>∀x dx,H1 x=none->H1 dx=none->dx≠x->
 sp (.ref x::(vs++dvs)) (upd (upd H1 dx<|.own x) x<|.ins C dx []) (λv H2=>v= .non/\Q (.ref x) H2) E
def Binds (K:WN) (fd:FuncData) (ps:List Str) (ds:List Value):Prop:=
 ∀(s:Shared) (us:List Value),K.In s.heap->(us++ds).length=ps.length->BindsTo s fd ⟨us,[]⟩ (ps.zip<|us++ds)
def Binds.all (h:∀us:List Value,us.length=ps.length->bindArgs fd ⟨us,[]⟩=pure (ps.zip us)):Binds K fd ps []:=λs us _ hl=>by
 rw[ZB]at hl⊢;exact .of_eq<|h us hl
def mU (CX:CXT) (X:Cx) (E:XK):Prop:=∀(W:List (Addr×Obj)) (B:St) (H:Hp) (s:Shared) (e:Value) (s':Shared),Inv X W B H s->CX X.stack H s E e s'->X.xe e s'
section
variable {k:Nat} {dvs:List V} {ds:List Value} {E:XK} {apos:Pos} {o:Expr} {t:TA}
def uB {Q:VK} (F:Dr X.prog X.w X.K X.mg X.base CX k f fd ps sp) (G:PL k X.A) (hb:Binds X.K fd ps ds) (hd:G1 dvs ds) (hx:mU CX X E)
  (I:Inv X W B H s) (r:G1 vs us) (h:sp (vs++dvs) H Q E):WO X (call (.ref f) us) (EP X W B Q) X.xe s:=by
 have z:G1 (vs++dvs) (us++ds):=r.append hd;have hl:(us++ds).length=ps.length:=by rw[<-z.length];exact F.len _ _ _ _ h
 refine wpAny_call<|codeAny_mono (F.run X.A X.stack s H ⟨us,[]⟩ (us++ds) (vs++dvs) Q E G I.env0 (hb s us I.kIn hl) z h) λr s' hq=>?_;cases r with
 |error e=>exact hx W B H s e s' I hq
 |ok fl=>
  cases fl with
  |ret u=>exact I.after hq
  |next=>exact False.elim hq
  |brk=>exact False.elim hq
  |cont=>exact False.elim hq
def aJ (F:Dr X.prog X.w X.K X.mg X.base CX k f fd ps sp) (U:PL k X.A) (Y:Gl X x) (Z:X.mg x=some (.ref f)) (hk:PySem.W.keepIn X.K (.ref f)=true) (hb:Binds X.K fd ps ds) (hd:G1 dvs ds) (hx:mU CX X E)
  (ha:PA X (e::es) t) (z:(x==("__debug__":Str))=false:=by decide) (he:starEach (e::es) X.env=(false,eval e X.env)::starEach es X.env:=by rfl) (G:(backTo pos<|starEach es X.env).any (·.1)=false:=by rfl):
  PE X (.Call (.Name x p) (e::es) [] pos) (LR sp dvs E t):=by
 intro W s B H Q I h;refine WD<|sS I Y Z ?_ z;refine Xy (h₀:=X.base) I.ok.mod.kin hk (P0 (ha pos W s B H _ I h) λus s1 ⟨vs,H1,O,r,q⟩=>⟨O.kIn,?_⟩) he G;exact uB F U hb hd hx O r q
def aQ {pl:Sem Bool} (he:PE X o ta) (c:Qj X.K C) (U:bJ X.K C m f) (F:Dr X.prog X.w X.K X.mg X.base CX k f fd ps sp) (hr:PL k X.A) (hb:Binds X.K fd ps ds) (hd:G1 dvs ds) (hx:mU CX X E) (ha:PA X (e::es) t)
  (z:starEach (e::es) X.env=(false,eval e X.env)::starEach es X.env:=by rfl) (G:(backTo pos<|starEach es X.env).any (·.1)=false:=by rfl)
  (ht:eval (.Call (.Attribute o m apos) (e::es) [] pos) X.env=(do
   let ov<-eval o X.env
   standAt apos.atName
   let(f,first)<-holding [ov] (getMethod ov m pl)
   callWith pos f first (backTo pos<|starEach (e::es) X.env) (backToKw pos<|keywordEach [] X.env)):=by rfl):
  PE X (.Call (.Attribute o m apos) (e::es) [] pos) (LP C m sp dvs E ta t):=by
 intro W s B H Q I h;refine Xj (pl:=pl) (P0 (he W s B H _ I h) λu s1 O=>?_) ht;obtain⟨x,H1,Y,rx,a,dx,fs,ex,ea,l,q⟩:=O;subst ex;obtain rfl:u=Value.ref a:=rx;refine my Y ea c U l ?_;refine Xy (first:=[.ref a]) (h₀:=X.base) I.ok.mod.kin U.kp (P0 (ha pos W s1 B H1 _ Y q) λus s2 ⟨vs,H2,Z,r,q2⟩=>⟨Z.kIn,?_⟩) z G;exact uB (us:= .ref a::us) (vs:= .ref a::vs) F hr hb hd hx Z (.cons M r) q2
def aX {pl:Sem Bool} (he:PE X o ta) (c:Qj X.K C) (O:bJ X.K C m f) (F:Dr X.prog X.w X.K X.mg X.base CX k f fd ps sp) (U:PL k X.A) (hb:Binds X.K fd ps ds) (hd:G1 dvs ds) (hx:mU CX X E)
  (Y:eval (.Call (.Attribute o m apos) [] [] pos) X.env=(do
   let ov<-eval o X.env
   standAt apos.atName
   let(f,first)<-holding [ov] (getMethod ov m pl)
   callWith pos f first (backTo pos<|starEach [] X.env) (backToKw pos<|keywordEach [] X.env)):=by rfl):
  PE X (.Call (.Attribute o m apos) [] [] pos) (LP C m sp dvs E ta Kv):=by
 intro W s B H Q I h;refine Xj (pl:=pl) (P0 (he W s B H _ I h) λu s1 z=>?_) Y;obtain⟨x,H1,G,Z,a,dx,fs,ex,ea,l,q⟩:=z;subst ex;obtain rfl:u=Value.ref a:=Z;refine my G ea c O l ?_;exact Vr (first:=[.ref a]) G.kIn O.kp (uB (us:=[.ref a]) (vs:=[.ref a]) F U hb hd hx G (.cons M .nil) q)
structure Mk (K:WN) (C f:Addr):Prop where
 makes:PySem.W.makesIn K C=true
 init:PySem.W.findIn K (.ref C) "__init__"=some (some<|.ref f)
 fn:PySem.W.isFn K (.ref f)=true
 kp:PySem.W.keepIn K (.ref C)=true
def CB {Q:VK} (M':Mk X.K C f) (F:Dr X.prog X.w X.K X.mg X.base CX k f fd ps sp) (U:PL (k+1) X.A) (hb:Binds X.K fd ps ds) (hd:G1 dvs ds)
  (hx:mU CX X E) (I:Inv X W B H s) (r:G1 vs us)
  (h:∀x dx,H x=none->H dx=none->dx≠x->sp (.ref x::(vs++dvs)) (upd (upd H dx<|.own x) x<|.ins C dx []) (λv H2=>v= .non/\Q (.ref x) H2) E):
  WO X (call (.ref C) us) (EP X W B Q) X.xe s:=by
 have hq:=h (s.heap.objs.size+1) s.heap.objs.size (I.hok.fresh<|ZU _) (I.hok.fresh<|Q4 _) (Za<|Xd _);have G:=Inv.made (C:=C) I;have O:G1 (V.ref (s.heap.objs.size+1)::(vs++dvs)) (Value.ref (s.heap.objs.size+1)::(us++ds)):= .cons M (r.append hd);have hl:(Value.ref (s.heap.objs.size+1)::us++ds).length=ps.length:=by
  have e:=O.length;rw[F.len _ _ _ _ hq]at e;exact e.symm
 refine wpAny_call (Iz (f:=f) I.kIn M'.makes M'.init (Wk.mp M'.fn) (codeAny_mono (F.run _ X.stack _ _ ⟨Value.ref (s.heap.objs.size+1)::us,[]⟩ (Value.ref (s.heap.objs.size+1)::(us++ds)) _ _ E (U.make C us [])
  (G.env0.make C us []) (hb _ (Value.ref (s.heap.objs.size+1)::us) G.kIn hl) O hq) λr s' z=>?_))
 cases r with
 |error e=>exact hx W B _ _ e s' G z
 |ok fl=>
  cases fl with
  |ret u=>
   obtain⟨v,H',Y,rv,Z,q3⟩:=G.after z;subst Z;exact⟨rv,⟨V.ref<|s.heap.objs.size+1,H',Y,M,q3⟩⟩
  |next=>exact False.elim z
  |brk=>exact False.elim z
  |cont=>exact False.elim z
def iK (M':Mk X.K C f) (F:Dr X.prog X.w X.K X.mg X.base CX k f fd ps sp) (U:PL (k+1) X.A) (Y:Gl X x) (Z:X.mg x=some (.ref C)) (hb:Binds X.K fd ps ds) (hd:G1 dvs ds) (hx:mU CX X E)
  (ha:PA X (e::es) t) (z:(x==("__debug__":Str))=false:=by decide) (he:starEach (e::es) X.env=(false,eval e X.env)::starEach es X.env:=by rfl) (G:(backTo pos<|starEach es X.env).any (·.1)=false:=by rfl):
  PE X (.Call (.Name x p) (e::es) [] pos) (LQ C sp dvs E t):=by
 intro W s B H Q I h;refine WD<|sS I Y Z ?_ z;refine Xy (h₀:=X.base) I.ok.mod.kin M'.kp (P0 (ha pos W s B H _ I h) λus s1 ⟨vs,H1,O,r,q⟩=>⟨O.kIn,?_⟩) he G;exact CB M' F U hb hd hx O r q
def sH (M':Mk X.K C f) (F:Dr X.prog X.w X.K X.mg X.base CX k f fd ps sp) (G:PL (k+1) X.A) (O:Gl X x) (U:X.mg x=some (.ref C)) (hb:Binds X.K fd ps ds) (hd:G1 dvs ds) (hx:mU CX X E)
  (z:(x==("__debug__":Str))=false:=by decide):PE X (.Call (.Name x p) [] [] pos) (LQ C sp dvs E Kv):=by
 intro W s B H Q I h;refine WD<|sS I O U ?_ z;exact Vr I.kIn M'.kp<|CB (us:=[]) M' F G hb hd hx I .nil h
end
structure aq (N P:List Str) (sc:Scope):Prop where
 kind:sc.kind= .function
 co:sc.isCoroutine=false
 gen:sc.isGenerator=false
 nd:N.Nodup
 pre:N.take P.length=P
 par:∀x∈P,sc.names.lookup x=some .local\/sc.names.lookup x=some .cell
 nofree:∀y∈sc.names,y.2≠ .free
def AA {kindOf:Str->Option NameKind} {x:Str}:∀{z:List (Str×Value)} {m:Str->Option Value},(∀v,(x,v)∉z)->bindL kindOf z m x=m x
 | [],_,_=>rfl
 |(n,v)::r,m,h=>by
  unfold bindL;rw[AA λw hw=>h w (QD _ hw)];split
  .have:x≠n:=by rintro rfl;exact h v QB
   simp[this]
  .rfl
def AC {kindOf:Str->Option NameKind} {x:Str}:∀{z:List (Str×Value)} {m:Str->Option Value},(∀v,(x,v)∉z)->bindC kindOf z m x=m x
 | [],_,_=>rfl
 |(n,v)::r,m,h=>by
  unfold bindC;rw[AC λw hw=>h w (QD _ hw)];split
  .rfl
  .have:x≠n:=by rintro rfl;exact h v QB
   simp[this]
def AB {kindOf:Str->Option NameKind} {x:Str} {v:Value}:∀{P:List Str} {vs:List Value} {i:Nat} {m:Str->Option Value},P.Nodup->P[i]?=some x->vs[i]?=some v->kindOf x=some .local->
  bindL kindOf (P.zip vs) m x=some v
 | [],_,_,_,_,h,_,_=>by simp at h
 |_::_,[],_,_,_,_,h,_=>by simp at h
 |p::P,w::vs,0,m,nd,h1,h2,hk=>by
  simp at h1 h2;subst h1;subst h2;show bindL kindOf ((p,w)::P.zip vs) m p=_;unfold bindL;rw[AA λv z=>(Zn.mp nd).1 (VR z).1,W7 hk];simp
 |p::P,w::vs,i+1,m,nd,h1,h2,hk=>by
  show bindL kindOf ((p,w)::P.zip vs) m x=_;unfold bindL;exact AB (i:=i) (Zn.mp nd).2 (by simpa using h1) (by simpa using h2) hk
def AD {kindOf:Str->Option NameKind} {x:Str} {v:Value}:∀{P:List Str} {vs:List Value} {i:Nat} {m:Str->Option Value},P.Nodup->P[i]?=some x->vs[i]?=some v->kindOf x≠some .local->
  bindC kindOf (P.zip vs) m x=some v
 | [],_,_,_,_,h,_,_=>by simp at h
 |_::_,[],_,_,_,_,h,_=>by simp at h
 |p::P,w::vs,0,m,nd,h1,h2,hk=>by
  simp at h1 h2;subst h1;subst h2;show bindC kindOf ((p,w)::P.zip vs) m p=_;unfold bindC;rw[AC λv z=>(Zn.mp nd).1 (VR z).1,W6 hk];simp
 |p::P,w::vs,i+1,m,nd,h1,h2,hk=>by
  show bindC kindOf ((p,w)::P.zip vs) m x=_;unfold bindC;exact AD (i:=i) (Zn.mp nd).2 (by simpa using h1) (by simpa using h2) hk
def start (N:List Str) (vs:List V):St:=vs.map some++List.replicate (N.length-vs.length) none
def Dl (CX:CXT) (P:Program) (w:World) (K:WN) (mg:Str->Option Value) (base:Heap) (N:List Str) (qual:Str) (scope:Scope) (f:Addr) (cd:Value) (A:Around) (outer:List Env) (s:Shared) (H:Hp) (E:XK):Cx where
 prog:=P
 w:=w
 K:=K
 mg:=mg
 base:=base
 A:=A.deeper (envOfC qual scope s.heap.objs.size f cd)
 N:=N
 s₀:=s
 H₀:=H
 env:=envOfC qual scope s.heap.objs.size f cd
 outer:=outer
 stack:=envOfC qual scope s.heap.objs.size f cd::outer
 ex:=[]
 calm:=true
 fn:=λ_=>true
 pn:=[]
 xe:=λe s'=>wpAny (model P w) (A.deeper<|envOfC qual scope s.heap.objs.size f cd) (leaving (envOfC qual scope s.heap.objs.size f cd) e) (λ_ s''=>CX outer H s E e s'') (λe' s''=>CX outer H s E e' s'') s'
def Dq {sc:Scope} (h:sc.names.lookup x=some .cell):∃c,(cellsFrom n sc.names []).lookup x=some c:=by
 have q:=PySem.W.cellsFrom_some sc.names n [] (.inl h);exact Xs.mp q
def GH {mg:Str->Option Value} {U:Value} {s1:Shared} {E:XK} 
  (S:aq N ps scope) (hd:A.handled=none) (e0:RE P w K mg base A outer s H) (hl:vs.length=ps.length) (r:G1 vs us)
  (x:InCallC s s.heap.objs.size (bindL (envOfC qual scope s.heap.objs.size f U).kindOf (ps.zip us) λ_=>none) (cellsFrom (s.heap.objs.size+1) scope.names []) (bindC (envOfC qual scope s.heap.objs.size f U).kindOf (ps.zip us) λ_=>none) s1):
  Inv (Dl CX P w K mg base N qual scope f U A outer s H E) [] (start N vs) H s1:=by
 have Y:ps.length<=N.length:=by have:=Wr List.length S.pre;rw[Q6]at this;lia
 obtain⟨h1,tk,rfl,hk⟩:=x.done;have G:∀b:Addr,b∉(Dl CX P w K mg base N qual scope f U A outer s H E).ex:=λb z=>Wb (show b∈([]:List Addr) from z) (by simp);refine⟨⟨e0.mod,S.kind,M,M,Q4 _,λy z c h1 h2=>?_,λy hy=>?_,λy c _ h=>?_,λ_=>hd,Around.frames_deeper e0.frames,.inr ⟨M,M⟩,λb z=>Wb z<|G b,e0.bs,e0.bsz,λb _ _=>G b,λb z=>Wb z<|G b,e0.funs,e0.frf⟩,
  rfl,e0.bare,Un.kept hk,⟨_,x.toInCall.ns,λi y v h1 h2 Z=>?_⟩,λy c h=>⟨_,x.cell y c h⟩,e0.hok.fresh<|Q4 _,λy c h=>?_,λp I=>Wb (show p∈([]:List (Addr×Obj)) from I) (by simp),e0.hok.kept hk,?_⟩
 .exact name_of_addr x.apart (PySem.mem_of_lookup h1)<|PySem.mem_of_lookup h2
 .have hy:scope.names.lookup y=some .cell\/scope.names.lookup y=some .free:=hy;rcases hy with hy|hy
  .exact Dq hy
  .exact Wb M<|S.nofree _ (PySem.mem_of_lookup hy)
 .exact Zl<|x.above y c (PySem.mem_of_lookup h)
 .have hi:i<vs.length:=by
   unfold start at h2;by_cases hi:i<vs.length
   .exact hi
   .rw[Zq (by simpa using hi)]at h2;rw[List.getElem?_replicate]at h2;split at h2<;>cases h2
  have ha:vs[i]?=some v:=by
   unfold start at h2;rw[Zt (by simpa using hi),QP]at h2;cases e:vs[i]? with
   |none=>rw[e]at h2;cases h2
   |some a=>rw[e]at h2;cases h2;rfl
  obtain⟨u,hu,rv⟩:=r.get ha;have I:ps[i]?=some y:=by
   rwa[<-S.pre,V4 ()]
  have O:ps.Nodup:=by rw[<-S.pre];exact S.nd.sublist<|V2 _ _
  refine⟨u,rv,?_⟩;rcases S.par y (Q2 I)with k|k
  .exact .inl ⟨k,AB O I hu k⟩
  .obtain⟨c,e⟩:=Dq (n:=s.heap.objs.size+1) k;refine .inr ⟨.inl k,c,e,?_⟩;have q:=x.cell y c e;rw[AD O I hu (by show scope.names.lookup y≠_;rw[k];decide)]at q;exact q
 .exact e0.hok.fresh<|Zl (x.above y c<|PySem.mem_of_lookup h)
 .unfold start;show _=N.length;rw[Q8,Q0,ZY];lia
def Mc {mg:Str->Option Value} {k:Nat} {G:Arguments} {dV kV Z pm z ct oc:Value} {an od:Option Addr}
  {a1:Array (Option Value)} (lk:K.lookup f=some ⟨oc,od,.func<|PySem.W.fnOf name qual G body scope dV kV Z pm an z ct,a1⟩) (a2:PySem.W.codeIn K z qual=true) (S:aq N ps scope)
  (len:∀vs H Q E,sp vs H Q E->vs.length=ps.length)
  (U:∀(A:Around) (outer:List Env) (s:Shared) (H:Hp) (vs:List V) (Q:VK) (E:XK),PL k (A.deeper<|envOfC qual scope s.heap.objs.size f z)->sp vs H Q E->
   ∃t,Pt (Dl CX P w K mg base N qual scope f z A outer s H E) body t/\t {nx:=λ_ H'=>Q .non H',rt:=Q} (start N vs) H):
  Dr P w K mg base CX (k+1) f (PySem.W.fnOf name qual G body scope dV kV Z pm an z ct) ps sp:=by
 refine⟨len,λA outer s H args us vs Q E hr e0 hb r a0=>?_⟩;have hl:=len _ _ _ _ a0;have KX:K.In s.heap:=e0.mod.kin.keeps λb o e=>(e0.bs b o e).1;have a3:s.heap.NoLimit:=e0.mod.nolimit.keeps λb o e=>(e0.bs b o e).1;have Y:∀y∈ps.zip us,scope.names.lookup y.1=some .local\/(scope.names.lookup y.1=some .cell/\((cellsFrom (s.heap.objs.size+1) scope.names []).lookup y.1).isSome=true):=λ⟨n,v⟩ hy=>by
  rcases S.par n (VR hy).1 with q|q
  .exact .inl q
  .exact .inr ⟨q,PySem.W.cellsFrom_some _ _ _<|.inl q⟩
 refine codeAny_call_function hr.depth (KX _ _ lk) M S.co S.gen M (PySem.W.codeRec_of KX a2)<|hb _ _ _ _ ?_;refine wpAny_newFunctionEnv_cells S.kind Y λenv he s1 x=>?_;subst he;refine⟨a3.keeps x.toInCall.keep,codeAny_func ?_⟩;obtain⟨t,ht,hq⟩:=U A outer s H vs Q E (hr.deeper _) a0;have I:Inv (Dl CX P w K mg base N qual scope f z A outer s H E) [] (start N vs) H s1:=GH S hr.hd e0 hl r x;refine Wv (ht [] s1 (start N vs) H _ I hq) (λfl s' hs=>?_) λe s' hs=>hs;have fin:∀{O:St} {H':Hp} {v:V} {u:Value},Inv (Dl CX P w K mg base N qual scope f z A outer s H E) [] O H' s'->RelV v u->Q v H'->CE outer P w H s Q u s':=
  λ{O H' v u} J rv q=>⟨v,H',J.os,J.bare,J.base,J.hok,rv,q⟩
 cases fl with
 |ret u=>
  obtain⟨v,O,H',J,rv,q⟩:=hs;exact fin J rv q
 |next=>
  obtain⟨O,H',J,q⟩:=hs;exact fin (v:=V.non) (u:=Value.none) J M q
 |brk=>
  obtain⟨_,_,_,q⟩:=hs;exact False.elim q
 |cont=>
  obtain⟨_,_,_,q⟩:=hs;exact False.elim q
section
variable {t:TA} {id T:String} {r:List V->Hp->VK->Prop}
def tCB (r:List V->Hp->VK->Prop) (t:TA):TE:=λB H Q=>t B H λvs H1=>r vs H1 Q
def aI (hc:gk X (.builtin id) r) (O:Gl X x) (U:X.mg x=none) (Y:bootBuiltins x=some (.builtin id)) (ha:PA X (e::es) t) (Z:x≠"__name__":=by decide) (z:(x==("__debug__":Str))=false:=by decide)
  (he:starEach (e::es) X.env=(false,eval e X.env)::starEach es X.env:=by rfl) (G:(backTo pos<|starEach es X.env).any (·.1)=false:=by rfl):PE X (.Call (.Name x p) (e::es) [] pos) (tCB r t):=by
 intro W s B H Q I h;refine WD<|uQ I O U Y ?_ Z z;exact PyProof.Rows.callWith_builtin1 (P0 (ha pos W s B H _ I h) λus s1 ⟨vs,H1,I1,r1,q1⟩=>hc W s1 B H1 vs us Q I1 r1 q1) he G
def dP (hc:gk X (.type T) r) (O:Gl X x) (U:X.mg x=none) (Y:bootBuiltins x=some (.type T)) (ha:PA X (e::es) t) (Z:x≠"__name__":=by decide) (z:(x==("__debug__":Str))=false:=by decide)
  (he:starEach (e::es) X.env=(false,eval e X.env)::starEach es X.env:=by rfl) (G:(backTo pos<|starEach es X.env).any (·.1)=false:=by rfl):PE X (.Call (.Name x p) (e::es) [] pos) (tCB r t):=by
 intro W s B H Q I h;refine WD<|uQ I O U Y ?_ Z z;exact PyProof.Rows.callWith_type1 (P0 (ha pos W s B H _ I h) λus s1 ⟨vs,H1,I1,r1,q1⟩=>hc W s1 B H1 vs us Q I1 r1 q1) he G
end
end L2
namespace HT
open PySem PyProof.Rows
variable {E:Value->Shared->Prop}
noncomputable def lexLt:List Int->List Int->Bool
 | [],[]=>false
 | [],_::_=>true
 |_::_,[]=>false
 |x::xs,y::ys=>if x=y then lexLt xs ys else decide (x<y)
def lexLt_cons (x y:Int) (xs ys:List Int):lexLt (x::xs) (y::ys)=if x=y then lexLt xs ys else decide (x<y):=rfl
def lexLt_nil_nil:lexLt [] []=false:=rfl
def lexLt_nil_cons (y:Int) (ys:List Int):lexLt [] (y::ys)=true:=rfl
def lexLt_cons_nil (x:Int) (xs:List Int):lexLt (x::xs) []=false:=rfl
section
variable {prog:Program} {w:World} {A:Around} {s:Shared}
noncomputable def sIx (n d:Nat):Option Int->Nat
 |none=>d
 |some v=>if v<0 then(v+(n:Int)).toNat else min v.toNat n
end
end HT
namespace L2
open PySem PySem.Spec PyProof.Rows
variable {a b:Addr} {A:Around} {X:Cx} {e:Expr} {h':Heap} {H H':Hp} {i:Int} {W:List (Addr×Obj)} {kvs:List (Key×V)} {vs:List (Key×Value)} {its its':List Value} {j n t':Nat} {o:Option V} {pos:Pos} {P:Program} {s:Shared} {B:St} {T:String} {α:Type} {v x y:V} {r u:Value} {E Q:Value->Shared->Prop} {w:World}
abbrev TO:=St->Hp->(Option Int->Hp->Prop)->Prop
def PO (X:Cx) (e:Option Expr) (t:TO):Prop:=
 ∀(W:List (Addr×Obj)) (s:Shared) (B:St) (H:Hp) (Q:Option Int->Hp->Prop),Inv X W B H s->t B H Q->
  WO X (evalPart e X.env) (λu s'=>∃o H',Inv X W B H' s'/\IsPart u o/\Q o H') X.xe s
def Ku:TO:=λ_ H Q=>Q none H
inductive MD (Q:Option Int->Hp->Prop) (x:V) (H1:Hp):Prop
 |mk (i:_) (_:x= .int i) (_:Q (some i) H1)
def N4 (t:TE):TO:=λB H Q=>t B H λx H1=>MD Q x H1
def xU {ns:List Int}:∀{us:List Value},G1 (ns.map V.int) us->IntsAre us ns:=by
 induction ns with
 |nil=>intro us r;rw[Vx]at r;cases r;exact .nil
 |cons n ns z=>
  intro us r;rw[QO]at r;cases r with
  |cons r1 G=>
   obtain⟨t,e⟩:=r1;subst e;exact .cons n t<|z G
section
variable {te:TE} {lo hi:Option Expr} {tl th:TO} {p2:Pos}
def iJ:PO X none Ku:=by
 intro W s B H Q I h;rw[evalPart_none];exact Wl ⟨none,H,I,.none,h⟩
def dN (h:PE X e te):PO X (some e) (N4 te):=by
 intro W s B H Q I hw;rw[evalPart_some];refine P0 (h W s B H _ I hw) λu s1 z=>?_;obtain⟨x,H1,G,r1,O⟩:=z;obtain⟨i,rfl,q⟩:=O;obtain⟨t,rfl⟩:=r1;exact⟨some i,H1,G,.int i t,q⟩
def SlR (X:Cx) (r:V->Option Int->Option Int->Hp->VK->Prop):Prop:=
 ∀(W:List (Addr×Obj)) (s:Shared) (B:St) (H:Hp) (x:V) (v vl vu:Value) (lo hi:Option Int) (sl:Addr) (Q:VK),Inv X W B H s->RelV x v->s.heap.IsSliceOf sl vl vu .none->IsPart vl lo->IsPart vu hi->r x lo hi H Q->
  ∃T id,typeLookup (.type T) "__getitem__"=pure (some<|.builtin id)/\s.TypeIs v T/\WO X (getItem v<|.ref sl) (EP X W B Q) X.xe s
def tSl (r:V->Option Int->Option Int->Hp->VK->Prop) (te:TE) (tl th:TO):TE:=λB H Q=>te B H λx H1=>tl B H1 λl H2=>th B H2 λu H3=>r x l u H3 Q
def dC {r:V->Option Int->Option Int->Hp->VK->Prop} (U:SlR X r) (he:PE X e te) (hl:PO X lo tl) (hu:PO X hi th):PE X (.Subscript e (.Slice lo hi none p2) pos) (tSl r te tl th):=by
 intro W s B H Q I h;refine Subscript_<|P0 (he W s B H _ I h) λv s1 z=>?_;obtain⟨x,H1,Y,r1,Z⟩:=z;refine wpAny_Slice<|P0 (hl W s1 B H1 _ Y Z) λG s2 ⟨l,H2,I2,pl,q2⟩=>P0 (hu W s2 B H2 _ I2 q2) λO s3 z=>?_;obtain⟨u,H3,I3,pu,q3⟩:=z;rw[evalPart_none];refine Wl ?_;have I4:Inv X W B H3 {s3 with heap:=s3.heap.push {cls:= .type "slice",data:= .fields #[G,O,.none]}}:=I3.kept (t':=s3.toks) λb ob q=>W9 _ q;obtain⟨T,id,hT,ht,hg⟩:=U W {s3 with heap:=s3.heap.push {cls:= .type "slice",data:= .fields #[G,O,.none]}} B H3 x v G O l u s3.heap.objs.size Q I4 r1 (Heap.IsSliceOf.new ..) pl pu q3;show WO X (subscriptTail e (.Slice lo hi none p2) v<|.ref s3.heap.objs.size) (EP X W B Q) X.xe {s3 with heap:=s3.heap.push {cls:= .type "slice",data:= .fields #[G,O,.none]}};exact tail_any (ops:=[.ref s3.heap.objs.size,v]) ht hT hg (by with_unfolding_all rfl)
def qh (xs:List V) (lo hi:Option Int):List V:=(xs.drop<|HT.sIx xs.length 0 lo).take (HT.sIx xs.length xs.length hi-HT.sIx xs.length 0 lo)
def Do (xs:List V) (lo hi:Option Int):(qh xs lo hi).length<=xs.length:=by
 unfold qh;rw[Q6,Zf];lia
end
noncomputable def RM (n:Nat) (i:Int):Option Nat:=if 0<=i then(if i<n then some i.toNat else none)else if-(n:Int)<=i then some (i+n).toNat else none
def R9 {α:Type} (xs:List α) (i:Int):Option α:=(RM xs.length i).bind λj=>xs[j]?
def Fk (h:RM n i=some j):seqIndex? i n=some j/\j<n/\-(n:Int)<=i/\i<n:=by
 unfold RM at h;by_cases z:0<=i
 .rw[W7 z]at h;by_cases h1:i<n
  .rw[W7 h1]at h;have e:i.toNat=j:=W8 h;exact⟨by rw[seqIndex_of z h1,e],(),(),h1⟩
  .rw[W6 h1]at h;cases h
 .rw[W6 z]at h;by_cases h1: -(n:Int)<=i
  .rw[W7 h1]at h;have e:(i+n).toNat=j:=W8 h;exact⟨by rw[seqIndex_neg () h1,e],(),h1,()⟩
  .rw[W6 h1]at h;cases h
def FG {xs:List α} {v:α} (h:R9 xs i=some v):∃j,seqIndex? i xs.length=some j/\xs[j]?=some v/\j<xs.length/\-(xs.length:Int)<=i/\i<xs.length:=by
 unfold R9 at h;cases e:RM xs.length i with
 |none=>rw[e]at h;cases h
 |some j=>
  rw[e]at h;obtain⟨h1,h2,z,G⟩:=Fk e;exact⟨j,h1,h,h2,z,G⟩
def wz {xs:List α} {v:α} (h:xs[j]?=some v):R9 xs (j:Int)=some v:=by
 have z:j<xs.length:=(Q1.mp h).1;have e:RM xs.length (j:Int)=some j:=by
  unfold RM;rw[W7 (),W7 ()];simp
 unfold R9;rwa[e]
def LC (b:Expr):Prop:=∀o i,subscripted b false o i=operate [o,i] (getItem o i)
def IxR (X:Cx) (r:R2):Prop:=
 ∀(value slice:Expr) (W:List (Addr×Obj)) (s:Shared) (B:St) (H:Hp) (x y:V) (v u:Value) (Q:VK),Inv X W B H s->RelV x v->RelV y u->r x y H Q->
  subscripted slice false v u=operate [v,u] (getItem v u)->WO X (subscriptTail value slice v u) (EP X W B Q) X.xe s
def Re (X:Cx) (id:String) (r:V->List V->Hp->VK->Prop):Prop:=
 ∀(W:List (Addr×Obj)) (s:Shared) (B:St) (H:Hp) (x:V) (xs:List V) (v:Value) (us:List Value) (Q:VK),Inv X W B H s->RelV x v->G1 xs us->r x xs H Q->
  WO X (call (.builtin id) (v::us)) (EP X W B Q) X.xe s
section
variable {a b:Expr} {ta tb:TE}
def aP {r:R2} (z:IxR X r) (ha:PE X a ta) (hb:PE X b tb) (hs:LC b):PE X (.Subscript a b pos) (tOp r ta tb):=by
 intro W s B H Q I h;exact Subscript_ (NF ha hb I h λv u G x y H2 O U Y q=>z a b W G B H2 x y v u Q O U Y q<|hs _ _)
inductive rIxL (K:WN) (x y:V) (H:Hp) (Q:VK):Prop
 |mk (p xs i v:_) (_:x= .ref p) (_:y= .int i) (_:Fz K H p xs) (_:R9 xs i=some v) (_:Q v H)
inductive rIxT (K:WN) (x y:V) (H:Hp) (Q:VK):Prop
 |mk (p xs i v:_) (_:x= .ref p) (_:y= .int i) (_:PX K H p xs) (_:R9 xs i=some v) (_:Q v H)
def aW:IxR X (rIxL X.K):=by
 intro value G W s B H x y v u Q I rx ry h hs;obtain⟨p,xs,i,z,rfl,rfl,hq,he,q⟩:=h;cases rx;obtain⟨t,rfl⟩:=ry;obtain⟨its,r,pl,hz⟩:=I.list hq;obtain⟨j,h1,h2,h3,h4,h5⟩:=FG he;obtain⟨w,Y,O⟩:=r.get h2;have hl:=r.length;have hn:=xQ;have fin:EP X W B Q w s:=⟨z,H,I,O,q⟩;by_cases Z:0<=i
 .have U:i.toNat=j:=by
   rw[seqIndex_of Z h5]at h1;exact W8 h1
  exact item_listR pl.isList Z () (by rw[U];simpa using Y) fin hs
 .have U:(i+(its.toArray.size:Int)).toNat=j:=by
   rw[seqIndex_neg () h4]at h1;rw[QG,<-hl];exact W8 h1
  exact subscriptTail_builtinR (x:=w) pl.isList.typeIs slot_list_getitem.lookup
   (wpAny_getItem_list_neg (Q:=λr s'=>r=w/\EP X W B Q r s') pl.isList () (by rw[QG]<;>lia) () (by rw[U];simpa using Y) ⟨M,fin⟩) hs
def bi:IxR X (rIxT X.K):=by
 intro value G W s B H x y v u Q I U Y h hs;obtain⟨p,xs,i,z,rfl,rfl,hq,he,q⟩:=h;cases U;obtain⟨t,rfl⟩:=Y;obtain⟨its,r,pl,hz⟩:=I.tuple hq;obtain⟨j,h1,h2,h3,h4,h5⟩:=FG he;obtain⟨w,Z,O⟩:=r.get h2;have hl:=r.length;have hn:=xQ;have fin:EP X W B Q w s:=⟨z,H,I,O,q⟩;exact subscriptTail_builtinR (x:=w) pl.typeIs slot_tuple_getitem.lookup
  (getItem_tuple (j:=j) (Q:=λr s'=>r=w/\EP X W B Q r s') pl () () (by rwa[QG,<-hl]) (by simpa using Z) ⟨M,fin⟩) hs
def Et (its:List Value) (n j:Nat) (u:Value):Obj.mapSeq (·.setIfInBounds j u) {cls:= .type "list",data:= .seq its.toArray n}={cls:= .type "list",data:= .seq (its.set j u).toArray n}:=by
 simp[Obj.mapSeq]
def Inv.lst {W:List (Addr×Obj)} {B:St} {H:Hp} {s:Shared} {p:Addr} {xs:List V} (I:Inv X W B H s) (h:H p=some (.lst xs)):
  ∃(its:List Value) (n:Nat),G1 xs its/\s.heap.get? p=some {cls:= .type "list",data:= .seq its.toArray n}/\xs.length<=sizeLine:=by
 obtain⟨z,its,n,r,e⟩:=I.hok p _ h;exact⟨its,n,r,e,z⟩
def Inv.lstUpd {p:Addr} {xs ys:List V} {n':Nat} {f:Obj->Obj} (I:Inv X W B H s) (h:H p=some (.lst xs))
  (z:s.heap.get? p=some {cls:= .type "list",data:= .seq its.toArray n}) (hf:f {cls:= .type "list",data:= .seq its.toArray n}={cls:= .type "list",data:= .seq its'.toArray n'}) (r:G1 ys its') (hz:ys.length<=sizeLine) (t:Nat):
  Inv X W B (upd H p<|.lst ys) {s with heap:=s.heap.update p f,toks:=t}:=by
 have e:(s.heap.update p f).get? p=some {cls:= .type "list",data:= .seq its'.toArray n'}:=by
  rw[Heap.get?_update_self f z (by rw[hf]<;>rfl),hf]
 refine I.write (x:=p) (e:=p) (by rw[h];trivial) (.inl M) (λb u hb q=>(WG _ _<|Ne.symm hb).trans q) ⟨_,e⟩ ?_;exact⟨hz,its',n',r,e⟩
inductive Ol (o i v:V) (H:Hp) (Q:Hp->Prop):Prop
 |mk (p xs k j:_) (_:o= .ref p) (_:i= .int k) (_:H p=some (.lst xs)) (_:RM xs.length k=some j) (_:Q (upd H p<|.lst<|xs.set j v))
def wV:PSet X Ol:=by
 intro W s B H o i v ov iv u Q I ro ri rv h;obtain⟨p,xs,k,j,rfl,rfl,G,hj,q⟩:=h;cases ro;obtain⟨t,rfl⟩:=ri;obtain⟨its,n,r,z,hz⟩:=I.lst G;obtain⟨h1,h2,O,U⟩:=Fk hj;have hl:=r.length;have hn:=xQ;have Y:Inv X W B (upd H p<|.lst<|xs.set j v) {s with heap:=s.heap.update p (Obj.mapSeq (·.setIfInBounds j u))}:=
  I.lstUpd G z (Et its n j u) (r.set rv j) (by rwa[Zk]) s.toks
 by_cases Z:0<=k
 .have hk:k.toNat=j:=by
   rw[seqIndex_of Z U]at h1;exact W8 h1
  exact PySem.W.ki_setAt z Z () (by rwa[QG,<-hl])<|by rw[hk];exact⟨_,Y,q⟩
 .have hk:(k+(its.toArray.size:Int)).toNat=j:=by
   rw[seqIndex_neg () O]at h1;rw[QG,<-hl];exact W8 h1
  exact PySem.W.ki_setBack z () (by rwa[QG,<-hl]) ()<|by rw[hk];exact⟨_,Y,q⟩
def A9 (lo hi:Option Int) (n:Nat):(sliceBounds lo hi none n).1=((HT.sIx n 0 lo:Nat):Int)/\(sliceBounds lo hi none n).2.1=((HT.sIx n n hi:Nat):Int)/\(sliceBounds lo hi none n).2.2=1:=by
 refine⟨?_,?_,M⟩
 .cases lo with
  |none=>simp[sliceBounds,HT.sIx]
  |some i=>
   simp only[sliceBounds,HT.sIx,Option.getD_none,show(1:Int)>0 by decide,if_true];by_cases h:i<0
   .simp only[h,if_true]<;>lia
   .simp only[h,if_false]<;>lia
 .cases hi with
  |none=>simp[sliceBounds,HT.sIx]
  |some i=>
   simp only[sliceBounds,HT.sIx,Option.getD_none,show(1:Int)>0 by decide,if_true];by_cases h:i<0
   .simp only[h,if_true]<;>lia
   .simp only[h,if_false]<;>lia
def yV (its:List Value) (lo hi:Option Int):slicePick its.toArray lo hi none=((its.drop<|HT.sIx its.length 0 lo).take<|HT.sIx its.length its.length hi-HT.sIx its.length 0 lo).toArray:=by
 obtain⟨h1,h2,z⟩:=A9 lo hi its.toArray.size;unfold slicePick;rw[h1,h2,z];simp only[sliceRange_one,pick_run,QG]<;>rfl
inductive rSlL (K:WN) (x:V) (lo hi:Option Int) (H:Hp) (Q:VK):Prop
 |mk (a xs:_) (_:x= .ref a) (_:Fz K H a xs) (_:∀p,H p=none->Q (.ref p) (upd H p<|.lst<|qh xs lo hi))
def fu:SlR X (rSlL X.K):=by
 intro W s B H x v Y Z lo hi sl Q I O hs pl U h;obtain⟨a,xs,rfl,hx,q⟩:=h;cases O;obtain⟨its,r,G,hz⟩:=I.list hx;have z:=r.length;refine⟨"list",_,slot_list_getitem.lookup,G.isList.typeIs,?_⟩;refine wpAny_getItem_list_slice G.isList hs pl U .none (by simp) ?_ (by rw[QG]<;>lia);rw[yV,<-z];refine⟨.ref s.heap.objs.size,_,I.laid (t':=s.toks) (o:= .lst<|qh xs lo hi) (λb ob q=>W9 _ q) (Q4 _) ?_,M,q _<|I.hok.fresh (Q4 _)⟩;exact⟨QQ (Do xs lo hi) hz,_,0,(r.drop<|HT.sIx xs.length 0 lo).take<|HT.sIx xs.length xs.length hi-HT.sIx xs.length 0 lo,Wi _ M⟩
noncomputable def tw:V->Bool
 | .non=>true
 | .bl _=>true
 | .int _=>true
 | .str _=>true
 |_=>false
noncomputable def RQ:V->V->Bool
 | .non,.non=>true
 | .bl a,.bl b=>a==b
 | .bl a,.int b=>(if a then 1 else 0)==b
 | .int a,.bl b=>a==(if b then 1 else 0)
 | .int a,.int b=>a==b
 | .str a,.str b=>a==b
 |_,_=>false
def Nx {v:Value} (G:RelV y u) (z:RelV x v) (O:tw y=true) (I:tw x=true):SeqAt.EqAt A s u v (RQ y x):=by
 cases y with
 |non=>
  cases G;cases x with
  |non=>cases z;exact SeqAt.EqAt.same _
  |bl b=>cases z;exact SeqAt.EqAt.none_bool b
  |int b=>obtain⟨t,rfl⟩:=z;exact SeqAt.EqAt.none_int b t
  |str b=>obtain⟨t,rfl⟩:=z;exact SeqAt.EqAt.none_str b t
  |_=>exact Wb (show false=true from I) Qz
 |bl a=>
  cases G;cases x with
  |non=>cases z;exact SeqAt.EqAt.bool_none a
  |bl b=>cases z;exact SeqAt.EqAt.bool_bool a b
  |int b=>obtain⟨t,rfl⟩:=z;exact SeqAt.EqAt.bool_int a b t
  |str b=>obtain⟨t,rfl⟩:=z;exact SeqAt.EqAt.bool_str a b t
  |_=>exact Wb (show false=true from I) Qz
 |int a=>
  obtain⟨t',rfl⟩:=G;cases x with
  |non=>cases z;exact SeqAt.EqAt.int_none a t'
  |bl b=>cases z;exact SeqAt.EqAt.int_bool a t' b
  |int b=>obtain⟨t,rfl⟩:=z;exact SeqAt.EqAt.int_int a t' b t
  |str b=>obtain⟨t,rfl⟩:=z;exact SeqAt.EqAt.int_str a t' b t
  |_=>exact Wb (show false=true from I) Qz
 |str a=>
  obtain⟨t',rfl⟩:=G;cases x with
  |non=>cases z;exact SeqAt.EqAt.str_none a t'
  |bl b=>cases z;exact SeqAt.EqAt.str_bool a t' b
  |int b=>obtain⟨t,rfl⟩:=z;exact SeqAt.EqAt.str_int a t' b t
  |str b=>obtain⟨t,rfl⟩:=z;exact SeqAt.EqAt.str_str a t' b t
  |_=>exact Wb (show false=true from I) Qz
 |_=>exact Wb (show false=true from O) Qz
def Rf (x:V) (u:Value):Bool:=match u with
 | .none=>RQ .non x
 | .bool b=>RQ (.bl b) x
 | .int i _=>RQ (.int i) x
 | .str z _=>RQ (.str z) x
 |_=>false
def Jn (r:RelV y u) (f:tw y=true):Rf x u=RQ y x:=by
 cases y with
 |non=>cases r;rfl
 |bl b=>cases r;rfl
 |int i=>obtain⟨t,rfl⟩:=r;rfl
 |str z=>obtain⟨t,rfl⟩:=r;rfl
 |_=>exact Wb (show false=true from f) Qz
def B9 {x:V}:∀{xs:List V} {us:List Value},G1 xs us->xs.all tw=true->us.any (Rf x)=xs.any λy=>RQ y x
 |_,_,.nil,_=>rfl
 |y::xs,u::us,.cons r t,f=>by
  rw[List.all_cons,Zb]at f;rw[XM,XM,Jn r f.1,B9 t f.2]
def xO {A:Around} {s:Shared} {x:V} {v:Value} (z:RelV x v) (G:tw x=true):∀{xs:List V} {us:List Value},G1 xs us->xs.all tw=true->∀u∈us,SeqAt.EqAt A s u v (Rf x u)
 |_,_,.nil,_=>λu hu=>by cases hu
 |y::xs,u::us,.cons r t,f=>λI hu=>by
  rw[List.all_cons,Zb]at f;rcases QH.mp hu with rfl|hu
  .rw[Jn r f.1];exact Nx r z f.1 G
  .exact xO z G t f.2 I hu
def inV (x:V) (xs:List V):Bool:=xs.any λy=>RQ y x
inductive rIn (K:WN) (neg:Bool) (x y:V) (H:Hp) (Q:VK):Prop
 |mk (p xs:_) (_:y= .ref p) (_:(Fz K H p xs\/PX K H p xs)) (_:tw x=true) (_:xs.all tw=true) (_:Q (.bl<|if neg then !inV x xs else inV x xs) H)
def Gh:Qa X (compareOp .In) (rIn X.K false):=by
 intro W s B H x y v u Q I z O h;obtain⟨p,xs,rfl,hq,G,fs,q⟩:=h;cases O;rcases hq with hq|hq
 .obtain⟨its,r,pl,hz⟩:=I.list hq;refine SeqAt.in_listAt (Rf x) pl.isList (λw hw=>xO z G r fs w<|by simpa using hw) ⟨.bl _,H,I,M,?_⟩;rw[show its.toArray.any (Rf x)=its.any (Rf x) by simp,B9 r fs];exact q
 .obtain⟨its,r,pl,hz⟩:=I.tuple hq;refine SeqAt.in_tupleAt (Rf x) pl (λw hw=>xO z G r fs w<|by simpa using hw) ⟨.bl _,H,I,M,?_⟩;rw[show its.toArray.any (Rf x)=its.any (Rf x) by simp,B9 r fs];exact q
def aH:gk X (.builtin "len") (λxs H Q=>∃p ys,xs=[.ref p]/\(Fz X.K H p ys\/PX X.K H p ys)/\Q (.int ys.length) H):=by
 intro W s B H xs us Q I r h;obtain⟨p,ys,rfl,hq,q⟩:=h;obtain⟨u,rfl,O⟩:=mV r;cases O;have U:=xQ;rcases hq with hq|hq
 .obtain⟨its,G,pl,hz⟩:=I.list hq;have z:=G.length;exact Calls.call_len_list pl.isList (by simp only[QG]<;>lia) ⟨.int ys.length,H,I.tok _,⟨s.toks+1,by rw[QG,z]⟩,q⟩
 .obtain⟨its,G,pl,hz⟩:=I.tuple hq;have z:=G.length;exact len_tuple pl (by simp only[QG]<;>lia) ⟨.int ys.length,H,I.tok _,⟨s.toks+1,by rw[QG,z]⟩,q⟩
def BQ:gk X (.type "list") (λxs H Q=>∃p ys,xs=[.ref p]/\(Fz X.K H p ys\/PX X.K H p ys)/\∀l,H l=none->Q (.ref l) (upd H l<|.lst ys)):=by
 intro W s B H xs us Q I r h;obtain⟨p,ys,rfl,hq,q⟩:=h;obtain⟨u,rfl,Z⟩:=mV r;cases Z;have fin:∀(its:List Value),G1 ys its->ys.length<=sizeLine->∀(h':Heap) (z:Nat),(∀b o',s.heap.get? b=some o'->h'.get? b=some o')->
   h'.get? s.heap.objs.size=some {cls:= .type "list",dict:=none,data:= .seq its.toArray z,slots:= #[]}->EP X W B Q (.ref s.heap.objs.size) {s with heap:=h'}:=λits G hz h' z O e=>
  ⟨.ref s.heap.objs.size,_,I.laid (t':=s.toks) O (Q4 _) (show O9 X.prog X.w _ h' _ (.lst ys) from⟨hz,its,z,G,e⟩),M,q _<|I.hok.fresh (Q4 _)⟩
 rcases hq with hq|hq
 .obtain⟨its,G,pl,hz⟩:=I.list hq;have U:=G.length;obtain⟨o,Y,hc,n,hd⟩:=pl.isList;exact call_list_seq p (.inl M) Y hc hd (λh' z O e=>fin its G hz h' z O e)<|by simp only[QG]<;>lia
 .obtain⟨its,G,pl,hz⟩:=I.tuple hq;have U:=G.length;obtain⟨o,Y,hc,n,hd⟩:=pl;exact call_list_seq p (.inr M) Y hc hd (λh' z O e=>fin its G hz h' z O e)<|by simp only[QG]<;>lia
def tyV (K:WN) (T:String) (x:V) (H:Hp):Prop:=match x with
 | .str _=>T="str"
 | .int _=>T="int"
 | .ref p=>(T="list"/\∃xs,Fz K H p xs)\/(T="tuple"/\∃o,K.lookup p=some o/\o.cls= .type "tuple"/\o.dict=none)\/
   (T="dict"/\((∃kvs,H p=some (.dK kvs))\/∃kvs,H p=some (.dT kvs)))\/(T="set"/\∃S n,H p=some (.set S n))
 |_=>False
def Hu {v:Value} (I:Inv X W B H s) (r:RelV x v) (ty:tyV X.K T x H):
  s.TypeIs v T/\∀a,v= .ref a->∃ob,s.heap.get? a=some ob/\ob.dict=none:=by
 cases x with
 |str z=>
  obtain⟨t,rfl⟩:=r;cases (show T="str" from ty);exact⟨typeIs_str s z t,λ_ e=>nomatch e⟩
 |int i=>
  obtain⟨t,rfl⟩:=r;cases (show T="int" from ty);exact⟨typeIs_int s i t,λ_ e=>nomatch e⟩
 |ref p=>
  cases r;rcases ty with⟨rfl,xs,hq⟩|⟨rfl,o,hk,hc,hd⟩|⟨rfl,hk⟩|⟨rfl,S,n,hk⟩
  .obtain⟨its,_,pl,_⟩:=I.list hq;refine⟨pl.isList.typeIs,λa e=>?_⟩;cases e;obtain⟨o,n,e,c,hd,_⟩:=pl;exact⟨o,e,hd⟩
  .refine⟨⟨o,I.kIn p o hk,hc⟩,λa e=>?_⟩;cases e;exact⟨o,I.kIn _ o hk,hd⟩
  .have z:∃o,s.heap.get? p=some o/\o.ExactDict:=by
    rcases hk with⟨kvs,hk⟩|⟨kvs,hk⟩
    .obtain⟨_,_,_,_,o,_,_,e,ex,_⟩:=I.hok p _ hk;exact⟨o,e,ex⟩
    .obtain⟨_,_,_,_,o,_,_,e,ex,_⟩:=I.hok p _ hk;exact⟨o,e,ex⟩
   obtain⟨o,e,ex⟩:=z;refine⟨⟨o,e,ex.1⟩,λa e2=>?_⟩;cases e2;exact⟨o,e,ex.2.1⟩
  .obtain⟨o,_,_,_,e,ex,_⟩:=I.hok p _ hk;refine⟨⟨o,e,ex.1⟩,λa e2=>?_⟩;cases e2;exact⟨o,e,ex.2.1⟩
 |_=>exact False.elim ty
def tBM0 (K:WN) (T:String) (r:V->List V->Hp->VK->Prop) (to:TE):TE:=λB H Q=>to B H λx H1=>tyV K T x H1/\r x [] H1 Q
def tBM (K:WN) (T:String) (r:V->List V->Hp->VK->Prop) (to:TE) (t:TA):TE:=λB H Q=>to B H λx H1=>tyV K T x H1/\t B H1 λxs H2=>r x xs H2 Q
variable {o:Expr} {es:List Expr} {to:TE} {t:TA} {name:Str} {apos cpos:Pos} {id:String} {r:V->List V->Hp->VK->Prop}
def uD (pa:PlainAttrs T) (slot:Slot T name id) (O:typeOf (.builtin id)=pure (.type "method_descriptor")) (Z:Re X id r) (ho:PE X o to)
  (z:attributeBase o name X.env (eval o X.env)=eval o X.env:=by rfl) (G:(apos.endLine==cpos.line)=true:=by rfl):PE X (.Call (.Attribute o name apos) [] [] cpos) (tBM0 X.K T r to):=by
 intro W s B H Q I h;refine wpAny_Call_method0_late z G<|P0 (ho W s B H _ I h) λv s1 U=>?_;obtain⟨x,H1,Y,r1,ty,q1⟩:=U;obtain⟨h1,h2⟩:=Hu Y r1 ty;exact⟨T,id,pa,slot,O,h1,h2,Calls.callWith_builtin M<|PySem.evalArgs_none (Z W s1 B H1 x [] v [] Q Y r1 .nil q1)⟩
def dE (pa:PlainAttrs T) (slot:Slot T name id) (Y:typeOf (.builtin id)=pure (.type "method_descriptor")) (hm:Re X id r) (ho:PE X o to) (ha:PA X (e::es) t)
  (G:attributeBase o name X.env (eval o X.env)=eval o X.env:=by rfl)
  (U:((backTo cpos<|starEach (e::es) X.env).all (λx=>!x.1)&&(backToKw cpos<|keywordEach [] X.env).all (λx=>x.1.isSome)
   &&decide ((e::es).length+([]:List Keyword).length+(if([]:List Keyword).isEmpty then 0 else 1)<30))=true:=by rfl)
  (O:(apos.endLine==cpos.line)=true:=by rfl) (hs:starEach (e::es) X.env=(false,eval e X.env)::starEach es X.env:=by rfl) (z:(backTo cpos<|starEach es X.env).any (·.1)=false:=by rfl):
  PE X (.Call (.Attribute o name apos) (e::es) [] cpos) (tBM X.K T r to t):=by
 intro W s B H Q I h;refine wpAny_Call_method_late G U O M<|P0 (ho W s B H _ I h) λv s1 Z=>?_;obtain⟨x,H1,I1,r1,ty,q1⟩:=Z;obtain⟨h1,h2⟩:=Hu I1 r1 ty;refine⟨T,id,pa,slot,Y,h1,h2,?_⟩;have hA:=ha cpos W s1 B H1 _ I1 q1;rw[hs]at hA⊢;refine Calls.callWith_builtin (by show(false||(backTo cpos<|starEach es X.env).any (·.1))=false;rw[z]<;>rfl)<|Calls.evalArgs_plain ?_;exact P0 hA λus s2 ⟨vs,H2,I2,r2,q2⟩=>hm W s2 B H2 x vs v us Q I2 r1 r2 q2
end
def MtM (X:Cx) (id:String) (r:V->List V->Hp->VK->Prop):Prop:=
 ∀(W:List (Addr×Obj)) (s:Shared) (B:St) (H:Hp) (x:V) (xs:List V) (v:Value) (us:List Value) (Q:VK),Inv X W B H s->RelV x v->G1 xs us->r x xs H Q->
  WO X (call (.builtin id) (v::us)) (EP X W B Q) X.xe s
def G1.one:∀{x:V} {us:List Value},G1 [x] us->∃u,us=[u]/\RelV x u
 |_,_,.cons r .nil=>⟨_,M,r⟩
def G1.two:∀{x y:V} {us:List Value},G1 [x,y] us->∃u v,us=[u,v]/\RelV x u/\RelV y v
 |_,_,_,.cons r (.cons q .nil)=>⟨_,_,M,r,q⟩
def G1.eraseIdx:∀{xs:List V} {us:List Value} (i:Nat),G1 xs us->G1 (xs.eraseIdx i) (us.eraseIdx i)
 |_,_,_,.nil=> .nil
 |_,_,0,.cons _ t=>t
 |_,_,i+1,.cons r t=> .cons r (G1.eraseIdx i t)
def uP {α:Type}:∀(l:List α) (i:Nat),(l.eraseIdx i).length<=l.length
 | [],_=>Q4 _
 |_::_,0=>ZU _
 |_::r,i+1=>Nat.succ_le_succ (uP r i)
section
variable {l:Addr} {xs ys zs:List V}
def Inv.lset {f:Array Value->Array Value} (I:Inv X W B H s) (z:H l=some (.lst xs))
  (e:s.heap.get? l=some {cls:= .type "list",data:= .seq its.toArray n}) (hf:f its.toArray=its'.toArray) (G:G1 ys its') (hz:ys.length<=sizeLine):
  Inv X W B (upd H l<|.lst ys) {s with heap:=s.heap.update l (Obj.mapSeq f),toks:=t'}:=by
 have q:=PySem.IsL.update e f;rw[hf]at q;refine I.write (x:=l) (e:=l) (by rw[z];exact trivial) (.inl M) (λb' u hb hu=>(WG s.heap (Obj.mapSeq f)<|Ne.symm hb).trans hu) ⟨_,q⟩ ?_;exact⟨hz,its',_,G,q⟩
def Inv.lnew (I:Inv X W B H s) (z:G1 ys its) (hz:ys.length<=sizeLine):
  Inv X W B (upd H s.heap.objs.size<|.lst ys) {s with heap:=s.heap.push {cls:= .type "list",data:= .seq its.toArray},toks:=t'}:=
 I.laid (λ_ _ q=>W9 _ q) (Q4 _) ⟨hz,its,0,z,Wi _ M⟩
def Inv.fresh (I:Inv X W B H s):H s.heap.objs.size=none:=I.hok.fresh (Q4 _)
def Inv.lstM (I:Inv X W B H s) (G:H l=some (.lst xs)):xs.length<=sizeLine/\∃(its:List Value) (n:Nat),G1 xs its/\xs.length=its.length/\s.heap.get? l=some {cls:= .type "list",data:= .seq its.toArray n}:=by
 obtain⟨z,its,n,r,e⟩:=I.hok l _ G;exact⟨z,its,n,r,r.length,e⟩
def Ih (h:n<=sizeLine):Builtin.List.listTooLong n=false:=by
 unfold Builtin.List.listTooLong;exact Wj ()
end
inductive KL (x:V) (vs:List V) (H:Hp) (Q:VK):Prop
 |mk (l xs y:_) (_:x= .ref l) (_:vs=[y]) (_:H l=some (.lst xs)) (_:xs.length<sizeLine) (_:Q .non (upd H l<|.lst<|xs++ [y]))
def eY:MtM X "list.append" KL:=by
 intro W s B H x vs v us Q I O rv h;obtain⟨l,xs,y,rfl,rfl,G,hz,q⟩:=h;cases O;obtain⟨u,rfl,U⟩:=rv.one;obtain⟨z,its,n,r,hl,e⟩:=I.lstM G;refine call_meets F.slot_list_append ⟨_,e,M⟩ F.entry_list_append (F.args_list_append_2 _ _) (PySem.list_append l its.toArray n u<|by rw[QG];lia) ⟨e,?_⟩;refine⟨.non,_,I.lset (its':=its++ [u]) G e (by simp) (r.append<|.cons U .nil) ?_,M,q⟩;rw[Q8,Zw];lia
inductive KK (x:V) (vs:List V) (H:Hp) (Q:VK):Prop
 |mk (l b xs zs:_) (_:x= .ref l) (_:vs=[.ref b]) (_:H l=some (.lst xs)) (_:H b=some (.lst zs)) (_:xs.length+zs.length<=sizeLine) (_:Q .non (upd H l<|.lst<|xs++zs))
def pT:MtM X "list.extend" KK:=by
 intro W s B H x vs v us Q I Y rv h;obtain⟨l,b,xs,zs,rfl,rfl,U,Z,hz,q⟩:=h;cases Y;obtain⟨u,rfl,ru⟩:=rv.one;cases ru;obtain⟨z,its,n,r,hl,e⟩:=I.lstM U;obtain⟨z2,G,n2,r2,a0,e2⟩:=I.lstM Z;have hsz:its.toArray.size+G.toArray.size<=sizeLine:=by rw[QG,QG];lia
 have O:¬(!its.toArray.isEmpty&&Builtin.List.listTooLong (its.toArray.size+G.toArray.size))=true:=by
  rw[Ih hsz,Bool.and_false];exact Qz
 refine call_meets F.slot_list_extend ⟨_,e,M⟩ F.entry_list_extend (F.args_list_extend_2 _ _)
  (AutoSeq1.list_extend_list_list_0 l its.toArray n b G.toArray n2 O (by rw[QG];lia) ()) ⟨e,e2,?_⟩
 refine⟨.non,_,I.lset (its':=its++G) U e (by simp) (r.append r2) ?_,M,q⟩;rw[Q8];lia
inductive MR (x:V) (vs:List V) (H:Hp) (Q:VK):Prop
 |mk (l xs i k y:_) (_:x= .ref l) (_:vs=[.int i]) (_:H l=some (.lst xs)) (_: -(2^63)<=i) (_:i<2^63) (_:seqIndex? i xs.length=some k) (_:xs[k]?=some y) (_:Q y (upd H l<|.lst<|xs.eraseIdx k))
def CO:MtM X "list.pop" MR:=by
 intro W s B H x vs v us Q I U rv h;obtain⟨l,xs,i,k,y,rfl,rfl,O,h1,h2,hk,hy,q⟩:=h;cases U;obtain⟨u,rfl,Y⟩:=rv.one;obtain⟨t,rfl⟩:=Y;obtain⟨z,its,n,r,hl,e⟩:=I.lstM O;obtain⟨w,hw,G⟩:=r.get hy;refine call_meets F.slot_list_pop ⟨_,e,M⟩ F.entry_list_pop (F.args_list_pop_2 _ _)
  (MeetsSeq.list_pop_at l its.toArray n i t k w (fitsIndex_both h1 h2) (by rwa[QG,<-hl]) (by rwa[<-QZ])<|by rw[QG];lia) ⟨e,?_⟩
 refine⟨y,_,I.lset (its':=its.eraseIdx k) O e ?_ (r.eraseIdx k) ?_,G,q⟩
 .show its.toArray.eraseIdxIfInBounds k=(its.eraseIdx k).toArray;rw[VJ]
 .have:=uP xs k;lia
inductive rCat (x y:V) (H:Hp) (Q:VK):Prop
 |mk (l b xs zs:_) (_:x= .ref l) (_:y= .ref b) (_:H l=some (.lst xs)) (_:H b=some (.lst zs)) (_:xs.length+zs.length<=sizeLine) (_:∀p,H p=none->Q (.ref p) (upd H p<|.lst<|xs++zs))
def M0:Qa X (binaryOp .Add) rCat:=by
 intro W s B H x y v u Q I O U h;obtain⟨l,b,xs,zs,rfl,rfl,Y,Z,hz,q⟩:=h;cases O;cases U;obtain⟨z,its,n,r,hl,e⟩:=I.lstM Y;obtain⟨z2,G,n2,r2,a0,e2⟩:=I.lstM Z;refine PySem.P.add_list e e2 ?_ (by rw[QG,QG];lia);have ea:its.toArray++G.toArray=(its++G).toArray:=by simp
 rw[ea];exact⟨.ref _,_,I.lnew (t':=s.toks) (r.append r2) (by rw[Q8];lia),M,q _ I.fresh⟩
section
variable {κ:Type} [DecidableEq κ]
noncomputable def aF (kvs:List (κ×V)) (k:κ):Option V:=(kvs.find? λkv=>decide (kv.1=k)).map (·.2)
noncomputable def bn (kvs:List (κ×V)) (k:κ) (v:V):List (κ×V):=
 if(kvs.any λkv=>decide (kv.1=k))=true then kvs.map (λkv=>if kv.1=k then(kv.1,v)else kv)else kvs++ [(k,v)]
noncomputable def bN (kvs:List (κ×V)) (k:κ):List (κ×V):=kvs.filter λkv=>decide (kv.1≠k)
def kK {k:κ}:aF ([]:List (κ×V)) k=none:=rfl
def bB {p:κ×V} {r:List (κ×V)} {k:κ} (e:p.1=k):aF (p::r) k=some p.2:=by simp[aF,Xx,e]
def bq {p:κ×V} {r:List (κ×V)} {k:κ} (e:¬p.1=k):aF (p::r) k=aF r k:=by simp[aF,Xx,e]
def dw (k:κ):∀kvs:List (κ×V),(kvs.any λkv=>decide (kv.1=k))=(aF kvs k).isSome
 | []=>rfl
 |p::r=>by
  rw[XM];by_cases e:p.1=k
  .simp only[bB e,Wf e,Bool.true_or,Option.isSome_some]
  .rw[bq e,Wj e,Bool.false_or];exact dw k r
def Cl (k j:κ) (y:V):∀kvs:List (κ×V),aF (kvs.map λkv=>if kv.1=k then(kv.1,y)else kv) j=(aF kvs j).map λx=>if j=k then y else x
 | []=>rfl
 |p::r=>by
  have G:=Cl k j y r;rw[QO];by_cases h:p.1=k
  .rw[W7 h];by_cases e:p.1=j
   .rw[bB (p:=(p.1,y)) e,bB e,Vg,W7 (e.symm.trans h)]
   .rw[bq (p:=(p.1,y)) e,bq e,G]
  .rw[W6 h];by_cases e:p.1=j
   .rw[bB (p:=p) e,bB e,Vg,W6 (λz=>h<|e.trans z)]
   .rw[bq (p:=p) e,bq e,G]
def zU (k j:κ) (y:V):∀kvs:List (κ×V),aF kvs k=none->aF (kvs++ [(k,y)]) j=if j=k then some y else aF kvs j
 | [],_=>by
  by_cases e:k=j
  .rw[W7 e.symm];exact bB (p:=(k,y)) e
  .rw[W6 (λz=>e z.symm)];exact bq (p:=(k,y)) e
 |p::r,hn=>by
  rw[List.cons_append];have hk:¬p.1=k:=λz=>by rw[bB z]at hn;cases hn
  rw[bq hk]at hn;have G:=zU k j y r hn;by_cases e:p.1=j
  .rw[bB e,bB e,W6 (λz=>hk<|e.trans z)]
  .rw[bq e,bq e,G]
def eB (kvs:List (κ×V)) (k j:κ) (y:V):aF (bn kvs k y) j=if j=k then some y else aF kvs j:=by
 unfold bn;by_cases a:(kvs.any λkv=>decide (kv.1=k))=true
 .rw[W7 a,Cl];rw[dw]at a;by_cases e:j=k
  .obtain⟨x,hx⟩:=Xs.mp a;rw[W7 e,e,hx,Vg,W7 M]
  .rw[W6 e];cases aF kvs j with
   |none=>rfl
   |some x=>rw[Vg,W6 e]
 .rw[W6 a];refine zU k j y kvs ?_;rw[dw]at a;cases q:aF kvs k with
  |none=>rfl
  |some x=>rw[q]at a;exact(a M).elim
def cu (kvs:List (κ×V)) (k:κ) (v:V):(bn kvs k v).length<=kvs.length+1:=by
 unfold bn;split
 .rw[Q0];lia
 .rw[Q8,QM,XV];lia
def xp {kvs:List (κ×V)} {k:κ} (v:V) (h:aF kvs k=none):bn kvs k v=kvs++ [(k,v)]:=by
 unfold bn;rw[dw,h];exact W6 (_)
def Pp.isSome_eq {u:Option Value} (r:Pp o u):o.isSome=u.isSome:=by
 cases o with
 |none=>cases u with
  |none=>rfl
  |some _=>exact(show False from r).elim
 |some _=>cases u with
  |none=>exact(show False from r).elim
  |some _=>rfl
def KV.val {kvs:List (κ×V)} {vs:List (κ×Value)} (r:KV kvs vs) (k:κ):Pp (aF kvs k) (valueAt vs k):=by
 unfold KV at r
 induction r with
 |nil=>exact Wp
 | @cons p q ps qs h t I=>
  obtain⟨h1,h2⟩:=h;by_cases e:p.1=k
  .have G:q.1=k:=h1.symm.trans e;have b:valueAt (q::qs) k=some q.2:=by simp[valueAt,Xx,G]
   rwa[bB e,b]
  .have G:¬q.1=k:=λz=>e (h1.trans z);have b:valueAt (q::qs) k=valueAt qs k:=by simp[valueAt,Xx,G]
   rw[bq e,b];exact I
def KV.any {kvs:List (κ×V)} {vs:List (κ×Value)} (r:KV kvs vs) (k:κ):(kvs.any λkv=>decide (kv.1=k))=vs.any λkv=>decide (kv.1=k):=by
 unfold KV at r
 induction r with
 |nil=>rfl
 |cons h t z=>rw[XM,XM,z,h.1]
def KV.repl {kvs:List (κ×V)} {vs:List (κ×Value)} (r:KV kvs vs) (k:κ) (G:RelV y u):
  KV (kvs.map λkv=>if kv.1=k then(kv.1,y)else kv) (vs.map λkv=>if kv.1=k then(kv.1,u)else kv):=by
 unfold KV at r⊢
 induction r with
 |nil=>exact .nil
 | @cons p q ps qs h t I=>
  rw[QO,QO];refine .cons ?_ I;obtain⟨h1,h2⟩:=h;by_cases e:p.1=k
  .rw[W7 e,W7 (h1.symm.trans e)];exact⟨h1,G⟩
  .rw[W6 e,W6 (λz=>e<|h1.trans z)];exact⟨h1,h2⟩
def KV.put {kvs:List (κ×V)} {vs:List (κ×Value)} (r:KV kvs vs) (k:κ) (z:RelV y u):KV (bn kvs k y) (stored vs k u):=by
 unfold bn stored;rw[r.any k];by_cases e:(vs.any λkv=>decide (kv.1=k))=true
 .rw[W7 e,W7 e];exact r.repl k z
 .rw[W6 e,W6 e];exact Paired.snoc r ⟨M,z⟩
def KV.drop {kvs:List (κ×V)} {vs:List (κ×Value)} (r:KV kvs vs) (k:κ):KV (bN kvs k) (without vs k):=by
 unfold KV at r⊢;unfold bN without
 induction r with
 |nil=>exact .nil
 | @cons p q ps qs h t G=>
  obtain⟨h1,h2⟩:=h;rw[XJ,XJ];by_cases e:p.1=k
  .have a:¬decide (p.1≠k)=true:=by simp[e]
   have b:¬decide (q.1≠k)=true:=by simp[h1.symm.trans e]
   rwa[W6 a,W6 b]
  .have I:¬q.1=k:=λz=>e (h1.trans z);have a:decide (p.1≠k)=true:=by simp[e]
   have b:decide (q.1≠k)=true:=by simp[I]
   rw[W7 a,W7 b];exact .cons ⟨h1,h2⟩ G
def KV.length {kvs:List (κ×V)} {vs:List (κ×Value)} (r:KV kvs vs):kvs.length=vs.length:=Paired.length r
def Dh (kvs:List (κ×V)) (k:κ):(bN kvs k).length<=kvs.length:=QK _ _
end
def sV {k:Key} (r:RelV (kV k) u):(a9 P w).is k u=true:=by
 cases k with
 |inl i=>obtain⟨t,e⟩:=(show ∃t,u=Value.int i t from r);subst e;exact CV P w i t
 |inr x=>obtain⟨t,e⟩:=(show ∃t,u=Value.str x t from r);subst e;exact CU P w x t
def Al {P:Program} {w:World}:∀{ks:List Key} {us:List Value},G1 (ks.map kV) us->ItemsAre (a9 P w) ks us
 | [],_,r=>by rw[Vx]at r;cases r;exact .nil
 |k::ks,_,r=>by
  rw[QO]at r;cases r with
  |cons h t=>exact .cons (sV h)<|Al t
abbrev KT (H:Hp):List (List Key×V)->List (List Key×Addr×Value)->Prop:=Paired λp q=>p.1=q.1/\H q.2.1=some (.tup<|p.1.map kV)/\RelV p.2 q.2.2
def KT.val {kvs:List (List Key×V)} {xs:List (List Key×Addr×Value)} (r:KT H kvs xs) (k:List Key):Pp (aF kvs k) ((atKey xs k).map (·.2)):=by
 induction r with
 |nil=>exact Wp
 | @cons p q ps qs h t I=>
  obtain⟨h1,_,h2⟩:=h;by_cases e:p.1=k
  .have G:q.1=k:=h1.symm.trans e;have b:atKey (q::qs) k=some q.2:=by simp[atKey,Xx,G]
   rwa[bB e,b]
  .have G:¬q.1=k:=λz=>e (h1.trans z);have b:atKey (q::qs) k=atKey qs k:=by simp[atKey,Xx,G]
   rw[bq e,b];exact I
def KT.repl {kvs:List (List Key×V)} {xs:List (List Key×Addr×Value)} (r:KT H kvs xs) (k:List Key) (G:RelV y u):
  KT H (kvs.map λkv=>if kv.1=k then(kv.1,y)else kv) (xs.map<|putAt k u):=by
 induction r with
 |nil=>exact .nil
 | @cons p q ps qs h t I=>
  rw[QO,QO];refine .cons ?_ I;obtain⟨h1,h2,O⟩:=h;unfold putAt;by_cases e:p.1=k
  .rw[W7 e,W7 (h1.symm.trans e)];exact⟨h1,h2,G⟩
  .rw[W6 e,W6 (λz=>e<|h1.trans z)];exact⟨h1,h2,O⟩
def KT.put {kvs:List (List Key×V)} {xs:List (List Key×Addr×Value)} (r:KT H kvs xs) (k:List Key) (hb:H b=some (.tup<|k.map kV)) (z:RelV y u):
  KT H (bn kvs k y) (storedH xs k b u):=by
 have e:(kvs.any λkv=>decide (kv.1=k))=(atKey xs k).isSome:=by
  rw[dw,(r.val k).isSome_eq,Vy]
 unfold bn storedH;rw[e];by_cases q:(atKey xs k).isSome=true
 .rw[W7 q,W7 q];exact r.repl k z
 .rw[W6 q,W6 q];exact Paired.snoc r ⟨M,hb,z⟩
def KT.keeps {kvs:List (List Key×V)} {xs:List (List Key×Addr×Value)} (r:KT H kvs xs) (G:∀b ys,H b=some (.tup ys)->H' b=some (.tup ys)):KT H' kvs xs:=
 Paired.mapP r λ_ _ z=>⟨z.1,G _ _ z.2.1,z.2.2⟩
section
variable {h:Heap}
def LU {u:HO} (ok:Pj P w H h) (e:Rd H a u):O9 P w H h a u:=e.ok ok
def vi (ok:Pj P w H h) (e:Rd H a (.dK kvs)):kvs.length<=sizeLine/\(a==sysModules)=false/\∃vs,KV kvs vs/\h.DictOf (a9 P w) a vs:=
 show O9 P w H h a (.dK kvs) from LU ok e
def gi (ok:Pj P w H h) (e:H a=some (.dK kvs)):kvs.length<=sizeLine/\(a==sysModules)=false/\∃vs,KV kvs vs/\h.DictOf (a9 P w) a vs:=vi ok (.inl e)
def xR {ks:List Key} (ok:Pj P w H h) (e:H a=some (.tup<|ks.map kV)):(tupleKind<|a9 P w).is h ks a:=by
 obtain⟨_,its,r,o,h1,h2,n,z⟩:=(show O9 P w H h a (.tup<|ks.map kV) from ok a _ e);exact⟨o,its.toArray,n,h1,h2,z,by simpa using Al r⟩
def De {kvs:List (List Key×V)} (ok:Pj P w H h) (e:Rd H a (.dT kvs)):kvs.length<=sizeLine/\(a==sysModules)=false/\
  ∃xs,KT H kvs xs/\h.DictOfH (tupleKind<|a9 P w) a xs:=by
 obtain⟨z,y,xs,r,o,es,ep,h1,h2,G,I,O⟩:=(show O9 P w H h a (.dT kvs) from LU ok e);refine⟨z,y,xs,r,o,es,ep,h1,h2,G,I,λx hx=>?_,O⟩;have all:∀{l:List (List Key×V)} {m:List (List Key×Addr×Value)},KT H l m->∀x∈m,(tupleKind<|a9 P w).is h x.1 x.2.1:=by
  intro l m q
  induction q with
  |nil=>intro x hx;exact nomatch hx
  | @cons p q ps qs hq t U=>
   intro x hx;rcases QH.mp hx with e|hx
   .subst e;exact xR ok<|by rw[<-hq.1];exact hq.2.1
   .exact U x hx
 exact all r x hx
def OQ {kvs:List (List Key×V)} (ok:Pj P w H h) (e:H a=some (.dT kvs)):kvs.length<=sizeLine/\(a==sysModules)=false/\
  ∃xs,KT H kvs xs/\h.DictOfH (tupleKind<|a9 P w) a xs:=De ok (.inl e)
end
def Pu (H:Hp) (a:Addr) (y:V) (r:Option V):Prop:=
 (∃kvs k,Rd H a (.dK kvs)/\y=kV k/\r=aF kvs k)\/∃kvs k b,Rd H a (.dT kvs)/\y= .ref b/\H b=some (.tup<|k.map kV)/\r=aF kvs k
def Qh (H:Hp) (a:Addr) (y v:V) (H':Hp):Prop:=
 (∃kvs k,H a=some (.dK kvs)/\y=kV k/\kvs.length<sizeLine/\H'=upd H a (.dK<|bn kvs k v))\/
 ∃kvs k b,H a=some (.dT kvs)/\y= .ref b/\H b=some (.tup<|k.map kV)/\kvs.length<sizeLine/\H'=upd H a (.dT<|bn kvs k v)
def Pu.k {k:Key} (e:H a=some (.dK kvs)):Pu H a (kV k) (aF kvs k):= .inl ⟨kvs,k,.inl e,M,M⟩
def Qh.k {k:Key} (e:H a=some (.dK kvs)) (hl:kvs.length<sizeLine):Qh H a (kV k) v (upd H a<|.dK<|bn kvs k v):= .inl ⟨kvs,k,e,M,hl,M⟩
def Inv.big (I:Inv X W B H s):sysModules<s.heap.objs.size:=by
 have h:mainGlobals<s.heap.objs.size:=(I.mod.glob.keeps I.bk).lt;exact Nat.lt_trans (_) h
def GS (hu:A.units+1<cLine) (I:Inv X W B H s) (g:Pu H a y (some v)) (Z:RelV y u) (h:∀w' s',Inv X W B H s'->RelV v w'->Q w' s'):
  wpAny (model X.prog X.w) A (getItem (.ref a) u) Q E s:=by
 rcases g with⟨kvs,k,e,U,l⟩|⟨kvs,k,b,e,U,eb,l⟩
 .subst U;obtain⟨z,hd,vs,G,dd⟩:=vi I.hok e;obtain⟨w',hw,O⟩:=Pp.some_of (v:=v) (o:=valueAt vs k) (by rw[l];exact G.val k);exact wpAny_getItem_of (sV Z) dd.mapOf hw<|h w' _ (I.tok _) O
 .subst U;cases (show u=Value.ref b from Z);obtain⟨z,hd,xs,G,dd⟩:=De I.hok e;obtain⟨w',hw,O⟩:=Pp.some_of (v:=v) (o:=(atKey xs k).map (·.2)) (by rw[l];exact G.val k);obtain⟨p,hp,Y⟩:=ZS.mp hw;refine wpAny_getItem_heap (tupleKind_room_in1 hu) (xR I.hok eb) dd hp ?_;rw[Y];exact h w' _ (I.tok _) O
def d_in (hu:A.units+1<cLine) (I:Inv X W B H s) (g:Pu H a y o) (U:RelV y u) (h:∀s',Inv X W B H s'->Q (.bool o.isSome) s'):
  wpAny (model X.prog X.w) A (compareOp .In u<|.ref a) Q E s:=by
 rcases g with⟨kvs,k,e,O,l⟩|⟨kvs,k,b,e,O,Y,l⟩
 .subst O;obtain⟨z,hd,vs,G,dd⟩:=vi I.hok e;refine wpAny_in_of (sV U) hd dd.mapOf ?_;rw[<-(G.val k).isSome_eq,<-l];exact h _<|I.tok _
 .subst O;cases (show u=Value.ref b from U);obtain⟨z,hd,xs,G,dd⟩:=De I.hok e;refine wpAny_in_heap (tupleKind_room_in1 hu) (xR I.hok Y) hd dd ?_;have q:=(G.val k).isSome_eq;rw[Vy]at q;rw[<-q,<-l];exact h _<|I.tok _
def Ln (hu:A.units+1<cLine) (I:Inv X W B H s) (g:Pu H a y o) (U:RelV y u) (h:∀s',Inv X W B H s'->Q (.bool<|!o.isSome) s'):
  wpAny (model X.prog X.w) A (compareOp .NotIn u<|.ref a) Q E s:=by
 rcases g with⟨kvs,k,e,O,l⟩|⟨kvs,k,b,e,O,Y,l⟩
 .subst O;obtain⟨z,hd,vs,G,dd⟩:=vi I.hok e;refine wpAny_notIn_of (sV U) hd dd.mapOf ?_;rw[<-(G.val k).isSome_eq,<-l];exact h _<|I.tok _
 .subst O;cases (show u=Value.ref b from U);obtain⟨z,hd,xs,G,dd⟩:=De I.hok e;refine wpAny_notIn_heap (tupleKind_room_in1 hu) (xR I.hok Y) hd dd ?_;have q:=(G.val k).isSome_eq;rw[Vy]at q;rw[<-q,<-l];exact h _<|I.tok _
def pY {ob:HO} (I:Inv X W B H s) (G:Mut (H a)) (hs:Heap.SameBut a s.heap h') (he:∃q,h'.get? a=some q) (new:O9 X.prog X.w (upd H a ob) h' a ob):
  Inv X W B (upd H a ob) {s with heap:=h',toks:=t'}:=
 I.write (x:=a) (e:=a) G (.inl M) (λb q hb z=>(hs.2 b hb).trans z) he new
def yb (z:kvs.length<=sizeLine) (hd:(a==sysModules)=false) (G:KV kvs vs) (dd:h'.DictOf (a9 P w) a vs):
  O9 P w H' h' a (.dK kvs):=⟨z,hd,vs,G,dd⟩
def GR {Q:Unit->Shared->Prop} (hu:A.units+1<cLine) (I:Inv X W B H s) (g:Qh H a y v H') (Z:RelV y u) (rv:RelV v r) (h:∀s',Inv X W B H' s'->Q Unit.unit s'):
  wpAny (model X.prog X.w) A (setItem (.ref a) u r) Q E s:=by
 rcases g with⟨kvs,k,e,U,l,Y⟩|⟨kvs,k,b,e,U,eb,l,Y⟩
 .subst U Y;obtain⟨z,hd,vs,G,dd⟩:=gi I.hok e;have hz:vs.length<=sizeLine:=by rwa[<-G.length]
  have hl:(bn kvs k v).length<=sizeLine:=by have:=cu kvs k v;lia
  refine wpAny_setItem_pairs (hsz:=hz) (sV Z) dd λh' O hs=>h _ ?_;have he:∃q,h'.get? a=some q:=let⟨q,_,_,hq,_⟩:=O;⟨q,hq⟩
  exact pY I (by rw[e];exact Wp) hs he<|yb hl hd (G.put k rv) O
 .subst U Y;cases (show u=Value.ref b from Z);obtain⟨z,hd,xs,G,dd⟩:=OQ I.hok e;have hz:xs.length<=sizeLine:=by rwa[<-Paired.length G]
  have hl:(bn kvs k v).length<=sizeLine:=by have:=cu kvs k v;lia
  refine wpAny_setItem_heap (hsz:=hz) (tupleKind_room_in1 hu) (xR I.hok eb) dd λh' O hs=>h _ ?_;obtain⟨q,es,ep,hq,h2,h3,h4,_,h5⟩:=O;refine pY I (by rw[e];exact Wp) hs ⟨q,hq⟩ ⟨hl,hd,_,(G.put k eb rv).keeps λc ys ec=>?_,q,es,ep,hq,h2,h3,h4,h5⟩;rwa[ae (cU ec e<|λz=>nomatch z)]
section
variable {k:Key}
def Md {more:List Value} (I:Inv X W B H s) (e:H a=some (.dK kvs)) (U:RelV (kV k) u) (l:aF kvs k=some v) (Z:more=[]\/∃x,more=[x])
  (h:∀w' s',Inv X W B (upd H a<|.dK<|bN kvs k) s'->RelV v w'->Q w' s'):wpAny (model X.prog X.w) A (call (.builtin "dict.pop") (.ref a::u::more)) Q E s:=by
 obtain⟨z,hd,vs,G,dd⟩:=gi I.hok e;obtain⟨w',hw,Y⟩:=Pp.some_of (v:=v) (o:=valueAt vs k) (by rw[<-l];exact G.val k);have hp:(keyPart u).isSome=true:=by
  cases k with
  |inl i=>obtain⟨t,q⟩:=(show ∃t,u=Value.int i t from U);subst q;rfl
  |inr x=>obtain⟨t,q⟩:=(show ∃t,u=Value.str x t from U);subst q;rfl
 have ha:argsOk "dict.pop" ⟨.ref a::u::more,[]⟩:=by
  rcases Z with q|⟨x,q⟩
  .subst q;exact PySem.F.args_dict_pop_2 _ _
  .subst q;exact PySem.F.args_dict_pop_3 _ _ _
 refine WH ZZ dd.typeIs PySem.F.entry_dict_pop ha (meets_dict_pop_there (a9 X.prog X.w) a (sV U) more Z hp)
  ⟨vs,w',dd,by rwa[<-G.length],hw,λh' O hs=>h w' _ ?_ Y⟩
 have he:∃q,h'.get? a=some q:=let⟨q,_,_,hq,_⟩:=O;⟨q,hq⟩
 exact pY I (by rw[e];exact Wp) hs he<|yb (QQ (Dh kvs k) z) hd (G.drop k) O
def NC (I:Inv X W B H s) (e:H a=some (.dK kvs)) (G:RelV (kV k) u) (l:aF kvs k=none) (h:∀s',Inv X W B H s'->Q r s'):
  wpAny (model X.prog X.w) A (call (.builtin "dict.pop") [.ref a,u,r]) Q E s:=by
 obtain⟨z,hd,vs,O,dd⟩:=gi I.hok e;have U:valueAt vs k=none:=Pp.none_of (by rw[<-l];exact O.val k);have Y:(keyPart u).isSome=true:=by
  cases k with
  |inl i=>obtain⟨t,q⟩:=(show ∃t,u=Value.int i t from G);subst q;rfl
  |inr x=>obtain⟨t,q⟩:=(show ∃t,u=Value.str x t from G);subst q;rfl
 exact WH ZZ dd.typeIs PySem.F.entry_dict_pop (PySem.F.args_dict_pop_3 _ _ _) (meets_dict_pop_default (a9 X.prog X.w) a (sV G) hd Y r) ⟨vs,dd,U,h _<|I.tok _⟩
def OR (I:Inv X W B H s) (e:Rd H a (.dK kvs)) (h:∀t s',Inv X W B H s'->Q (.int kvs.length t) s'):wpAny (model X.prog X.w) A (call (.builtin "len") [.ref a]) Q E s:=by
 obtain⟨z,hd,vs,G,dd⟩:=vi I.hok e;refine call_len_dict hd dd (by rw[<-G.length];rw[sizeLine_eq]at z;lia) ?_;rw[<-G.length];exact h _ _<|I.tok _
end
def NoSl (i:Expr):Prop:=∀ov iv,subscripted i false ov iv=operate [ov,iv] (getItem ov iv)
def Ky {prog:Program} {env:Env} {value z:Expr} {id:String} 
  (hl:typeLookup (.type T) "__getitem__"=pure (some<|.builtin id)) (hs:NoSl z)
  (h:wpAny (model prog w) A (eval value env) (λo s₁=>wpAny (model prog w) A (eval z env) (λi s₂=>s₂.TypeIs o T/\wpAny (model prog w) A (getItem o i) Q E s₂) E s₁) E s):
  wpAny (model prog w) A (eval (.Subscript value z pos) env) Q E s:=by
 refine Subscript_<|Wv h (λo s₁ h₁=>Wv h₁ (λi s₂ G=>?_) λ_ _ x=>x) λ_ _ x=>x;obtain⟨U,G⟩:=G;unfold subscriptTail;refine We ?_;rw[getitemInPython_of_ne U.not_modules];refine We<|wpAny_specialOf U hl ?_;have fin:wpAny (model prog w) A (subscripted z false o i) (λr I=>wpAny (model prog w) A (letTemporaryGo value o r>>=λ_=>pure r) Q E I) E s₂:=by
  rw[hs o i];exact wpAny_operating (Wv G (λr I O=>We<|wpAny_letTemporaryGo<|Wl O) λ_ _ x=>x)
 first
  |exact Wl<|We fin
  |exact We<|Wl (We fin)
  |exact We fin
def Dj (I:Inv X W B H s) (g:Pu H a y o):s.TypeIs (.ref a) "dict":=by
 rcases g with⟨kvs,k,e,_,_⟩|⟨kvs,k,b,e,_,_,_⟩
 .obtain⟨_,_,vs,_,dd⟩:=vi I.hok e;exact dd.typeIs
 .obtain⟨_,_,xs,_,dd⟩:=De I.hok e;exact dd.typeIs
inductive MG (Q:VK) (x y:V) (H2:Hp):Prop
 |mk (a v:_) (_:x= .ref a) (_:Pu H2 a y (some v)) (_:Q v H2)
def Oa (td ty:TE):TE:=λB H Q=>td B H λx H1=>ty B H1 λy H2=>MG Q x y H2
inductive N9 (Q:VK) (y x:V) (H2:Hp):Prop
 |mk (a o:_) (_:x= .ref a) (_:Pu H2 a y o) (_:Q (.bl o.isSome) H2)
def tDIn (ty td:TE):TE:=λB H Q=>ty B H λy H1=>td B H1 λx H2=>N9 Q y x H2
def Kx (ty td:TE):TE:=λB H Q=>ty B H λy H1=>td B H1 λx H2=>∃a o,x= .ref a/\Pu H2 a y o/\Q (.bl<|!o.isSome) H2
inductive MO (D:ub) (B:St) (v x y:V) (H3:Hp):Prop
 |mk (a H4:_) (_:x= .ref a) (_:Qh H3 a y v H4) (_:D.nx B H4)
def Og (td ty tv:TE):TS:=λD B H=>tv B H λv H1=>td B H1 λx H2=>ty B H2 λy H3=>MO D B v x y H3
section
variable {o i value:Expr} {pos' tpos:Pos} {td ty tv:TE}
def E5 (hu:X.A.units+1<cLine) (U:PE X o td) (hi:PE X i ty) (hs:NoSl i):PE X (.Subscript o i pos) (Oa td ty):=by
 intro W s B H Q I h;refine Ky PySem.F.slot_dict_getitem.lookup hs<|P0 (U W s B H _ I h) λu s1 ⟨x,H1,Y,Z,q1⟩=>P0 (hi W s1 B H1 _ Y q1) λiv s2 z=>?_;obtain⟨y,H2,O,ry,a,v,ex,g,q2⟩:=z;subst ex;obtain rfl:u=Value.ref a:=Z;exact⟨Dj O g,GS hu O g ry λw' s3 I3 G=>⟨v,H2,I3,G,q2⟩⟩
def El (hu:X.A.units+1<cLine) (hi:PE X i ty) (G:PE X o td):PC X .In i o (tDIn ty td):=by
 intro W s B H Q I h;refine P0 (hi W s B H _ I h) λiv s1 ⟨y,H1,O,U,Y⟩=>P0 (G W s1 B H1 _ O Y) λu s2 z=>?_;obtain⟨x,H2,Z,rx,a,ov,ex,g,q2⟩:=z;subst ex;obtain rfl:u=Value.ref a:=rx;exact d_in hu Z g U λs3 I3=>⟨.bl ov.isSome,H2,I3,M,q2⟩
def z8 (hu:X.A.units+1<cLine) (hi:PE X i ty) (G:PE X o td):PC X .NotIn i o (Kx ty td):=by
 intro W s B H Q I h;refine P0 (hi W s B H _ I h) λiv s1 ⟨y,H1,O,U,Y⟩=>P0 (G W s1 B H1 _ O Y) λu s2 z=>?_;obtain⟨x,H2,Z,rx,a,ov,ex,g,q2⟩:=z;subst ex;obtain rfl:u=Value.ref a:=rx;exact Ln hu Z g U λs3 I3=>⟨.bl<|!ov.isSome,H2,I3,M,q2⟩
def l9 (hu:X.A.units+1<cLine) (G:PE X o td) (hi:PE X i ty) (O:PE X value tv) (hs:swapsWith value (some<|.Subscript o i pos') pos.line X.env=pure false):
  PS X (.Assign [.Subscript o i pos'] value pos) (Og td ty tv):=by
 intro W s B H D I h;refine wpAny_Assign_Subscript (P0 (O W s B H _ I h) λr s1 ⟨v,H1,U,rv,Y⟩=>P0 (G W s1 B H1 _ U Y) λu Z ⟨x,H2,I2,rx,q2⟩=>P0 (hi W Z B H2 _ I2 q2) λiv s3 z=>?_) hs;obtain⟨y,H3,I3,ry,a,H4,ex,g,q3⟩:=z;subst ex;obtain rfl:u=Value.ref a:=rx;exact GR hu I3 g ry rv λs4 I4=>⟨B,H4,I4,q3⟩
end
def yc (h:Heap) (hb:sysModules<h.objs.size):O9 P w H (h.push {cls:= .type "dict",data:= .dict #[]}) h.objs.size (.dK []):=
 ⟨QF _,Wo.mpr<|Ne.symm<|Za hb,[],.nil,Heap.DictOf.new h⟩
def MF:TE:=λ_ H Q=>∀p,H p=none->Q (.ref p) (upd H p<|.dK [])
def fJ:PE X (.Dict [] [] pos) MF:=λW s B H Q I h=>
 wpAny_Dict_empty ⟨.ref s.heap.objs.size,_,I.laid (a:=s.heap.objs.size) (o:= .dK []) (t':=s.toks) (λ_ _ q=>W9 _ q) (Q4 _)<|yc s.heap I.big,M,h _<|I.hok.fresh (Q4 _)⟩
end L2
namespace Att
open PySem PySem.W PySem.Calls PyProof.Rows
variable {h:Heap} {n:Nat} {l:OpenLaw} {P:Params} {YP:World->Heap->Prop}
def we:∀(ns:List Int) (vs:List Value),WellAll P h vs (ns.map WData.int)->IntsAre vs ns:=by
 intro ns
 induction ns with
 |nil=>
  intro vs w;rw[Vx]at w;cases w;exact .nil
 |cons n ns z=>
  intro vs w;rw[QO]at w;cases w with
  |cons a b=>
   cases a;exact .cons _ _<|z _ b
def FZ (hn:l.most=some n) {args:List WData} {z:List Value}
  (G:l.row.toRowW.claim.pre args=true) (Z:WellAll P h z args):
  ∃a vs ns,z=[Value.ref a]/\args=[WData.list (ns.map WData.int)]/\h.get? a=some {cls:= .type "list",data:= .seq vs.toArray}/\IntsAre vs ns/\ns.length<=n:=by
 have a0:WShape.hasAll [] args [.list .int]=true:=(pre_splitW G).1;have hc:l.pre.holds [] {args:=args}=true:=(pre_splitW G).2;obtain⟨d,r,rfl,h1,h2⟩:=hasAllW_cons a0;obtain rfl:=hasAllW_nil h2;obtain⟨xs,rfl,h3⟩:=hasW_list h1;obtain⟨ns,rfl⟩:=items_int h3;have I:ns.length<=n:=by
  unfold OpenLaw.pre at hc;have U:(WTm.not<|.lt (.lit<|.int (n:Int))<|.len<|.arg 0).holds [] {args:=[.list (ns.map .int)]}=true:=by
   have U:=(holds_andW hc).1;rw[hn]at U;exact U
  have Y:=condW_of U (w_not<|w_lt w_lit<|w_len_list<|w_arg M);rw[Q0]at Y;refine Nat.le_of_not_lt λq=>?_;have q':(n:Int)<((ns.length:Nat):Int):=()
  first
   |(rw[Wf q']at Y;exact Wb Y (_))
   |(simp at Y;lia)
 cases Z with
 |cons w1 w2=>
  cases w2;cases w1 with
  |list ho O=>exact⟨_,_,ns,M,M,ho,we ns _ O,I⟩
def Gc (l:OpenLaw) (args:List WData):l.row.toRowW.claim.post args (.bool true) args=true:=
 postW_of (r:=l.row.toRowW) (X:=(true==true))
  (show WShape.has [] (.bool true) .bool=true by first|rfl|decide|simp[WShape.has,WShape.arms,WShape.armsAll])
  (show(WTm.eq .res<|.lit<|.bool true).value [] {args:=args,res:=some (.bool true),after:=args}=some (.bool<|true==true) from w_eq_bool (w_res M) w_lit) M
def attach_call {q:Program} {loose:List Str} {XP:(Str->Option Value)->Heap->Prop} {d:DefRec}
  (hn:l.most=some n) (a1:d.params.defaults=[])
  (call:∀(w:World) (s₀ s₁:Shared) (mg mb:Str->Option Value) (O:Addr) (o:Obj) (pm cd z:Value) (a:Addr) (vs:List Value) (ns:List Int),
   Ground q loose [] XP w s₀ mg mb s₁.heap->YP w s₁.heap->
   s₁.heap.get? O=some o->o.data= .func (docDef d.name d.params d.body d.scope pm cd z)->s₁.heap.CodeRec cd d.name->mg d.name=some (.ref O)->
   s₁.heap.get? a=some {cls:= .type "list",data:= .seq vs.toArray}->IntsAre vs ns->ns.length<=n->s₁.gens= #[]->
   codeAny (model l.prog w) callerA (.call (.ref O) ⟨[.ref a],[]⟩) (λr s'=>r= .ok (.ret<|.bool true)/\OldK s₁.heap s'.heap/\s'.os=s₁.os/\AllBare s'.gens) s₁):
  WalkO q loose XP YP l.row.toRowW d [] (λf vs=>PySem.call f vs):=by
 intro w s₀ s₁ mg mb G Y O o pm cd z dV kV ho hd a2 hD a3 hg args a5 as U aa ab a4 ah;obtain rfl:dV= .none:=Dflts.none hD a1;obtain rfl:kV= .none:=Dflts.noKw hD;obtain⟨a,vs,ns,rfl,rfl,Z,I,a0⟩:=FZ hn U a4;refine enter_call<|codeAny_mono (call w s₀ s₁ mg mb O o pm cd z a vs ns G Y ho (fd_plain hd) a2 a3 Z I a0 hg) λr s' hq=>?_;obtain⟨rfl,h2,h3,h4⟩:=hq;exact⟨.inl ⟨.bool true,.bool true,[],M,λ_=>M,.bool true,Gc l _,λ_=>⟨Ws,λ_ hm=>(nomatch hm)⟩⟩,h2,h3,h4⟩
end Att
namespace L2
open PySem PySem.Spec PyProof.Rows
variable {a f:Addr} {X:Cx} {fd:FuncData} {base:Heap} {H:Hp} {ns:List Int} {N:List Str} {n:Nat} {P:Program} {A WM c:Prop} {K:WN} {sp:Sp} {B:St} {st:Stmt} {qual x:Str} {nx:St->Hp->Prop} {g:TG} {tb:TS} {Φ:TS->Prop} {F:TS->TS->TS} {rt:VK} {w:World} {YP:World->Heap->Prop}
def zT:∀{vs:List Value} {ns:List Int},IntsAre vs ns->G1 (ns.map V.int) vs
 |_,_,.nil=> .nil
 |_,_,.cons n t h=> .cons ⟨t,M⟩ (zT h)
def NP (H:Hp):Prop:=∀b,H b=none\/∃o xs,H b=some (.frz o<|.lst xs)
def IM {mg mb:Str->Option Value} {CX:CXT} {k:Nat} {fa:Addr} {s₁:Shared} {vs:List Value} 
  (KX:K.In s₁.heap) (Y:s₁.heap.Ns mainGlobals mg) (hb:s₁.heap.Ns builtinsNs mb) (a3:∀x:Str,x≠"__name__"->mb x=bootBuiltins x) (Z:s₁.heap.NoLimit) (hg:s₁.gens= #[])
  (ha:s₁.heap.get? a=some {cls:= .type "list",data:= .seq vs.toArray}) (hi:IntsAre vs ns) (hl:ns.length<=sizeLine) (hr:PL k callerA)
  (F:∀base:Heap,K.In base->base.Ns mainGlobals mg->Dr P w K mg base CX k fa fd [x] sp) (U:∀(s:Shared) (u:Value),BindsTo s fd ⟨[u],[]⟩ [(x,u)])
  (a4:∀H:Hp,NP H->Fz K H a (ns.map V.int)->sp [.ref a] H (λv _=>v= .bl true) λ_ _ _=>False)
  (a5:∀H e s',CX [] H s₁ (λ_ _ _=>False) e s'->False):
  codeAny (model P w) callerA (.call (.ref fa) ⟨[.ref a],[]⟩) (λr s'=>r= .ok (.ret<|.bool true)/\OldK s₁.heap s'.heap/\s'.os=s₁.os/\AllBare s'.gens) s₁:=by
 have rv:=zT hi;have a0:=hi.length;have O:∀H:Hp,NP H->Fz K H a (ns.map V.int)->Pj P w H s₁.heap->(∀b,H b≠none->b=a)->(H a≠none->K.lookup a=none)->
   codeAny (model P w) callerA (.call (.ref fa) ⟨[.ref a],[]⟩) (λr s'=>r= .ok (.ret<|.bool true)/\OldK s₁.heap s'.heap/\s'.os=s₁.os/\AllBare s'.gens) s₁:=by
  intro H hO hS hok hA hK;have G:∀{b:Addr} {o:Obj},s₁.heap.get? b=some o->H b=none->(BJ s₁.heap H).get? b=some o:=λe n=>IZ e n;have aa:∀{b:Addr} {o:Obj} {es:Array DictEntry} {ep:Nat},s₁.heap.get? b=some o->o.data= .dict es ep->H b=none:=λ{b o es ep} e d=>by
   cases q:H b with
   |none=>rfl
   |some u=>
    have e':b=a:=hA b (by rw[q];simp);subst e';rw[ha]at e;cases e;have d':Data.seq vs.toArray _=Data.dict es ep:=d;cases d'
  have I:∀{b:Addr} {m:Str->Option Value},s₁.heap.Ns b m->(BJ s₁.heap H).Ns b m:=λ{b m} ⟨o,es,ep,e,d,r⟩=>⟨o,es,ep,G e<|aa e d,d,r⟩;have a1:K.In (BJ s₁.heap H):=λb o e=>G (KX b o e) (by
   cases q:H b with
   |none=>rfl
   |some u=>
    have e':b=a:=hA b (by rw[q];simp);subst e';rw[hK (by rw[q];simp)]at e;cases e)
  have hM:Mod K mg (BJ s₁.heap H):=⟨a1,I Y,⟨mb,I hb,a3⟩,let⟨mc,h1,h2⟩:=Z;⟨mc,I h1,h2⟩⟩;have e0:RE P w K mg (BJ s₁.heap H) callerA [] s₁ H:=⟨M,hM,λb o e=>KU e,Zr<|GJ _ _,trivial,λb hb=>Wb (show b∈([]:List Addr) from hb) (by simp),hok,.of_eq hg⟩;refine codeAny_mono ((F _ a1<|I Y).run callerA [] s₁ H ⟨[.ref a],[]⟩ [.ref a] [.ref a] _ _ hr e0 (U s₁<|.ref a) (.cons M .nil)<|a4 H hO hS) λr s' h=>?_;cases r with
  |error e=>exact(a5 H e s' h).elim
  |ok fl=>
   cases fl with
   |next=>exact False.elim h
   |brk=>exact False.elim h
   |cont=>exact False.elim h
   |ret u=>
    obtain⟨v,H',os,bare,un,a2,r',q⟩:=h;have q':v= .bl true:=q;subst q';obtain rfl:u=Value.bool true:=r';refine⟨M,OldK.of_keep λb o e=>?_,os,bare⟩;cases q:H b with
    |none=>exact un.keep b o e q (by intro z;exact Wb (show b∈([]:List Addr) from z)<|by simp)<|by simp
    |some u=>
     rcases hO b with z|⟨ob,xs,z⟩
     .rw[q]at z;cases z
     .have z2:=un.frzs b ob _ z;obtain⟨e1,_⟩:=hok b _ z;obtain⟨e2,_⟩:=a2 b _ z2;rw[e]at e1;cases e1;exact e2
 cases hk:K.lookup a with
 |some o=>
  have e:=KX a o hk;rw[ha]at e;cases e;refine O (λ_=>none) (λ_=> .inl M) (.inr ⟨_,vs.toArray,_,hk,M,M,M,by rwa[QG,a0],by simpa using rv⟩) (λb u z=>by have z':(none:Option HO)=some u:=z;cases z') (λb z=>Wb M z) λz=>Wb M z
 |none=>
  refine O (λb=>if b=a then some (.frz {cls:= .type "list",data:= .seq vs.toArray} (.lst<|ns.map V.int))else none) (λb=>?_) (.inl<|.inr ⟨{cls:= .type "list",data:= .seq vs.toArray},W7 M⟩) (λb u z=>?_) (λb z=>?_) λ_=>hk
  .by_cases hb:b=a
   .exact .inr ⟨_,_,W7 hb⟩
   .exact .inl<|W6 hb
  .by_cases hb:b=a
   .have z':=(W7 hb).symm.trans z;cases z';subst hb;exact⟨ha,by rwa[Q0],vs,_,rv,ha⟩
   .have z':=(W6 hb).symm.trans z;cases z'
  .by_cases hb:b=a
   .exact hb
   .exact Wb (W6 hb) z
def walk_of {l:PySem.W.OpenLaw} {k:Nat} {q:Program} {loose:List Str} {XP:(Str->Option Value)->Heap->Prop} {d:DefRec} {K:Params->WN} {CX:World->CXT} {sp:World->Sp} 
  (hn:l.most=some n) (Z:n<=sizeLine) (a0:d.params.defaults=[]) (hr:PL k callerA)
  (hY:∀(w:World) (h:Heap),YP w h->(K w.params).In h)
  (F:∀(w:World) (mg:Str->Option Value) (U:Addr) (h:Heap),(K w.params).In h->h.Ns mainGlobals mg->mg d.name=some (.ref U)->
   ∃fd:FuncData,(∀(s:Shared) (u:Value),BindsTo s fd ⟨[u],[]⟩ [(x,u)])/\
    ∀base:Heap,(K w.params).In base->base.Ns mainGlobals mg->Dr l.prog w (K w.params) mg base (CX w) k U fd [x] (sp w))
  (a1:∀(w:World) (H:Hp) (a:Addr) (ns:List Int),ns.length<=n->NP H->Fz (K w.params) H a (ns.map V.int)->sp w [.ref a] H (λv _=>v= .bl true) λ_ _ _=>False)
  (a2:∀(w:World) (H:Hp) (s:Shared) (e:Value) (s':Shared),CX w [] H s (λ_ _ _=>False) e s'->False):
  PySem.W.WalkO q loose XP YP l.row.toRowW d [] (λf vs=>PySem.call f vs):=by
 refine Att.attach_call hn a0 λw s₀ s₁ mg mb U o pm cd a4 a vs ns G Y ho hd a5 a3 O I z hg=>?_;have KX:=hY w _ Y;obtain⟨fd,hb,hF⟩:=F w mg U _ KX G.T.g a3;exact IM KX G.T.g G.T.b G.T.builtins G.T.nolimit hg O I (QQ z Z) hr hF hb (λH hO hS=>a1 w H a ns z hO hS) λH e s'=>a2 w H s₁ e s'
abbrev P1:CXT:=λ_ _ _ _ _ _=>False
abbrev E0:XK:=λ_ _ _=>False
def ar:mU P1 X E0:=λ_ _ _ _ _ _ _ h=>h.elim
structure PD (K:WN) (x qual:Str) (st:Stmt) (f:Addr) (fd:FuncData):Prop where
 ex:∃(oc:Value) (od:Option Addr) (kV doc pm:Value) (an:Option Addr) (cdv ct:Value) (osl:Array (Option Value)),
  fd=PySem.W.fnOf x qual (iQ st) (eO st) (al st) .none kV doc pm an cdv ct/\K.lookup f=some ⟨oc,od,.func fd,osl⟩/\PySem.W.codeIn K cdv qual=true
 kp:PySem.W.keepIn K (.ref f)=true
section
variable {mg:Str->Option Value}
def PD.ok {ps:List Str} {k:Nat} (F:PD K x qual st f fd) (S:aq N ps (al st)) (len:∀vs H Q E,sp vs H Q E->vs.length=ps.length)
  (G:∀(z:Value) (A:Around) (outer:List Env) (s:Shared) (H:Hp) (vs:List V) (Q:VK) (E:XK),PL k (A.deeper<|envOfC qual (al st) s.heap.objs.size f z)->sp vs H Q E->
   ∃t,Pt (Dl P1 P w K mg base N qual (al st) f z A outer s H E).nox (eO st) t/\t {nx:=λ_ H'=>Q .non H',rt:=Q} (start N vs) H):Dr P w K mg base P1 (k+1) f fd ps sp:=by
 obtain⟨oc,od,kV,U,pm,an,z,ct,Y,rfl,Z,I⟩:=F.ex;refine Mc Z I S len λA outer s H vs Q E hr O=>?_;obtain⟨t,h,q⟩:=G z A outer s H vs Q E hr O;exact⟨t,h.nox,q⟩
def Nw {Y:Value} {Z O:Option Addr} {I:Array (Option Value)} {kV G U z ct:Value} (l:K.lookup f=some ⟨Y,Z,.func<|PySem.W.fnOf x qual (iQ st) (eO st) (al st) .none kV G U O z ct,I⟩)
  (c:PySem.W.codeIn K z qual=true) (k:PySem.W.keepIn K (.ref f)=true):PD K x qual st f (PySem.W.fnOf x qual (iQ st) (eO st) (al st) .none kV G U O z ct):=⟨⟨Y,Z,kV,G,U,O,z,ct,I,M,l,c⟩,k⟩
end
def jK {A:Around} {k:Nat} (z:PL k A):A.units+1<cLine:=XY (Xp (by decide:1<=64) _) z.units
def cX (h:n<=1000):n<sizeLine:=XY h (_)
def pv (i:Nat) {x:Str} {pos:Pos} (hN:X.N[i]?=some x:=by rfl) (G:SA X.env.scope x:=by first|exact Or.inl M|exact Or.inr (Or.inl M)|exact Or.inr<|Or.inr M) (hd:(x==("__debug__":Str))=false:=by decide)
  (z:(x==("__classdict__":Str))=false:=by decide):PE X (.Name x pos) (MB i):=MX hN G hd z
def cq (h:WM):if false=true then A else WM:=by
 rwa[W6 Qz]
def cP (h:A):if true=true then A else WM:=by
 rwa[W7 M]
def bP [Decidable c] (h1:c->A) (h2:¬c->WM):if c then A else WM:=by
 by_cases h:c
 .rw[W7 h];exact h1 h
 .rw[W6 h];exact h2 h
def kT [Decidable c] (hc:c) (h:WM):if(!decide c)=true then A else WM:=by
 rw[Wf hc];exact cq h
def Ds (H H':Hp):Prop:=∀b o,H b=some o->H' b=some o
def Ds.refl (H:Hp):Ds H H:=λ_ _ h=>h
def Ds.trans {H1 H2:Hp} (a:Ds H H1) (b:Ds H1 H2):Ds H H2:=λc o h=>b c o (a c o h)
def GU:gk X (.builtin "len") (λxs H Q=>∃a kvs,xs=[V.ref a]/\H a=some (.dK kvs)/\Q (.int kvs.length) H):=by
 intro W s B H xs us Q I r h;obtain⟨a,kvs,rfl,ha,q⟩:=h;obtain⟨u,rfl,z⟩:=mV r;cases z;exact OR I (.inl ha) λt s' G=>⟨.int kvs.length,H,G,⟨t,M⟩,q⟩
section
variable {κ:Type} [DecidableEq κ]
def Ht {kvs:List (κ×V)} {k:κ} (h:aF kvs k=none):¬k∈kvs.map (·.1):=by
 intro m;obtain⟨p,z,e⟩:=Qy.mp m;have q:(kvs.any λkv=>decide (kv.1=k))=true:=V8.mpr ⟨p,z,Wf e⟩;rw[dw,h]at q;exact Wb q<|by simp
def wm {kvs:List (κ×V)} {k:κ} {v:V} (h:aF kvs k=some v):k∈kvs.map (·.1):=by
 have q:(kvs.any λkv=>decide (kv.1=k))=true:=by
  rw[dw,h]
  all_goals rfl
 obtain⟨p,z,e⟩:=V8.mp q;exact Qy.mpr ⟨p,z,Wd e⟩
def E9:∀{l:List κ} {k:κ},l.Nodup->¬k∈l->(l++ [k]).Nodup
 | [],k,_,_=>by simp
 |a::r,k,h,hk=>by
  obtain⟨h1,h2⟩:=Zn.mp h;show(a::(r++ [k])).Nodup;refine Zn.mpr ⟨λm=>?_,E9 h2 λm=>hk<|QH.mpr (Or.inr m)⟩;rcases Q5.mp m with q|q
  .exact h1 q
  .exact hk<|QH.mpr (Or.inl (Q7.mp q).symm)
def KY {kvs:List (κ×V)} {k:κ} (v:V) (z:(kvs.map (·.1)).Nodup) (h:aF kvs k=none):((bn kvs k v).map (·.1)).Nodup:=by
 rw[xp v h,QC];exact E9 z<|Ht h
def uT {p:κ×V} {r:List (κ×V)} {k:κ} (e:p.1=k):bN (p::r) k=bN r k:=by
 unfold bN;rw[XJ,W6 (by simp[e])]
def pX {p:κ×V} {r:List (κ×V)} {k:κ} (e:¬p.1=k):bN (p::r) k=p::bN r k:=by
 unfold bN;rw[XJ,W7 (by simp[e])]
def Dg:∀{kvs:List (κ×V)} {k:κ},¬k∈kvs.map (·.1)->bN kvs k=kvs
 | [],_,_=>rfl
 |p::r,k,h=>by
  have h':¬k∈r.map (·.1):=λm=>by
   obtain⟨q,hq,e⟩:=Qy.mp m;exact h<|Qy.mpr ⟨q,QH.mpr<|Or.inr hq,e⟩
  rw[pX λe=>h (Qy.mpr ⟨p,QH.mpr<|Or.inl M,e⟩),Dg h']
def At {kvs:List (κ×V)} {k:κ} {p:κ×V} (h:p∈bN kvs k):p∈kvs:=(QS.mp h).1
def sM:∀{kvs:List (κ×V)} {k:κ},(kvs.map (·.1)).Nodup->((bN kvs k).map (·.1)).Nodup
 | [],_,_=>Zx
 |p::r,k,h=>by
  have h:(p.1::r.map (·.1)).Nodup:=h;obtain⟨h1,h2⟩:=Zn.mp h;by_cases e:p.1=k
  .rw[uT e];exact sM h2
  .rw[pX e];show(p.1::(bN r k).map (·.1)).Nodup;refine Zn.mpr ⟨λm=>h1 ?_,sM h2⟩;obtain⟨q,hq,z⟩:=Qy.mp m;exact Qy.mpr ⟨q,At hq,z⟩
def Au:∀{kvs:List (κ×V)} {k:κ},(kvs.map (·.1)).Nodup->k∈kvs.map (·.1)->(bN kvs k).length+1=kvs.length
 | [],_,_,m=>by simp at m
 |p::r,k,h,m=>by
  have h:(p.1::r.map (·.1)).Nodup:=h;have m:k=p.1\/k∈r.map (·.1):=QH.mp m;obtain⟨h1,h2⟩:=Zn.mp h;by_cases e:p.1=k
  .subst e;rw[uT M,Dg h1]
   all_goals rfl
  .have m':k∈r.map (·.1):=m.resolve_left λz=>e z.symm;have q:=Au h2 m';rw[pX e,QM,QM];lia
end
def bp:bootBuiltins "len"=some (.builtin "len"):=by decide+kernel
def cC:bootBuiltins "isinstance"=some (.builtin "isinstance"):=by decide+kernel
def u7:bootBuiltins "min"=some (.builtin "min"):=by decide+kernel
def Az:bootBuiltins "sorted"=some (.builtin "sorted"):=by decide+kernel
def Jz:bootBuiltins "int"=some (.type "int"):=by decide+kernel
def FB:bootBuiltins "bool"=some (.type "bool"):=by decide+kernel
def NE:bootBuiltins "str"=some (.type "str"):=by decide+kernel
def BS:bootBuiltins "max"=some (.builtin "max"):=by decide+kernel
def FA:bootBuiltins "list"=some (.type "list"):=by decide+kernel
def qa:bootBuiltins "dict"=some (.type "dict"):=by decide+kernel
def IR:PySem.W.kitOne K (.type "int") (.type "int")=some true:=by kernel_rfl
def IS:PySem.W.kitOne K (.type "int") (.type "bool")=some false:=by kernel_rfl
def Ng:PySem.W.kitOne K (.type "bool") (.type "int")=some true:=by kernel_rfl
def Nh:PySem.W.kitOne K (.type "bool") (.type "bool")=some true:=by kernel_rfl
def Nf:PySem.W.kitOne K (.type "NoneType") (.type "int")=some false:=by kernel_rfl
def Nd:PySem.W.kitOne K (.type "str") (.type "int")=some false:=by kernel_rfl
def nN [Decidable c] (hc:c) (h:A):if decide c=true then A else WM:=by
 rw[Wf hc];exact cP h
def a6 [Decidable c] (hc:¬c) (h:WM):if decide c=true then A else WM:=by
 rw[Wj hc];exact cq h
def BI [Decidable c] (hc:¬c) (h:A):if(!decide c)=true then A else WM:=by
 rw[Wj hc];exact cP h
def iW {xs:List V} (Pv:Nat->St->Hp->Prop) (I:Pv 0 B H) (hl:∀i B H,i<=xs.length->Pv i B H->Fz K H a xs)
  (hs:∀i x B H,xs[i]?=some x->Pv i B H->g x B H λz H2=>tb ⟨Pv<|i+1,rt,nx,Pv<|i+1⟩ z H2) (hd:∀B H,Pv xs.length B H->nx B H):
  ∃JK:Nat->Nat->St->Hp->Prop,(∃m,JK 0 m B H)/\∀i m B H,JK i m B H->
   ((RG K a).stop i H/\nx B H)\/((RG K a).go i H/\∃N:St->Hp->Prop,(∀G H',N G H'->∃m',m'<m/\JK (i+1) m' G H')/\∀x H',(RG K a).yld i H x H'->g x B H' λz H2=>tb ⟨N,rt,nx,N⟩ z H2):=
 Jj (D:=⟨nx,rt,λ_ _=>False,λ_ _=>False⟩) Pv I hl hs hd
def xY {lo:Int} (Pv:Nat->St->Hp->Prop) (I:Pv 0 B H)
  (hs:∀i B H,i<n->Pv i B H->g (.int<|lo+i) B H λz H2=>tb ⟨Pv<|i+1,rt,nx,Pv<|i+1⟩ z H2) (hd:∀B H,Pv n B H->nx B H):
  ∃JK:Nat->Nat->St->Hp->Prop,(∃m,JK 0 m B H)/\∀i m B H,JK i m B H->
   ((RN lo n).stop i H/\nx B H)\/((RN lo n).go i H/\∃N:St->Hp->Prop,(∀G H',N G H'->∃m',m'<m/\JK (i+1) m' G H')/\∀x H',(RN lo n).yld i H x H'->g x B H' λz H2=>tb ⟨N,rt,nx,N⟩ z H2):=
 Ap (D:=⟨nx,rt,λ_ _=>False,λ_ _=>False⟩) Pv I hs hd
def yg {k:Int} (G:0<=k) (h:k<(ns.length:Int)):R9 (ns.map V.int) k=some (.int<|ns.getD k.toNat 0):=by
 obtain⟨j,rfl⟩:=ZC G;refine wz ?_;have z:j<ns.length:=();rw[QP,Q3 z,Zg,QJ,Q3 z];rfl
def Jx {k:Int} (h:¬k<(ns.length:Int)):ns.getD k.toNat 0=0:=by
 rw[QJ,Vh ()];rfl
def jM:gk X (.builtin "isinstance") (λxs H Q=>∃x n t b,xs=[x,.ty n]/\PP X.K H x t/\PySem.W.kitOne X.K t (.type n)=some b/\Q (.bl b) H):=by
 intro W s B H xs us Q I r h;obtain⟨x,n,t,b,rfl,ty,e,q⟩:=h;obtain⟨u,w',rfl,G,z⟩:=va r;cases (show w'=Value.type n from z);exact Am I G ty e λtk=>⟨.bl b,H,I.tok _,M,q⟩
def Ab:Qa X (compareOp .IsNot) (λx y H Q=>∃a b,x= .bl a/\y= .bl b/\Q (.bl<|a !=b) H):=by
 intro W s B H x y v u Q I z G h;obtain⟨a,b,rfl,rfl,q⟩:=h;cases z;cases G;exact isnot_bool<|bu I q M
def P9 {P:List Str} {sc:Scope} (a:sc.kind= .function:=by rfl) (b:sc.isCoroutine=false:=by rfl) (c:sc.isGenerator=false:=by rfl) (d:N.Nodup:=by decide+kernel) (e:N.take P.length=P:=by rfl) (f:∀x∈P,sc.names.lookup x=some .local\/sc.names.lookup x=some .cell:=by decide+kernel) (g:∀y∈sc.names,y.2≠ .free:=by decide+kernel):aq N P sc:=⟨a,b,c,d,e,f,g⟩
def PL.mo {j k:Nat} {A:Around} (r:PL k A) (h:j<=k:=by decide):PL j A:=r.mono h
def PD.okl {mg:Str->Option Value} {ps:List Str} {k:Nat} (F:PD K x qual st f fd) (S:aq N ps (al st))
  (G:∀{z:Value} {A:Around} {outer:List Env} (s:Shared) (H:Hp) (vs:List V) (Q:VK) (E:XK),PL k (A.deeper<|envOfC qual (al st) s.heap.objs.size f z)->sp vs H Q E->
   N.Nodup->let X:=(Dl P1 P w K mg base N qual (al st) f z A outer s H E).nox
   ∃t,Pt X (eO st) t/\t {nx:=λ_ H'=>Q .non H',rt:=Q} (start N vs) H)
  (len:∀vs H Q E,sp vs H Q E->vs.length=ps.length:=by intro _ _ _ _ h;repeat (first|(obtain⟨rfl,_⟩:=h;exact M)|obtain⟨_,h⟩:=h)):Dr P w K mg base P1 (k+1) f fd ps sp:=F.ok S len λz A outer s H vs Q E I h=>G s H vs Q E I h S.nd
section
variable {pos:Pos}
abbrev Ca {X:Cx}:= @pv X 0
abbrev Kc {X:Cx}:= @pv X 1
abbrev M2 {X:Cx}:= @pv X 2
abbrev PB {X:Cx}:= @pv X 3
abbrev Pa {X:Cx}:= @pv X 4
abbrev Qi {X:Cx}:= @pv X 5
abbrev RT {X:Cx}:= @pv X 6
abbrev Rp {X:Cx}:= @pv X 7
abbrev Ra {X:Cx}:= @pv X 8
abbrev pv9 {X:Cx}:= @pv X 9
abbrev pv10 {X:Cx}:= @pv X 10
abbrev pv11 {X:Cx}:= @pv X 11
def Qu (i:Nat) (hN:X.N.Nodup:=by assumption) (hi:X.N[i]?=some x:=by rfl) (hx:Loc X.env.scope x:=by exact Or.inl M) (hf:X.fn x=true\/X.env.scope.names.lookup x=some .local:=by first|exact .inl M|exact .inr M|assumption):PG X (.Name x pos) (g7 i):=E3 hN hi hx hf
def P7 (i:Nat) {e:Expr} {te:TE} {pos':Pos} (he:PE X e te) (hN:X.N.Nodup:=by assumption) (hi:X.N[i]?=some x:=by rfl) (hx:Loc X.env.scope x:=by exact Or.inl M) (hs:swapsWith e (some<|.Name x pos') pos.line X.env=pure false:=by rfl) (hf:X.fn x=true\/X.env.scope.names.lookup x=some .local:=by first|exact .inl M|exact .inr M|assumption):PS X (.Assign [.Name x pos'] e pos) (HE te<|g7 i):=oA hN hi hx he hs hf
end
section
variable {rest A WM:List Stmt} {t:TS}
def aC (h:PS X st t) (k:Φ t):∃v,Pt X [st] v/\Φ v:=⟨_,aB h,k⟩
def aj (h:PS X st t) (k:∃u,Pt X rest u/\(let WM:=u;Φ (yC t WM))):∃v,Pt X (st::rest) v/\Φ v:=by
 obtain⟨u,hu,k⟩:=k;exact⟨_,oy h hu,k⟩
def mY {F:TS->TS} (z:∀{x},Pt X A x->PS X st (F x)) (k:∃a,Pt X A a/\(let b:=a;Φ (F b))):∃v,Pt X [st] v/\Φ v:=by
 obtain⟨a,ha,k⟩:=k;exact⟨_,aB<|z ha,k⟩
def bW {F:TS->TS} (z:∀{x},Pt X A x->PS X st (F x)) (k:∃a,Pt X A a/\(let b:=a;∃u,Pt X rest u/\(let WM:=u;Φ (yC (F b) WM)))):∃v,Pt X (st::rest) v/\Φ v:=by
 obtain⟨a,ha,u,hu,k⟩:=k;exact⟨_,oy (z ha) hu,k⟩
def LZ (z:∀{x y},Pt X A x->Pt X WM y->PS X st (F x y)) (k:∃a,Pt X A a/\(let b:=a;∃c,Pt X WM c/\(let d:=c;Φ (F b d)))):∃v,Pt X [st] v/\Φ v:=by
 obtain⟨a,ha,c,hc,k⟩:=k;exact⟨_,aB<|z ha hc,k⟩
def Ox (z:∀{x y},Pt X A x->Pt X WM y->PS X st (F x y)) (k:∃a,Pt X A a/\(let b:=a;∃c,Pt X WM c/\(let d:=c;∃u,Pt X rest u/\(let WM:=u;Φ (yC (F b d) WM))))):∃v,Pt X (st::rest) v/\Φ v:=by
 obtain⟨a,ha,c,hc,u,hu,k⟩:=k;exact⟨_,oy (z ha hc) hu,k⟩
end
end L2
namespace SW
variable {m n:Int} {a b:Nat}
noncomputable def rv:Nat->Nat->Nat
 |0,_=>0
 |k+1,n=>(n%2)*2^k+rv k (n/2)
def EZ:∀(k n:Nat),rv k n<2^k
 |0,_=>by simp[rv]
 |k+1,n=>by
  have h:=EZ k (n/2);have m:n%2<2:=Nat.mod_lt _ (_);have e:rv (k+1) n=(n%2)*2^k+rv k (n/2):=M;have p:2^(k+1)=2*2^k:=by rw[XA,XB]
  rw[e,p];rcases Nat.mod_two_eq_zero_or_one n with z|z<;>rw[z]<;>lia
def Bj:∀(k n:Nat),rv (k+1) n=rv k n*2+(n/2^k)%2
 |0,n=>by simp[rv]
 |k+1,n=>by
  have h:=Bj k (n/2);have z:rv (k+2) n=(n%2)*2^(k+1)+rv (k+1) (n/2):=M;have e2:rv (k+1) n=(n%2)*2^k+rv k (n/2):=M;have d:n/2/2^k=n/2^(k+1):=by
   rw[Vd,XA,XB]
  rw[z,e2,h,d,XA];rw[VP,Nat.mul_assoc];lia
def Eg:∀(k n:Nat),rv k (n%2^k)=rv k n
 |0,_=>rfl
 |k+1,n=>by
  have p:2^(k+1)=2*2^k:=by rw[XA,XB]
  have z:n%2^(k+1)%2=n%2:=by
   rw[p];exact Nat.mod_mul_right_mod n 2<|2^k
  have e2:n%2^(k+1)/2=n/2%2^k:=by
   rw[p];exact Nat.mod_mul_right_div_self n 2 (2^k)
  show(n%2^(k+1)%2)*2^k+rv k (n%2^(k+1)/2)=(n%2)*2^k+rv k (n/2);rw[z,e2,Eg k (n/2)]
def EY:∀k,rv k 0=0
 |0=>rfl
 |k+1=>by show(0%2)*2^k+rv k (0/2)=0;rw[Nat.zero_div,EY k];simp
def sC:∀(a b n:Nat),rv (a+b) n=rv a n*2^b+rv b (n/2^a)
 |0,b,n=>by simp[rv]
 |a+1,b,n=>by
  have h:=sC a b (n/2);have e:a+1+b=(a+b)+1:=();have d:n/2/2^a=n/2^(a+1):=by
   rw[Vd,XA,XB]
  rw[e];show(n%2)*2^(a+b)+rv (a+b) (n/2)=((n%2)*2^a+rv a (n/2))*2^b+_;rw[h,d,VP,Nat.mul_assoc,<-Nat.pow_add];lia
def HP:∀(k n:Nat),rv k (rv k n)=n%2^k
 |0,n=>by simp[rv,Nat.mod_one]
 |k+1,n=>by
  have e:rv (k+1) n=rv k n*2+(n/2^k)%2:=Bj k n;have z:(rv k n*2+(n/2^k)%2)%2=(n/2^k)%2:=();have e2:(rv k n*2+(n/2^k)%2)/2=rv k n:=();rw[e];show(rv k n*2+(n/2^k)%2)%2*2^k+rv k ((rv k n*2+(n/2^k)%2)/2)=n%2^(k+1);rw[z,e2,HP k n,XA,Nat.mod_mul,XB (2^k)];lia
def MP {n:Nat}:rv (a+b) n/2^b=rv a n:=by
 have l:=EZ b (n/2^a);rw[sC a b n,XB,Nat.mul_add_div (Nat.two_pow_pos b),Nat.div_eq_of_lt l,XC]
def KB {s:Nat} (h:s<2^a):rv (a+b) s=rv a s*2^b:=by
 rw[sC a b s,Nat.div_eq_of_lt h,EY,XC]
@[irreducible] def tz (n:Int):Int:=((rv 16 n.toNat:Nat):Int)
@[irreducible] def rz (a:Nat) (n:Int):Int:=((rv a n.toNat:Nat):Int)
def ud (n:Int):0<=tz n:=by unfold tz;exact Vu _
def LL (n:Int):tz n<65536:=by
 have h:=EZ 16 n.toNat;have e:(2:Nat)^16=65536:=by decide
 unfold tz;lia
def EW (z:0<=n) (h1:n<65536):tz (tz n)=n:=by
 have h:=HP 16 n.toNat;have e:(2:Nat)^16=65536:=by decide
 unfold tz;rw[Zg,h,e];lia
def Mv (z:0<=n) (h1:n<65536) (k0:0<=m) (G:m<65536) (e:tz n=tz m):n=m:=by
 rw[<-EW z h1,<-EW k0 G,e]
def FQ (i:Nat) (m:Nat):((rv i m:Nat):Int)*2+((m/2^i:Nat):Int)%2=((rv (i+1) m:Nat):Int):=by
 rw[Bj];lia
def FR (i:Nat) (m:Nat):((m/2^i:Nat):Int)/2=((m/2^(i+1):Nat):Int):=by
 have d:m/2^i/2=m/2^(i+1):=by rw[Vd,XA]
 rw[<-d];lia
def Ga (a:Nat) (n:Int):0<=rz a n:=by unfold rz;exact Vu _
def Oi (a:Nat) (n:Int):rz a n<2^a:=by
 have h:=EZ a n.toNat;unfold rz;have c:((rv a n.toNat:Nat):Int)<((2^a:Nat):Int):=by exact_mod_cast h
 simpa using c
def Oh (a:Nat) (G:0<=n) (h1:n<2^a):rz a (rz a n)=n:=by
 obtain⟨m,rfl⟩:=ZC G;have h:=HP a m;have z:m<2^a:=by exact_mod_cast h1
 unfold rz;rw[Zg,Zg,h,Nat.mod_eq_of_lt z]
def Ks (z:a+b=16) {s:Int} (I:0<=s) (h1:s<2^a):tz s=rz a s*2^b:=by
 obtain⟨m,rfl⟩:=ZC I;have G:m<2^a:=by exact_mod_cast h1
 have h:=KB (b:=b) G;rw[z]at h;unfold tz rz;rw[Zg,h];simp
def Mu (z:a+b=16) (G:0<=m):tz m/2^b=rz a (m%2^a):=by
 obtain⟨n,rfl⟩:=ZC G;have h:=MP (a:=a) (b:=b) (n:=n);rw[z]at h;have e:((n:Int)%2^a).toNat=n%2^a:=by
  have c:((n:Int)%2^a)=((n%2^a:Nat):Int):=by simp
  rw[c,Zg]
 unfold tz rz;rw[Zg,e,Eg,<-h];simp
structure Row (S:Int) (a b:Nat):Prop where
 ab:a+b=16
 lo:2<=a
 hi:a<=9
 eq:S=2^a
section
variable {S:Int} (R:Row S a b)
include R
theorem Row.mul:S*2^b=65536:=by
 rw[R.eq,<-Int.pow_add,R.ab];decide
theorem Row.wpos:(0:Int)<2^b:=Int.pow_pos (_)
theorem Row.pos:0<S:=by rw[R.eq];exact Int.pow_pos (_)
theorem Row.width:65536/S=2^b:=by
 rw[<-R.mul,Int.mul_ediv_cancel_left _ (Zs R.pos)]
theorem Row.wpos':0<65536/S:=by rw[R.width];exact R.wpos
theorem Row.slot {s:Int} (G:0<=s) (h1:s<S):tz s=2^b*rz a s/\0<=rz a s/\rz a s<S/\rz a (rz a s)=s:=by
 have z:s<2^a:=by rwa[<-R.eq]
 refine⟨by rw[Ks R.ab G z,Vz],Ga _ _,by rw[R.eq];exact Oi _ _,Oh _ G z⟩
theorem Row.top (z:0<=m):2^b*rz a (m%S)<=tz m/\tz m<2^b*rz a (m%S)+2^b:=by
 have d:=Mu R.ab z;rw[<-R.eq]at d;have e:=Vi (tz m) (2^b);have p:=QA (tz m) (Zs R.wpos);have q:=Qx (tz m) R.wpos;rw[d]at e;lia
theorem Row.mod0 (m:Int):0<=m%S:=QA _ (Zs R.pos)
theorem Row.mod1 (m:Int):m%S<S:=Qx _ R.pos
theorem Row.between {JK x y p:Int} (z:0<JK) (G:JK*x<=p) (h1:p<JK*x+JK) (k0:JK*y<=p) (I:p<JK*y+JK):x=y:=by
 rcases Int.lt_trichotomy x y with h|h|h
 .have:JK*(x+1)<=JK*y:=VQ () (VA z);rw[Int.mul_add]at this;lia
 .exact h
 .have:JK*(y+1)<=JK*x:=VQ () (VA z);rw[Int.mul_add]at this;lia
theorem Row.st_has (z:0<=m):tz (m%S)<=tz m/\tz m<tz (m%S)+65536/S:=by
 obtain⟨e,_⟩:=R.slot (R.mod0 m) (R.mod1 m);have t:=R.top z;rw[R.width,e];exact t
end
def rq {k:Nat} (h:k<=6):Row (4*2^k) (k+2) (14-k):=by
 refine⟨(),(),(),?_⟩;rw[Int.pow_add];lia
end SW
namespace L2
open PySem PySem.Spec PyProof.Rows
abbrev vb:List Value:=[.type "ValueError",.type "Exception",.type "BaseException",.type "object"]
def NT (bm:List Value):Prop:=∃ups:List Addr,bm=ups.map Value.ref++vb
structure EM (K:WN) (C:Addr) (bm:List Value):Prop where
 ob:∃nm q N bs sn sub ab col dd k0 k1 k2 k3 k5,K.lookup C=some (excClassObj nm q C N bs bm true sn sub ab col dd k0 k1 k2 k3 k5 "ValueError.__new__")
 mro:NT bm
 kp:PySem.W.keepIn K (.ref C)=true
 ga:PySem.W.findIn K (.ref C) "__getattribute__"=some (some<|.builtin "BaseException.__getattribute__")
 gn:PySem.W.findIn K (.ref C) "__getattr__"=some none
 sa:PySem.W.findIn K (.ref C) "__setattr__"=some (some<|.builtin "object.__setattr__")
open PySem.W
variable {E:Value->Shared->Prop}
section
variable {prog:Program} {w:World} {A:Around} {s:Shared} {K:WN} {e C:Addr} {bm:List Value}
structure XIs (K:WN) (C:Addr):Prop where
 ha:findIn K (.ref C) "__class__"=some (some<|.builtin "object.__class__")
 hn:specialIn K (.builtin "object.__class__") "__get__"=some (some<|.builtin "getset_descriptor.__get__")
 tk:takesIn K (.builtin "object.__class__")=some true
 hm:mroIn K C (.type "object")=some true
end
section
variable {X:Cx} {W:List (Addr×Obj)} {B:St} {H:Hp} {s:Shared}
def mT (K:WN) (hK:X.K=K):gk X (.builtin "isinstance") (λxs H Q=>∃x D t b,xs=[x,.ref D]/\PP K H x t/\kitOne K t (.ref D)=some b/\Q (.bl b) H):=by
 subst hK;intro W s B H xs us Q I r h;obtain⟨x,D,t,b,rfl,ty,e,q⟩:=h;obtain⟨u,w',rfl,G,z⟩:=va r;cases (show w'=Value.ref D from z);exact Am I G ty e λtk=>⟨.bl b,H,I.tok _,M,q⟩
end
structure JL (K:WN) (C:Addr) (m:Str) (v:Value):Prop where
 sp:specialIn K (.ref C) "__getattribute__"=some (some<|.builtin "type.__getattribute__")
 rd:readsIn K C (.type "type")=true
 at_:findCls K (.ref C) (.type "type") m=some (.val v)
section
variable {X:Cx} {W:List (Addr×Obj)} {B:St} {H:Hp} {s:Shared}
variable {CX:CXT} {k:Nat} {f C:Addr} {fd:FuncData} {ps:List Str} {sp:Sp} {dvs:List V} {ds:List Value} {E:XK} {x m:Str} {p pos apos:Pos} {e o:Expr} {es:List Expr} {ta:TE} {t:TA} {bm:List Value}
def Bp {pl:Sem Bool} (Y:Gl X x) (Z:X.mg x=some (.ref C)) (hc:JL X.K C m (.ref f)) (hk:PySem.W.keepIn X.K (.ref f)=true) (F:Dr X.prog X.w X.K X.mg X.base CX k f fd ps sp) (hr:PL k X.A) (hb:Binds X.K fd ps ds) (hd:G1 dvs ds) (hx:mU CX X E) (ha:PA X (e::es) t)
  (z:(x==("__debug__":Str))=false:=by decide)
  (G:starEach (e::es) X.env=(false,eval e X.env)::starEach es X.env:=by rfl) (O:(backTo pos<|starEach es X.env).any (·.1)=false:=by rfl)
  (ht:eval (.Call (.Attribute (.Name x p) m apos) (e::es) [] pos) X.env=(do
   let ov<-eval (.Name x p) X.env
   standAt apos.atName
   let(f,first)<-holding [ov] (getMethod ov m pl)
   callWith pos f first (backTo pos<|starEach (e::es) X.env) (backToKw pos<|keywordEach [] X.env)):=by rfl):
  PE X (.Call (.Attribute (.Name x p) m apos) (e::es) [] pos) (LR sp dvs E t):=by
 intro W s B H Q I h;refine Xj (pl:=pl) (sS I Y Z ?_ z) ht;refine method_cls I.kIn hc.sp<|cls_value I.kIn hc.rd hc.at_ M ?_;refine Xy (first:=[]) (h₀:=X.base) I.ok.mod.kin hk (P0 (ha pos W _ B H _ (I.tok _) h) λus s2 ⟨vs,H2,U,r,q2⟩=>⟨U.kIn,?_⟩) G O;exact uB F hr hb hd hx U r q2
end
variable {T:Addr}
def jF (K:WN) (fd:FuncData) (ps:List Str) (dvs:List V):Prop:=∃ds,Binds K fd ps ds/\G1 dvs ds
structure Qq (K:WN) (x qual:Str) (st:Stmt) (f:Addr) (fd:FuncData):Prop where
 ex:∃(oc:Value) (od:Option Addr) (dV kV doc pm:Value) (an:Option Addr) (cdv ct:Value) (osl:Array (Option Value)),
  fd=fnOf x qual (iQ st) (eO st) (al st) dV kV doc pm an cdv ct/\K.lookup f=some ⟨oc,od,.func fd,osl⟩/\codeIn K cdv qual=true
 kp:keepIn K (.ref f)=true
section
variable {P:Program} {w:World} {K:WN} {mg:Str->Option Value} {base:Heap} {x qual:Str} {st:Stmt} {f:Addr} {fd:FuncData} {N ps:List Str} {k:Nat} {sp:Sp}
def Qq.ok (F:Qq K x qual st f fd) (S:aq N ps (al st)) (len:∀vs H Q E,sp vs H Q E->vs.length=ps.length)
  (G:∀(z:Value) (A:Around) (outer:List Env) (s:Shared) (H:Hp) (vs:List V) (Q:VK) (E:XK),PL k (A.deeper<|envOfC qual (al st) s.heap.objs.size f z)->sp vs H Q E->
   ∃t,Pt (Dl P1 P w K mg base N qual (al st) f z A outer s H E).nox (eO st) t/\t {nx:=λ_ H'=>Q .non H',rt:=Q} (start N vs) H):Dr P w K mg base P1 (k+1) f fd ps sp:=by
 obtain⟨oc,od,dV,kV,U,pm,an,z,ct,Y,rfl,Z,I⟩:=F.ex;refine Mc Z I S len λA outer s H vs Q E hr O=>?_;obtain⟨t,h,q⟩:=G z A outer s H vs Q E hr O;exact⟨t,h.nox,q⟩
structure NR (K:WN) (x qual:Str) (st:Stmt) (T f:Addr) (fd:FuncData):Prop where
 toD:Qq K x qual st f fd
 ex:∃(kV doc pm:Value) (an:Option Addr) (cdv ct:Value),fd=fnOf x qual (iQ st) (eO st) (al st) (.ref T) kV doc pm an cdv ct
def Fo {Y:Value} {Z O:Option Addr} {I:Array (Option Value)} {kV G U z ct:Value} (l:K.lookup f=some ⟨Y,Z,.func<|fnOf x qual (iQ st) (eO st) (al st) (.ref T) kV G U O z ct,I⟩)
  (c:codeIn K z qual=true) (k:keepIn K (.ref f)=true):NR K x qual st T f (fnOf x qual (iQ st) (eO st) (al st) (.ref T) kV G U O z ct):=⟨⟨⟨Y,Z,_,kV,G,U,O,z,ct,I,M,l,c⟩,k⟩,⟨kV,G,U,O,z,ct,M⟩⟩
def c6 {dd:Option Addr} {items:Array Value} {n:Nat} {U:Array (Option Value)} {ds:List Value} (g:Nat) (Z:g+ds.length=ps.length) (F:NR K x qual st T f fd) (Y:K.lookup T=some ⟨.type "tuple",dd,.seq items n,U⟩)
  (h:∀(kV z I:Value) (O:Option Addr) (G ct:Value) (us:List Value),us.length=g->∃k,bindArgs (fnOf x qual (iQ st) (eO st) (al st) (.ref T) kV z I O G ct) ⟨us,[]⟩=seqItems? (.ref T)>>=k/\k (some items)=pure (ps.zip<|us++ds)):
  Binds K fd ps ds:=by
 obtain⟨kV,z,I,O,G,ct,rfl⟩:=F.ex;intro s us X hl;obtain⟨k,h1,h2⟩:=h kV z I O G ct us (by rw[Q8]at hl;lia);exact BindsTo.of_defaults M (X _ _ Y) M h1 h2
end
end L2
namespace L2
open PySem PySem.Spec PyProof.Rows
open SeqAt
section
variable {X:Cx}
def eI {st:Stmt}:PS X st (λ_ _ _=>False):=λ_ _ _ _ _ _ h=>h.elim
end
def Fl:V->Prop
 | .int _=>True| .str _=>True| .non=>True|_=>False
section
variable {X:Cx} {W:List (Addr×Obj)} {B:St} {H:Hp} {s:Shared}
def Lk {A:Around} {x:V} {u v:Value} (h:Fl x) (r1:RelV x u) (z:RelV x v):EqAt A s u v true:=by
 cases x with
 |int n=>
  obtain⟨G,rfl⟩:=r1;obtain⟨I,rfl⟩:=z;have:=EqAt.int_int (A:=A) (s:=s) n G n I;rwa [WF]at this
 |str n=>
  obtain⟨G,rfl⟩:=r1;obtain⟨I,rfl⟩:=z;have:=EqAt.str_str (A:=A) (s:=s) n G n I;rwa [WF]at this
 |non=>
  cases (show u=Value.none from r1);cases (show v=Value.none from z);exact EqAt.same _
 |_=>exact h.elim
end
end L2
namespace L2
open PySem PySem.Spec PyProof.Rows
variable {D:Addr->Sp->Prop} {X:Cx} {o:HO} {H:Hp} {kk:Nat}
def fj {x y:V} {A WM:Prop} (e:x=y) (h:A):if decide (x=y)=true then A else WM:=by
 rw[Wf e];exact cP h
def ak {p:Addr} (h:H p=none):Ds H (upd H p o):=λb u e=>by
 rwa[ae (am e h)]
def RX (P:Int->Prop):List V->Prop
 | []=>True
 | .int m::r=>P m/\RX P r
 |_::_=>False
def RX.ints {P:Int->Prop}:∀{L:List V},RX P L->∃ns:List Int,L=ns.map V.int/\∀m∈ns,P m
 | [],_=>⟨[],M,λ_ z=>nomatch z⟩
 | .int m::r,h=>by
  obtain⟨ns,e,q⟩:=RX.ints h.2;refine⟨m::ns,by rw[e];rfl,λx hx=>?_⟩;rcases QH.mp hx with rfl|hx
  .exact h.1
  .exact q x hx
def z7 {P:Int->Prop} {L:List V} {c n:Int} (h:RX P L) (I:(L.length:Int)=n) (G:0<n):∃m,R9 L (c%n)=some (.int m)/\P m:=by
 obtain⟨ns,e,q⟩:=h.ints;subst e;have a:=QA c (Zs G);have b:=Qx c G;rw[Q0]at I;have z:(c%n).toNat<ns.length:=();refine⟨_,yg a (),q _ ?_⟩;rw[QJ,Q3 z];exact ZV z
def bZ {H':Hp} {l:Addr} (s:Ds H H') (n:H l=none):Ds H (upd H' l o):=λb u e=>by
 rw[ae (am e n)];exact s b u e
def IQ {K:WN} {C D:Addr} {b:Bool} (h1:PySem.W.typeIn K (.ref D)=some (.type "type")) (h2:PySem.W.isClsIn K D=true) (I:PySem.W.subIn K (.ref C) (.ref D)=some b) (G:C=D->b=true):
  PySem.W.kitOne K (.ref C) (.ref D)=some b:=by
 unfold PySem.W.kitOne;by_cases z:((Value.ref C:Value)== .ref D)=true
 .rw[W7 z,G (Value.ref.inj<|Wk.mp z)]
 .rw[W6 z];show(if((PySem.W.clsIn K D).isSome&&PySem.W.typeIn K (.ref D)==some (.type "type"))=true then PySem.W.subIn K (.ref C) (.ref D)else none)=some b;have:(PySem.W.clsIn K D).isSome=true:=h2;rw[W7 (by rw[this,h1];simp),I]
def OW (_ j:Int):Prop:=0<j/\j.natAbs.log2<9000
def CJ:Qa X (binaryOp .FloorDiv) (rI OW λi j=> .int<|i/j):=opI λi j _ _ _ _ _ hc q=>by
 have h1:(0:Int)<j:=hc.1;exact floordiv_int () (by rw[VX i ()];exact q)<|.inl (PyProof.noPylong_of_log2 hc.2)
def PL.u20 {k:Nat} {A:Around} (r:PL k A):A.units+20<cLine:=by have:=r.un;lia
section
variable {k:Nat} {f C:Addr} {fd:FuncData} {ps:List Str} {sp:Sp} {dvs:List V} {ds:List Value} {E:XK} {x m:Str} {p pos apos:Pos} {e o:Expr} {es:List Expr} {ta:TE} {t:TA}
def G8 (X:Cx) (kk:Nat) (m:Str) (C:Addr) (sp:Sp):Prop:=Qj X.K C/\∃f fd ps,bJ X.K C m f/\Dr X.prog X.w X.K X.mg X.base P1 kk f fd ps sp/\Binds X.K fd ps []
def D1 (C:Addr) (sp:Sp):Addr->Sp->Prop:=λC' sp'=>C'=C/\sp'=sp
def SE (D D':Addr->Sp->Prop):Addr->Sp->Prop:=λC sp=>D C sp\/D' C sp
def cx (c:Qj X.K C) (G:bJ X.K C m f) (F:Dr X.prog X.w X.K X.mg X.base P1 k f fd ps sp) (hb:Binds X.K fd ps []) (hk:k<=kk):∀z sp',D1 C sp z sp'->G8 X kk m z sp':=λz sp' h=>by
 obtain⟨rfl,rfl⟩:=h;exact⟨c,f,fd,ps,G,F.mono hk,hb⟩
def iP {G:Addr->Sp->Prop} (h:∀C sp,D C sp->G8 X kk m C sp) (h':∀C sp,G C sp->G8 X kk m C sp):∀C sp,SE D G C sp->G8 X kk m C sp:=λC sp z=>z.elim (h C sp) (h' C sp)
inductive Kw (D:Addr->Sp->Prop) (m:Str) (t:TA) (B:St) (Q:VK) (x:V) (H1:Hp):Prop
 |mk (a C dx fs sp:_) (_:x= .ref a) (_:H1 a=some (.ins C dx fs)) (_:fs.lookup m=none) (_:D C sp) (_:t B H1 λvs H2=>sp (x::vs) H2 Q E0)
def HA (D:Addr->Sp->Prop) (m:Str) (ta:TE) (t:TA):TE:=λB H Q=>ta B H λx H1=>Kw D m t B Q x H1
def sG {pl:Sem Bool} (hD:∀C sp,D C sp->G8 X kk m C sp) (hr:PL kk X.A) (he:PE X o ta) (ha:PA X (e::es) t)
  (z:starEach (e::es) X.env=(false,eval e X.env)::starEach es X.env:=by rfl) (G:(backTo pos<|starEach es X.env).any (·.1)=false:=by rfl)
  (ht:eval (.Call (.Attribute o m apos) (e::es) [] pos) X.env=(do
   let ov<-eval o X.env
   standAt apos.atName
   let(f,first)<-holding [ov] (getMethod ov m pl)
   callWith pos f first (backTo pos<|starEach (e::es) X.env) (backToKw pos<|keywordEach [] X.env)):=by rfl):
  PE X (.Call (.Attribute o m apos) (e::es) [] pos) (HA D m ta t):=by
 intro W s B H Q I h;refine Xj (pl:=pl) (P0 (he W s B H _ I h) λu s1 O=>?_) ht;obtain⟨x,H1,U,rx,a,C,dx,fs,sp,ex,ea,l,d,q⟩:=O;subst ex;obtain rfl:u=Value.ref a:=rx;obtain⟨c,f,fd,ps,Y,F,hb⟩:=hD C sp d;refine my U ea c Y l ?_;refine Xy (first:=[.ref a]) (h₀:=X.base) I.ok.mod.kin Y.kp (P0 (ha pos W s1 B H1 _ U q) λus s2 ⟨vs,H2,Z,r,q2⟩=>⟨Z.kIn,?_⟩) z G;exact uB (us:= .ref a::us) (vs:= .ref a::vs) (dvs:=[]) F hr hb .nil ar Z (.cons M r)<|by rwa[ZB]
def Gg {pl:Sem Bool} (hD:∀C sp,D C sp->G8 X kk m C sp) (U:PL kk X.A) (he:PE X o ta)
  (Y:eval (.Call (.Attribute o m apos) [] [] pos) X.env=(do
   let ov<-eval o X.env
   standAt apos.atName
   let(f,first)<-holding [ov] (getMethod ov m pl)
   callWith pos f first (backTo pos<|starEach [] X.env) (backToKw pos<|keywordEach [] X.env)):=by rfl):
  PE X (.Call (.Attribute o m apos) [] [] pos) (HA D m ta Kv):=by
 intro W s B H Q I h;refine Xj (pl:=pl) (P0 (he W s B H _ I h) λu s1 z=>?_) Y;obtain⟨x,H1,G,Z,a,C,dx,fs,sp,ex,ea,l,d,q⟩:=z;subst ex;obtain rfl:u=Value.ref a:=Z;obtain⟨c,f,fd,ps,O,F,hb⟩:=hD C sp d;refine my G ea c O l ?_;refine Vr (first:=[.ref a]) G.kIn O.kp ?_;exact uB (us:=[.ref a]) (vs:=[.ref a]) (dvs:=[]) F U hb .nil ar G (.cons M .nil) q
end
end L2
namespace Srt
open PySem PyProof.Rows
variable {xs ys:Array Keyed} {blt:Keyed->Keyed->Bool} {e hi i j lo n nrem:Nat} {st:SortSt} {γ:Type} {Q:Unit->SortSt->Prop} {E:Value->Shared->Prop}
abbrev dk:Keyed:=(Value.none,Value.none)
noncomputable def g (xs:Array Keyed) (i:Nat):Keyed:=xs[i]?.getD dk
theorem eS (h:i<xs.size):xs[i]?=some (g xs i):=by
 unfold g;rw[getElem?_pos xs i h];rfl
theorem sX (h:xs[i]?=ys[j]?):g xs i=g ys j:=by unfold g;rw[h]
theorem Ao (h:i<xs.size):g xs i∈xs:=by
 have e:=eS h;exact Array.mem_of_getElem? e
structure R3 (blt:Keyed->Keyed->Bool):Prop where
 asym:∀x y,blt x y=true->blt y x=false
 tr:∀x y z,blt y x=false->blt z y=false->blt z x=false
section
variable (C:R3 blt)
abbrev le (blt:Keyed->Keyed->Bool) (x y:Keyed):Prop:=blt y x=false
include C
theorem R3.trans {x y z:Keyed} (h1:le blt x y) (h2:le blt y z):le blt x z:=C.tr x y z h1 h2
theorem R3.of_lt {x y:Keyed} (h:blt x y=true):le blt x y:=C.asym _ _ h
end
def On (blt:Keyed->Keyed->Bool) (xs:Array Keyed) (lo hi:Nat):Prop:=∀i j,lo<=i->i<j->j<hi->le blt (g xs i) (g xs j)
def Off (blt:Keyed->Keyed->Bool) (xs:Array Keyed) (lo hi:Nat):Prop:=∀i j,lo<=i->i<j->j<hi->le blt (g xs j) (g xs i)
theorem On.one:On blt xs lo (lo+1):=λi j h1 h2 z=>by lia
theorem Off.one:Off blt xs lo (lo+1):=λi j h1 h2 z=>by lia
theorem On.congr (h:On blt xs lo hi) (e:∀k,lo<=k->k<hi->g ys k=g xs k):On blt ys lo hi:=λi j h1 h2 z=>by
 rw[e i h1 (),e j () z];exact h i j h1 h2 z
theorem On.sub {z hi':Nat} (h:On blt xs lo hi) (h1:lo<=z) (h2:hi'<=hi):On blt xs z hi':=λi j a b c=>h i j () b ()
section
variable (C:R3 blt)
include C
theorem On.snoc (h:On blt xs lo (lo+n)) (G:1<=n) (e:le blt (g xs<|lo+n-1) (g xs<|lo+n)):On blt xs lo (lo+(n+1)):=λi j h1 h2 I=>by
 by_cases z:j<lo+n
 .exact h i j h1 h2 z
 .have ej:j=lo+n:=();subst ej;by_cases y:i=lo+n-1
  .subst y;exact e
  .exact C.trans (h i (lo+n-1) h1 () ()) e
theorem Off.snoc (h:Off blt xs lo (lo+n)) (G:1<=n) (e:le blt (g xs<|lo+n) (g xs<|lo+n-1)):Off blt xs lo (lo+(n+1)):=λi j h1 h2 I=>by
 by_cases z:j<lo+n
 .exact h i j h1 h2 z
 .have ej:j=lo+n:=();subst ej;by_cases y:i=lo+n-1
  .subst y;exact e
  .exact C.trans e<|h i (lo+n-1) h1 () ()
end
theorem Jg (z:j<=xs.size) (k:Nat):g (mirror xs i j<|(j-i)/2) k=if i<=k/\k<j then g xs (i+j-1-k)else g xs k:=by
 have e:=getElem?_mirror_all (i:=i) z k;by_cases h1:i<=k/\k<j
 .rw[W7 h1]at e⊢;exact sX e
 .rw[W6 h1]at e⊢;exact sX e
theorem Jh {src d:Nat} (hs:src<xs.size) (hd:d<=src) (k:Nat):g (bubble xs src d) k=if k=src-d then g xs src else if src-d<k/\k<=src then g xs (k-1)else g xs k:=by
 have e:=getElem?_bubble hs d hd k;by_cases h1:k=src-d
 .rw[W7 h1]at e⊢;exact sX e
 .rw[W6 h1]at e⊢;by_cases h2:src-d<k/\k<=src
  .rw[W7 h2]at e⊢;exact sX e
  .rw[W6 h2]at e⊢;exact sX e
section
variable {prog:Program} {w:World} {A:Around} {s:Shared} {a₀:Array Keyed} {κ:SortKind}
def Cb (prog:Program) (w:World) (A:Around) (E:Value->Shared->Prop) (s:Shared) (a₀:Array Keyed) (κ:SortKind) (blt:Keyed->Keyed->Bool):Prop:=
 ∀(x y:Keyed) (st:SortSt) (Q:Option Bool->SortSt->Prop),x∈a₀->y∈a₀->kindOf st=κ->Q (some<|blt x y) st->wpS (model prog w) A E s (lt' x y) Q st
structure PK (a₀:Array Keyed) (κ:SortKind) (st:SortSt):Prop where
 kind:kindOf st=κ
 fine:failedOf st=none
 perm:(arrOf st).Perm a₀
theorem PK.size (WM:PK a₀ κ st):(arrOf st).size=a₀.size:=WM.perm.size_eq
theorem PK.mem (WM:PK a₀ κ st) (h:i<a₀.size):g (arrOf st) i∈a₀:=(WM.perm.mem_iff).mp (Ao<|by rwa[WM.size])
variable (L:Cb prog w A E s a₀ κ blt)
include L
theorem rT {Q:Option Bool->SortSt->Prop} (WM:PK a₀ κ st) (hi:i<a₀.size) (z:j<a₀.size) (h:Q (some<|blt (g (arrOf st) i)<|g (arrOf st) j) st):
  wpS (model prog w) A E s (ltAt' i j) Q st:=by
 rw[ltAt'_eq];refine Wa<|WJ ?_;show wpS _ _ _ _ (do let x<-elem' (arrOf st) i;let y<-elem' (arrOf st) j;lt' x y) Q st;rw[elem'_eq,elem'_eq,eS (by rwa[WM.size]),eS (by rwa[WM.size])];refine Wa<|Wc (Wa<|Wc ?_);exact L _ _ st Q (WM.mem hi) (WM.mem z) WM.kind h
omit L in
theorem Hr {α:Type} {m m':StateT SortSt Sem α} {Q:α->SortSt->Prop} (e:m=m') (h:wpS (model prog w) A E s m' Q st):wpS (model prog w) A E s m Q st:=by rwa[e]
abbrev Qo (lo:Nat) (xs ys:Array Keyed):Prop:=∀k,k<lo->g ys k=g xs k
theorem iY (WM:PK a₀ κ st) (z:j<=a₀.size)
  (h:∀st',PK a₀ κ st'->pendingOf st'=pendingOf st->(∀k,g (arrOf st') k=if i<=k/\k<j then g (arrOf st) (i+j-1-k)else g (arrOf st) k)->Q Unit.unit st'):
  wpS (model prog w) A E s (reverseSlice' i j) Q st:=by
 rw[reverseSlice'_eq];refine Wy<|h _ ⟨WM.kind,WM.fine,(mirror_perm _ _ _ _).trans WM.perm⟩ M λk=>?_;exact Jg (by rwa[WM.size]) k
theorem Hq {a:Nat} {f:Nat->Option γ×Nat->StateT SortSt Sem (ForInStep<|Option γ×Nat)} {Q:Option γ×Nat->SortSt->Prop} (C:R3 blt) (WM:PK a₀ κ st) (ha:1<=a) (G:a<=nrem) (hz:lo+nrem<=a₀.size) (hs:On blt (arrOf st) lo (lo+a))
  (hf:∀(i n:Nat) (R:ForInStep (Option γ×Nat)->SortSt->Prop),n<nrem->1<=n->(blt (g (arrOf st)<|lo+n) (g (arrOf st)<|lo+n-1)=true->R (.done (none,n)) st)->(blt (g (arrOf st)<|lo+n) (g (arrOf st)<|lo+n-1)=false->R (.yield (none,n+1)) st)->wpS (model prog w) A E s (f i (none,n)) R st)
  (h:∀n,a<=n->n<=nrem->On blt (arrOf st) lo (lo+n)->(n<nrem->blt (g (arrOf st)<|lo+n) (g (arrOf st)<|lo+n-1)=true)->Q (none,n) st):
  wpS (model prog w) A E s (forIn [a:nrem] (none,a) f) Q st:=by
 refine Wq (I:=λi c st'=>st'=st/\c=(none,i)/\a<=i/\i<=nrem/\On blt (arrOf st) lo (lo+i)) ?_ ?_ ⟨M,M,Q4 _,G,hs⟩
 .rintro i c st' h1 h2 ⟨rfl,rfl,U,Y,O⟩;refine hf i i _ h2 () (λe=>?_)<|λe=>?_
  .exact h i U Y O λ_=>e
  .exact⟨M,M,(),(),O.snoc C () e⟩
 .rintro c st' ⟨rfl,rfl,U,Y,O⟩;have e:max a nrem=nrem:=Zo G;rw[e]at O⊢;exact h nrem G (Q4 _) O λz=>Wb z (Xb _)
omit L in
theorem uJ {b:Nat} (hb:lo<=b) (h:Off blt xs lo e) (o:On blt xs b e) (hy:∀k,g ys k=if b<=k/\k<e then g xs (b+e-1-k)else g xs k):Off blt ys lo e:=λi j h1 h2 z=>by
 rw[hy i,hy j];by_cases jb:b<=j
 .rw[W7 ⟨jb,z⟩];by_cases G:b<=i
  .rw[W7 ⟨G,()⟩];exact o _ _ () () ()
  .rw[W6 ()];exact h _ _ h1 () ()
 .rw[W6 (),W6 ()];exact h i j h1 h2 z
omit L in
theorem M3 (h:Off blt xs lo e) (hy:∀k,g ys k=if lo<=k/\k<e then g xs (lo+e-1-k)else g xs k):On blt ys lo e:=λi j h1 h2 z=>by
 rw[hy i,hy j,W7 ⟨h1,()⟩,W7 ⟨(),z⟩];exact h _ _ () () ()
omit L in
theorem KS (h:On blt xs lo e) (hy:∀k,g ys k=if lo<=k/\k<e then g xs (lo+e-1-k)else g xs k):Off blt ys lo e:=λi j h1 h2 z=>by
 rw[hy i,hy j,W7 (show lo<=j/\j<e by lia),W7 (show lo<=i/\i<e by lia)];exact h _ _ () () ()
noncomputable def JJ (lo:Nat):Nat->Option (Option Nat)×Nat->StateT SortSt Sem (ForInStep<|Option (Option Nat)×Nat):=λ_ __s=>do
 let __x<-ltAt' (lo+__s.snd) (lo+__s.snd-1)
 match __x with
 |some smaller=>if smaller=true then pure (ForInStep.done (none,__s.snd))else pure (ForInStep.yield (none,__s.snd+1))
 |_=>pure (ForInStep.done (some none,__s.snd))
def zW (lo n nrem:Nat):StateT SortSt Sem (Option Nat):=do
 reverseSlice' lo (lo+n)
 let __s<-forIn [n:nrem] (none,n) (JJ lo)
 match __s.fst with
 |some r=>pure r
 |none=>pure (some __s.snd)
noncomputable def Ft (lo:Nat):Nat->Option (Option Nat)×Nat×Nat->StateT SortSt Sem (ForInStep<|Option (Option Nat)×Nat×Nat):=λ_ __s=>do
 let __x<-ltAt' (lo+__s.snd.fst) (lo+__s.snd.fst-1)
 match __x with
 |some smaller=>
  if smaller=true then
   if __s.snd.snd>0 then do
    reverseSlice' (lo+__s.snd.fst-(__s.snd.snd+1)) (lo+__s.snd.fst)
    pure (ForInStep.yield (none,__s.snd.fst+1,0))
   else pure (ForInStep.yield (none,__s.snd.fst+1,0))
  else do
   let __x<-ltAt' (lo+__s.snd.fst-1) (lo+__s.snd.fst)
   match __x with
   |some larger=>
    if larger=true then pure (ForInStep.done (none,__s.snd.fst,__s.snd.snd))
    else pure (ForInStep.yield (none,__s.snd.fst+1,__s.snd.snd+1))
   |_=>pure (ForInStep.done (some none,__s.snd.fst,__s.snd.snd))
 |_=>pure (ForInStep.done (some none,__s.snd.fst,__s.snd.snd))
def Av (lo n nrem:Nat):StateT SortSt Sem (Option Nat):=do
 liftM (rule "list.sort.descending-run")
 let __s<-forIn [n+1:nrem] (none,n+1,0) (Ft lo)
 match __s.fst with
 |some r=>pure r
 |none=>
  if __s.snd.snd>0 then do
   reverseSlice' (lo+__s.snd.fst-(__s.snd.snd+1)) (lo+__s.snd.fst)
   zW lo __s.snd.fst nrem
  else zW lo __s.snd.fst nrem
theorem EU {R:ForInStep (Option (Option Nat)×Nat)->SortSt->Prop} (WM:PK a₀ κ st) (hz:lo+nrem<=a₀.size) (G:n<nrem) (h1:1<=n)
  (z:blt (g (arrOf st)<|lo+n) (g (arrOf st)<|lo+n-1)=true->R (.done (none,n)) st) (hf:blt (g (arrOf st)<|lo+n) (g (arrOf st)<|lo+n-1)=false->R (.yield (none,n+1)) st):wpS (model prog w) A E s (JJ lo i (none,n)) R st:=by
 unfold JJ;refine Wa<|rT L WM (by dsimp only;lia) (by dsimp only;lia) ?_;dsimp only;cases e:blt (g (arrOf st)<|lo+n) (g (arrOf st)<|lo+n-1)with
 |true=>exact Wc<|z e
 |false=>exact Wc<|hf e
theorem rS {Q:Option Nat->SortSt->Prop} (C:R3 blt) (WM:PK a₀ κ st) (h1:1<=n) (z:n<=nrem) (hz:lo+nrem<=a₀.size) (I:Off blt (arrOf st) lo (lo+n))
  (h:∀m st',PK a₀ κ st'->pendingOf st'=pendingOf st->1<=m->m<=nrem->On blt (arrOf st') lo (lo+m)->Qo lo (arrOf st) (arrOf st')->Q (some m) st'):wpS (model prog w) A E s (zW lo n nrem) Q st:=by
 unfold zW;refine Wa<|iY L WM () λst' G O hy=>?_;refine Wa<|Hq L C G h1 z hz (M3 I hy) (λi n R z h1 U hf=>EU L G (i:=i) hz z h1 U hf) (λm ha Y hs _=>?_);exact Wc<|h m st' G O () Y hs λk hk=>by rw[hy k,W6 ()]
theorem Ck {Q:Option Nat->SortSt->Prop} (C:R3 blt) (WM:PK a₀ κ st) (h1:1<=n) (hn:n+1<=nrem) (hz:lo+nrem<=a₀.size) (ho:Off blt (arrOf st) lo (lo+(n+1)))
  (h:∀m st',PK a₀ κ st'->pendingOf st'=pendingOf st->1<=m->m<=nrem->On blt (arrOf st') lo (lo+m)->Qo lo (arrOf st) (arrOf st')->Q (some m) st'):wpS (model prog w) A E s (Av lo n nrem) Q st:=by
 unfold Av;refine Wa<|wpS_lift (WK ⟨M,?_⟩);refine Wa (Wq (I:=λi c st'=>∃q,c=(none,i,q)/\PK a₀ κ st'/\pendingOf st'=pendingOf st/\Qo lo (arrOf st) (arrOf st')/\n+1<=i/\i<=nrem/\q+1<=i/\Off blt (arrOf st') lo (lo+i)/\On blt (arrOf st') (lo+i-(q+1)) (lo+i)) ?_ ?_
  ⟨0,M,WM,M,λ_ _=>M,Q4 _,hn,(),ho,λi j a b c=>()⟩)
 .rintro i c st' a2 a3 ⟨q,rfl,Z,hp,hk,h2,h3,h4,off,on⟩;unfold Ft;refine Wa<|rT L Z (by dsimp only;lia) (by dsimp only;lia) ?_;dsimp only;cases e:blt (g (arrOf st')<|lo+i) (g (arrOf st')<|lo+i-1)with
  |true=>
   by_cases q0:q>0
   .rw[W7 M,W7 q0];refine Wa<|iY L Z () λst2 B2 Y hy=>?_;refine Wc ⟨0,M,B2,Y.trans hp,λk G=>by rw[hy k,W6 ()];exact hk k G,(),(),(),?_,λi j a b c=>()⟩;refine(uJ () off on hy).snoc C () ?_;rw[hy,hy,W6 (),W7 ()];have z:lo+i-(q+1)+(lo+i)-1-(lo+i-1)=lo+i-(q+1):=();rw[z];exact C.trans (C.of_lt e)<|off _ _ () () ()
   .rw[W7 M,W6 q0];exact Wc ⟨0,M,Z,hp,hk,(),(),(),off.snoc C ()<|C.of_lt e,λi j a b c=>()⟩
  |false=>
   simp only[ZX,if_false];refine Wa<|rT L Z () () ?_;dsimp only;cases e2:blt (g (arrOf st')<|lo+i-1) (g (arrOf st')<|lo+i)with
   |true=>
    simp only[if_true];refine Wc ?_;dsimp only;by_cases q0:q>0
    .rw[W7 q0];refine Wa<|iY L Z () λst2 B2 Y hy=>?_;refine rS L C B2 () h3 hz (uJ () off on hy) λm O B3 U a b c d=>h m O B3 (U.trans<|Y.trans hp) a b c λk G=>?_;rw[d k G,hy k,W6 ()];exact hk k G
    .rw[W6 q0];exact rS L C Z () h3 hz off λm O B3 U a b c d=>h m O B3 (U.trans hp) a b c λk G=>(d k G).trans (hk k G)
   |false=>
    simp only[ZX,if_false];refine Wc ⟨q+1,M,Z,hp,hk,(),(),(),off.snoc C () e2,?_⟩;have z:lo+(i+1)-(q+1+1)=lo+i-(q+1):=();rw[z];intro x y hx hy a4;by_cases a0:y<lo+i
    .exact on x y hx hy a0
    .have ey:y=lo+i:=();subst ey;by_cases a1:x=lo+i-1
     .subst a1;exact e
     .exact C.trans (on x (lo+i-1) hx () ()) e
 .rintro c st' ⟨q,rfl,Z,hp,hk,h2,h3,h4,off,on⟩;have em:max (n+1) nrem=nrem:=Zo hn;rw[em]at h3 h4 off on⊢;dsimp only;by_cases q0:q>0
  .rw[W7 q0];refine Wa<|iY L Z () λst2 B2 Y hy=>?_;refine rS L C B2 () h3 hz (uJ () off on hy) λm O B3 U a b c d=>h m O B3 (U.trans<|Y.trans hp) a b c λk G=>?_;rw[d k G,hy k,W6 ()];exact hk k G
  .rw[W6 q0];exact rS L C Z () h3 hz off λm O B3 U a b c d=>h m O B3 (U.trans hp) a b c λk G=>(d k G).trans (hk k G)
theorem Ho {Q:Option Nat->SortSt->Prop} (C:R3 blt) (WM:PK a₀ κ st) (h1:1<=nrem) (hz:lo+nrem<=a₀.size)
  (h:∀n st',PK a₀ κ st'->pendingOf st'=pendingOf st->1<=n->n<=nrem->On blt (arrOf st') lo (lo+n)->Qo lo (arrOf st) (arrOf st')->Q (some n) st'):wpS (model prog w) A E s (countRun' lo nrem) Q st:=by
 rw[countRun'_eq];dsimp only;refine Wa<|Hq L C WM (Q4 1) h1 hz On.one (λi n R U h1 ht hf=>EU L WM (i:=i) hz U h1 ht hf) (λn ha U hs Y=>?_);dsimp only;by_cases en:n=nrem
 .subst en;simp only[WF,if_true];exact Wc<|h n st WM M ha U hs λ_ _=>M
 .have eb:(n==nrem)=false:=Wo.mpr en;simp only[eb,ZX,if_false];have G:=Y ();by_cases n1:n>1
  .rw[W7 n1];refine Wa<|rT L WM () () ?_;dsimp only;cases e:blt (g (arrOf st) lo) (g (arrOf st)<|lo+n-1)with
   |true=>
    simp only[if_true];exact Wc<|h n st WM M ha U hs λ_ _=>M
   |false=>
    simp only[ZX,if_false];refine Wa<|iY L WM () λst2 B2 Z hy=>?_;have off:Off blt (arrOf st2) lo (lo+(n+1)):=by
     refine(KS hs hy).snoc C ha ?_;rw[hy,hy,W6 (),W7 ()];have z:lo+(lo+n)-1-(lo+n-1)=lo:=();rw[z];exact C.trans (C.of_lt G) e
    refine Hr (m':=Av lo n nrem) (by
      unfold Av zW JJ Ft;congr 1;funext _u;congr 1;funext s2;obtain⟨O,n2,q2⟩:=s2;cases O with
      |some O=>rfl
      |none=>
       dsimp only;split
       .congr 1;funext _v;congr 1;funext _w;congr 1;funext s3;obtain⟨I,n3⟩:=s3;cases I<;>rfl
       .congr 1;funext _w;congr 1;funext s3;obtain⟨I,n3⟩:=s3;cases I<;>rfl)<|Ck L C B2 ha () hz off λm a0 B3 a1 a b c d=>h m a0 B3 (a1.trans Z) a b c λk hk=>by rw[d k hk,hy k,W6 ()]
  .rw[W6 n1];have e1:n=1:=();subst e1;refine Hr (m':=Av lo 1 nrem) (by
      unfold Av zW JJ Ft;congr 1;funext _u;congr 1;funext s2;obtain⟨O,n2,q2⟩:=s2;cases O with
      |some O=>rfl
      |none=>
       dsimp only;split
       .congr 1;funext _v;congr 1;funext _w;congr 1;funext s3;obtain⟨I,n3⟩:=s3;cases I<;>rfl
       .congr 1;funext _w;congr 1;funext s3;obtain⟨I,n3⟩:=s3;cases I<;>rfl) (Ck L C WM ha () hz (Off.one.snoc C (Q4 1)<|C.of_lt G) h)
omit L in
theorem ET {k l:Nat} (WM:PK a₀ κ st) (hk:k<a₀.size) (hl:l<=k)
  (h:∀st',PK a₀ κ st'->pendingOf st'=pendingOf st->(∀j,g (arrOf st') j=if j=l then g (arrOf st) k else if l<j/\j<=k then g (arrOf st) (j-1)else g (arrOf st) j)->Q Unit.unit st'):
  wpS (model prog w) A E s (moveDown' k l) Q st:=by
 rw[moveDown'_eq];refine Wy<|h _ ⟨WM.kind,WM.fine,(bubble_perm _ _ _).trans WM.perm⟩ M λj=>?_;have e:=Jh (xs:=arrOf st) (src:=k) (d:=k-l) (by rwa[WM.size]) () j;have z:k-(k-l)=l:=();rw[z]at e;exact e
theorem FO {ok:Nat} {Q:Bool->SortSt->Prop} (C:R3 blt) (WM:PK a₀ κ st) (h1:1<=ok) (hok:ok<=n) (hz:lo+n<=a₀.size) (hs:On blt (arrOf st) lo (lo+ok))
  (h:∀st',PK a₀ κ st'->pendingOf st'=pendingOf st->On blt (arrOf st') lo (lo+n)->Qo lo (arrOf st) (arrOf st')->Q true st'):wpS (model prog w) A E s (binarySort' lo n ok) Q st:=by
 rw[binarySort'_eq];dsimp only;have em:max ok 1=ok:=Nat.max_eq_left h1;rw[em];refine Wa (Wq (I:=λi c st'=>c=(none,Unit.unit)/\PK a₀ κ st'/\pendingOf st'=pendingOf st/\Qo lo (arrOf st) (arrOf st')/\ok<=i/\i<=n/\On blt (arrOf st') lo (lo+i)) ?_ ?_
  ⟨M,WM,M,λ_ _=>M,Q4 _,hok,hs⟩)
 .rintro k c st' aa ab ⟨rfl,Y,hp,hk,h2,h3,G⟩;refine Wa (Wq (I:=λi c st2=>st2=st'/\∃l r,c=(none,l,r)/\l<=r/\r<=k/\r-l<=k-i/\(∀j,j<l->le blt (g (arrOf st')<|lo+j) (g (arrOf st')<|lo+k))/\(∀j,r<=j->j<k->le blt (g (arrOf st')<|lo+k) (g (arrOf st')<|lo+j))) ?_ ?_
   ⟨M,0,k,M,QF _,Q4 _,Q4 _,λj hj=>Wb hj<|Nat.not_lt_zero _,λj a b=>()⟩)
  .rintro i c st2 ah an ⟨rfl,l,r,rfl,a0,a3,hm,z,above⟩;dsimp only;by_cases Z:l>=r
   .rw[W7 Z];refine Wc ?_;dsimp only;have a4:l=r:=();refine Wa<|ET Y () () λa5 B3 O hy=>Wc ⟨M,B3,O.trans hp,λq hq=>?_,(),(),?_⟩
    .rw[hy q,W6 (),W6 ()];exact hk q hq
    .intro a b ha U hb;rw[hy a,hy b];by_cases b1:b=lo+l
     .rw[W7 b1,W6 (),W6 ()];have:=z (a-lo) ();rwa [show lo+(a-lo)=a by lia]at this
     .rw[W6 b1];by_cases b2:lo+l<b/\b<=lo+k
      .rw[W7 b2];by_cases a1:a=lo+l
       .rw[W7 a1];have:=above (b-1-lo) () ();rwa [show lo+(b-1-lo)=b-1 by lia]at this
       .rw[W6 a1];by_cases a2:lo+l<a/\a<=lo+k
        .rw[W7 a2];exact G _ _ () () ()
        .rw[W6 a2];exact G _ _ () () ()
      .rw[W6 b2,W6 (),W6 ()];exact G _ _ ha U ()
   .rw[W6 Z];refine Wa<|rT L Y () () ?_;dsimp only;cases e:blt (g (arrOf st2)<|lo+k) (g (arrOf st2)<|lo+(l+r)/2)with
    |true=>
     rw[W7 M];refine Wc ⟨M,l,(l+r)/2,M,(),(),(),z,λj a b=>?_⟩;by_cases ej:j=(l+r)/2
     .subst ej;exact C.of_lt e
     .exact C.trans (C.of_lt e)<|G _ _ () () ()
    |false=>
     rw[W6 (_)];refine Wc ⟨M,(l+r)/2+1,r,M,(),(),(),λj a=>?_,above⟩;by_cases ej:j=(l+r)/2
     .subst ej;exact e
     .exact C.trans (G _ _ () () ()) e
  .rintro c st2 ⟨rfl,l,r,rfl,a0,a3,hm,z,above⟩;have ek:max 0 k=k:=Zo (QF _);rw[ek]at hm;have a4:l=r:=();dsimp only;refine Wa<|ET Y () () λa5 B3 O hy=>Wc ⟨M,B3,O.trans hp,λq hq=>?_,(),(),?_⟩
   .rw[hy q,W6 (),W6 ()];exact hk q hq
   .intro a b ha U hb;rw[hy a,hy b];by_cases b1:b=lo+l
    .rw[W7 b1,W6 (),W6 ()];have:=z (a-lo) ();rwa [show lo+(a-lo)=a by lia]at this
    .rw[W6 b1];by_cases b2:lo+l<b/\b<=lo+k
     .rw[W7 b2];by_cases a1:a=lo+l
      .rw[W7 a1];have:=above (b-1-lo) () ();rwa [show lo+(b-1-lo)=b-1 by lia]at this
      .rw[W6 a1];by_cases a2:lo+l<a/\a<=lo+k
       .rw[W7 a2];exact G _ _ () () ()
       .rw[W6 a2];exact G _ _ () () ()
     .rw[W6 b2,W6 (),W6 ()];exact G _ _ ha U ()
 .rintro c st' ⟨rfl,Y,hp,hk,h2,h3,G⟩;have e:max ok n=n:=Zo hok;rw[e]at G;exact Wc (h st' Y hp G hk)
noncomputable def Lj:Bool->Keyed->Array Keyed->Nat->Nat->Nat->StateT SortSt Sem (Option Nat):=sortPriv%PySem.Builtin.gallop
omit L in
theorem zS {f:Nat->Option γ×Nat×Nat->StateT SortSt Sem (ForInStep<|Option γ×Nat×Nat)} {Q:Option γ×Nat×Nat->SortSt->Prop} (G:Nat->Bool) (mono:∀i j,i<=j->j<n->G j=true->G i=true)
  (hf:∀(i lo hi:Nat) (R:ForInStep (Option γ×Nat×Nat)->SortSt->Prop),hi<=n->(lo>=hi->R (.done (none,lo,hi)) st)->(lo<hi->G (lo+(hi-lo)/2)=true->R (.yield (none,lo+(hi-lo)/2+1,hi)) st)->(lo<hi->G (lo+(hi-lo)/2)=false->R (.yield (none,lo,lo+(hi-lo)/2)) st)->wpS (model prog w) A E s (f i (none,lo,hi)) R st)
  (h1:lo<=hi) (h2:hi<=n) (ht:∀i,i<lo->G i=true) (hF:∀i,hi<=i->i<n->G i=false)
  (h:∀k,k<=n->(∀i,i<k->G i=true)->(∀i,k<=i->i<n->G i=false)->Q (none,k,k) st):wpS (model prog w) A E s (forIn [0:n] (none,lo,hi) f) Q st:=by
 refine Wq (I:=λi c st'=>st'=st/\∃lo hi,c=(none,lo,hi)/\lo<=hi/\hi<=n/\hi-lo<=n-i/\(∀i,i<lo->G i=true)/\(∀i,hi<=i->i<n->G i=false)) ?_ ?_
  ⟨M,lo,hi,M,h1,h2,(),ht,hF⟩
 .rintro i c st' a0 a1 ⟨rfl,lo,hi,rfl,g1,O,Z,U,Y⟩;refine hf i lo hi _ O (λz=>?_) (λz e=>?_)<|λz e=>?_
  .have e:lo=hi:=();subst e;exact h lo O U Y
  .exact⟨M,_,_,M,(),O,(),λj hj=>mono j _ () () e,Y⟩
  .refine⟨M,_,_,M,(),(),(),U,λj a b=>?_⟩;cases q:G j with
   |false=>rfl
   |true=>rw[mono _ j a b q]at e;cases e
 .rintro c st' ⟨rfl,lo,hi,rfl,g1,O,Z,U,Y⟩;have em:max 0 n=n:=Zo (QF _);rw[em]at Z;have e:lo=hi:=();subst e;exact h lo O U Y
theorem iR {left:Bool} {key:Keyed} {arr:Array Keyed} {base hint:Nat} {Q:Option Nat->SortSt->Prop} (hK:kindOf st=κ) (hk:key∈a₀) (ha:∀i,i<n->base+i<arr.size/\g arr (base+i)∈a₀) (hh:hint<n)
  (U:Nat->Bool) (aa:∀i,i<n->U i=if left=true then blt (g arr<|base+i) key else !blt key (g arr<|base+i)) (mono:∀i j,i<=j->j<n->U j=true->U i=true)
  (h:∀k,k<=n->(∀i,i<k->U i=true)->(∀i,k<=i->i<n->U i=false)->Q (some k) st):wpS (model prog w) A E s (Lj left key arr base n hint) Q st:=by
 have a0:∀(i:Nat) (R:Option Bool->SortSt->Prop),i<n->R (some<|U i) st->wpS (model prog w) A E s (elem' arr (base+i)>>=λx=>if left=true then lt' x key else lt' key x>>=λr=>pure<|r.map λx=>!x) R st:=by
  intro i R hi q;obtain⟨h1,h2⟩:=ha i hi;rw[elem'_eq,eS h1];refine Wa<|Wc ?_;have e:=aa i hi;cases left with
  |true=>
   rw[W7 M]at e⊢;exact L _ _ st R h2 hk hK<|by rw[<-e];exact q
  |false=>
   rw[W6 (_)]at e⊢;refine Wa<|L _ _ st _ hk h2 hK (Wc ?_);show R (some<|!blt key (g arr<|base+i)) st;rw[<-e];exact q
 refine Wa ?_;dsimp only;refine a0 hint _ hh ?_;dsimp only;cases e0:U hint with
 |true=>
  rw[W7 M];refine Wa (WI (Wq (I:=λi c st'=>st'=st/\∃O G,c=(none,O,G)/\O<G/\i+1<=G/\hint+O<n/\U (hint+O)=true)
   (Q:=λc st'=>st'=st/\∃O G,c=(none,O,G)/\O<G/\hint+O<n/\U (hint+O)=true/\(n-hint<=G\/(hint+G<n/\U (hint+G)=false))) ?_ ?_ ⟨M,0,1,M,(),(),(),e0⟩) ?_)
  .rintro i c st' ab ah ⟨rfl,O,G,rfl,a1,a2,Z,Y⟩;dsimp only;by_cases z:G>=n-hint
   .rw[W7 z];exact Wc ⟨M,O,G,M,a1,Z,Y,.inl z⟩
   .rw[W6 z];refine Wa<|a0 (hint+G) _ () ?_;dsimp only;cases e:U (hint+G)with
    |false=>
     rw[W7 (_)];exact Wc ⟨M,O,G,M,a1,Z,Y,.inr ⟨(),e⟩⟩
    |true=>
     rw[W6 (_)];exact Wc ⟨M,G,2*G+1,M,(),(),(),e⟩
  .rintro c st' ⟨rfl,O,G,rfl,a1,a2,Z,Y⟩;have em:max 0 n=n:=Zo (QF _);rw[em]at a2;exact⟨M,O,G,M,a1,Z,Y,.inl ()⟩
  .rintro c st' ⟨rfl,O,G,rfl,a1,Z,Y,a5⟩;dsimp only;refine Wa<|zS U mono (λi lo hi R hn c1 c2 c3=>?_) () () (λi hi=>mono i (hint+O) () Z Y) (λi h1 h2=>?_) λk h1 h2 h3=>?_
   .dsimp only;by_cases z:lo>=hi
    .rw[W7 z];exact Wc<|c1 z
    .rw[W6 z];refine Wa<|a0 _ _ () ?_;dsimp only;cases e:U (lo+(hi-lo)/2)with
     |true=>rw[W7 M];exact Wc<|c2 () e
     |false=>rw[W6 (_)];exact Wc<|c3 () e
   .rcases a5 with z|⟨z1,z2⟩
    .lia
    .cases q:U i with
     |false=>rfl
     |true=>rw[mono (hint+G) i () h2 q]at z2;cases z2
   .exact Wc<|h k h1 h2 h3
 |false=>
  rw[W6 (_)];refine Wa (WI (Wq (I:=λi c st'=>st'=st/\∃O G,c=(none,O,G)/\O<G/\i+1<=G/\O<=hint/\U (hint-O)=false)
   (Q:=λc st'=>st'=st/\∃O G,c=(none,O,G)/\O<G/\O<=hint/\U (hint-O)=false/\(hint+1<=G\/(G<=hint/\U (hint-G)=true))) ?_ ?_ ⟨M,0,1,M,(),(),(),e0⟩) ?_)
  .rintro i c st' ab ah ⟨rfl,O,G,rfl,a1,a2,Z,Y⟩;dsimp only;by_cases z:G>=hint+1
   .rw[W7 z];exact Wc ⟨M,O,G,M,a1,Z,Y,.inl z⟩
   .rw[W6 z];refine Wa<|a0 (hint-G) _ () ?_;dsimp only;cases e:U (hint-G)with
    |true=>
     rw[W7 M];exact Wc ⟨M,O,G,M,a1,Z,Y,.inr ⟨(),e⟩⟩
    |false=>
     rw[W6 (_)];exact Wc ⟨M,G,2*G+1,M,(),(),(),e⟩
  .rintro c st' ⟨rfl,O,G,rfl,a1,a2,Z,Y⟩;have em:max 0 n=n:=Zo (QF _);rw[em]at a2;exact⟨M,O,G,M,a1,Z,Y,.inl ()⟩
  .rintro c st' ⟨rfl,O,G,rfl,a1,Z,Y,a5⟩;dsimp only;refine Wa<|zS U mono (λi lo hi R hn c1 c2 c3=>?_) () () (λi hi=>?_) (λi h1 h2=>?_) λk h1 h2 h3=>?_
   .dsimp only;by_cases z:lo>=hi
    .rw[W7 z];exact Wc<|c1 z
    .rw[W6 z];refine Wa<|a0 _ _ () ?_;dsimp only;cases e:U (lo+(hi-lo)/2)with
     |true=>rw[W7 M];exact Wc<|c2 () e
     |false=>rw[W6 (_)];exact Wc<|c3 () e
   .rcases a5 with z|⟨z1,z2⟩
    .lia
    .exact mono i (hint-G) () () z2
   .cases q:U i with
    |false=>rfl
    |true=>rw[mono (hint-O) i () h2 q]at Y;cases Y
   .exact Wc<|h k h1 h2 h3
end
variable {A:Around} {a₀:Array Keyed} {x:Keyed} {blt:Keyed->Keyed->Bool} {R:Keyed->SortSt->Prop} {all o ra rb:List Keyed} {i n:Nat} {prog:Program} {WM:Prop} {s:Shared} {κ:SortKind} {st:SortSt} {r:Std.Legacy.Range} {α β:Type} {Q:Unit->SortSt->Prop} {E:Value->Shared->Prop} {w:World}
noncomputable def Iv:Array Keyed->Array Keyed->StateT SortSt Sem (Array Keyed):=sortPriv%PySem.Builtin.mergeLo
noncomputable def Iw:Array Keyed->Array Keyed->StateT SortSt Sem (Array Keyed):=sortPriv%PySem.Builtin.mergeHi
abbrev PW (blt:Keyed->Keyed->Bool) (l:List Keyed):Prop:=l.Pairwise (le blt)
structure Lo (blt:Keyed->Keyed->Bool) (all o ra rb:List Keyed):Prop where
 perm:(o++(ra++rb)).Perm all
 srt:PW blt o
 low:∀x∈o,∀y∈ra++rb,le blt x y
theorem Lo.a {G:List Keyed} (h:Lo blt all o (G++ra) rb) (hs:PW blt (G++ra)) (hc:∀x∈G,∀y∈rb,le blt x y):Lo blt all (o++G) ra rb where
 perm:=by
  refine Wx ?_ h.perm;rw[QE,QE]
 srt:=QI.mpr ⟨h.srt,(QI.mp hs).1,λx hx y hy=>h.low x hx y<|by simp[hy]⟩
 low:=λx hx y hy=>by
  rcases Q5.mp hx with q|q
  .exact h.low x q y<|by rcases Q5.mp hy with z|z<;>simp[z]
  .rcases Q5.mp hy with z|z
   .exact(QI.mp hs).2.2 x q y z
   .exact hc x q y z
theorem Lo.b {G:List Keyed} (h:Lo blt all o ra (G++rb)) (hs:PW blt (G++rb)) (hc:∀x∈G,∀y∈ra,le blt x y):Lo blt all (o++G) ra rb where
 perm:=by
  refine Wx ?_ h.perm;rw[QE];refine WE o ?_;rw[<-QE,<-QE];exact Ww rb XH
 srt:=QI.mpr ⟨h.srt,(QI.mp hs).1,λx hx y hy=>h.low x hx y<|by simp[hy]⟩
 low:=λx hx y hy=>by
  rcases Q5.mp hx with q|q
  .exact h.low x q y<|by rcases Q5.mp hy with z|z<;>simp[z]
  .rcases Q5.mp hy with z|z
   .exact hc x q y z
   .exact(QI.mp hs).2.2 x q y z
theorem Lo.endA (h:Lo blt all o ra []) (hs:PW blt ra):(o++ra).Perm all/\PW blt (o++ra):=
 ⟨by simpa using h.perm,QI.mpr ⟨h.srt,hs,λx hx y hy=>h.low x hx y<|by simp[hy]⟩⟩
theorem Lo.endB {z:Keyed} (h:Lo blt all o [z] rb) (hs:PW blt rb) (hz:∀x∈rb,le blt x z):(o++(rb++ [z])).Perm all/\PW blt (o++(rb++ [z])):=by
 refine⟨Wx (WE o XH) h.perm,QI.mpr ⟨h.srt,QI.mpr ⟨hs,ZN _ _,λx hx y hy=>?_⟩,λx hx y hy=>h.low x hx y ?_⟩⟩
 .rw[Q7.mp hy];exact hz x hx
 .rcases Q5.mp hy with q|q<;>simp_all
theorem ya {a:Array Keyed} (h:i<a.size):a.toList.drop i=g a i::a.toList.drop (i+1):=by
 have e:=eS h;rw[<-QZ]at e;obtain⟨h1,h2⟩:=Q1.mp e;rw[ZG h1,h2]
theorem mn {a:Array Keyed} (h:x∈a.toList.drop i):∃j,i<=j/\j<a.size/\x=g a j:=by
 obtain⟨k,hk,e⟩:=XS.mp h;rw[Zf]at hk;have hs:i+k<a.size:=by rw[<-Q9];lia
 refine⟨i+k,(),hs,?_⟩;have e2:=eS hs;rw[<-QZ]at e2;rw[XD]at e;rw[Q3 (by rwa[Q9])]at e2;rw[<-e];exact W8 e2
theorem jh {a:Array Keyed} (h:On blt a 0 a.size) (i:Nat):PW blt (a.toList.drop i):=by
 refine Zu.mpr λj k G hk I=>?_;rw[Zf,Q9]at G hk;have z:=eS (xs:=a) (i:=i+j) ();have e2:=eS (xs:=a) (i:=i+k) ();rw[<-QZ,Q3 (by rw[Q9];lia)]at z e2;rw[XD,XD,W8 z,W8 e2];exact h _ _ (QF _) () ()
theorem Ig {a:Array Keyed} (h:PW blt a.toList):On blt a 0 a.size:=λi j _ z I=>by
 have G:=eS (xs:=a) (i:=i) ();have e2:=eS (xs:=a) (i:=j) I;rw[<-QZ,Q3 (by rw[Q9];lia)]at G e2;rw[<-W8 G,<-W8 e2];exact Zu.mp h i j _ _ z
theorem tD (a:Array Keyed) (i k:Nat):(a.extract i<|i+k).toList=(a.toList.drop i).take k:=by
 rw[ZL,Zv];congr 1;lia
theorem iS (a:Array Keyed) (i:Nat):(a.extract i).toList=a.toList.drop i:=by
 rw[ZL,Zv,QT];rw[Zf,Q9];exact Q4 _
theorem Ix {a:Array Keyed} {k:Nat} (h:x∈(a.toList.drop i).take k):∃j,j<k/\x=g a (i+j):=by
 obtain⟨j,z,e⟩:=XS.mp h;rw[Q6,Zf,Q9]at z;refine⟨j,(),?_⟩;have e2:=eS (xs:=a) (i:=i+j) ();rw[<-QZ,Q3 (by rw[Q9];lia)]at e2;rw[Xk,XD]at e;rw[<-e];exact W8 e2
theorem Df (l:List Keyed) (i k:Nat):l.drop i=(l.drop i).take k++l.drop (i+k):=by
 rw[<-VY,Zi]
theorem Fi {P H:α->Prop} (body:(∀x,H x->P x)->WM) (last:∀x,H x->P x):WM:=body last
theorem sT {P H:α->β->Prop} (body:(∀x y,H x y->P x y)->WM) (last:∀x y,H x y->P x y):WM:=body last
structure PU (st st':SortSt):Prop where
 kind:kindOf st'=kindOf st
 arr:arrOf st'=arrOf st
 pend:pendingOf st'=pendingOf st
 fail:failedOf st'=failedOf st
theorem PU.refl (st:SortSt):PU st st:=⟨M,M,M,M⟩
section
theorem bS {arr:Array Keyed} (h:i<arr.size) (q:R (g arr i) st):wpS (model prog w) A E s (elem' arr i) R st:=by
 rw[elem'_eq,eS h];exact Wc q
noncomputable def D9:Nat->StateT SortSt Sem Unit:=sortPriv%PySem.Builtin.setMinGallop
theorem Hn {m:Nat} (h:∀st',PU st st'->Q Unit.unit st'):wpS (model prog w) A E s (D9 m) Q st:=Wy (h _ ⟨M,M,M,M⟩)
theorem nmK {m:StateT SortSt Sem α} {k:α->StateT SortSt Sem β} {Q:β->SortSt->Prop} (h:let k':=k;wpS (model prog w) A E s (m>>=k') Q st):wpS (model prog w) A E s (m>>=k) Q st:=h
theorem nmF {γ:Type} {c:β} {f:Nat->β->StateT SortSt Sem (ForInStep β)} {k:β->StateT SortSt Sem γ} {Q:γ->SortSt->Prop} (h:let z:=f;let k':=k;wpS (model prog w) A E s (forIn r c z>>=k') Q st):wpS (model prog w) A E s (forIn r c f>>=k) Q st:=h
inductive MQ {δ:Type} (Q:Array Keyed->Prop) (I:Option (Array Keyed)×δ->Prop):Option (Array Keyed)×δ->Prop
 |ret {res x} (q:Q res):MQ Q I (some res,x)
 |go {c} (h:I c):MQ Q I c
inductive S0 (blt:Keyed->Keyed->Bool) (a b:Array Keyed) {τ:Type} (n:Nat):Option (Array Keyed)×Array Keyed×Nat×Nat×τ->Prop
 |mk {out ia ib x} (ha:ia+1<a.size) (hb:ib<b.size) (hn:n<=ia+ib) (lo:Lo blt (a.toList++b.toList) out.toList (a.toList.drop ia) (b.toList.drop ib)):S0 blt a b n (none,out,ia,ib,x)
theorem PU.trans {st' st2:SortSt} (h:PU st st') (k:PU st' st2):PU st st2:=⟨k.kind.trans h.kind,k.arr.trans h.arr,k.pend.trans h.pend,k.fail.trans h.fail⟩
theorem Ir {a:Array Keyed} (C:R3 blt) (G:On blt a 0 a.size) (ka:Nat) (x:Keyed) (i j:Nat) (h1:i<=j) (h2:ka+j<a.size) (z:(!blt x (g a<|ka+j))=true):(!blt x (g a<|ka+i))=true:=by
 have z:blt x (g a<|ka+j)=false:=by simpa using z
 by_cases e:i=j
 .subst e;simpa using z
 .have:=C.trans (G (ka+i) (ka+j) (QF _) () h2) z;simpa using this
theorem Iq {b:Array Keyed} (C:R3 blt) (ob:On blt b 0 b.size) (G:Nat) (x:Keyed) (i j:Nat) (h1:i<=j) (h2:G+j<b.size) (I:blt (g b<|G+j) x=true):blt (g b<|G+i) x=true:=by
 by_cases e:i=j
 .subst e;exact I
 .have q:=ob (G+i) (G+j) (QF _) () h2;cases z:blt (g b<|G+i) x with
  |true=>rfl
  |false=>
   have f:blt (g b<|G+j) x=false:=C.trans z q;rw[I]at f;cases f
variable (L:Cb prog w A E s a₀ κ blt)
include L
theorem DQ {a b:Array Keyed} {Q:Array Keyed->SortSt->Prop} (C:R3 blt) (hK:kindOf st=κ) (hm:∀x,x∈a.toList++b.toList->x∈a₀) (oa:On blt a 0 a.size) (ob:On blt b 0 b.size) (ha:0<a.size) (hb:0<b.size)
  (a5:blt (g b 0) (g a 0)=true) (ax:∀j,j<b.size->blt (g b j) (g a<|a.size-1)=true)
  (h:∀res st',PU st st'->res.toList.Perm (a.toList++b.toList)->PW blt res.toList->Q res st'):wpS (model prog w) A E s (Iv a b) Q st:=by
 have ma:∀i,i<a.size->g a i∈a₀:=λi hi=>hm _ (by have:=Ao hi;simp[this]);have mb:∀i,i<b.size->g b i∈a₀:=λi hi=>hm _ (by have:=Ao hi;simp[this]);have b2:∀(o:List Keyed) (G:Nat) (st':SortSt) (res:Array Keyed),PU st st'->Lo blt (a.toList++b.toList) o (a.toList.drop G) []->res.toList=o++a.toList.drop G->Q res st':=λo G st' res lk lo e=>by
  obtain⟨p1,p2⟩:=lo.endA (jh oa G);exact h res st' lk (by rwa[e])<|by rwa[e]
 have b3:∀(o:List Keyed) (O:Nat) (st':SortSt) (res:Array Keyed),PU st st'->Lo blt (a.toList++b.toList) o (a.toList.drop<|a.size-1) (b.toList.drop O)->res.toList=o++(b.toList.drop O++a.toList.drop (a.size-1))->Q res st':=λo O st' res lk lo e=>by
  have ez:a.toList.drop (a.size-1)=[g a (a.size-1)]:=by
   rw[ya (),ZT (by rw[Q9];lia)]
  rw[ez]at lo e;obtain⟨p1,p2⟩:=lo.endB (jh ob O) (λx hx=>by
   obtain⟨j,_,hj,rfl⟩:=mn hx;exact C.of_lt<|ax j hj)
  exact h res st' lk (by rwa[e])<|by rwa[e]
 have aa:∀(out:Array Keyed) (G O k:Nat),Lo blt (a.toList++b.toList) out.toList (a.toList.drop G) (b.toList.drop O)->(∀i,i<k->blt (g b O) (g a<|G+i)=false)->
   Lo blt (a.toList++b.toList) (out++a.extract G (G+k)).toList (a.toList.drop<|G+k) (b.toList.drop O):=λout G O k lo hk=>by
  rw[Zj,tD];have pa:=jh oa G;rw[Df a.toList G k]at lo pa;refine lo.a pa λx hx y hy=>?_;obtain⟨i,hi,rfl⟩:=Ix hx;obtain⟨j,bb,bc,rfl⟩:=mn hy;rcases Nat.eq_or_lt_of_le bb with ej|ej
  .rw[<-ej];exact hk i hi
  .exact C.trans (hk i hi)<|ob O j (QF _) ej bc
 have ab:∀(out:Array Keyed) (G O k:Nat),Lo blt (a.toList++b.toList) out.toList (a.toList.drop G) (b.toList.drop O)->(∀i,i<k->blt (g b<|O+i) (g a G)=true)->
   Lo blt (a.toList++b.toList) (out++b.extract O (O+k)).toList (a.toList.drop G) (b.toList.drop<|O+k):=λout G O k lo hk=>by
  rw[Zj,tD];have pb:=jh ob O;rw[Df b.toList O k]at lo pb;refine lo.b pb λx hx y hy=>?_;obtain⟨i,hi,rfl⟩:=Ix hx;obtain⟨j,bb,bc,rfl⟩:=mn hy;have l1:=C.of_lt (hk i hi);rcases Nat.eq_or_lt_of_le bb with ej|ej
  .rwa[<-ej]
  .exact C.trans l1<|oa G j (QF _) ej bc
 have one:∀(x:Array Keyed) (i:Nat),i<x.size->(x.extract i<|i+1)= #[g x i]:=λx i hi=>by
  apply Array.ext';rw[tD,ya hi];rfl
 have b6:∀(out:Array Keyed) (G O:Nat),G<a.size->O<b.size->Lo blt (a.toList++b.toList) out.toList (a.toList.drop G) (b.toList.drop O)->blt (g b O) (g a G)=true->
   Lo blt (a.toList++b.toList) (out.push<|g b O).toList (a.toList.drop G) (b.toList.drop<|O+1):=λout G O h1 h2 lo hk=>by
  have:=ab out G O 1 lo λi hi=>by rwa[Nat.lt_one_iff.mp hi]
  rwa [one b O h2,<-XT]at this
 have b7:∀(out:Array Keyed) (G O:Nat),G<a.size->O<b.size->Lo blt (a.toList++b.toList) out.toList (a.toList.drop G) (b.toList.drop O)->blt (g b O) (g a G)=false->
   Lo blt (a.toList++b.toList) (out.push<|g a G).toList (a.toList.drop<|G+1) (b.toList.drop O):=λout G O h1 h2 lo hk=>by
  have:=aa out G O 1 lo λi hi=>by rwa[Nat.lt_one_iff.mp hi]
  rwa [one a G h1,<-XT]at this
 have endA:∀(out:Array Keyed) (G O:Nat) (st':SortSt),PU st st'->b.size<=O->Lo blt (a.toList++b.toList) out.toList (a.toList.drop G) (b.toList.drop O)->Q (out++a.extract G++b.extract O) st':=λout G O st' lk hb lo=>by
  have en:b.toList.drop O=[]:=ZT (by rwa[Q9]);rw[en]at lo;refine b2 _ G st' _ lk lo ?_;rw[Zj,Zj,iS,iS,en,ZB]
 have endB:∀(out:Array Keyed) (G O:Nat) (st':SortSt),PU st st'->G+1=a.size->Lo blt (a.toList++b.toList) out.toList (a.toList.drop G) (b.toList.drop O)->Q (out++b.extract O++a.extract G) st':=λout G O st' lk ha lo=>by
  have en:G=a.size-1:=by rw[<-ha,Nat.add_sub_cancel]
  refine b3 out.toList O st' _ lk (by rwa[<-en]) ?_;rw[Zj,Zj,iS,iS,<-en,QE]
 refine Wa ?_;dsimp only;refine wpS_lift<|WK ⟨M,?_⟩;refine nmK ?_;intro k0;refine Wa<|bS hb ?_;have start:Lo blt (a.toList++b.toList) [g b 0] (a.toList.drop 0) (b.toList.drop 1):=by
  have l0:Lo blt (a.toList++b.toList) [] (a.toList.drop 0) ([g b 0]++b.toList.drop 1):=by
   refine⟨?_,Ws,λx hx=>Wb hx ZW⟩;have e:=ya hb;rw[ZM]at e;rw[ZM,VS,List.singleton_append,<-e]
  have:=l0.b (by have:=jh ob 0;rw[ya hb]at this;exact this) (λx hx y hy=>by
   rw[Q7.mp hx];obtain⟨j,_,hj,rfl⟩:=mn hy;by_cases j0:j=0
   .rw[j0];exact C.of_lt a5
   .exact C.trans (C.of_lt a5)<|oa 0 j (Q4 _) (XZ j0) hj)
  simpa using this
 dsimp only[k0];by_cases b1:1=b.size
 .have eb:(1==b.size)=true:=Wk.mpr b1;rw[W7 eb];refine Wc ?_;have en:b.toList.drop 1=[]:=ZT (by rw[Q9];exact Zr b1.symm);rw[en]at start;refine b2 _ 0 st _ (PU.refl _) start ?_;simp[b1]
 .have eb:¬(1==b.size)=true:=by simpa using b1
  rw[W6 eb];by_cases a1:0+1=a.size
  .have ea:(0+1==a.size)=true:=Wk.mpr a1;rw[W7 ea];refine Wc ?_;have e0:a.size-1=0:=by rw[<-a1]
   refine b3 [g b 0] 1 st _ (PU.refl _) (by rw[e0];exact start) ?_;rw[e0,Zj,Zj,iS,iS,QE]
  .have ea:¬(0+1==a.size)=true:=by simpa using a1
   rw[W6 ea];refine nmK ?_;intro k1;refine Wa<|WJ ?_;dsimp only[k1];refine nmF ?_;intro f1 k2;refine Wa (WI (Wq (I:=λi c st'=>PU st st'/\S0 blt a b i c) (Q:=λc st'=>MQ (Q · st') (λ_=>False) c) ?_ ?_ ⟨PU.refl _,Zh ha a1,Zh hb b1,QF _,start⟩) ?_)
   .rintro i c st'- -⟨lk,@⟨out,G,O,mg,c4,hb1,hi,lo⟩⟩;have c5:kindOf st'=κ:=lk.kind.trans hK;dsimp only[f1];refine nmF ?_;intro f2 k3;refine Wa (WI (Wq (I:=λ_ c st2=>st2=st'/\S0 blt a b i c) (Q:=λc st2=>st2=st'/\MQ (Q · st') (S0 blt a b i) c) ?_ (λc st2 h=>⟨h.1,.go h.2⟩) ⟨M,c4,hb1,hi,lo⟩) ?_)
    .rintro j c st2- -⟨rfl,@⟨out,ja,jb,x,ah,Z,U,lo⟩⟩;dsimp only[f2];have b8:=VB ah;refine Wa<|bS Z (Wa<|bS b8<|Wa<|L _ _ _ _ (mb jb Z) (ma ja b8) c5 ?_);dsimp only;cases e:blt (g b jb) (g a ja)with
     |true=>
      rw[W7 M];have a2:=b6 out ja jb b8 Z lo e;refine Wa<|bS Z ?_;by_cases z:jb+1=b.size
      .rw[W7 (Wk.mpr z)];exact Wc ⟨M,.ret<|endA _ ja (jb+1) _ lk (Zr z.symm) a2⟩
      .rw[W6 (by simpa using z)];have hz:jb+1<b.size:=Zh Z z;have U:=ZO U;split
       .exact Wc ⟨M,.go ⟨ah,hz,U,a2⟩⟩
       .exact Wc ⟨M,ah,hz,U,a2⟩
     |false=>
      rw[W6 (_)];have a2:=b7 out ja jb b8 Z lo e;refine Wa<|bS b8 ?_;by_cases z:ja+1+1=a.size
      .rw[W7 (Wk.mpr z)];exact Wc ⟨M,.ret<|endB _ (ja+1) jb _ lk z a2⟩
      .rw[W6 (by simpa using z)];have hz:ja+1+1<a.size:=Zh ah z;have U:i<=ja+1+jb:=by rw[Nat.add_right_comm];exact ZO U
       split
       .exact Wc ⟨M,.go ⟨hz,Z,U,a2⟩⟩
       .exact Wc ⟨M,hz,Z,U,a2⟩
    .rintro c st2 ⟨rfl,⟨q⟩| @⟨_,@⟨out,ja,jb,x,ah,Z,U,lo⟩⟩⟩
     .exact Wc<|.ret q
     .dsimp only[k3];refine nmK ?_;intro k5;refine Wa<|wpS_lift (WK ⟨M,?_⟩);dsimp only[k5];refine nmF ?_;intro f3 k6;refine Wa (WI (Wq (I:=λj c a3=>PU st a3/\S0 blt a b (i+j) c) (Q:=λc a3=>PU st a3/\MQ (Q · a3) (S0 blt a b<|i+1) c) ?_ ?_ ⟨lk,ah,Z,U,lo⟩) ?_)
      .rintro j c a3- -⟨a4,@⟨out,ka,Y,⟨m',x⟩,ba,a0,U,lo⟩⟩;dsimp only[f3];apply Fi (α:=Nat) (H:=λ_=>True)
       .intro key;by_cases m1:m'>1
        .rw[W7 m1];generalize m'-1=mm;exact key mm trivial
        .rw[W6 m1];exact key m' trivial
       intro mm _;refine nmK ?_;intro k7;refine Wa<|Hn λc9 lk4=>?_;replace lk4:=a4.trans lk4;have br:kindOf c9=κ:=lk4.kind.trans hK;dsimp only[k7];refine nmK ?_;intro k8;refine Wa<|bS a0 ?_;refine nmK ?_;intro k9;have ca:=VB ba;refine Wa<|iR L br (mb Y a0) (λi hi=>⟨ZH hi,ma _<|ZH hi⟩) (VC ca) (λi=>!blt (g b Y) (g a<|ka+i)) (λi hi=>M) (λi j h1 h2 h3=>Ir C oa ka _ i j h1 (ZH h2) h3) λk cb be bt=>?_;have c0:k<a.size-ka:=by
        rcases Nat.lt_or_ge k (a.size-ka)with z|z
        .exact z
        .have f:=be (a.size-1-ka) ();rw[show ka+(a.size-1-ka)=a.size-1 by lia,ax Y a0]at f;cases f
       have c3:∀i,i<k->blt (g b Y) (g a<|ka+i)=false:=λi hi=>by have:=be i hi;simpa using this
       have bw:blt (g b Y) (g a<|ka+k)=true:=by have:=bt k (Q4 _) c0;simpa using this
       clear cb be bt;dsimp only[k9];apply sT (H:=λ(kc:Nat) (o':Array Keyed)=>ka<=kc/\kc+1<a.size/\Lo blt (a.toList++b.toList) o'.toList (a.toList.drop kc) (b.toList.drop Y)/\blt (g b Y) (g a kc)=true)
       .intro key;by_cases k0:k>0
        .rw[W7 k0];have lo1:=aa out ka Y k lo c3;by_cases z:ka+k+1=a.size
         .rw[W7 (Wk.mpr z)];exact Wc ⟨lk4,.ret<|endB _ (ka+k) Y _ lk4 z lo1⟩
         have kk:=ZH c0;have zz:¬ka+k=a.size:=Za kk;rw[W6 (by simpa using z),W6 (by simpa using zz)];have k5:ka<=ka+k/\ka+k+1<a.size:=⟨Nat.le_add_right _ _,Zh kk z⟩;have bv:=bw;generalize out++a.extract ka (ka+k)=o' at lo1⊢;generalize ka+k=kc at lo1 bv k5⊢;exact key kc o' ⟨k5.1,k5.2,lo1,bv⟩
        .rw[W6 k0];have bv:=bw;rw[Nat.eq_zero_of_not_pos k0,XC]at bv;exact key ka out ⟨Q4 _,ba,lo,bv⟩
       intro kc o' hc;obtain⟨c1,c2,lo1,bw⟩:=hc;refine nmK ?_;intro cc;refine Wa<|bS a0 ?_;have b9:=VB c2;have bf:=b6 _ kc Y b9 a0 lo1 bw;dsimp only[cc];by_cases z2:Y+1=b.size
       .rw[W7 (Wk.mpr z2)];exact Wc ⟨lk4,.ret<|endA _ kc (Y+1) _ lk4 (Zr z2.symm) bf⟩
       rw[W6 (by simpa using z2)];refine nmK ?_;intro ce;refine Wa<|bS b9 ?_;refine nmK ?_;intro cd;have bl:Y+1<b.size:=Zh a0 z2;refine Wa<|iR L br (ma _ b9) (λi hi=>⟨ZH hi,mb _<|ZH hi⟩) (VC bl) (λi=>blt (g b<|Y+1+i)<|g a kc) (λi hi=>M) (λi j h1 h2 h3=>Iq C ob (Y+1) _ i j h1 (ZH h2) h3) λk2 h1 h2 h3=>?_;dsimp only[cd];apply sT (H:=λ(kd:Nat) (o2:Array Keyed)=>Y+1<=kd/\kd<b.size/\Lo blt (a.toList++b.toList) o2.toList (a.toList.drop kc) (b.toList.drop kd)/\blt (g b kd) (g a kc)=false)
       .intro key;by_cases q0:k2>0
        .rw[W7 q0];have an:=ab _ kc (Y+1) k2 bf h2;by_cases z3:Y+1+k2=b.size
         .rw[W7 (Wk.mpr z3)];exact Wc ⟨lk4,.ret<|endA _ kc (Y+1+k2) _ lk4 (Zr z3.symm) an⟩
         rw[W6 (by simpa using z3)];have w3:=h3 k2 (Q4 _) ();have k5:Y+1<=Y+1+k2/\Y+1+k2<b.size:=();generalize o'.push (g b Y)++b.extract (Y+1) (Y+1+k2)=o2 at an⊢;generalize Y+1+k2=kd at an w3 k5⊢;exact key kd o2 ⟨k5.1,k5.2,an,w3⟩
        .rw[W6 q0];have w3:blt (g b<|Y+1) (g a kc)=false:=h3 0 (Nat.le_of_not_lt q0) (VC bl);exact key (Y+1) _ ⟨Q4 _,bl,bf,w3⟩
       intro kd o2 hd;obtain⟨d1,d2,an,w3⟩:=hd;refine Wa<|bS b9 ?_;have bo:=b7 _ kc kd b9 d2 an w3;have U:i+(j+1)<=kc+1+kd:=();by_cases z4:kc+1+1=a.size
       .rw[W7 (Wk.mpr z4)];exact Wc ⟨lk4,.ret<|endB _ (kc+1) kd _ lk4 z4 bo⟩
       rw[W6 (by simpa using z4)];have hz:kc+1+1<a.size:=Zh c2 z4;split
       .exact Wc ⟨lk4,.go ⟨hz,d2,QQ (Xp (Nat.le_add_left 1 j) i) U,bo⟩⟩
       .exact Wc ⟨lk4,hz,d2,U,bo⟩
      .rintro c a3 ⟨a4,@⟨_,ka,Y,_,_,_,U,_⟩⟩;have em:max 0 (a.size+b.size)=a.size+b.size:=Zo (QF _);rw[em]at U;lia
      .rintro c a3 ⟨a4,⟨q⟩| @⟨_,⟨ba,a0,U,lo⟩⟩⟩
       .exact Wc<|.ret q
       .dsimp only[k6];exact Wa<|Wy (Wc ⟨⟨a4.kind,a4.arr,a4.pend,a4.fail⟩,ba,a0,U,lo⟩)
   .rintro c st' ⟨lk,@⟨_,G,O,_,_,_,hi,_⟩⟩;have em:max 0 (a.size+b.size)=a.size+b.size:=Zo (QF _);rw[em]at hi;lia
   .rintro c st' (⟨q⟩|⟨⟨⟩⟩);exact Wc q
end
structure Hi (blt:Keyed->Keyed->Bool) (all o ra rb:List Keyed):Prop where
 perm:((ra++rb)++o).Perm all
 srt:PW blt o
 high:∀x∈ra++rb,∀y∈o,le blt x y
theorem Hi.a {G:List Keyed} (h:Hi blt all o (ra++G) rb) (hs:PW blt (ra++G)) (hc:∀x∈rb,∀y∈G,le blt x y):Hi blt all (G++o) ra rb where
 perm:=by
  refine Wx ?_ h.perm;rw[<-QE];refine Ww o ?_;rw[QE,QE];exact WE ra XH
 srt:=QI.mpr ⟨(QI.mp hs).2.1,h.srt,λx hx y hy=>h.high x (by simp[hx]) y hy⟩
 high:=λx hx y hy=>by
  rcases Q5.mp hy with q|q
  .rcases Q5.mp hx with z|z
   .exact(QI.mp hs).2.2 x z y q
   .exact hc x z y q
  .exact h.high x (by rcases Q5.mp hx with z|z<;>simp[z]) y q
theorem Hi.b {G:List Keyed} (h:Hi blt all o ra (rb++G)) (hs:PW blt (rb++G)) (hc:∀x∈ra,∀y∈G,le blt x y):Hi blt all (G++o) ra rb where
 perm:=by
  refine Wx ?_ h.perm;rw[<-QE];refine Ww o ?_;rw[QE]
 srt:=QI.mpr ⟨(QI.mp hs).2.1,h.srt,λx hx y hy=>h.high x (by simp[hx]) y hy⟩
 high:=λx hx y hy=>by
  rcases Q5.mp hy with q|q
  .rcases Q5.mp hx with z|z
   .exact hc x z y q
   .exact(QI.mp hs).2.2 x z y q
  .exact h.high x (by rcases Q5.mp hx with z|z<;>simp[z]) y q
theorem Hy {a:Array Keyed} (h:i<a.size):a.toList.take (i+1)=a.toList.take i++ [g a i]:=by
 have e:=eS h;rw[<-QZ]at e;rw[QL,e];rfl
theorem jo {a:Array Keyed} (h:x∈a.toList.take n):∃j,j<n/\j<a.size/\x=g a j:=by
 obtain⟨k,hk,e⟩:=XS.mp h;rw[Q6,Q9]at hk;refine⟨k,(),(),?_⟩;have e2:=eS (xs:=a) (i:=k) ();rw[<-QZ,Q3 (by rw[Q9];lia)]at e2;rw[Xk]at e;rw[<-e];exact W8 e2
theorem eZ {a:Array Keyed} (h:x∈(a.extract i n).toList):∃j,i<=j/\j<n/\j<a.size/\x=g a j:=by
 rw[ZL,Zv]at h;obtain⟨k,hk,e⟩:=XS.mp h;rw[Q6,Zf,Q9]at hk;refine⟨i+k,(),(),(),?_⟩;have e2:=eS (xs:=a) (i:=i+k) ();rw[<-QZ,Q3 (by rw[Q9];lia)]at e2;rw[Xk,XD]at e;rw[<-e];exact W8 e2
theorem pQ {a:Array Keyed} (h:On blt a 0 a.size) (n:Nat):PW blt (a.toList.take n):=by
 have:=jh h 0;rw[ZM]at this;exact List.Pairwise.sublist (V2 _ _) this
theorem Cp {a:Array Keyed} (h:i<=n):a.toList.take n=a.toList.take i++(a.extract i n).toList:=by
 rw[ZL,Zv];obtain⟨k,rfl⟩:∃k,n=i+k:=⟨n-i,()⟩;rw[List.take_add,show i+k-i=k by lia]
theorem Lp (a:Array Keyed) (n:Nat):(a.extract 0 n).toList=a.toList.take n:=by
 rw[ZL,Zv,ZM,Nat.sub_zero]
section
inductive Rz (blt:Keyed->Keyed->Bool) (a b:Array Keyed) {τ:Type} (n:Nat):Option (Array Keyed)×Nat×Nat×Array Keyed×τ->Prop
 |mk {na nb out x} (h1:1<=na) (h2:na<=a.size) (h3:2<=nb) (h4:nb<=b.size) (hn:na+nb+n<=a.size+b.size) (lo:Hi blt (a.toList++b.toList) out.reverse.toList (a.toList.take na) (b.toList.take nb)):Rz blt a b n (none,na,nb,out,x)
variable (L:Cb prog w A E s a₀ κ blt)
include L
theorem DS {a b:Array Keyed} {Q:Array Keyed->SortSt->Prop} (C:R3 blt) (hK:kindOf st=κ) (hm:∀x,x∈a.toList++b.toList->x∈a₀) (oa:On blt a 0 a.size) (ob:On blt b 0 b.size) (ha:0<a.size) (hb:0<b.size)
  (ab:blt (g b 0) (g a 0)=true) (bv:∀j,j<b.size->blt (g b j) (g a<|a.size-1)=true)
  (h:∀res st',PU st st'->res.toList.Perm (a.toList++b.toList)->PW blt res.toList->Q res st'):wpS (model prog w) A E s (Iw a b) Q st:=by
 have ma:∀i,i<a.size->g a i∈a₀:=λi hi=>hm _ (by have:=Ao hi;simp[this]);have mb:∀i,i<b.size->g b i∈a₀:=λi hi=>hm _ (by have:=Ao hi;simp[this]);have ah:∀i,i<a.size->blt (g b 0) (g a i)=true:=λi hi=>by
  by_cases i0:i=0
  .rwa[i0]
  .cases z:blt (g b 0) (g a i)with
   |true=>rfl
   |false=>
    have f:blt (g b 0) (g a 0)=false:=C.trans (oa 0 i (Q4 _) () hi) z;rw[ab]at f;cases f
 have an:∀(out:Array Keyed) (G O k:Nat),k<=G->G<=a.size->1<=O->O<=b.size->Hi blt (a.toList++b.toList) out.reverse.toList (a.toList.take G) (b.toList.take O)->(∀i,k<=i->i<G->blt (g b<|O-1) (g a i)=true)->
   Hi blt (a.toList++b.toList) (out++(a.extract k G).reverse).reverse.toList (a.toList.take k) (b.toList.take O):=λout G O k h1 h2 h3 h4 lo hk=>by
  have er:(out++(a.extract k G).reverse).reverse.toList=(a.extract k G).toList++out.reverse.toList:=by simp
  have pa:=pQ oa G;rw[Cp h1]at lo pa;rw[er];refine lo.a pa λx hx y hy=>?_;obtain⟨i,bb,bc,cm,rfl⟩:=eZ hy;obtain⟨j,be,bw,rfl⟩:=jo hx;have l1:=C.of_lt (hk i bb bc);by_cases ej:j=O-1
  .rwa[ej]
  .exact C.trans (ob j (O-1) (QF _) (Zh (V3 be) ej)<|Zc h3 h4) l1
 have ax:∀(out:Array Keyed) (G O k:Nat),k<=O->O<=b.size->1<=G->G<=a.size->Hi blt (a.toList++b.toList) out.reverse.toList (a.toList.take G) (b.toList.take O)->(∀i,k<=i->i<O->blt (g b i) (g a<|G-1)=false)->
   Hi blt (a.toList++b.toList) (out++(b.extract k O).reverse).reverse.toList (a.toList.take G) (b.toList.take k):=λout G O k h1 h2 h3 h4 lo hk=>by
  have er:(out++(b.extract k O).reverse).reverse.toList=(b.extract k O).toList++out.reverse.toList:=by simp
  have pb:=pQ ob O;rw[Cp h1]at lo pb;rw[er];refine lo.b pb λx hx y hy=>?_;obtain⟨i,bb,bc,cm,rfl⟩:=eZ hy;obtain⟨j,be,bw,rfl⟩:=jo hx;have l1:le blt (g a<|G-1) (g b i):=hk i bb bc;by_cases ej:j=G-1
  .rwa[ej]
  .exact C.trans (oa j (G-1) (QF _) (Zh (V3 be) ej)<|Zc h3 h4) l1
 have one:∀(x:Array Keyed) (i:Nat),i<x.size->(x.extract i<|i+1).reverse= #[g x i]:=λx i hi=>by
  have:x.extract i (i+1)= #[g x i]:=by
   apply Array.ext';rw[tD,ya hi];rfl
  rw[this];rfl
 have b7:∀(out:Array Keyed) (G O:Nat),1<=G->G<=a.size->1<=O->O<=b.size->Hi blt (a.toList++b.toList) out.reverse.toList (a.toList.take G) (b.toList.take O)->blt (g b<|O-1) (g a<|G-1)=true->
   Hi blt (a.toList++b.toList) (out.push<|g a<|G-1).reverse.toList (a.toList.take<|G-1) (b.toList.take O):=λout G O h1 h2 h3 h4 lo hk=>by
  have:=an out G O (G-1) (VZ _ _) h2 h3 h4 lo λi hi hj=>by rwa[Nat.le_antisymm (V3 hj) hi]
  rwa [show a.extract (G-1) G=a.extract (G-1) (G-1+1) by rw[Nat.sub_add_cancel h1],one a (G-1) (Zc h1 h2),<-XT]at this
 have b8:∀(out:Array Keyed) (G O:Nat),1<=G->G<=a.size->1<=O->O<=b.size->Hi blt (a.toList++b.toList) out.reverse.toList (a.toList.take G) (b.toList.take O)->blt (g b<|O-1) (g a<|G-1)=false->
   Hi blt (a.toList++b.toList) (out.push<|g b<|O-1).reverse.toList (a.toList.take G) (b.toList.take<|O-1):=λout G O h1 h2 h3 h4 lo hk=>by
  have:=ax out G O (O-1) (VZ _ _) h4 h1 h2 lo λi hi hj=>by rwa[Nat.le_antisymm (V3 hj) hi]
  rwa [show b.extract (O-1) O=b.extract (O-1) (O-1+1) by rw[Nat.sub_add_cancel h3],one b (O-1) (Zc h3 h4),<-XT]at this
 have endA:∀(out:Array Keyed) (G O:Nat) (st':SortSt),PU st st'->G=0->O<=b.size->Hi blt (a.toList++b.toList) out.reverse.toList (a.toList.take G) (b.toList.take O)->Q (a.extract 0 G++b.extract 0 O++out.reverse) st':=λout G O st' lk hn cc lo=>by
  subst hn;have e:(a.extract 0 0++b.extract 0 O++out.reverse).toList=b.toList.take O++out.reverse.toList:=by
   rw[Zj,Zj,Lp,Lp];rfl
  refine h _ st' lk ?_ ?_
  .rw[e];exact lo.perm
  .rw[e];exact QI.mpr ⟨pQ ob O,lo.srt,λx hx y hy=>lo.high x (by simp[hx]) y hy⟩
 have endB:∀(out:Array Keyed) (G O:Nat) (st':SortSt),PU st st'->O=1->G<=a.size->Hi blt (a.toList++b.toList) out.reverse.toList (a.toList.take G) (b.toList.take O)->Q (b.extract 0 O++a.extract 0 G++out.reverse) st':=λout G O st' lk hn cd lo=>by
  subst hn;have e:(b.extract 0 1++a.extract 0 G++out.reverse).toList=(b.toList.take 1++a.toList.take G)++out.reverse.toList:=by
   rw[Zj,Zj,Lp,Lp]
  refine h _ st' lk ?_ ?_
  .rw[e];exact Wx (Ww _ XH) lo.perm
  .rw[e];refine QI.mpr ⟨QI.mpr ⟨pQ ob 1,pQ oa G,λx hx y hy=>?_⟩,lo.srt,λx hx y hy=>lo.high x ?_ y hy⟩
   .obtain⟨i,bb,bc,rfl⟩:=jo hx;obtain⟨j,be,bw,rfl⟩:=jo hy;rw[show i=0 by lia];exact C.of_lt<|ah j bw
   .rcases Q5.mp hx with z|z
    .exact Q5.mpr<|.inr z
    .exact Q5.mpr<|.inl z
 refine Wa ?_;dsimp only;refine wpS_lift<|WK ⟨M,?_⟩;refine nmK ?_;intro k0;refine Wa<|bS () ?_;have start:Hi blt (a.toList++b.toList) (#[g a (a.size-1)]:Array Keyed).reverse.toList (a.toList.take<|a.size-1) (b.toList.take b.size):=by
  have l0:Hi blt (a.toList++b.toList) [] (a.toList.take (a.size-1)++ [g a (a.size-1)]) (b.toList.take b.size):=by
   refine⟨?_,Ws,λx _ y hy=>Wb hy ZW⟩;rw[<-Hy (),show a.size-1+1=a.size by lia,ZB];have e1:a.toList.take a.size=a.toList:=QT (by rw[Q9];exact Q4 _);have e2:b.toList.take b.size=b.toList:=QT (by rw[Q9];exact Q4 _);rw[e1,e2]
  have:=l0.a (by rw[<-Hy ()];exact pQ oa _) (λx hx y hy=>by
   rw[Q7.mp hy];obtain⟨j,_,hj,rfl⟩:=jo hx;exact C.of_lt<|bv j hj)
  exact this
 dsimp only[k0];by_cases a1:a.size-1=0
 .rw[W7 (Wk.mpr a1)];exact Wc<|endA _ (a.size-1) b.size st (PU.refl _) a1 (Q4 _) start
 .rw[W6 (by simpa using a1)];by_cases b1:b.size=1
  .rw[W7 (Wk.mpr b1)];exact Wc<|endB _ (a.size-1) b.size st (PU.refl _) b1 () start
  .rw[W6 (by simpa using b1)];refine nmK ?_;intro k1;refine Wa<|WJ ?_;dsimp only[k1];refine nmF ?_;intro f1 k2;refine Wa (WI (Wq (I:=λi c st'=>PU st st'/\Rz blt a b i c) (Q:=λc st'=>MQ (Q · st') (λ_=>False) c) ?_ ?_ ⟨PU.refl _,(),(),(),Q4 _,(),start⟩) ?_)
   .rintro i c st'- -⟨lk,@⟨G,O,out,mg,co,cd,hb1,cc,hi,lo⟩⟩;have cp:kindOf st'=κ:=lk.kind.trans hK;dsimp only[f1];refine nmF ?_;intro f2 k3;refine Wa (WI (Wq (I:=λ_ c st2=>st2=st'/\Rz blt a b i c) (Q:=λc st2=>st2=st'/\MQ (Q · st') (Rz blt a b i) c) ?_ (λc st2 h=>⟨h.1,.go h.2⟩) ⟨M,co,cd,hb1,cc,hi,lo⟩) ?_)
    .rintro j c st2- -⟨rfl,@⟨ja,jb,out,x,a3,U,b9,Y,Z,lo⟩⟩;dsimp only[f2];have c0:=XE b9;have bf:=Zc c0 Y;have bl:=Zc a3 U;refine Wa<|bS bf (Wa<|bS bl<|Wa<|L _ _ _ _ (mb (jb-1) bf) (ma (ja-1) bl) cp ?_);dsimp only;cases e:blt (g b<|jb-1) (g a<|ja-1)with
     |true=>
      rw[W7 M];have a4:=b7 out ja jb a3 U c0 Y lo e;refine Wa<|bS bl ?_;by_cases z:ja-1=0
      .rw[W7 (Wk.mpr z)];exact Wc ⟨M,.ret<|endA _ (ja-1) jb _ lk z Y a4⟩
      .rw[W6 (by simpa using z)];have h1:=XZ z;have h2:=Zl bl;have h3:ja-1+jb+i<=a.size+b.size:=QQ (Vl (Vl (VZ _ _) _) _) Z;split
       .exact Wc ⟨M,.go ⟨h1,h2,b9,Y,h3,a4⟩⟩
       .exact Wc ⟨M,h1,h2,b9,Y,h3,a4⟩
     |false=>
      rw[W6 (_)];have a4:=b8 out ja jb a3 U c0 Y lo e;refine Wa<|bS bf ?_;by_cases z:jb-1=1
      .rw[W7 (Wk.mpr z)];exact Wc ⟨M,.ret<|endB _ ja (jb-1) _ lk z U a4⟩
      .rw[W6 (by simpa using z)];have h1:2<=jb-1:=();have h2:=Zl bf;have h3:ja+(jb-1)+i<=a.size+b.size:=QQ (Vl (Xp (VZ _ _) _) _) Z;split
       .exact Wc ⟨M,.go ⟨a3,U,h1,h2,h3,a4⟩⟩
       .exact Wc ⟨M,a3,U,h1,h2,h3,a4⟩
    .rintro c st2 ⟨rfl,⟨q⟩| @⟨_,@⟨ja,jb,out,x,a3,U,b9,Y,Z,lo⟩⟩⟩
     .exact Wc<|.ret q
     .dsimp only[k3];refine nmK ?_;intro k5;refine Wa<|wpS_lift (WK ⟨M,?_⟩);dsimp only[k5];refine nmF ?_;intro f3 k6;refine Wa (WI (Wq (I:=λj c a5=>PU st a5/\Rz blt a b (i+j) c) (Q:=λc a5=>PU st a5/\MQ (Q · a5) (Rz blt a b<|i+1) c) ?_ ?_ ⟨lk,a3,U,b9,Y,Z,lo⟩) ?_)
      .rintro j c a5- -⟨aa,@⟨ka,kb,out,⟨m',x⟩,bo,a0,c4,a2,Z,lo⟩⟩;dsimp only[f3];apply Fi (α:=Nat) (H:=λ_=>True)
       .intro key;by_cases m1:m'>1
        .rw[W7 m1];generalize m'-1=mm;exact key mm trivial
        .rw[W6 m1];exact key m' trivial
       intro mm _;refine nmK ?_;intro k7;refine Wa<|Hn λcr lk4=>?_;replace lk4:=aa.trans lk4;have ce:kindOf cr=κ:=lk4.kind.trans hK;dsimp only[k7];refine nmK ?_;intro k8;have c5:=XE c4;have br:=Zc c5 a2;have up:∀{i m n},i<m->m<=n->0+i<n:=λh1 h2=>by rw[XX];exact QU h1 h2
       refine Wa<|bS br ?_;refine nmK ?_;intro k9;refine Wa<|iR L ce (mb (kb-1) br) (λi hi=>⟨up hi a0,ma _<|up hi a0⟩) (Zc bo<|Q4 _) (λi=>!blt (g b<|kb-1) (g a<|0+i)) (λi hi=>M) (λi j h1 h2 h3=>Ir C oa 0 _ i j h1 (up h2 a0) h3) λk cf cg ci=>?_;have b2:∀i,i<k->blt (g b<|kb-1) (g a i)=false:=λi hi=>by have f:=cg i hi;rw[XX]at f;simpa using f
       have cj:∀i,k<=i->i<ka->blt (g b<|kb-1) (g a i)=true:=λi hi hj=>by have f:=ci i hi hj;rw[XX]at f;simpa using f
       clear cg ci;dsimp only[k9];apply sT (H:=λ(kc:Nat) (o':Array Keyed)=>0<kc/\kc<=ka/\(∀i,i<kc->blt (g b<|kb-1) (g a i)=false)/\Hi blt (a.toList++b.toList) o'.reverse.toList (a.toList.take kc) (b.toList.take kb))
       .intro key;by_cases k0:ka-k>0
        .rw[W7 k0];have lo1:=an out ka kb k cf a0 c5 a2 lo cj;by_cases z:k=0
         .rw[W7 (Wk.mpr z)];exact Wc ⟨lk4,.ret<|endA _ k kb _ lk4 z a2 lo1⟩
         rw[W6 (by simpa using z)];generalize out++(a.extract k ka).reverse=o' at lo1⊢;obtain⟨kc,ek⟩:∃kc,kc=k:=⟨_,M⟩;rw[<-ek]at lo1⊢;exact key kc o' ⟨by rw[ek];exact XZ z,by rwa[ek],by rwa[ek],lo1⟩
        .rw[W6 k0];have e0:k=ka:=();rw[e0];exact key ka out ⟨bo,Q4 _,by rwa[<-e0],lo⟩
       intro kc o' hc;obtain⟨c1,c2,b2,lo1⟩:=hc;refine nmK ?_;intro cs;refine Wa<|bS br ?_;have c3:=QQ c2 a0;have b3:=Zc c1 c3;have c9:=b8 _ kc kb c1 c3 c5 a2 lo1 (b2 (kc-1)<|Zc c1<|Q4 _);dsimp only[cs];by_cases z2:kb-1=1
       .rw[W7 (Wk.mpr z2)];exact Wc ⟨lk4,.ret<|endB _ kc (kb-1) _ lk4 z2 c3 c9⟩
       rw[W6 (by simpa using z2)];refine nmK ?_;intro cz;have ca:1<kb-1:=();have ba:=Zl br;refine Wa<|bS b3 ?_;refine nmK ?_;intro ct;refine Wa<|iR L ce (ma _ b3) (λi hi=>⟨up hi ba,mb _<|up hi ba⟩) (Zc (XE ca)<|Q4 _) (λi=>blt (g b<|0+i)<|g a<|kc-1) (λi hi=>M) (λi j h1 h2 h3=>Iq C ob 0 _ i j h1 (up h2 ba) h3) λk2 h1 h2 h3=>?_;have ck:0<k2:=by
        rcases Xf k2 with z|z
        .have f:blt (g b<|0+0) (g a<|kc-1)=false:=h3 0 (Zr z) (XE ca);rw[XC,ah (kc-1) b3]at f;cases f
        .exact z
       have bt:∀i,i<k2->blt (g b i) (g a<|kc-1)=true:=λi hi=>by have f:=h2 i hi;rwa [XX]at f
       have cy:∀i,k2<=i->i<kb-1->blt (g b i) (g a<|kc-1)=false:=λi hi hj=>by have f:=h3 i hi hj;rwa [XX]at f
       clear h2 h3;dsimp only[ct];apply sT (H:=λ(kd:Nat) (o2:Array Keyed)=>1<kd/\kd<=kb-1/\(∀i,i<kd->blt (g b i) (g a<|kc-1)=true)/\Hi blt (a.toList++b.toList) o2.reverse.toList (a.toList.take kc) (b.toList.take kd))
       .intro key;by_cases q0:kb-1-k2>0
        .rw[W7 q0];have b6:=ax _ kc (kb-1) k2 h1 ba c1 c3 c9 cy;by_cases z3:k2=1
         .rw[W7 (Wk.mpr z3)];exact Wc ⟨lk4,.ret<|endB _ kc k2 _ lk4 z3 c3 b6⟩
         have zz:¬k2=0:=Vc ck;rw[W6 (by simpa using z3),W6 (by simpa using zz)];generalize o'.push (g b<|kb-1)++(b.extract k2<|kb-1).reverse=o2 at b6⊢;obtain⟨kd,ed⟩:∃kd,kd=k2:=⟨_,M⟩;rw[<-ed]at b6⊢;exact key kd o2 ⟨by rw[ed];exact Zh ck<|Ne.symm z3,by rwa[ed],by rwa[ed],b6⟩
        .rw[W6 q0];have e2:k2=kb-1:=();rw[e2];exact key (kb-1) _ ⟨ca,Q4 _,by rwa[<-e2],c9⟩
       intro kd o2 hd;obtain⟨d1,d2,bt,b6⟩:=hd;refine Wa<|bS b3 ?_;have d0:=XE d1;have d3:=QQ d2 ba;have cb:=b7 _ kc kd c1 c3 d0 d3 b6 (bt (kd-1)<|Zc d0<|Q4 _);by_cases z4:kc-1=0
       .rw[W7 (Wk.mpr z4)];exact Wc ⟨lk4,.ret<|endA _ (kc-1) kd _ lk4 z4 d3 cb⟩
       rw[W6 (by simpa using z4)];have hz:=XZ z4;have Z:kc-1+kd+(i+(j+1))<=a.size+b.size:=();split
       .exact Wc ⟨lk4,.go ⟨hz,Zl b3,d1,d3,QQ (Xp (Xp (Nat.le_add_left 1 j) i) _) Z,cb⟩⟩
       .exact Wc ⟨lk4,hz,Zl b3,d1,d3,Z,cb⟩
      .rintro c a5 ⟨aa,@⟨ka,kb,_,_,_,_,_,_,Z,_⟩⟩;have em:max 0 (a.size+b.size)=a.size+b.size:=Zo (QF _);rw[em]at Z;lia
      .rintro c a5 ⟨aa,⟨q⟩| @⟨_,⟨bo,a0,c4,a2,Z,lo⟩⟩⟩
       .exact Wc<|.ret q
       .dsimp only[k6];exact Wa<|Wy (Wc ⟨⟨aa.kind,aa.arr,aa.pend,aa.fail⟩,bo,a0,c4,a2,Z,lo⟩)
   .rintro c st' ⟨lk,@⟨_,_,_,_,_,_,_,_,hi,_⟩⟩;have em:max 0 (a.size+b.size)=a.size+b.size:=Zo (QF _);rw[em]at hi;lia
   .rintro c st' (⟨q⟩|⟨⟨⟩⟩);exact Wc q
end
variable {A:Around} {p:Array (Nat×Nat×Nat)} {arr a₀ m xs:Array Keyed} {Q:Bool->SortSt->Prop} {blt:Keyed->Keyed->Bool} {l:List (Nat×Nat×Nat)} {at_ i lo n:Nat} {prog:Program} {s:Shared} {κ:SortKind} {st:SortSt} {α:Type} {E:Value->Shared->Prop} {w:World}
def Ri (arr:Array Keyed) (at_:Nat) (m:Array Keyed):Array Keyed:=m.toList.zipIdx.foldl (λa p=>a.setIfInBounds (at_+p.2) p.1) arr
theorem IK:∀(l:List Keyed) (j:Nat) (arr:Array Keyed) (at_:Nat),at_+j+l.length<=arr.size->
  ((l.zipIdx j).foldl (λa p=>a.setIfInBounds (at_+p.2) p.1) arr).toList=arr.toList.take (at_+j)++l++arr.toList.drop (at_+j+l.length)
 | [],j,arr,at_,h=>by simp
 |x::l,j,arr,at_,h=>by
  rw[List.zipIdx_cons,List.foldl_cons];have hl:at_+j<arr.size:=by simp at h;lia
  have z:=IK l (j+1) (arr.setIfInBounds (at_+j) x) at_ (by simp at h⊢;lia)
  rw[z,W2];have G:(arr.toList.set (at_+j) x).take (at_+(j+1))=arr.toList.take (at_+j)++ [x]:=by
   rw[show at_+(j+1)=at_+j+1 by lia,QL,List.take_set_of_le (Q4 _),Vb (by rwa[Q9])];rfl
  have e2:(arr.toList.set (at_+j) x).drop (at_+(j+1)+l.length)=arr.toList.drop (at_+j+(x::l).length):=by
   rw[List.drop_set_of_lt ()];congr 1;simp;lia
  rw[G,e2,QE,QE,QE];rfl
theorem C8 (h:at_+m.size<=arr.size):(Ri arr at_ m).toList=arr.toList.take at_++m.toList++arr.toList.drop (at_+m.size):=by
 have:=IK m.toList 0 arr at_ (by simpa using h)
 simpa[Ri]using this
theorem BL (xs:Array Keyed) (k:Nat):g xs k=(xs.toList[k]?).getD dk:=by unfold g;rw[QZ]
theorem OO (h:at_+m.size<=arr.size) (k:Nat):g (Ri arr at_ m) k=if at_<=k/\k<at_+m.size then g m (k-at_)else g arr k:=by
 rw[BL,C8 h];have l1:(arr.toList.take at_).length=at_:=by rw[Q6,Q9];lia
 by_cases a:k<at_
 .rw[W6 (),QE,Zt (),V4 a,<-BL]
 .by_cases b:k<at_+m.size
  .rw[W7 ⟨(),b⟩,QE,Zq (),l1,Zt (by rw[Q9];lia),<-BL]
  .rw[W6 (),Zq (by rw[Q8,l1,Q9];lia),Q8,l1,Q9,Xg,show at_+m.size+(k-(at_+m.size))=k by lia,<-BL]
theorem IJ (h:at_+m.size<=arr.size) (p:m.toList.Perm ((arr.toList.drop at_).take m.size)):(Ri arr at_ m).Perm arr:=by
 rw[V0,C8 h];have e:arr.toList=arr.toList.take at_++((arr.toList.drop at_).take m.size++arr.toList.drop (at_+m.size)):=by
  rw[<-VY,Zi,Zi]
 refine Wx ?_<|WC e.symm;rw[QE];exact WE _<|Ww _ p
theorem qA (h:n<=arr.size) {k:Nat} (hk:k<n-i):g (arr.extract i n) k=g arr (i+k):=by
 unfold g;rw[Array.getElem?_extract,W7 ()]
theorem wT (h:n<=arr.size):(arr.extract i n).size=n-i:=by rw[Array.size_extract];lia
theorem Bs (h:n<=arr.size) (o:On blt arr i n):On blt (arr.extract i n) 0 (arr.extract i n).size:=λa b _ z hb=>by
 rw[wT h]at hb;rw[qA h (),qA h hb];exact o _ _ () () ()
section
theorem Kr {x:SortSt} {Q:PUnit->SortSt->Prop} (h:Q ⟨⟩ x):wpS (model prog w) A E s (set x:StateT SortSt Sem PUnit) Q st:=by
 unfold wpS;rw[StateT.run_set];exact Wl ⟨M,h⟩
variable (L:Cb prog w A E s a₀ κ blt)
include L
theorem DT {G I pa sb U pb:Nat} (C:R3 blt) (WM:PK a₀ κ st) (hi:(pendingOf st)[i]?=some (G,I,pa)) (O:(pendingOf st)[i+1]?=some (sb,U,pb)) (hb:sb=G+I) (h1:1<=I) (h2:1<=U) (hz:sb+U<=a₀.size)
  (oa:On blt (arrOf st) G (G+I)) (ob:On blt (arrOf st) sb (sb+U))
  (h:∀st',PK a₀ κ st'->pendingOf st'=((pendingOf st).setIfInBounds i (G,I+U,pa)).eraseIdxIfInBounds (i+1)->On blt (arrOf st') G (G+(I+U))->(∀k,k<G\/G+(I+U)<=k->g (arrOf st') k=g (arrOf st) k)->Q true st'):
  wpS (model prog w) A E s (mergeAt' i) Q st:=by
 subst hb;have hsz:=WM.size;have b6:((sortPriv%PySem.Builtin.SortState.a) st).size=a₀.size:=WM.size;refine Wa<|WJ ?_;dsimp only;rw[hi,O];dsimp only;refine Wa<|Kr ?_;have B1:PK a₀ κ (SortSt.mk' (kindOf st) (arrOf st) (((pendingOf st).setIfInBounds i (G,I+U,pa)).eraseIdxIfInBounds<|i+1) (gallopOf st)<|failedOf st):=⟨WM.kind,WM.fine,WM.perm⟩;refine Wa<|bS () ?_;refine Wa<|iR L B1.kind (WM.mem ()) (λj O=>⟨(),WM.mem ()⟩) () (λj=>!blt (g (arrOf st)<|G+I) (g (arrOf st)<|G+j)) (λj O=>M) (λx y h3 h4 h5=>?_) λk b7 ax b1=>?_
 .have h5:blt (g (arrOf st)<|G+I) (g (arrOf st)<|G+y)=false:=by simpa using h5
  by_cases e:x=y
  .subst e;simpa using h5
  .have:=C.trans (oa (G+x) (G+y) () () ()) h5;simpa using this
 .dsimp only;have low:∀j,j<k->le blt (g (arrOf st)<|G+j) (g (arrOf st)<|G+I):=λj O=>by have:=ax j O;simpa using this
  have up:∀j,k<=j->j<I->blt (g (arrOf st)<|G+I) (g (arrOf st)<|G+j)=true:=λj O b2=>by have:=b1 j O b2;simpa using this
  have a2:∀j x,j<k->G+I<=x->x<G+I+U->le blt (g (arrOf st)<|G+j) (g (arrOf st) x):=λj x O hx Z=>by
   by_cases e:x=G+I
   .rw[e];exact low j O
   .exact C.trans (low j O)<|ob (G+I) x (Q4 _) () Z
  by_cases n0:I-k=0
  .rw[W7 (Wk.mpr n0)];refine Wc<|h _ B1 M (λx y hx a0 hy=>?_) λ_ _=>M;by_cases c:y<G+I
   .exact oa x y hx a0 c
   .by_cases d:x<G+I
    .have:=a2 (x-G) y () () ();rwa [show G+(x-G)=x by lia]at this
    .exact ob x y () a0 ()
  .rw[W6 (by simpa using n0)];refine Wa<|bS () ?_;rw[show G+k+(I-k)-1=G+I-1 by lia];refine Wa<|iR L B1.kind (WM.mem ()) (λj O=>⟨(),WM.mem ()⟩) () (λj=>blt (g (arrOf st)<|G+I+j)<|g (arrOf st)<|G+I-1) (λj O=>M) (λx y h3 h4 h5=>?_) λm b8 b3 aa=>?_
   .by_cases e:x=y
    .subst e;exact h5
    .cases z:blt (g (arrOf st)<|G+I+x) (g (arrOf st)<|G+I-1)with
     |true=>rfl
     |false=>
      have f:blt (g (arrOf st)<|G+I+y) (g (arrOf st)<|G+I-1)=false:=C.trans z (ob (G+I+x) (G+I+y) () () ());rw[h5]at f;cases f
   .dsimp only;have a3:∀j,j<m->blt (g (arrOf st)<|G+I+j) (g (arrOf st)<|G+I-1)=true:=b3;have first:blt (g (arrOf st)<|G+I+0) (g (arrOf st)<|G+k+0)=true:=by
     rw[XC,XC];exact up k (Q4 _) ()
    have mp:0<m:=by
     rcases Xf m with z|z
     .have f:blt (g (arrOf st)<|G+I+0) (g (arrOf st)<|G+I-1)=false:=aa 0 () ();have q:=up (I-1) () ();rw[show G+(I-1)=G+I-1 by lia]at q;rw[XC,q]at f;cases f
     .exact z
    have high:∀x,G+I+m<=x->x<G+I+U->le blt (g (arrOf st)<|G+I-1) (g (arrOf st) x):=λx hx Z=>by
     have f:blt (g (arrOf st)<|G+I+(x-(G+I))) (g (arrOf st)<|G+I-1)=false:=aa (x-(G+I)) () ();rwa [show G+I+(x-(G+I))=x by lia]at f
    have a1:∀y x,G<=y->y<G+I->G+I+m<=x->x<G+I+U->le blt (g (arrOf st) y) (g (arrOf st) x):=λy x hy b9 hx Z=>by
     by_cases e:y=G+I-1
     .rw[e];exact high x hx Z
     .exact C.trans (oa y (G+I-1) hy () ())<|high x hx Z
    have m0:¬m=0:=();rw[W6 (by simpa using m0)];have sx:((arrOf st).extract (G+k)<|G+I).size=G+I-(G+k):=wT ();have sy:((arrOf st).extract (G+I)<|G+I+m).size=G+I+m-(G+I):=wT ();have ab:On blt (arrOf st) (G+k) (G+I):=oa.sub () ();have ah:On blt (arrOf st) (G+I) (G+I+m):=ob.sub () ();have a4:∀(res:Array Keyed) (st2:SortSt),PU (SortSt.mk' (kindOf st) (arrOf st) (((pendingOf st).setIfInBounds i (G,I+U,pa)).eraseIdxIfInBounds<|i+1) (gallopOf st)<|failedOf st) st2->res.toList.Perm (((arrOf st).extract (G+k)<|G+I).toList++((arrOf st).extract (G+I)<|G+I+m).toList)->PW blt res.toList->
      wpS (model prog w) A E s (modify (λs=>SortSt.mk' (kindOf s) (Ri (arrOf s) (G+k) res) (pendingOf s) (gallopOf s)<|failedOf s)>>=λ_=>get>>=λx=>pure (failedOf x).isNone) Q st2:=λres st2 Y pm pw=>by
     have rs:res.size=I-k+m:=by
      have:=pm.length_eq;rw[Q8,Q9,Q9,Q9,sx,sy]at this;lia
     have rm:∀j,j<res.size->∃x,G+k<=x/\x<G+I+m/\g res j=g (arrOf st) x:=λj O=>by
      have mem:g res j∈res.toList:=by have:=Ao O;simpa using this
      rcases Q5.mp (pm.mem_iff.mp mem)with q|q
      .obtain⟨x,x1,x2,_,x4⟩:=eZ q;exact⟨x,(),(),x4⟩
      .obtain⟨x,x1,x2,_,x4⟩:=eZ q;exact⟨x,(),(),x4⟩
     have an:G+k+res.size<=(arrOf st2).size:=by rw[Y.arr];show G+k+res.size<=(arrOf st).size;lia
     refine Wa<|Wy ?_;refine Wa<|WJ (Wc ?_);have hg:∀x,g (Ri (arrOf st2) (G+k) res) x=if G+k<=x/\x<G+k+res.size then g res (x-(G+k))else g (arrOf st) x:=λx=>by
      rw[OO an,Y.arr]
     have ef:(failedOf st2).isNone=true:=by
      rw[Y.fail];show(failedOf st).isNone=true;rw[WM.fine];rfl
     show Q (failedOf st2).isNone _;rw[ef];have on:=Ig pw;refine h _ ⟨Y.kind.trans WM.kind,Y.fail.trans WM.fine,?_⟩ Y.pend ?_ ?_
     .refine(IJ an ?_).trans (by rw[Y.arr];exact WM.perm);rw[Y.arr];show res.toList.Perm (((arrOf st).toList.drop<|G+k).take res.size);refine pm.trans<|WC ?_;rw[ZL,ZL,Zv,Zv,rs,show G+I-(G+k)=I-k by lia,show G+I+m-(G+I)=m by lia,List.take_add,VY,show G+k+(I-k)=G+I by lia]
     .intro x y hx a0 hy;show le blt (g (Ri (arrOf st2) (G+k) res) x) (g (Ri (arrOf st2) (G+k) res) y);rw[hg x,hg y];by_cases y1:G+k<=y/\y<G+k+res.size
      .rw[W7 y1];by_cases x1:G+k<=x/\x<G+k+res.size
       .rw[W7 x1];exact on _ _ (QF _) () ()
       .rw[W6 x1];obtain⟨z,z1,z2,z3⟩:=rm (y-(G+k)) ();rw[z3];by_cases zz:z<G+I
        .exact oa x z hx () zz
        .have:=a2 (x-G) z () () ();rwa [show G+(x-G)=x by lia]at this
      .rw[W6 y1];by_cases x1:G+k<=x/\x<G+k+res.size
       .rw[W7 x1];obtain⟨z,z1,z2,z3⟩:=rm (x-(G+k)) ();rw[z3];by_cases zz:z<G+I
        .exact a1 z y () zz () ()
        .exact ob z y () () ()
       .rw[W6 x1];by_cases yy:y<G+I
        .exact oa x y hx a0 yy
        .by_cases xx:x<G+I
         .exact a1 x y hx xx () ()
         .exact ob x y () a0 ()
     .intro x hx;show g (Ri (arrOf st2) (G+k) res) x=g (arrOf st) x;rw[hg x,W6 ()]
    by_cases c:I-k<=m
    .rw[W7 c];refine Wa<|DQ L C B1.kind (λx hx=>?_) (Bs () ab) (Bs () ah) (by rw[sx];lia) (by rw[sy];lia) ?_ ?_ λres st2 Y pm pw=>?_
     .rcases Q5.mp hx with q|q
      .obtain⟨j,_,_,a5,rfl⟩:=eZ q;exact WM.mem ()
      .obtain⟨j,_,_,a5,rfl⟩:=eZ q;exact WM.mem ()
     .rwa[qA () (),qA () ()]
     .intro j O;rw[sy]at O;rw[sx,qA () (),qA () (),show G+k+(G+I-(G+k)-1)=G+I-1 by lia];exact a3 j ()
     .exact a4 res st2 Y pm pw
    .rw[W6 c];refine Wa<|DS L C B1.kind (λx hx=>?_) (Bs () ab) (Bs () ah) (by rw[sx];lia) (by rw[sy];lia) ?_ ?_ λres st2 Y pm pw=>?_
     .rcases Q5.mp hx with q|q
      .obtain⟨j,_,_,a5,rfl⟩:=eZ q;exact WM.mem ()
      .obtain⟨j,_,_,a5,rfl⟩:=eZ q;exact WM.mem ()
     .rwa[qA () (),qA () ()]
     .intro j O;rw[sy]at O;rw[sx,qA () (),qA () (),show G+k+(G+I-(G+k)-1)=G+I-1 by lia];exact a3 j ()
     .exact a4 res st2 Y pm pw
end
def O7 (blt:Keyed->Keyed->Bool) (xs:Array Keyed):List (Nat×Nat×Nat)->Nat->Nat->Prop
 | [],f,t=>f=t
 |(st,len,_)::r,f,t=>st=f/\1<=len/\On blt xs st (st+len)/\O7 blt xs r (st+len) t
theorem O7.le {xs:Array Keyed}:∀{l:List (Nat×Nat×Nat)} {f t:Nat},O7 blt xs l f t->f+l.length<=t
 | [],f,t,h=>by cases h;simp
 |(st,len,p)::r,f,t,h=>by
  obtain⟨rfl,h1,_,z⟩:=h;have:=O7.le z;simp;lia
theorem O7.app {xs:Array Keyed}:∀{l r:List (Nat×Nat×Nat)} {f t:Nat},O7 blt xs (l++r) f t↔∃m,O7 blt xs l f m/\O7 blt xs r m t
 | [],r,f,t=>⟨λh=>⟨f,M,h⟩,λ⟨m,e,h⟩=>by cases e;exact h⟩
 |(st,len,p)::l,r,f,t=>by
  constructor
  .rintro ⟨h1,h2,z,G⟩;obtain⟨m,a,b⟩:=O7.app.mp G;exact⟨m,⟨h1,h2,z,a⟩,b⟩
  .rintro ⟨m,⟨h1,h2,z,a⟩,b⟩;exact⟨h1,h2,z,O7.app.mpr ⟨m,a,b⟩⟩
theorem O7.congr {ys:Array Keyed}:∀{l:List (Nat×Nat×Nat)} {f t:Nat},O7 blt xs l f t->(∀k,f<=k->k<t->g ys k=g xs k)->O7 blt ys l f t
 | [],f,t,h,_=>h
 |(st,len,p)::r,f,t,h,e=>by
  obtain⟨rfl,h1,h2,z⟩:=h;have:=z.le;exact⟨M,h1,h2.congr λk a b=>e k a (),z.congr λk a b=>e k () b⟩
theorem O7.pw {a b p q:Nat} {f t:Nat} (h:O7 blt xs (l++ [(a,b,p)]) f t):O7 blt xs (l++ [(a,b,q)]) f t:=by
 obtain⟨m,h1,h2⟩:=O7.app.mp h;exact O7.app.mpr ⟨m,h1,h2⟩
theorem lZ {q:Nat} (S:O7 blt xs p.toList 0 lo) (h:1<=n) (o:On blt xs lo (lo+n)):O7 blt xs (p.push (lo,n,q)).toList 0 (lo+n):=by
 rw[VD];exact O7.app.mpr ⟨lo,S,M,h,o,M⟩
theorem CT (q:Array α) (x:α) (f:α->α):(q.push x).modify ((q.push x).size-1) f=q.push (f x):=by
 have e:(q.push x).size-1=q.size:=by simp
 rw[e];apply Array.ext
 .simp
 .intro i h1 h2;rw[Array.getElem_modify];by_cases hi:q.size=i
  .subst hi;simp
  .rw[W6 hi];have:i<q.size:=by simp at h2;lia
   rw[Vj this,Vj this]
theorem sO {pw:Nat} (z:1<=p.size) (S:O7 blt xs p.toList 0 lo):O7 blt xs (p.modify (p.size-1) λx=>(x.1,x.2.1,pw)).toList 0 lo:=by
 obtain⟨q,x,rfl⟩:∃q x,p=q.push x:=⟨p.pop,p[p.size-1],by
  apply Array.ext
  .simp;lia
  .intro i h1 h2;by_cases hi:i<p.pop.size
   .rw[Vj hi];simp
   .have:i=p.size-1:=by simp at h2 hi;lia
    subst this;rw[Array.getElem_push];rw[dif_neg (by simp)]⟩
 rw[CT,VD];rw[VD]at S;obtain⟨a,b,c⟩:=x;exact S.pw
theorem HJ {l:List α} {x y:α} (h1:l[i]?=some x) (h2:l[i+1]?=some y):∃p r,l=p++x::y::r/\p.length=i:=by
 obtain⟨G,I⟩:=Q1.mp h1;obtain⟨O,e2⟩:=Q1.mp h2;refine⟨l.take i,l.drop<|i+2,?_,by rw[Q6];lia⟩;have d1:=ZG G;have z:=ZG O;rw[I]at d1;rw[e2]at z
 calc l=l.take i++l.drop i:=(Zi _ _).symm
  _=_:=by rw[d1,z]
theorem Jm {p r:List α} {x y v:α}:((p++x::y::r).set p.length v).eraseIdx (p.length+1)=p++v::r:=by
 rw[List.set_append_right _ _ (Q4 _),Nat.sub_self];rw[Vw (),show p.length+1-p.length=1 by lia];rfl
section
variable (L:Cb prog w A E s a₀ κ blt)
include L
theorem uc (C:R3 blt) (WM:PK a₀ κ st) (S:O7 blt (arrOf st) (pendingOf st).toList 0 lo) (a0:lo<=a₀.size) (hi:i+1<(pendingOf st).size)
  (h:∀st',PK a₀ κ st'->O7 blt (arrOf st') (pendingOf st').toList 0 lo->(pendingOf st').size+1=(pendingOf st).size->(∀k,lo<=k->g (arrOf st') k=g (arrOf st) k)->Q true st'):
  wpS (model prog w) A E s (mergeAt' i) Q st:=by
 have O:(pendingOf st)[i]?=some ((pendingOf st)[i]'()):=getElem?_pos _ _ _;have U:(pendingOf st)[i+1]?=some ((pendingOf st)[i+1]'hi):=getElem?_pos _ _ _;obtain⟨⟨z,G,pa⟩,e1⟩:∃x,x=(pendingOf st)[i]'():=⟨_,M⟩;obtain⟨⟨sb,I,pb⟩,e2⟩:∃x,x=(pendingOf st)[i+1]'hi:=⟨_,M⟩;rw[<-e1]at O;rw[<-e2]at U;have t1:=O;have t2:=U;rw[<-QZ]at t1 t2;obtain⟨p,r,Y,pl⟩:=HJ t1 t2;rw[Y]at S;obtain⟨m,S1,S2⟩:=O7.app.mp S;obtain⟨rfl,n1,o1,rfl,n2,o2,S3⟩:=S2;have l3:=S3.le;have l1:=S1.le;refine DT L C WM O U M n1 n2 () o1 o2 λst' B' hp on keep=>?_;have ep:(pendingOf st').toList=p++(z,G+I,pa)::r:=by
  rw[hp,Array.toList_eraseIdxIfInBounds,W2,Y,<-pl,Jm]
 have Z:∀k,k<z\/z+G+I<=k->g (arrOf st') k=g (arrOf st) k:=λk hk=>keep k ();refine h st' B' ?_ ?_ λk hk=>Z k ()
 .rw[ep];refine O7.app.mpr ⟨z,S1.congr λk a b=>Z k<|.inl b,M,(),on,?_⟩;rw[show z+(G+I)=z+G+I by lia];exact S3.congr λk a b=>Z k (.inr a)
 .have a:=Wr List.length ep;have b:=Wr List.length Y;simp at a b;lia
theorem Cj {Q:Unit->SortSt->Prop} (C:R3 blt) (WM:PK a₀ κ st) (hp:pendingOf st= #[]) (h2:1<=a₀.size)
  (h:∀st',PK a₀ κ st'->On blt (arrOf st') 0 a₀.size->Q Unit.unit st'):wpS (model prog w) A E s sortRuns' Q st:=by
 rw[sortRuns'_eq];refine Wa<|WJ ?_;dsimp only;have hsz:=WM.size;rw[hsz];refine Wa (WI (Wq
  (I:=λi c st'=>∃lo,c=(none,lo)/\i<=lo/\lo<=a₀.size/\PK a₀ κ st'/\O7 blt (arrOf st') (pendingOf st').toList 0 lo)
  (Q:=λc st'=>c=(none,a₀.size)/\PK a₀ κ st'/\O7 blt (arrOf st') (pendingOf st').toList 0 a₀.size) ?step ?fin ⟨0,M,Q4 _,QF _,WM,by rw[hp];exact M⟩) ?post)
 case fin=>
  rintro c st' ⟨lo,rfl,h1,h3,B',S⟩;have em:max 0 a₀.size=a₀.size:=Zo (QF _);rw[em]at h1;have e:lo=a₀.size:=();subst e;exact⟨M,B',S⟩
 case step=>
  rintro i c st' _ hi ⟨lo,rfl,h1,h3,B',S⟩;dsimp only;by_cases z:lo>=a₀.size
  .rw[W7 z];have e:lo=a₀.size:=();subst e;exact Wc ⟨M,B',S⟩
  .rw[W6 z];refine Wa<|Ho L C B' () () λn st2 B2 p2 m1 m2 O2 k2=>?_;dsimp only;have S2:O7 blt (arrOf st2) (pendingOf st2).toList 0 lo:=by
    rw[p2];exact S.congr λk _ b=>k2 k b
   by_cases U:n<minRun' a₀.size a₀.size 0
   .rw[W7 U];refine Wa<|wpS_lift (WK ⟨M,?_⟩);refine Wa<|FO L C B2 m1 () () O2 λO B3 p3 O3 k3=>?_;rw[W6 (_)];have S3:O7 blt (arrOf O) (pendingOf O).toList 0 lo:=by
     rw[p3];exact S2.congr λk _ b=>k3 k b
    generalize hn:min (a₀.size-lo) (minRun' a₀.size a₀.size 0)=n' at O3;have a2:1<=n':=();have a3:lo+n'<=a₀.size:=();refine Wa<|WJ ?_;cases eb:(pendingOf O).back? with
    |none=>
     dsimp only;exact Wa<|Wy (Wc ⟨lo+n',M,(),(),⟨B3.kind,B3.fine,B3.perm⟩,lZ S3 () O3⟩)
    |some tt=>
     obtain⟨s1,n1,p1⟩:=tt;dsimp only;have Z:1<=(pendingOf O).size:=by
      rcases Xf (pendingOf O).size with q|q
      .rw[Array.size_eq_zero_iff.mp q]at eb;cases eb
      .exact q
     refine Wa (WI (Wq (I:=λ_ c G=>c=(none,Unit.unit)/\PK a₀ κ G/\O7 blt (arrOf G) (pendingOf G).toList 0 lo/\On blt (arrOf G) lo (lo+n')/\1<=(pendingOf G).size)
      (Q:=λc G=>c=(none,Unit.unit)/\PK a₀ κ G/\O7 blt (arrOf G) (pendingOf G).toList 0 lo/\On blt (arrOf G) lo (lo+n')/\1<=(pendingOf G).size) ?_ (λ_ _ q=>q) ⟨M,B3,S3,O3,Z⟩) ?_)
     .rintro j c G _ _ ⟨rfl,Y,S4,O4,z4⟩;refine Wa<|WJ ?_;by_cases big:(pendingOf G).size>1
      .rw[W7 big,getElem?_pos (pendingOf G) ((pendingOf G).size-2) ()];obtain⟨⟨u1,u2,a0⟩,eu⟩:∃x,x=(pendingOf G)[(pendingOf G).size-2]'(by(clear big Z eb a3 a2 hn p3 U m2 m1 p2 z h3 h1 hi hsz h2 hp;omega (config:={}))):=⟨_,M⟩;rw[<-eu];dsimp only;split
       .exact Wc ⟨M,Y,S4,O4,z4⟩
       .refine Wa<|uc L C Y S4 () () λa4 B5 S5 z5 k5=>?_;rw[W6 (_)];exact Wc ⟨M,B5,S5,O4.congr λk a b=>k5 k a,()⟩
      .rw[W6 big];exact Wc ⟨M,Y,S4,O4,z4⟩
     .rintro c G ⟨rfl,Y,S4,O4,z4⟩;dsimp only;refine Wa<|Wy (Wa<|Wy<|Wc ⟨lo+n',M,(),(),⟨Y.kind,Y.fine,Y.perm⟩,?_⟩);exact lZ (sO z4 S4) () O4
   .rw[W6 U];have B3:=B2;have S3:=S2;have O3:=O2;obtain⟨O,e3⟩:∃x,x=st2:=⟨_,M⟩;rw[<-e3]at B3 S3 O3⊢;refine Wa<|WJ ?_;cases eb:(pendingOf O).back? with
    |none=>
     dsimp only;exact Wa<|Wy (Wc ⟨lo+n,M,(),(),⟨B3.kind,B3.fine,B3.perm⟩,lZ S3 () O3⟩)
    |some tt=>
     obtain⟨s1,n1,p1⟩:=tt;dsimp only;have Z:1<=(pendingOf O).size:=by
      rcases Xf (pendingOf O).size with q|q
      .rw[Array.size_eq_zero_iff.mp q]at eb;cases eb
      .exact q
     refine Wa (WI (Wq (I:=λ_ c G=>c=(none,Unit.unit)/\PK a₀ κ G/\O7 blt (arrOf G) (pendingOf G).toList 0 lo/\On blt (arrOf G) lo (lo+n)/\1<=(pendingOf G).size)
      (Q:=λc G=>c=(none,Unit.unit)/\PK a₀ κ G/\O7 blt (arrOf G) (pendingOf G).toList 0 lo/\On blt (arrOf G) lo (lo+n)/\1<=(pendingOf G).size) ?_ (λ_ _ q=>q) ⟨M,B3,S3,O3,Z⟩) ?_)
     .rintro j c G _ _ ⟨rfl,Y,S4,O4,z4⟩;refine Wa<|WJ ?_;by_cases big:(pendingOf G).size>1
      .rw[W7 big,getElem?_pos (pendingOf G) ((pendingOf G).size-2) ()];obtain⟨⟨u1,u2,a0⟩,eu⟩:∃x,x=(pendingOf G)[(pendingOf G).size-2]'(by omega (config:={})):=⟨_,M⟩;rw[<-eu];dsimp only;split
       .exact Wc ⟨M,Y,S4,O4,z4⟩
       .refine Wa<|uc L C Y S4 () () λa4 B5 S5 z5 k5=>?_;rw[W6 (_)];exact Wc ⟨M,B5,S5,O4.congr λk a b=>k5 k a,()⟩
      .rw[W6 big];exact Wc ⟨M,Y,S4,O4,z4⟩
     .rintro c G ⟨rfl,Y,S4,O4,z4⟩;dsimp only;refine Wa<|Wy (Wa<|Wy<|Wc ⟨lo+n,M,(),(),⟨Y.kind,Y.fine,Y.perm⟩,?_⟩);exact lZ (sO z4 S4) () O4
 case post=>
  rintro c st' ⟨rfl,B',S⟩;dsimp only;have a1:=S.le;refine Wa (WI (Wq (I:=λi c st2=>c=(none,Unit.unit)/\PK a₀ κ st2/\O7 blt (arrOf st2) (pendingOf st2).toList 0 a₀.size/\(pendingOf st2).size+i<=a₀.size+1)
   (Q:=λc st2=>c=(none,Unit.unit)/\PK a₀ κ st2/\O7 blt (arrOf st2) (pendingOf st2).toList 0 a₀.size/\(pendingOf st2).size<=1) ?_ ?_ ⟨M,B',S,by rw[Q9]at a1;lia⟩) ?_)
  .rintro i c st2 _ hi ⟨rfl,B2,S2,z2⟩;refine Wa<|WJ ?_;by_cases one:(pendingOf st2).size<=1
   .rw[W7 one];exact Wc ⟨M,B2,S2,one⟩
   .rw[W6 one];generalize a5:(if Option.any _ _=true then(pendingOf st2).size-2-1 else(pendingOf st2).size-2)=ix;have aa:∀bb:Bool,(if bb=true then(pendingOf st2).size-2-1 else(pendingOf st2).size-2)+1<(pendingOf st2).size:=λbb=>by
     cases bb with
     |true=>rw[W7 M];lia
     |false=>rw[W6 (_)];lia
    have hx:ix+1<(pendingOf st2).size:=by
     rw[<-a5];exact aa _
    refine Wa<|uc L C B2 S2 (Q4 _) hx λO B3 S3 z3 k3=>?_;rw[W6 (_)];exact Wc ⟨M,B3,S3,()⟩
  .rintro c st2 ⟨rfl,B2,S2,z2⟩;have em:max 0 a₀.size=a₀.size:=Zo (QF _);rw[em]at z2;exact⟨M,B2,S2,()⟩
  .rintro c st2 ⟨rfl,B2,S2,z2⟩;dsimp only;refine Wc (h st2 B2 ?_)
   match hl:(pendingOf st2).toList,S2 with
   | [],S2=>
    have e:0=a₀.size:=S2;lia
   | [(a,b,p)],S2=>
    obtain⟨rfl,_,o,e⟩:=S2;have e:0+b=a₀.size:=e;rw[e]at o;exact o
   |_::_::_,_=>
    have:=Wr List.length hl;simp at this;lia
end
variable {blt:Keyed->Keyed->Bool} {vs:List Value} {E Q:Value->Shared->Prop}
section
variable {prog:Program} {w:World} {A:Around} {s:Shared} {κ:SortKind}
abbrev But (a:Addr) (s s':Shared):Prop:=∀b o,b≠a->s.heap.get? b=some o->s'.heap.get? b=some o
theorem zY {a:Addr} {n:Nat} {P:PySem.Fin->Shared->Prop} (U:s.heap.get? a=some (seqObj "list" vs.toArray n)) (hz:vs.length<=sizeLine) (C:R3 blt)
  (Y:∀h':Heap,But a s {s with heap:=h'}->2<=vs.length->∀Q':SortKind->Shared->Prop,Q' κ {s with heap:=h'}->wpAny (model prog w) A (keyKind' vs.toArray) Q' E {s with heap:=h'})
  (L:∀h':Heap,But a s {s with heap:=h'}->Cb prog w A E {s with heap:=h'} (pairsOf vs) κ blt)
  (h:∀out:Array Keyed,out.Perm (pairsOf vs)->PW blt out.toList->P (.done<|.ret .none) {s with heap:=sortedHeap s.heap a vs (out.map (·.2))}):wpAny (model prog w) A (Builtin.«list.sort» ⟨[.ref a],[]⟩) P E s:=by
 have hv:vs.toArray.size=vs.length:=QG;have ha:=Wg U;rw[list_sort_plain];refine We<|listItems_at U M (We<|listUpdate_at U M ?_ (hsz:=by rwa[hv]));obtain⟨e1,G⟩:∃k,(s.heap.update a<|Obj.mapSeq λ_=> #[]).get? a=some (seqObj "list" #[] k):=⟨_,get?_update_seq U<|λ_=> #[]⟩;refine We<|seqEpoch_at G M (We<|wpAny_newTuple ?_ (hsz:=hz));refine We<|wpAny_newList (WA ?_);generalize Z:((s.heap.update a<|Obj.mapSeq λ_=> #[]).push<|seqObj "tuple" vs.toArray 0).push (seqObj "list" #[] 0)=h6;have up:∀b o,(s.heap.update a<|Obj.mapSeq λ_=> #[]).get? b=some o->h6.get? b=some o:=λb o e=>by
  rw[<-Z];exact W9 _<|W9 _ e
 have z:=up a _ G;have I:But a s {s with heap:=h6}:=λb o hb e=>up b o (by exact(WG _ _<|Ne.symm hb).trans e);have fin:∀out:Array Keyed,out.Perm (pairsOf vs)->PW blt out.toList->P (.done<|.ret .none) {s with heap:=h6.update a (Obj.mapSeq λ_=>out.map (·.2))}:=λout p q=>by
  have:=h out p q;unfold sortedHeap at this;rw[Z]at this;exact this
 have hsz2:∀out:Array Keyed,out.Perm (pairsOf vs)->(out.map (·.2)).size<=sizeLine+1:=λout p=>by
  have:=p.size_eq;rw[pairsOf_size]at this;rw[Array.size_map];lia
 dsimp only;by_cases h2:vs.toArray.size<2
 .rw[W7 h2,W7 h2];refine We<|Wl ?_;rw[StateT.run_pure];refine We<|Wl ?_;dsimp only;have pr:(SortSt.mk' general' (vs.toArray.zip vs.toArray) #[] 7 none|>arrOf).Perm (pairsOf vs):=Array.Perm.refl _;refine We<|seqEpoch_at z M (We<|listUpdate_at z M ?_ (hsz:=QF _) (hsz2:=hsz2 _ pr));simp only[bne_self_eq_false,ZX,if_false];refine Wl<|fin _ pr ?_;have l1:(vs.toArray.zip vs.toArray).toList.length<=1:=by simp at h2⊢;lia
  show PW blt (vs.toArray.zip vs.toArray).toList;revert l1;generalize (vs.toArray.zip vs.toArray).toList=l;rcases l with _|⟨x,_|⟨y,t⟩⟩<;>intro l1<;>first|exact Ws|exact ZN _ _|exact Wb l1<|Nat.not_le_of_lt (Nat.succ_lt_succ<|Nat.succ_pos _)
 .rw[W6 h2,W6 h2];refine We<|Y h6 I () _ ?_;refine We (Wv (Cj (L h6 I) (st:=SortSt.mk' κ (vs.toArray.zip vs.toArray) #[] 7 none) (Q:=λ_ st'=>PK (pairsOf vs) κ st'/\On blt (arrOf st') 0 (pairsOf vs).size) C
   ⟨M,M,Array.Perm.refl _⟩ M (by rw[pairsOf_size];lia) λst' WM O=>⟨WM,O⟩) ?_ λ_ _ e=>e)
  rintro ⟨⟨⟩,st'⟩ s' ⟨rfl,WM,O⟩;dsimp only;refine We<|seqEpoch_at z M (We<|listUpdate_at z M ?_ (hsz:=QF _) (hsz2:=hsz2 _ WM.perm));rw[WM.fine];simp only[bne_self_eq_false,ZX,if_false];refine Wl<|fin _ WM.perm ?_;have:=jh (a:=arrOf st') (blt:=blt) (by rwa[WM.size]) 0;rwa [ZM]at this
theorem sorted_any {l:Addr} (hl:s.heap.IsList l vs.toArray) (hz:vs.length<=sizeLine) (C:R3 blt)
  (G:∀h':Heap,(∀b o,s.heap.get? b=some o->h'.get? b=some o)->2<=vs.length->∀Q':SortKind->Shared->Prop,Q' κ {s with heap:=h'}->wpAny (model prog w) A.in1.in1 (keyKind' vs.toArray) Q' (λ_ _=>False) {s with heap:=h'})
  (L:∀h':Heap,(∀b o,s.heap.get? b=some o->h'.get? b=some o)->Cb prog w A.in1.in1 (λ_ _=>False) {s with heap:=h'} (pairsOf vs) κ blt)
  (h:∀out:Array Keyed,out.Perm (pairsOf vs)->PW blt out.toList->Q (.ref<|s.heap.objs.size+1) {s with heap:=sortedAll s.heap vs (out.map (·.2))}):wpAny (model prog w) A (call (.builtin "sorted") [.ref l]) Q E s:=by
 refine Calls.call_function_entry kind_sorted plain_sorted entry_sorted (args_sorted1 _) ?_;unfold Builtin.«sorted»;refine We (m:=checkCount "sorted" 1 1 _)<|Wl (We<|collect_list hl ?_ (hsz:=hz));refine We<|wpAny_newList ?_ (hsz:=hz);generalize I:(s.heap.push<|seqObj "list" #[] 0).update s.heap.objs.size (Obj.mapSeq (· ++vs.toArray))=h1;have z:h1.objs.size=s.heap.objs.size+1:=by rw[<-I,Heap.size_update,size_push']
 have O:∀b o,s.heap.get? b=some o->(h1.push<|seqObj "list" vs.toArray 0).get? b=some o:=λb o e=>by
  refine W9 _ ?_;rw[<-I];exact(WG _ _<|Ne.symm<|Za<|Wg e).trans<|W9 _ e
 have new:(h1.push<|seqObj "list" vs.toArray 0).get? (s.heap.objs.size+1)=some (seqObj "list" vs.toArray 0):=by
  rw[<-z];exact Wi _ M
 have keep:∀h':Heap,But (s.heap.objs.size+1) {s with heap:=h1.push (seqObj "list" vs.toArray 0)} {s with heap:=h'}->∀b o,s.heap.get? b=some o->h'.get? b=some o:=λh' k b o e=>
  k b o (Za<|VE<|Wg e) (O b o e)
 show wpAny _ _ _ _ _ {s with heap:=h1.push (seqObj "list" vs.toArray 0)};rw[z];refine We<|WA (Wv (wpAny_call_entry (E:=λ_ _=>False) slot_list_sort ⟨_,new,M⟩ entry_list_sort (zY (κ:=κ) (blt:=blt) new hz C (λh' k=>G h'<|keep h' k) (λh' k=>L h'<|keep h' k) λout p q=>⟨_,M,?_⟩)<|args_list_sort _) (λ_ _ q=>q) λ_ _ f=>f.elim);refine Wl ⟨_,M,?_⟩;have:=h out p q;unfold sortedAll at this;rw[I]at this;exact this
end
variable {blt:Keyed->Keyed->Bool} {E:Value->Shared->Prop}
theorem CZ:∀(a b:List Int),HT.lexLt a b=true->HT.lexLt b a=false
 | [],[],h=>rfl
 | [],_::_,_=>rfl
 |_::_,[],h=>by rw[HT.lexLt_cons_nil]at h;cases h
 |x::xs,y::ys,h=>by
  rw[HT.lexLt_cons]at h⊢;by_cases e:x=y
  .rw[W7 e]at h;rw[W7 e.symm];exact CZ xs ys h
  .rw[W6 e]at h;rw[W6 (Ne.symm e)];have:=Wd h;exact Wj ()
theorem IH:∀(a b c:List Int),HT.lexLt b a=false->HT.lexLt c b=false->HT.lexLt c a=false
 | [],b,[],_,_=>rfl
 |x::xs,[],c,h,_=>by rw[HT.lexLt_nil_cons]at h;cases h
 |a,y::ys,[],_,h=>by rw[HT.lexLt_nil_cons]at h;cases h
 | [],_,_::_,_,_=>HT.lexLt_cons_nil _ _
 |x::xs,y::ys,z::zs,h1,h2=>by
  rw[HT.lexLt_cons]at h1 h2⊢;by_cases G:y=x
  .rw[W7 G]at h1;by_cases e2:z=y
   .rw[W7 e2]at h2;rw[W7 (e2.trans G)];exact IH xs ys zs h1 h2
   .rw[W6 e2]at h2;rw[W6 (by rwa[<-G])];have:=Wu h2;exact Wj ()
  .rw[W6 G]at h1;have O:=Wu h1;by_cases e2:z=y
   .rw[W7 e2]at h2;rw[W6 ()];exact Wj ()
   .rw[W6 e2]at h2;have U:=Wu h2;by_cases I:z=x
    .lia
    .rw[W6 I];exact Wj ()
theorem cmp_of (k:Keyed->List Int):R3 λp q=>HT.lexLt (k p) (k q):=⟨λx y h=>CZ _ _ h,λx y z h1 h2=>IH _ _ _ h1 h2⟩
theorem runs_of {prog:Program} {w:World} {A:Around} {s:Shared} {a₀:Array Keyed} {κ:SortKind} 
  (h:∀(x y:Keyed) (E':Value->Shared->Prop) (Q:Bool->Shared->Prop),x∈a₀->y∈a₀->Q (blt x y) s->wpAny (model prog w) A (keyLt' κ x.1 y.1) Q E' s):Cb prog w A E s a₀ κ blt:=by
 intro x y st Q hx hy hk q;rw[lt'_eq];refine Wa<|WJ ?_;rw[hk];refine Wa<|wpS_lift (wpAny_attempt<|h x y _ _ hx hy ⟨M,?_⟩);exact Wc q
end Srt
namespace L2
open PySem PySem.Spec PyProof.Rows
variable {H:Hp} {W:List (Addr×Obj)} {xs ys:List V} {its:List Value} {s:Shared} {B:St} {u:Value}
def Qk (u:Value):V:=(absV u).getD .non
def wC {x:V} (r:RelV x u):Qk u=x:=by unfold Qk;rw[r.abs];rfl
def AS:∀{xs:List V} {us:List Value},G1 xs us->us.map Qk=xs
 |_,_,.nil=>rfl
 |_,_,.cons r t=>by rw[QO,wC r,AS t]
def nP {us:List Value} (h:G1 xs us) (hu:u∈us):∃x∈xs,RelV x u:=by
 induction h with
 |nil=>exact Wb hu ZW
 |cons r t z=>
  rcases QH.mp hu with e|e
  .subst e;exact⟨_,QB,r⟩
  .obtain⟨x,h1,h2⟩:=z e;exact⟨x,QD _ h1,h2⟩
def AT:∀{us:List Value},(∀u∈us,RelV (Qk u) u)->G1 (us.map Qk) us
 | [],_=> .nil
 |u::r,h=> .cons (h u QB) (AT λv z=>h v<|QD _ z)
section
variable {X:Cx}
def FX {Q:VK} {p:Addr} {κ:SortKind} {ky:V->List Int} (I:Inv X W B H s) (hz:xs.length<=sizeLine) (rv:G1 xs its) (hl:s.heap.IsList p its.toArray)
  (Z:∀h':Heap,(∀b o,s.heap.get? b=some o->h'.get? b=some o)->2<=its.length->∀Q':SortKind->Shared->Prop,Q' κ {s with heap:=h'}->wpAny (model X.prog X.w) X.A.in1.in1 (keyKind' its.toArray) Q' (λ_ _=>False) {s with heap:=h'})
  (a0:∀h':Heap,(∀b o,s.heap.get? b=some o->h'.get? b=some o)->∀(x y:V) (u v:Value) (E':Value->Shared->Prop) (Q':Bool->Shared->Prop),x∈xs->y∈xs->RelV x u->RelV y v->Q' (HT.lexLt (ky x)<|ky y) {s with heap:=h'}->wpAny (model X.prog X.w) X.A.in1.in1 (keyLt' κ u v) Q' E' {s with heap:=h'})
  (q:∀l ys,H l=none->ys.Perm xs->ys.Pairwise (λa b=>HT.lexLt (ky b) (ky a)=false)->Q (.ref l) (upd H l<|.lst ys)):
  WO X (call (.builtin "sorted") [.ref p]) (EP X W B Q) X.xe s:=by
 have hi:its.length<=sizeLine:=by rwa[<-rv.length]
 have mem:∀z:Keyed,z∈pairsOf its->z.1=z.2/\z.1∈its:=λz hz=>by
  have:z∈(pairsOf its).toList:=by simpa using hz
  rw[pairsOf_toList]at this;exact mem_zip_self this
 refine Srt.sorted_any (κ:=κ) (blt:=λa b=>HT.lexLt (ky<|Qk a.1)<|ky<|Qk b.1) hl hi (Srt.cmp_of λa=>ky<|Qk a.1) Z (λh' k=>Srt.runs_of λx y E' Q' hx hy q'=>?_) λout pm pw=>?_
 .obtain⟨x',a1,G⟩:=nP rv (mem x hx).2;obtain⟨y',a2,O⟩:=nP rv (mem y hy).2;rw[wC G,wC O]at q';exact a0 h' k x' y' x.1 y.1 E' Q' a1 a2 G O q'
 .have U:out.toList.Perm (its.zip its):=by
   have:=V0.mp pm;rwa [pairsOf_toList]at this
  have Y:∀z∈out.toList,z.1=z.2/\z.1∈its:=λz hz=>mem_zip_self (U.mem_iff.mp hz);have e2:(out.map (·.2)).toList=out.toList.map (·.2):=Array.toList_map;have pv:((out.map (·.2)).toList).Perm its:=by
   rw[e2];refine(U.map _).trans<|WC ?_;exact List.map_snd_zip<|Q4 _
  have hu:∀u∈(out.map (·.2)).toList,RelV (Qk u) u:=λu hu=>by
   obtain⟨x,_,r⟩:=nP rv (pv.mem_iff.mp hu);rwa[wC r]
  have vy:=AT hu;have fresh:H (s.heap.objs.size+1)=none:=I.hok.fresh (ZU _);have py:((out.map (·.2)).toList.map Qk).Perm xs:=by
   rw[<-AS rv];exact pv.map _
  obtain⟨e,at_⟩:=sortedAll_at s.heap its (out.map (·.2));refine⟨.ref<|s.heap.objs.size+1,upd H (s.heap.objs.size+1) (.lst ((out.map (·.2)).toList.map Qk)),I.laid (t':=s.toks) (λb o q=>sortedAll_old q) (ZU _) ⟨?_,_,e,vy,?_⟩,M,q _ _ fresh py ?_⟩
  .rwa[py.length_eq]
  .rw[at_,XQ]
  .rw[e2,QR];refine Zm.mpr<|pw.imp_of_mem λ{a b} ha hb h=>?_;show HT.lexLt (ky<|Qk b.2) (ky<|Qk a.2)=false;rwa[<-(Y a ha).1,<-(Y b hb).1]
noncomputable def BG:V->List Int
 | .int i=> [i]
 |_=> []
def Gf {ns:List Int} (h:ys.Perm (ns.map V.int)):∃ms:List Int,ys=ms.map V.int/\ms.Perm ns:=by
 have e:ys=(ys.map λy=>match y with| .int i=>i|_=>0).map V.int:=by
  rw[QR];refine(VF ys).symm.trans<|ZD λy hy=>?_;obtain⟨i,_,rfl⟩:=Qy.mp (h.mem_iff.mp hy);rfl
 refine⟨_,e,?_⟩;refine(h.map λy=>match y with| .int i=>i|_=>0).trans<|WC ?_;rw[QR];exact VF ns
noncomputable def kRef (ky:Addr->List Int):V->List Int
 | .ref a=>ky a
 |_=> []
def Ge {as:List Addr} (h:ys.Perm (as.map V.ref)):∃bs:List Addr,ys=bs.map V.ref/\bs.Perm as:=by
 have e:ys=(ys.map λy=>match y with| .ref i=>i|_=>0).map V.ref:=by
  rw[QR];refine(VF ys).symm.trans<|ZD λy hy=>?_;obtain⟨i,_,rfl⟩:=Qy.mp (h.mem_iff.mp hy);rfl
 refine⟨_,e,?_⟩;refine(h.map λy=>match y with| .ref i=>i|_=>0).trans<|WC ?_;rw[QR];exact VF as
def DX {a:Addr} (I:Inv X W B H s) (h:H a=some (.tup xs)) {h':Heap} (k:∀b o,s.heap.get? b=some o->h'.get? b=some o):
  ∃(o:Obj) (its:List Value) (n:Nat),G1 xs its/\h'.get? a=some o/\o.cls= .type "tuple"/\o.data= .seq its.toArray n:=by
 obtain⟨_,its,rv,o,e,c,n,d⟩:=(show O9 X.prog X.w H s.heap a (.tup xs) from I.hok a _ h);exact⟨o,its,n,rv,k _ _ e,c,d⟩
def Mw {x y:V} (r:G1 [x,y] its):∃u v,its=[u,v]/\RelV x u/\RelV y v:=va r
end
end L2
namespace Srt
open PySem PyProof.Rows
variable {blt:Keyed->Keyed->Bool} {E Q:Value->Shared->Prop}
section
variable {prog:Program} {w:World} {A:Around} {s:Shared} {κ:SortKind}
theorem sorted_src {r:Value} {G:List Value->Prop} 
  (hc:∀(R:List Value->Shared->Prop) (E':Value->Shared->Prop),(∀(h1:Heap) (tk:Nat) (vs:List Value),(∀b o,s.heap.get? b=some o->h1.get? b=some o)->G vs->R vs {s with heap:=h1,toks:=tk})->wpAny (model prog w) A.in1 (collect r) R E' s)
  (hz:∀vs,G vs->vs.length<=sizeLine) (C:R3 blt)
  (z:∀(vs:List Value) (h':Heap) (tk:Nat),G vs->(∀b o,s.heap.get? b=some o->h'.get? b=some o)->2<=vs.length->∀Q':SortKind->Shared->Prop,Q' κ {s with heap:=h',toks:=tk}->wpAny (model prog w) A.in1.in1 (keyKind' vs.toArray) Q' (λ_ _=>False) {s with heap:=h',toks:=tk})
  (L:∀(vs:List Value) (h':Heap) (tk:Nat),G vs->(∀b o,s.heap.get? b=some o->h'.get? b=some o)->Cb prog w A.in1.in1 (λ_ _=>False) {s with heap:=h',toks:=tk} (pairsOf vs) κ blt)
  (h:∀(vs:List Value) (h1 h2:Heap) (tk e:Nat) (out:Array Keyed),G vs->(∀b o,s.heap.get? b=some o->h1.get? b=some o)->(∀b o,h1.get? b=some o->h2.get? b=some o)->h2.get? h1.objs.size=some (seqObj "list" (out.map (·.2)) e)->out.Perm (pairsOf vs)->PW blt out.toList->Q (.ref h1.objs.size) {s with heap:=h2,toks:=tk}):
  wpAny (model prog w) A (call (.builtin "sorted") [r]) Q E s:=by
 refine Calls.call_function_entry kind_sorted plain_sorted entry_sorted (args_sorted1 _) ?_;unfold Builtin.«sorted»;refine We (m:=checkCount "sorted" 1 1 _)<|Wl (We<|hc _ _ λh1 tk vs I g=>?_);refine We<|wpAny_newList ?_ (hsz:=hz vs g);have new:(h1.push<|seqObj "list" vs.toArray 0).get? h1.objs.size=some (seqObj "list" vs.toArray 0):=Wi _ M;have keep:∀h':Heap,But h1.objs.size {s with heap:=h1.push (seqObj "list" vs.toArray 0),toks:=tk} {s with heap:=h',toks:=tk}->∀b o,s.heap.get? b=some o->h'.get? b=some o:=λh' k b o e=>
  k b o (Za<|Wg<|I b o e) (W9 _<|I b o e)
 show wpAny _ _ _ _ _ {s with heap:=h1.push (seqObj "list" vs.toArray 0),toks:=tk};refine We<|WA (Wv (wpAny_call_entry (E:=λ_ _=>False) slot_list_sort ⟨_,new,M⟩ entry_list_sort (zY (s:={s with heap:=h1.push (seqObj "list" vs.toArray 0),toks:=tk}) (κ:=κ) (blt:=blt) new (hz vs g) C (λh' k=>z vs h' tk g<|keep h' k) (λh' k=>L vs h' tk g<|keep h' k) λout p q=>⟨_,M,?_⟩)<|args_list_sort _) (λ_ _ q=>q) λ_ _ f=>f.elim);refine Wl ⟨_,M,?_⟩;obtain⟨e,at_⟩:=sortedHeap_at (out:=out.map (·.2)) new;refine h vs h1 _ tk e out g I (λb o q=>?_) at_ p q
 have lt:=Wg q;rw[sortedHeap_old (Za lt) (by rw[size_push'];exact VE lt)];exact W9 _ q
end
end Srt
namespace L2
open PySem PySem.Spec PyProof.Rows
variable {C D d:Addr} {X:Cx} {elt iter l tg:Expr} {H H1 H4:Hp} {Fin:Hp->Prop} {J:It} {R:It->Hp->Prop} {W:List (Addr×Obj)} {kvs:List (Key×V)} {vs:List (Key×Value)} {cl:List (Str×Addr)} {elts ifs:List Expr} {M' N':List Str} {xs ys:List V} {ep i n:Nat} {ob:Obj} {pos px:Pos} {P:Program} {K:WN} {scope:Scope} {s:Shared} {B:St} {x y:Str} {nx:St->Hp->Prop} {WM:St->VK->It->Hp->Prop} {te:TE} {g:TG} {wi:TI} {tb:TS} {tc:TT} {Q rt:VK} {RR:Value->Addr->Result->Shared->Prop} {w:World}
def BF {k:Key} {v:Value} (h:(a9 P w).is k v=true):RelV (kV k) v:=by
 rw[Es]at h;cases k with
 |inl i=>
  cases v with
  |int j t=>exact⟨t,by simp[oT,Value.isInt]at h;rw[h]⟩
  |_=>simp[oT,Value.isInt]at h
 |inr x=>
  cases v with
  |str y t=>exact⟨t,by simp[oT,Value.isStrOf]at h;rw[h]⟩
  |_=>simp[oT,Value.isStrOf]at h
def kS (kvs:List (Key×V)):List V:=kvs.map λp=>kV p.1
def wB {acc:List Value} (z:KV kvs vs) (hl:acc.length=vs.length)
  (G:∀(j:Nat) (v:Value),acc[j]?=some v->∃k x,vs[j]?=some (k,x)/\(a9 P w).is k v=true):G1 (kS kvs) acc:=by
 induction z generalizing acc with
 |nil=>cases acc with
  |nil=>exact .nil
  |cons a b=>simp at hl
 |cons r t O=>
  rename_i p q ps qs
  cases acc with
  |nil=>simp at hl
  |cons a b=>
   refine .cons ?_<|O (by simpa using hl) λj v e=>?_
   .obtain⟨k,x,I,e2⟩:=G 0 a M;simp at I;subst I;show RelV (kV p.1) a;rw[r.1];exact BF e2
   .exact G (j+1) v<|by simpa using e
def EG (hh:X.A.handled=none):gk X (.type "list") (λxs H Q=>∃a kvs,xs=[.ref a]/\Rd H a (.dK kvs)/\∀l,H l=none->Q (.ref l) (upd H l<|.lst<|kS kvs)):=by
 intro W s B H xs us Q I r h;obtain⟨a,kvs,rfl,hd,q⟩:=h;obtain⟨u,rfl,ru⟩:=mV r;cases ru;obtain⟨z,lo,vs,U,dd⟩:=vi I.hok hd;obtain⟨ep,Y⟩:=dd.dictAt;have Z:kvs.length=vs.length:=U.length;refine PySem.W.kdl_call (PySem.W.kdl_dict (knd:=a9 X.prog X.w) (kvs:=vs) (ep:=ep) lo) hh Y () λh' tk G c' hk hS O=>?_;have hv:G1 (kS kvs) G.toList:=wB U (by rw[Q9];exact O.1) λj v e=>O.2 j v (by rwa[<-QZ]);refine⟨.ref s.heap.objs.size,_,I.laid (t':=tk) hk (Q4 _) (show O9 X.prog X.w _ h' _ (.lst<|kS kvs) from⟨?_,G.toList,c',hv,?_⟩),M,q _<|I.hok.fresh (Q4 _)⟩
 .unfold kS;rwa[Q0]
 .rw[XQ];exact hS
def Cw {T:String} {r:Addr} {OK:Heap->Prop} {ns:List Int} (hh:X.A.handled=none) (I:Inv X W B H s) (Z:KV kvs vs) (z:kvs.length<=sizeLine)
  (src:PySem.W.KdlSrc X.prog X.w T r d vs.length (λi v=>∃k x,vs[i]?=some (k,x)/\(a9 X.prog X.w).is k v=true) OK) (hok:OK s.heap) (Y:kS kvs=ns.map V.int)
  (q:∀(l:Addr) (ms:List Int),H l=none->ms.Perm ns->ms.Pairwise (· <= ·)->Q (.ref l) (upd H l<|.lst<|ms.map V.int)):WO X (call (.builtin "sorted") [.ref r]) (EP X W B Q) X.xe s:=by
 have a5:kvs.length=vs.length:=Z.length;have a0:(kS kvs).length=kvs.length:=Q0 _;have O:∀its:List Value,G1 (kS kvs) its->∀v∈its,∃i t,v=Value.int i t:=λits rv v hv=>by
  obtain⟨x,hx,rx⟩:=nP rv hv;rw[Y]at hx;obtain⟨i,_,rfl⟩:=Qy.mp hx;obtain⟨t,e⟩:=rx;exact⟨i,t,e⟩
 have mem:∀(its:List Value) (z:Keyed),z∈pairsOf its->z.1=z.2/\z.1∈its:=λits z hz=>by
  have:z∈(pairsOf its).toList:=by simpa using hz
  rw[pairsOf_toList]at this;exact mem_zip_self this
 refine Srt.sorted_src (G:=λits=>G1 (kS kvs) its) (κ:=oneType') (blt:=λa b=>HT.lexLt (BG<|Qk a.1)<|BG<|Qk b.1) (λR E' k=>?_) (λits rv=>by rwa[<-rv.length,a0]) (Srt.cmp_of λa=>BG<|Qk a.1)
  (λits h' tk rv k h2 Q' hQ=>?_) (λits h' tk rv k=>Srt.runs_of λx y E' Q' hx hy hQ=>?_) (λits h1 h2 tk e out rv k1 k2 at_ pm pw=>?_)
 .refine PySem.W.kdu_collect src hh hok () λh' tk acc hk U=>k h' tk acc.toList hk ?_;exact wB Z (by rw[Q9];exact U.1) λj v e=>U.2 j v (by rwa[<-QZ])
 .refine PySem.W.kas_kind (T:= .type "int") h2 (λv hv=>?_) ∅ ∅ hQ;obtain⟨i,t,rfl⟩:=O its rv v hv;exact PySem.W.Looks.of_pure M
 .obtain⟨i,t,e1⟩:=O its rv _ (mem its x hx).2;obtain⟨j,t',e2⟩:=O its rv _ (mem its y hy).2;rw[e1,e2]at hQ⊢;refine PySem.W.kat_lt_int ?_;have e:HT.lexLt (BG<|Qk<|.int i t) (BG<|Qk<|.int j t')=decide (i<j):=by
   show HT.lexLt [i] [j]=_;rw[HT.lexLt_cons];by_cases z:i=j
   .rw[W7 z,HT.lexLt_nil_nil,Wj ()]
   .rw[W6 z]
  rw[e]at hQ;exact hQ
 .have a1:out.toList.Perm (its.zip its):=by
   have:=V0.mp pm;rwa [pairsOf_toList]at this
  have a2:∀z∈out.toList,z.1=z.2/\z.1∈its:=λz hz=>mem_zip_self (a1.mem_iff.mp hz);have e2:(out.map (·.2)).toList=out.toList.map (·.2):=Array.toList_map;have pv:((out.map (·.2)).toList).Perm its:=by
   rw[e2];refine(a1.map _).trans<|WC ?_;exact List.map_snd_zip<|Q4 _
  have hu:∀u∈(out.map (·.2)).toList,RelV (Qk u) u:=λu hu=>by
   obtain⟨x,_,r⟩:=nP rv (pv.mem_iff.mp hu);rwa[wC r]
  have vy:=AT hu;have I1:Inv X W B H {s with heap:=h1,toks:=tk}:=I.kept k1;have py:((out.map (·.2)).toList.map Qk).Perm (ns.map V.int):=by
   rw[<-Y,<-AS rv];exact pv.map _
  have a3:((out.map (·.2)).toList.map Qk).Pairwise (λa b=>HT.lexLt (BG b) (BG a)=false):=by
   rw[e2,QR];refine Zm.mpr<|pw.imp_of_mem λ{a b} ha hb h=>?_;show HT.lexLt (BG<|Qk b.2) (BG<|Qk a.2)=false;rwa[<-(a2 a ha).1,<-(a2 b hb).1]
  have lz:((out.map (·.2)).toList.map Qk).length<=sizeLine:=by
   rwa[py.length_eq,<-Y,a0]
  obtain⟨ms,em,a4⟩:=Gf py;rw[em]at vy a3 lz;refine⟨.ref h1.objs.size,upd H h1.objs.size<|.lst<|ms.map V.int,I1.laid (t':=tk) k2 (Q4 _) ⟨lz,_,e,vy,?_⟩,M,q _ _ (I1.hok.fresh<|Q4 _) a4 ?_⟩
  .rw[at_,XQ]
  .refine(Zm.mp a3).imp λ{a b} h=>?_;have h:HT.lexLt [b] [a]=false:=h;rw[HT.lexLt_cons]at h;by_cases z:b=a
   .lia
   .rw[W6 z]at h;have:=Wu h;lia
def BP (Y:X.A.handled=none):gk X (.builtin "sorted") (λxs H Q=>∃(a:Addr) (kvs:List (Key×V)) (ns:List Int),xs=[.ref a]/\Rd H a (.dK kvs)/\kS kvs=ns.map V.int/\
  ∀(l:Addr) (ms:List Int),H l=none->ms.Perm ns->ms.Pairwise (· <= ·)->Q (.ref l) (upd H l<|.lst<|ms.map V.int)):=by
 intro W s B H xs us Q I r h;obtain⟨a,kvs,ns,rfl,hd,G,q⟩:=h;obtain⟨u,rfl,Z⟩:=mV r;cases Z;obtain⟨z,lo,vs,O,dd⟩:=vi I.hok hd;obtain⟨ep,U⟩:=dd.dictAt;exact Cw Y I O z (PySem.W.kdl_dict (knd:=a9 X.prog X.w) (kvs:=vs) (ep:=ep) lo) U G q
inductive Oq (x:V) (vs:List V) (H:Hp) (Q:VK):Prop
 |mk (a kvs k v:_) (_:x= .ref a) (_:vs=[kV k]) (_:H a=some (.dK kvs)) (_:aF kvs k=some v) (_:Q v (upd H a<|.dK<|bN kvs k))
def Bw:Re X "dict.pop" Oq:=by
 intro W s B H x vs v us Q I z rv h;obtain⟨a,kvs,k,y,rfl,rfl,G,hl,q⟩:=h;cases z;obtain⟨u,rfl,O⟩:=rv.one;exact Md I G O hl (.inl M) λw' s' U Y=>⟨y,_,U,Y,q⟩
inductive Oo (K:WN) (x:V) (vs:List V) (H:Hp) (Q:VK):Prop
 |mk (sep:Str) (a:Addr) (ys:List Str) (_:x= .str sep) (_:vs=[.ref a]) (_:Fz K H a (ys.map V.str)) (_:sep.length<=16) (_:(ys.map (·.length)).sum+ys.length<=1048576) (_:Q (.str<|Txt.join sep ys) H)
def Cq:∀{ys:List Str} {its:List Value},G1 (ys.map V.str) its->StrsAre its ys
 | [],_,.nil=> .nil
 |_::_,_,.cons ⟨t,e⟩ r=>by subst e;exact .cons _ _<|Cq r
def KZ:Re X "str.join" (Oo X.K):=by
 intro W s B H x vs v us Q I z rv h;obtain⟨G,a,ys,rfl,rfl,hS,h1,h2,q⟩:=h;obtain⟨t,rfl⟩:=z;obtain⟨u,rfl,O⟩:=rv.one;cases O;obtain⟨its,r,pl,_⟩:=I.list hS;exact join_listW pl.isList (by simpa using Cq r) h1 h2 λt' k=>⟨.str _,H,I.tok _,⟨t',M⟩,q⟩
def rP {env:Env}:∀(l:List (Str×NameKind)) (G:List (Str×Addr)),(∀p∈l,p.2= .free->∃c,env.cells.lookup p.1=some c)->
  ∃cl,(forIn l G (λp G=>if(p.2==NameKind.free)=true then cellOf env p.1>>=λa=>pure (ForInStep.yield ((p.1,a)::G))else pure (ForInStep.yield G)):Sem _)=pure cl/\
   (∀y c,cl.lookup y=some c->G.lookup y=some c\/env.cells.lookup y=some c)/\(∀y c,G.lookup y=some c->∃I,cl.lookup y=some I)/\(∀y,(y,NameKind.free)∈l->∃c,cl.lookup y=some c)
 | [],G,_=>⟨G,by rw[List.forIn_nil],λy c h=> .inl h,λy c h=>⟨c,h⟩,λy h=>nomatch h⟩
 |(n,k)::r,G,h=>by
  rw[List.forIn_cons];by_cases hk:k= .free
  .subst hk;obtain⟨c,hc⟩:=h (n,.free) QB M;have hc:env.cells.lookup n=some c:=hc;have e:cellOf env n=pure c:=by unfold cellOf;rw[hc]
   obtain⟨cl,h1,h2,O,U⟩:=rP r ((n,c)::G) λp Y=>h p (QD _ Y);refine⟨cl,?_,λy I hy=>?_,λy I hy=>?_,λy hy=>?_⟩
   .simp only[WF,if_true,e,pure_bind];exact h1
   .rcases h2 y I hy with q|q
    .rw[Xm]at q;split at q
     .rename_i z
      cases q;rw[Wk]at z;subst z;exact .inr hc
     .exact .inl q
    .exact .inr q
   .by_cases z:y=n
    .exact O y c<|by rw[Xm,z];simp
    .exact O y I<|by rwa[Xm,Wo.mpr z]
   .rcases QH.mp hy with q|q
    .have Z:y=n:=(WL q).1;exact O y c<|by rw[Xm,Z];simp
    .exact U y q
  .have hb:(k==NameKind.free)=false:=by simpa using hk
   obtain⟨cl,h1,h2,O,U⟩:=rP r G λp Y=>h p (QD _ Y);refine⟨cl,?_,h2,O,λy hy=>?_⟩
   .simp only[hb,ZX,if_false,pure_bind];exact h1
   .rcases QH.mp hy with q|q
    .exact Wb (WL q).2.symm hk
    .exact U y q
def yf {env:Env} (h:∀p∈scope.names,p.2= .free->∃c,env.cells.lookup p.1=some c):
  ∃cl,closureFor scope env=pure cl/\(∀y c,cl.lookup y=some c->env.cells.lookup y=some c)/\(∀y,(y,NameKind.free)∈scope.names->∃c,cl.lookup y=some c):=by
 obtain⟨cl,h1,h2,_,G⟩:=rP scope.names [] h;refine⟨cl,?_,λy c hy=>(h2 y c hy).resolve_left λz=>by simp at z,G⟩;unfold closureFor;simp only[bind_pure];exact h1
def Qn (X:Cx) (M' N':List Str) (scope:Scope) (cl:List (Str×Addr)) (C:Addr) (s₂:Shared) (H₂:Hp) (fp:List Addr):Cx:=
 {X with N:=M'++N',s₀:=s₂,H₀:=H₂,env:=compEnvC scope cl C X.env,outer:=X.stack,stack:=X.stack,ex:=fp,fn:=λ_=>false,pn:=[],xe:=λ_ _=>False}
structure P6 (X:Cx) (M' N':List Str) (scope:Scope):Prop where
 kind:scope.kind= .function
 nd:(M'++N').Nodup
 ln:N'.length=X.N.length
 own:∀x∈M',scope.names.lookup x=some .local
 nocell:∀y∈scope.names,y.2≠ .cell
 names:∀y∈scope.names,y.2= .local->scope.names.lookup y.1=some .local
 free:∀y∈scope.names,y.2= .free->X.env.kindOf y.1=some .cell
 vis:∀(j:Nat) (y:Str),N'[j]?=some y->SA (relabel scope X.env) y->X.N[j]?=some y/\(y,NameKind.free)∈scope.names/\(relabel scope X.env).names.lookup y=some .cell
 cells:∀y,((relabel scope X.env).names.lookup y=some .cell\/(relabel scope X.env).names.lookup y=some .free)->(y,NameKind.free)∈scope.names
def Dt (n:Nat) (g:TG) (tc:TT) (te:TE) (B:St) (Q:VK) (J:It) (H1:Hp):Prop:=∀D,H1 D=none->∃JK:Nat->Nat->St->List V->Hp->Prop,(∃m,JK 0 m (List.replicate n none++B) [] (upd H1 D<|.lst []))/\∀i m τ ys H2,JK i m τ ys H2->H2 D=some (.lst ys)->
 (J.stop i H2/\Q (.ref D) H2)\/(J.go i H2/\∀x H3,J.yld i H2 x H3->∃G:St->Hp->Prop,(∀τ2 H4,G τ2 H4->∃(Ny:VK) (Ns:Hp->Prop),(∀y H6,Ny y H6->H6 D=some (.lst ys)/\ys.length<sizeLine/\∃m',m'<m/\JK (i+1) m' τ2 (ys++ [y]) (upd H6 D<|.lst<|ys++ [y]))/\
  (∀H5,Ns H5->H5 D=some (.lst ys)/\∃m',m'<m/\JK (i+1) m' τ2 ys H5)/\tc τ2 H4 λb H5=>if b=true then te τ2 H5 Ny else Ns H5)/\g x τ H3 G)
def LN:TT:=λ_ H Q=>Q true H
def PTs (X:Cx) (ifs:List Expr) (tc:TT):Prop:=∀(W:List (Addr×Obj)) (s:Shared) (B:St) (H:Hp) (Q:Bool->Hp->Prop),Inv X W B H s->tc B H Q->
 WO X (forIn ifs true λc r=>if r=true then do let ok<-isTrue c X.env (eval c X.env);pure (ForInStep.yield ok)else pure (ForInStep.yield r)) (λb s'=>∃H',Inv X W B H' s'/\Q b H') X.xe s
def KN:PTs X [] LN:=λ_ _ _ H _ I h=>wpAny_tests_nil ⟨H,I,h⟩
def E2 {c:Expr} (h:PT X c tc):PTs X [c] tc:=λW s B H Q I q=>wpAny_tests_one (h W s B H Q I q)
def P6.pg {s₂:Shared} {z:Hp} {fp:List Addr} (S:P6 X M' N' scope) (h:M'[i]?=some x):PG (Qn X M' N' scope cl C s₂ z fp) (.Name x px) (g7 i):=
 E3 S.nd (by show(M'++N')[i]?=_;rwa[Zt (Q1.mp h).1]) (.inl<|lookup_relabel_local<|S.own x<|Q2 h) (.inr<|lookup_relabel_local<|S.own x<|Q2 h)
structure Mp (X:Cx) (W:List (Addr×Obj)) (H:Hp) (C:Addr):Prop where
 no:H C=none
 fr:C≠X.env.locals
 ab:X.s₀.heap.objs.size<=C
 ce:∀x c,X.env.cells.lookup x=some c->c≠C
 pi:∀p∈X.pn++W,p.1≠C
def Aw (hc:X.calm=true) (S:P6 X M' N' scope) (hi:PI X tg iter wi)
  (hg:∀cl C s₂ a0 fp,PG (Qn X M' N' scope cl C s₂ a0 fp) tg g) (ba:∀cl C s₂ a0 fp,PTs (Qn X M' N' scope cl C s₂ a0 fp) ifs tc) (he:∀cl C s₂ a0 fp,PE (Qn X M' N' scope cl C s₂ a0 fp) elt te)
  (a1:∀y c,cl.lookup y=some c->X.env.cells.lookup y=some c) (b2:∀y,(y,NameKind.free)∈scope.names->∃c,cl.lookup y=some c) (I:Inv X W B H s) (h:wi B H R) (hB:∀J H,R J H->Dt M'.length g tc te B Q J H)
  (hR:∀D C s4 H',Inv X W B H' s4->(∃m,s4.heap.Ns C m)->Mp X W H' C->Q (.ref D) H'->RR (.ref D) C (.ok .next) s4):
  WO X (eval iter X.env) (λv s1=>WO X (pyIter v) (λb3 U=>WO X (newList []) (λacc s3=>
   WO X (newFunctionEnv scope X.env.globals cl [] X.env.qual none .none<|some X.env) (λaa s4=>
    codeAny (model X.prog X.w) X.A (.compStart (.ListComp elt [⟨tg,iter,ifs,0⟩] scope pos) 0 b3 acc {aa with scope:=relabel scope X.env}) (RR acc aa.locals) s4) X.xe s3) X.xe U) X.xe s1) X.xe s:=by
 refine P0 (hi W s B H _ I h) λv s1 h1=>P0 h1 λb3 U h2=>?_;obtain⟨it,fp,tn,J,H2,e,O,T,st2,f2,h⟩:=h2;subst e;refine wpAny_newObj_type<|wpAny_newFunctionEnv S.nocell (by intro y hy;simp at hy) (λh₁ Y Z=>?_) S.kind;dsimp only at Y Z⊢;generalize hD:U.heap.objs.size=D at*;generalize an:U.heap.push {cls:= .type "list",dict:=none,data:= .seq ([]:List Value).toArray}=h3 at Y Z⊢;have a3:h3.objs.size=D+1:=by rw[<-an,Heap.size_push,hD]
 have fD:H2 D=none:=O.hok.fresh (Zr hD);obtain⟨JK,⟨m0,w0⟩,turn⟩:=hB _ _ h D fD;generalize hC:h3.objs.size=C at*;have gD:U.heap.get? D=none:=WB (Zr hD);have gC:U.heap.get? C=none:=WB (by rw[hD,a3];exact ZU _);have DC:D≠C:=by rw[a3];exact Za<|Xd _
 have bb:∀b o,U.heap.get? b=some o->h3.get? b=some o:=λb o e=>by rw[<-an];exact W9 _ e
 have ab:∀b o,h3.get? b=some o->h₁.get? b=some o:=λb o e=>Z.extBut b o (by intro z;have:=Wg e;rw[z,hC]at this;exact Wb this<|Xb _) (W9 _ e);have up:∀b o,U.heap.get? b=some o->h₁.get? b=some o:=λb o e=>ab b o (bb b o e);have oD:h₁.get? D=some {cls:= .type "list",dict:=none,data:= .seq ([]:List Value).toArray}:=ab _ _ (by rw[<-an,<-hD];exact Wi _ M);have a5:∀b∈fp,b≠C/\b∉RH X.stack:=λb hb=>by
  obtain⟨o,e,_⟩:=T.obj _ _ st2 b hb;refine⟨λz=>(by rw[z,gC]at e;cases e),λz=>?_⟩;rcases QH.mp (O.stkSub b z)with q|q
  .exact(f2 b hb).2.1 q
  .exact(f2 b hb).2.2.1 q
 have fC:H2 C=none:=O.hok.fresh (by rw[hD,a3];exact ZU _);have ok:(Qn X M' N' scope cl C U H2 fp).Ok:=
  {mod:=O.ok.mod,kind:=S.kind,glob:=O.ok.glob,blt:=O.ok.blt,above:=by show U.heap.objs.size<=C;rw[hD,a3];exact ZU _
   inj:=λy z c h1 h2=>O.ok.inj y z c (a1 _ _ h1) (a1 _ _ h2),has:=λy hy=>b2 y (S.cells y hy),cab:=λy c z=>by cases z
   hd:=O.ok.hd,frames:=O.ok.frames,stk:= .inl M,exf:=λb hb=>⟨(a5 b hb).1,λy c e=>(f2 b hb).2.2.2.2.1 y c<|a1 y c e⟩
   bs:=O.bs,bsz:=QQ O.ok.bsz O.sz
   noex:=λb o e hb=>by
    rcases(f2 b hb).2.2.2.1 with q|q
    .exact O.ok.noex b o e q
    .exact Wb (QU (Wg e)<|QQ O.ok.bsz q) (Xb _)
   exfs:=λb hb=>(a5 b hb).2,funs:=O.stack,frf:=O.stkFree}
 have bt:∀b u,H2 b=some u->b≠D:=λb u e=>am e fD;have I3:Inv (Qn X M' N' scope cl C U H2 fp) [] (List.replicate M'.length none++B) (upd H2 D<|.lst []) {U with heap:=h₁,toks:=U.toks+([]:List (Str×Value)).length}:=
  {ok:=ok,os:=rfl,bare:=O.bare,base:=Un.laid up (Zr hD) fD
   loc:=⟨_,Y,λi y v e1 e2 e3=>by
    by_cases lt:i<M'.length
    .have e2:(List.replicate M'.length none++B)[i]?=some (some v):=e2;rw[Zt (by rwa[ZY]),List.getElem?_replicate,W7 lt]at e2;cases e2
    .have e1:(M'++N')[i]?=some y:=e1;have e2:(List.replicate M'.length none++B)[i]?=some (some v):=e2;rw[Zq (Nat.not_lt.mp lt)]at e1;rw[Zq (by rw[ZY];exact Nat.not_lt.mp lt),ZY]at e2;generalize i-M'.length=j at e1 e2;obtain⟨e1,q1,q2⟩:=S.vis j y e1 e3;have kc:=S.free _ q1 M;obtain⟨m,hn,hl⟩:=O.loc;obtain⟨u,r,l⟩:=hl j y v e1 e2 (.inr<|.inl kc);refine⟨u,r,?_⟩;rcases l with⟨k,_⟩|⟨_,c,e,z⟩
     .rw[kc]at k;cases k
     .obtain⟨c',e'⟩:=b2 y q1;have ee:=a1 _ _ e';rw[e]at ee;cases ee;obtain⟨o,ho,hd⟩:=z;exact .inr ⟨.inl q2,c,e',o,up _ _ ho,hd⟩⟩
   cell:=λy c e=>by
    obtain⟨v,o,ho,hd⟩:=O.cell y c (a1 _ _ e);exact⟨v,o,up _ _ ho,hd⟩
   free:=by show upd H2 D (.lst []) C=none;rwa[ae DC.symm]
   freeC:=λy c e=>by
    have q:=O.freeC y c (a1 _ _ e);obtain⟨v,o,ho,hd⟩:=O.cell y c (a1 _ _ e);rw[ae (λz=>by rw[z,gD]at ho;cases ho)];exact q
   pin:=λp hp=>Wb (show p∈([]:List (Addr×Obj)) from hp) (by simp)
   hok:=O.hok.laid up (Zr hD) ⟨QF _,[],0,.nil,oD⟩
   len:=by show(List.replicate M'.length none++B).length=(M'++N').length;rw[Q8,Q8,ZY,O.len,S.ln]}
 have a4:∀{H':Hp},(∀b∈fp,H' b=none)->∀b∈fp,Dz (Qn X M' N' scope cl C U H2 fp) [] H' b:=λhn b hb=>
  ⟨hn b hb,(a5 b hb).1,(a5 b hb).2,.inl hb,λy c e=>(f2 b hb).2.2.2.2.1 y c<|a1 _ _ e,λp hp=>Wb (show p∈([]:List (Addr×Obj)) from hp)<|by simp⟩
 have b6:tn 0 h₁:=T.keep _ _ _ st2 λb hb o e=>up b o e;have ah:∀s3:Shared,s3={U with heap:=h₁,toks:=U.toks+([]:List (Str×Value)).length}->
   codeAny (model X.prog X.w) X.A (.compLoop (.ListComp elt [⟨tg,iter,ifs,0⟩] scope pos) 0 (.ref it) (.ref D)<|compEnvC scope cl C X.env) (RR (.ref D) C) s3:=by
  rintro s3 rfl;refine codeAny_loop M (λn s'=>∃i τ ys H',Inv (Qn X M' N' scope cl C U H2 fp) [] τ H' s'/\tn i s'.heap/\(∀b∈fp,H' b=none)/\H' D=some (.lst ys)/\JK i n τ ys H') ?_ m0
   ⟨0,_,[],_,I3,b6,λb hb=>by rw[ae (λz=>by obtain⟨o,e,_⟩:=T.obj _ _ st2 b hb;rw[z,gD]at e;cases e)];exact(f2 b hb).1,ai,w0⟩
  rintro n s' ⟨i,τ,ys,H',I',st',b7,bc,w'⟩;show wpAny _ X.A ((compTurn (.ListComp elt [⟨tg,iter,ifs,0⟩] scope pos) 0 (.ref it) (.ref D)<|compEnvC scope cl C X.env).onRaise<|λx=>do noteFrame x (compEnvC scope cl C X.env);theTreesLotGoes x) _ _ s';refine wpAny_noted ?_;rw[compTurn_list];refine We<|wpAny_standAt (We ?_);rcases turn i n τ ys H' w' bc with⟨stop,qn⟩|⟨go,step⟩
  .refine P0 (T.done (Qn X M' N' scope cl C U H2 fp) M M M hc i [] s' _ H' _ I' (a4 b7) st' stop) λr s4 ⟨hr,I4⟩=>?_;subst hr;refine Wl ?_;obtain⟨m,hn,_⟩:=I4.loc;have IX:Inv X W B H' s4:=O.call' (s':=s4) I4.os (show Un (RH X.stack) fp H2 H' U.heap s4.heap from I4.base) I4.hok I4.bare λb hb=>⟨(f2 b hb).2.2.2.1,(f2 b hb).2.1,(f2 b hb).2.2.2.2.1,(f2 b hb).2.2.2.2.2⟩;refine hR D C s4 H' IX ⟨m,hn⟩ ⟨I4.free,λz=>?_,?_,λy c e z=>?_,λp hp z=>?_⟩ qn
   .have:=O.lt;rw[<-z,a3,hD]at this;exact Wb this<|Nat.not_lt.mpr (ZU _)
   .refine QQ O.sz ?_;rw[hD,a3];exact ZU _
   .obtain⟨v,o,ho,_⟩:=O.cell y c e;rw[z,gC]at ho;cases ho
   .have ho:=(O.pin p hp).1;rw[z,gC]at ho;cases ho
  .refine P0 (T.item (Qn X M' N' scope cl C U H2 fp) M M M hc i [] s' _ H' _ I' (a4 b7) st' go) λr s4 ⟨u,hr,h4⟩=>?_;subst hr;refine We<|P0 h4 λ_ s5 a2=>?_;obtain⟨y,H5,I5,r5,y5,ax,be⟩:=a2;have bf:=I5.pinned (a4 be) (T.obj _ _ ax);obtain⟨G,hG,gq⟩:=step y H5 y5;refine We<|Wv (hg cl C U H2 fp _ s5 _ H5 y _ _ bf r5 gq) (λ_ s6 a2=>?_) λ_ _ f=>f.elim;obtain⟨b8,H6,I6,q6⟩:=a2;have fin:∀{b9:St} {H7:Hp} {s7:Shared},Inv (Qn X M' N' scope cl C U H2 fp) ([]++xt fp s5.heap) b9 H7 s7->tn (i+1) s7.heap/\∀b∈fp,H7 b=none:=λ{b9 H7 s7} I7=>by
    refine⟨T.keep _ _ _ ax λb hb o e=>(I7.pin (b,o)<|QV _<|QV _<|mj hb e).1,λb hb=>?_⟩;obtain⟨o,e,d⟩:=T.obj _ _ ax b hb;exact(I7.pin (b,o)<|QV _<|QV _<|mj hb e).2.1
   obtain⟨Ny,Ns,hy,hn,q6⟩:=hG _ _ q6;refine We<|Wv (ba cl C U H2 fp _ s6 _ H6 _ I6 q6) (λb s7 ⟨H7,I7,q7⟩=>?_) λ_ _ f=>f.elim;cases b with
   |false=>
    rw[W6 Qz]at q7;obtain⟨bl,m',b1,w7⟩:=hn _ q7;exact Wl<|show _/\_ from⟨M,m',b1,i+1,b8,ys,_,I7.unpinned,(fin I7).1,(fin I7).2,bl,w7⟩
   |true=>
    rw[W7 M]at q7;refine We<|We (Wv (he cl C U H2 fp _ s7 _ H7 _ I7 q7) (λz s8 a2=>?_) λ_ _ f=>f.elim);obtain⟨y',H8,I8,r8,q8⟩:=a2;obtain⟨bo,br,m',b1,w8⟩:=hy _ _ q8;refine We<|Wv (eY (X:=Qn X M' N' scope cl C U H2 fp) _ s8 _ H8 (.ref D) [y'] (.ref D) [z] (λ_ H9=>H9=upd H8 D (.lst<|ys++ [y'])) I8 M (.cons r8 .nil) ⟨D,ys,y',M,M,bo,br,M⟩) (λz9 s9 a2=>?_) λ_ _ f=>f.elim;obtain⟨_,H9,I9,_,e9⟩:=a2;subst e9;exact Wl<|Wl ⟨M,m',b1,i+1,b8,ys++ [y'],_,I9.unpinned,(fin I9).1,(fin I9).2,ai,w8⟩
 exact codeAny_compStart_list (ah _ M)<|T.self _ 0 _ _ _ b6 (ah _ M)
def Inv.loose {h':Heap} (I:Inv X W B H s) (l:Mp X W H C) (z:Heap.SameBut C s.heap h'):Inv X W B H {s with heap:=h'}:=
 I.turned (t':=s.toks) (λb o hb e=>(z.2 b hb).trans e) l.no l.fr (.inr l.ab) l.ce l.pi
section
variable {py spos:Pos}
def CH (hB:∀B Q J H,WM B Q J H->Dt M'.length g tc te B Q J H) (hc:X.calm=true) (S:P6 X M' N' scope) (hi:PI X tg iter wi) (hg:P6 X M' N' scope->∀cl C s₂ z fp,PG (Qn X M' N' scope cl C s₂ z fp) tg g) (O:∀cl C s₂ z fp,PTs (Qn X M' N' scope cl C s₂ z fp) ifs tc) (he:∀cl C s₂ z fp,PE (Qn X M' N' scope cl C s₂ z fp) elt te)
  (hs:∀x,foldedSetIterable iter X.env x=pure x:=by intro _;rfl):PE X (.ListComp elt [⟨tg,iter,ifs,0⟩] scope pos) (λB H Q=>wi B H<|WM B Q):=by
 intro W s B H Q I h;obtain⟨cl,G,U,Y⟩:=yf (env:=X.env) (scope:=scope) λp hp hf=>I.ok.has p.1 (.inl<|S.free p hp hf);rw[eval_ListComp];refine wpAny_comprehension_free (use:=none) M hs G S.kind S.names<|Aw hc S hi (hg S) O he U Y I h (hB _ _) λD C s4 H' I4 Z l q=>?_;obtain⟨m,Z⟩:=Z;exact⟨m,Z,λh' sb=>⟨.ref D,H',I4.loose l sb,M,q⟩⟩
def HX (hB:∀B Q J H,WM B Q J H->Dt M'.length g tc te B Q J H) (hc:X.calm=true) (S:P6 X M' N' scope) (hi:PI X tg iter wi) (hg:P6 X M' N' scope->∀cl C s₂ G fp,PG (Qn X M' N' scope cl C s₂ G fp) tg g) (U:∀cl C s₂ G fp,PTs (Qn X M' N' scope cl C s₂ G fp) ifs tc) (he:∀cl C s₂ G fp,PE (Qn X M' N' scope cl C s₂ G fp) elt te)
  (hN:X.N.Nodup) (hy:X.N[i]?=some y) (hk:X.env.scope.names.lookup y=some .local) (Y:swapsWith (.ListComp elt [⟨tg,iter,ifs,0⟩] scope pos) (some<|.Name y py) spos.line X.env=pure true:=by rfl)
  (hs:∀x,foldedSetIterable iter X.env x=pure x:=by intro _;rfl):PS X (.Assign [.Name y py] (.ListComp elt [⟨tg,iter,ifs,0⟩] scope pos) spos) (HE (λB H Q=>wi B H<|WM B Q)<|g7 i):=by
 intro W s B H D I h;obtain⟨cl,O,Z,a0⟩:=yf (env:=X.env) (scope:=scope) λp hp hf=>I.ok.has p.1 (.inl<|S.free p hp hf);rw[exec_Assign_Name_used _ _ _ _ Y];refine We<|wpAny_standAt (We ?_);show wpAny _ X.A (do let _<-comprehension (.ListComp elt [⟨tg,iter,ifs,0⟩] scope pos) scope X.env _ (newList []) false (eval iter X.env) (some<|assign (.Name y py) X.env)) _ _ s;refine We (P0 (wpAny_comprehension_free (use:=some<|assign (.Name y py) X.env) (Q:=λ_ s'=>SP X W D .next s') M hs O S.kind S.names
  (Aw (Q:=λv H'=>D.nx (B.set i<|some v) H') hc S hi (hg S) U he Z a0 I h (hB _ _) λD' C s4 H' I4 hn l q=>?_)) λ_ s' hq=>Wl<|Wl hq)
 obtain⟨m,hn⟩:=hn;show wpAny _ X.A (assign (.Name y py) X.env<|.ref D') _ _ _;refine wpAny_assign_Name<|zX (v:= .ref D') I4 hN hy (.inl hk) M (λs5 I5 a1=>?_) (.inr hk);obtain⟨a,sb,ha⟩:=a1;have ne:C≠a:=by
  rcases ha with z|z
  .rw[z];exact l.fr
  .exact Ne.symm<|l.ce _ _ z
 exact⟨m,hn.sameBut sb ne,λh' a2=>⟨_,H',I5.loose l a2,q⟩⟩
end
def EI (te:TE) (B:St) (Q:VK) (J:It) (H1:Hp):Prop:=∀D,H1 D=none->∃JK:Nat->Nat->List V->Hp->Prop,(∃m,JK 0 m [] (upd H1 D<|.lst []))/\∀i m ys H2,JK i m ys H2->H2 D=some (.lst ys)->
 (J.stop i H2/\Q (.ref D) H2)\/(J.go i H2/\∀x H3,J.yld i H2 x H3->te (some x::B) H3 λy H4=>H4 D=some (.lst ys)/\ys.length<sizeLine/\∃m',m'<m/\JK (i+1) m' (ys++ [y]) (upd H4 D<|.lst<|ys++ [y]))
def Oc (wi:TI) (te:TE):TE:=λB H Q=>wi B H (EI te B Q)
def OS (h:EI te B Q J H1):Dt 1 (g7 0) LN te B Q J H1:=λD hD=>by
 obtain⟨JK,⟨O,U⟩,turn⟩:=h D hD;refine⟨λi m I ys H=>(∃v,I=v::B)/\JK i m ys H,⟨O,⟨none,M⟩,U⟩,λi m I ys H2 w e=>?_⟩;obtain⟨⟨v,rfl⟩,w⟩:=w;rcases turn i m ys H2 w e with z|⟨go,z⟩
 .exact .inl z
 .refine .inr ⟨go,λx H3 y=>⟨λG H4=>G=some x::B/\H4=H3,λG H4 e=>?_,M,M⟩⟩;obtain⟨rfl,rfl⟩:=e;refine⟨λy H6=>H6 D=some (.lst ys)/\ys.length<sizeLine/\∃m',m'<m/\JK (i+1) m' (ys++ [y]) (upd H6 D<|.lst<|ys++ [y]),λ_=>False,λy H6 n=>?_,λ_ n=>n.elim,?_⟩
  .obtain⟨Y,Z,m',n3,n4⟩:=n;exact⟨Y,Z,m',n3,⟨_,M⟩,n4⟩
  .exact cP (WM:=False)<|z x _ y
def pS (hc:X.calm=true) (S:P6 X [x] N' scope) (hi:PI X (.Name x px) iter wi) (he:∀cl C s₂ z fp,PE (Qn X [x] N' scope cl C s₂ z fp) elt te)
  (hs:∀x,foldedSetIterable iter X.env x=pure x:=by intro _;rfl):PE X (.ListComp elt [⟨.Name x px,iter,[],0⟩] scope pos) (Oc wi te):=
 CH (WM:=EI te) (λ_ _ _ _=>OS) hc S hi (λS _ _ _ _ _=>S.pg M) (λ_ _ _ _ _=>KN) he hs
noncomputable def CD (scope dsc:Scope):List (Str×NameKind):=scope.names.map λp=>if(p.2==NameKind.free&&dsc.kind==ScopeKind.function&&dsc.names.lookup p.1==some NameKind.cell)=true then(p.1,NameKind.cell)else(p.1,p.2)
def Mf (M' N N':List Str) (dsc:Scope) (scope:Scope):Bool:=
 (scope.kind==ScopeKind.function)&&decide (M'++N').Nodup&&(M'.all λx=>scope.names.lookup x==some NameKind.local)&&(scope.names.all λy=>y.2 !=NameKind.cell)&&(scope.names.all λy=>y.2 !=NameKind.local||scope.names.lookup y.1==some NameKind.local)
 &&(scope.names.all λy=>y.2 !=NameKind.free||dsc.names.lookup y.1==some NameKind.cell)&&(N'.all λy=>(CD scope dsc).lookup y !=some NameKind.local&&(CD scope dsc).lookup y !=some NameKind.free)&&decide (N'.length=N.length)&&(N'.zip N).all λp=>p.1==p.2||(CD scope dsc).lookup p.1==none
def sE {dsc:Scope}:∀{l:List (Str×NameKind)} {y:Str} {k:NameKind},(∀p∈l,p.2≠NameKind.cell)->(l.map λp=>if(p.2==NameKind.free&&dsc.kind==ScopeKind.function&&dsc.names.lookup p.1==some NameKind.cell)=true then(p.1,NameKind.cell)else(p.1,p.2)).lookup y=some k->(k= .cell\/k= .free)->(y,NameKind.free)∈l
 | [],y,k,_,h,_=>by simp at h
 |(n,kk)::r,y,k,hn,h,hk=>by
  rw[QO]at h;by_cases c:(kk==NameKind.free&&dsc.kind==ScopeKind.function&&dsc.names.lookup n==some NameKind.cell)=true
  .dsimp only at h;rw[W7 c,Xm]at h;split at h
   .rename_i z
    rw[Wk]at z;subst z;have:kk= .free:=by
     rw[Zb,Zb]at c;simpa using c.1.1
    rw[this];exact QB
   .exact QD _<|sE (λp G=>hn p<|QD _ G) h hk
  .dsimp only at h;rw[W6 c,Xm]at h;split at h
   .rename_i z
    rw[Wk]at z;subst z;cases h;rcases hk with e|e
    .exact Wb e<|hn _ QB
    .rw[e];exact QB
   .exact QD _<|sE (λp G=>hn p<|QD _ G) h hk
def P6.of {dsc:Scope} {N:List Str} (Y:X.N=N) (Z:X.env.scope=dsc) (h:Mf M' N N' dsc scope=true):P6 X M' N' scope:=by
 unfold Mf at h;simp only[Zb]at h;obtain⟨⟨⟨⟨⟨⟨⟨⟨h1,h2⟩,h3⟩,h4⟩,h5⟩,h6⟩,h7⟩,h8⟩,h9⟩:=h;have I:(relabel scope X.env).names=CD scope dsc:=by rw[<-Z];rfl
 have G:∀y∈scope.names,y.2≠NameKind.cell:=λy hy=>by have:=Xe.mp h4 y hy;simpa using this
 refine⟨by simpa using h1,Wd h2,by rw[Y];exact Wd h8,λx hx=>by simpa using Xe.mp h3 x hx,G,λy hy e=>?_,λy hy e=>?_,λj y U v=>?_,λy e=>?_⟩
 .have:=Xe.mp h5 y hy;rw[e]at this;simpa using this
 .have:=Xe.mp h6 y hy;rw[e]at this;show X.env.scope.names.lookup y.1=_;rw[Z];simpa using this
 .have O:=Xe.mp h7 y (Q2 U);have hz:∃z,N[j]?=some z/\(y,z)∈N'.zip N:=by
   have lj:=(Q1.mp U).1;have l8:N'.length=N.length:=Wd h8;refine⟨N[j]'(),Q3 _,?_⟩;refine Q2 (i:=j) ?_;rw[List.getElem?_zip_eq_some];exact⟨U,Q3 _⟩
  obtain⟨z,hz,mz⟩:=hz;have e9:=Xe.mp h9 _ mz;unfold SA at v;rw[I]at v⊢;have O:¬(CD scope dsc).lookup y=some NameKind.local/\¬(CD scope dsc).lookup y=some NameKind.free:=by simpa using O
  rcases v with v|v|v
  .exact Wb v O.1
  .refine⟨?_,sE G v<|.inl M,v⟩;rw[Y,hz];dsimp only at e9;rw[v,Bool.or_eq_true]at e9;rcases e9 with e9|e9
   .rw[Wk]at e9;rw[e9]
   .cases e9
  .exact Wb v O.2
 .have e:(CD scope dsc).lookup y=some .cell\/(CD scope dsc).lookup y=some .free:=by rwa[<-I]
  rcases e with e|e
  .exact sE G e<|.inl M
  .exact sE G e<|.inr M
def PY (n i:Nat) (ys:List V) (D:Addr) (Pv:Nat->List V->Hp->Prop):VK:=λy H4=>H4 D=some (.lst ys)/\ys.length<sizeLine/\∃m',m'<n-i/\m'=n-(i+1)/\i+1<=n/\Pv (i+1) (ys++ [y]) (upd H4 D<|.lst<|ys++ [y])
def PY.mk {Pv:Nat->List V->Hp->Prop} {y:V} (hi:i<n) (h1:H4 D=some (.lst ys)) (h2:ys.length<sizeLine) (z:Pv (i+1) (ys++ [y]) (upd H4 D<|.lst<|ys++ [y])):PY n i ys D Pv y H4:=
 ⟨h1,h2,n-(i+1),(),M,hi,z⟩
def u0 {a:Addr} (Pv:Nat->List V->Hp->Prop) (z:Pv 0 [] (upd H1 D<|.lst [])) (hl:∀i ys H,i<=xs.length->Pv i ys H->Fz K H a xs)
  (hs:∀i x ys H2,xs[i]?=some x->Pv i ys H2->H2 D=some (.lst ys)->te (some x::B) H2 (PY xs.length i ys D Pv))
  (hd:∀ys H2,Pv xs.length ys H2->H2 D=some (.lst ys)->Fin H2):
  ∃JK:Nat->Nat->List V->Hp->Prop,(∃m,JK 0 m [] (upd H1 D<|.lst []))/\∀i m ys H2,JK i m ys H2->H2 D=some (.lst ys)->
   ((RG K a).stop i H2/\Fin H2)\/((RG K a).go i H2/\∀x H3,(RG K a).yld i H2 x H3->te (some x::B) H3 λy H4=>H4 D=some (.lst ys)/\ys.length<sizeLine/\∃m',m'<m/\JK (i+1) m' (ys++ [y]) (upd H4 D<|.lst<|ys++ [y])):=by
 refine⟨λi m ys H=>m=xs.length-i/\i<=xs.length/\Pv i ys H,⟨xs.length,by simp,QF _,z⟩,?_⟩;rintro i m ys H ⟨rfl,hi,p⟩ hD;have q:=hl i ys H hi p;by_cases lt:i<xs.length
 .refine .inr ⟨⟨xs,xs[i],q,by simp[lt]⟩,λx H' y=>?_⟩;obtain⟨e,y⟩:=y;subst e;exact hs i x ys _ (y xs q) p hD
 .have e:i=xs.length:=();subst e;exact .inl ⟨⟨xs,q,Q4 _⟩,hd ys H p hD⟩
def rN {lo:Int} (Pv:Nat->List V->Hp->Prop) (z:Pv 0 [] (upd H1 D<|.lst []))
  (hs:∀i ys H2,i<n->Pv i ys H2->H2 D=some (.lst ys)->te (some (.int<|lo+i)::B) H2 (PY n i ys D Pv))
  (hd:∀ys H2,Pv n ys H2->H2 D=some (.lst ys)->Fin H2):
  ∃JK:Nat->Nat->List V->Hp->Prop,(∃m,JK 0 m [] (upd H1 D<|.lst []))/\∀i m ys H2,JK i m ys H2->H2 D=some (.lst ys)->
   ((RN lo n).stop i H2/\Fin H2)\/((RN lo n).go i H2/\∀x H3,(RN lo n).yld i H2 x H3->te (some x::B) H3 λy H4=>H4 D=some (.lst ys)/\ys.length<sizeLine/\∃m',m'<m/\JK (i+1) m' (ys++ [y]) (upd H4 D<|.lst<|ys++ [y])):=by
 refine⟨λi m ys H=>m=n-i/\i<=n/\Pv i ys H,⟨n,by simp,QF _,z⟩,?_⟩;rintro i m ys H ⟨rfl,hi,p⟩ hD;by_cases lt:i<n
 .refine .inr ⟨lt,λx H' y=>?_⟩;obtain⟨e,y⟩:=y;subst e y;exact hs i ys _ lt p hD
 .have e:i=n:=();subst e;exact .inl ⟨Q4 _,hd ys H p hD⟩
def BR (tc:TT) (te:TE) (B:St) (Q:VK) (J:It) (H1:Hp):Prop:=∀D,H1 D=none->∃JK:Nat->Nat->List V->Hp->Prop,(∃m,JK 0 m [] (upd H1 D<|.lst []))/\∀i m ys H2,JK i m ys H2->H2 D=some (.lst ys)->
 (J.stop i H2/\Q (.ref D) H2)\/(J.go i H2/\∀x H3,J.yld i H2 x H3->tc (some x::B) H3 λb H4=>if b=true then te (some x::B) H4 λy H5=>H5 D=some (.lst ys)/\ys.length<sizeLine/\∃m',m'<m/\JK (i+1) m' (ys++ [y]) (upd H5 D<|.lst<|ys++ [y])else H4 D=some (.lst ys)/\∃m',m'<m/\JK (i+1) m' ys H4)
def HB (wi:TI) (tc:TT) (te:TE):TE:=λB H Q=>wi B H (BR tc te B Q)
def Mg (h:BR tc te B Q J H1):Dt 1 (g7 0) tc te B Q J H1:=λD hD=>by
 obtain⟨JK,⟨Z,w0⟩,turn⟩:=h D hD;refine⟨λi m Y ys H=>(∃v,Y=v::B)/\JK i m ys H,⟨Z,⟨none,M⟩,w0⟩,λi m Y ys H2 w e=>?_⟩;obtain⟨⟨v,rfl⟩,w⟩:=w;rcases turn i m ys H2 w e with z|⟨go,z⟩
 .exact .inl z
 .refine .inr ⟨go,λx H3 y=>⟨λG H4=>G=some x::B/\H4=H3,λG H4 e=>?_,M,M⟩⟩;obtain⟨rfl,rfl⟩:=e;refine⟨_,_,λy H6 n=>?_,λH5 n=>?_,z x _ y⟩
  .obtain⟨I,n2,m',O,U⟩:=n;exact⟨I,n2,m',O,⟨_,M⟩,U⟩
  .obtain⟨I,m',O,U⟩:=n;exact⟨I,m',O,⟨_,M⟩,U⟩
def sI {G:Expr} (hc:X.calm=true) (S:P6 X [x] N' scope) (hi:PI X (.Name x px) iter wi) (I:∀cl C s₂ z fp,PT (Qn X [x] N' scope cl C s₂ z fp) G tc) (he:∀cl C s₂ z fp,PE (Qn X [x] N' scope cl C s₂ z fp) elt te)
  (hs:∀x,foldedSetIterable iter X.env x=pure x:=by intro _;rfl):PE X (.ListComp elt [⟨.Name x px,iter,[G],0⟩] scope pos) (HB wi tc te):=
 CH (WM:=BR tc te) (λ_ _ _ _=>Mg) hc S hi (λS _ _ _ _ _=>S.pg M) (λ_ _ _ _ _=>E2<|I _ _ _ _ _) he hs
def HY {G:Expr} {py spos:Pos} (hc:X.calm=true) (S:P6 X [x] N' scope) (hi:PI X (.Name x px) iter wi) (I:∀cl C s₂ z fp,PT (Qn X [x] N' scope cl C s₂ z fp) G tc) (he:∀cl C s₂ z fp,PE (Qn X [x] N' scope cl C s₂ z fp) elt te)
  (hN:X.N.Nodup) (hy:X.N[i]?=some y) (hk:X.env.scope.names.lookup y=some .local) (O:swapsWith (.ListComp elt [⟨.Name x px,iter,[G],0⟩] scope pos) (some<|.Name y py) spos.line X.env=pure true:=by rfl)
  (hs:∀x,foldedSetIterable iter X.env x=pure x:=by intro _;rfl):PS X (.Assign [.Name y py] (.ListComp elt [⟨.Name x px,iter,[G],0⟩] scope pos) spos) (HE (HB wi tc te)<|g7 i):=
 HX (WM:=BR tc te) (λ_ _ _ _=>Mg) hc S hi (λS _ _ _ _ _=>S.pg M) (λ_ _ _ _ _=>E2<|I _ _ _ _ _) he hN hy hk O hs
def Pw (n i:Nat) (ys:List V) (D:Addr) (Pv:Nat->List V->Hp->Prop) (H4:Hp):Prop:=H4 D=some (.lst ys)/\∃m',m'<n-i/\m'=n-(i+1)/\i+1<=n/\Pv (i+1) ys H4
def Pw.mk {Pv:Nat->List V->Hp->Prop} (hi:i<n) (h1:H4 D=some (.lst ys)) (z:Pv (i+1) ys H4):Pw n i ys D Pv H4:=⟨h1,n-(i+1),(),M,hi,z⟩
def mS {a:Addr} (Pv:Nat->List V->Hp->Prop) (G:Pv 0 [] (upd H1 D<|.lst [])) (hl:∀i ys H,i<=xs.length->Pv i ys H->Fz K H a xs)
  (hs:∀i x ys H2,xs[i]?=some x->Pv i ys H2->H2 D=some (.lst ys)->tc (some x::B) H2 λb H4=>if b=true then te (some x::B) H4 (PY xs.length i ys D Pv)else Pw xs.length i ys D Pv H4)
  (hd:∀ys H2,Pv xs.length ys H2->H2 D=some (.lst ys)->Fin H2):
  ∃JK:Nat->Nat->List V->Hp->Prop,(∃m,JK 0 m [] (upd H1 D<|.lst []))/\∀i m ys H2,JK i m ys H2->H2 D=some (.lst ys)->
   ((RG K a).stop i H2/\Fin H2)\/((RG K a).go i H2/\∀x H3,(RG K a).yld i H2 x H3->tc (some x::B) H3 λb H4=>if b=true then te (some x::B) H4 λy z=>z D=some (.lst ys)/\ys.length<sizeLine/\∃m',m'<m/\JK (i+1) m' (ys++ [y]) (upd z D<|.lst<|ys++ [y])else H4 D=some (.lst ys)/\∃m',m'<m/\JK (i+1) m' ys H4):=by
 refine⟨λi m ys H=>m=xs.length-i/\i<=xs.length/\Pv i ys H,⟨xs.length,by simp,QF _,G⟩,?_⟩;rintro i m ys H ⟨rfl,hi,p⟩ hD;have q:=hl i ys H hi p;by_cases lt:i<xs.length
 .refine .inr ⟨⟨xs,xs[i],q,by simp[lt]⟩,λx H' y=>?_⟩;obtain⟨e,y⟩:=y;subst e;exact hs i x ys _ (y xs q) p hD
 .have e:i=xs.length:=();subst e;exact .inl ⟨⟨xs,q,Q4 _⟩,hd ys H p hD⟩
noncomputable def Rq (a d:Addr):HO:= .ext λh=>h.IsItemsView a d
def Itd (ob:Obj) (d:Addr) (kvs:List (Key×V)):It:=
 ⟨λi H=>H d=some (.frz ob<|.dK kvs)/\i<kvs.length,λi H x H'=>∃p k v,x= .ref p/\H p=none/\kvs[i]?=some (k,v)/\H'=upd H p (.tup [kV k,v]),λi H=>H d=some (.frz ob<|.dK kvs)/\kvs.length<=i⟩
def NU (P:Program) (w:World) (ob:Obj) (d:Addr) (kvs:List (Key×V)) (vs:List (Key×Value)) (ep:Nat):Prop:=
 KV kvs vs/\∀h:Heap,h.get? d=some ob->h.DictAt (a9 P w) d vs ep
def KV.getI (h:KV kvs vs):∀{i:Nat} {k:Key} {v:V},kvs[i]?=some (k,v)->∃u,vs[i]?=some (k,u)/\RelV v u:=by
 induction h with
 |nil=>intro i k v e;simp at e
 |cons r t z=>
  rename_i p q ps qs
  intro i k v e;cases i with
  |zero=>
   simp at e;subst e;exact⟨q.2,by simp[show k=q.1 from r.1],r.2⟩
  |succ j=>
   obtain⟨u,h1,h2⟩:=z (i:=j) (by simpa using e);exact⟨u,by simpa using h1,h2⟩
def DW {x1} (it:Addr) (D:NU P w ob d kvs vs ep):
  Dy P w K (.Tuple elts x1 pos) (Itd ob d kvs) [it] it (λi h=>∃ok Y,IsItemIter h it d i vs.length ep ok Y) where
 mem:=by simp
 obj:=λi h st b hb=>by
  obtain⟨ok,Y,st⟩:=st;have z:b=it:=by simpa using hb
  subst z;exact⟨_,st,λv z=>by cases z⟩
 keep:=λi h h' st k=>by
  obtain⟨ok,Y,st⟩:=st;exact⟨ok,Y,k it (by simp) _ st⟩
 item:=by
  intro X hP hw hK hc i W s B H E I hf st hg;subst hP hw hK;obtain⟨ok,Y,st⟩:=st;obtain⟨hq,hi⟩:=hg;have fi:=hf it (by simp);obtain⟨G,_⟩:=I.hok d _ hq;have O:=D.2 s.heap G;obtain⟨⟨k,v⟩,hx⟩:∃kv,kvs[i]?=some kv:=⟨kvs[i],by simp[hi]⟩;obtain⟨u,hu,ru⟩:=KV.getI D.1 hx;refine wpAny_pyNext_items_item st O hu λkey h' a0 g1 g3 gz g5=>⟨_,M,?_⟩;refine wpAny_letOwnedTupleGo_items g1 λh2 k1 k2=>?_;have rk:RelV (kV k) key:=BF a0;have Z:H s.heap.objs.size=none:=I.hok.fresh (Q4 _);have a1:s.heap.objs.size≠it:=Vc (Wg st);have keep:∀b o,b≠it->s.heap.get? b=some o->h2.get? b=some o:=λb o z q=>(k2.2 b z).trans (g5 b o z q);have U:h2.get? s.heap.objs.size=some {cls:= .type "tuple",data:= .seq #[key,u]}:=(k2.2 _ a1).trans g3;have Rt:∀b v,H b=some v->b≠it:=λb v q z=>by rw[z,fi.1]at q;cases q
  have un:Un (RH X.stack) [it] H (upd H s.heap.objs.size<|.tup [kV k,v]) s.heap h2:=by
   refine⟨λb o q n hb hx=>keep b o (λz=>hx<|by simp[z]) q,λb o q n hb hx=>⟨o.slots,keep b o (λz=>hx<|by simp[z]) q⟩,λb o q n hx=>?_,
    λb o q hx=>⟨o,keep b o (λz=>hx<|by simp[z]) q⟩,λb ys q=>?_,λb o v q=>?_,λb ps q=>⟨#[],?_⟩⟩
   .rwa[ae (Za<|Wg q)]
   .rw[ae (am q Z)];exact q
   .rw[ae (am q Z)];exact q
   .rw[ae (am q Z),q];simp
  have hok:Pj X.prog X.w (upd H s.heap.objs.size<|.tup [kV k,v]) h2:=λb v' q=>by
   by_cases z:b=s.heap.objs.size
   .subst z;rw[ai]at q;cases q;exact⟨by show 2<=sizeLine;decide,[key,u],.cons rk<|.cons ru .nil,_,U,M,_,M⟩
   .rw[ae z]at q;refine(I.hok b v' q).stay (λc o hc r=>?_) (λc r=>by rwa[ae (am r Z)]) λc ys r=>by rwa[ae (am r Z)]
    rcases hc with rfl|hc
    .exact keep _ _ (Rt _ _ q) r
    .exact keep _ _ (Rt _ _ hc) r
  have I2:Inv X W B (upd H s.heap.objs.size<|.tup [kV k,v]) {s with heap:=h2}:=I.call' (s':={s with heap:=h2}) M un hok I.bare λb hb=>by
   have z:Dz X W H b:=hf b hb;exact⟨z.2.2.2.1,z.2.1,z.2.2.2.2.1,z.2.2.2.2.2⟩
  refine⟨.ref s.heap.objs.size,_,I2,M,⟨_,k,v,M,Z,hx,M⟩,⟨key,u,k1⟩,λb hb=>?_⟩;have z:b=it:=by simpa using hb
  subst z;rw[ae (Ne.symm a1)];exact fi.1
 done:=by
  intro X hP hw hK hc i W s B H E I hf st hg;subst hP hw hK;obtain⟨ok,Y,st⟩:=st;obtain⟨hq,hi⟩:=hg;obtain⟨G,_⟩:=I.hok d _ hq;have O:=D.2 s.heap G;obtain⟨f0,f1,f2,f3,f4,f5⟩:=hf it (by simp);have hl:kvs.length=vs.length:=D.1.length;exact wpAny_pyNext_items_end (I.ok.hd hc) st O (by simp;lia) λh' eb=>⟨M,I.turned (t':=s.toks) (λb o hb e=>eb b o hb e) f0 f1 f3 f4 f5⟩
 self:=λ_ _ _ _ _ st h=>let⟨_,_,st⟩:=st;PySem.W.kcp_self st h
inductive MS (x:V) (vs:List V) (H:Hp) (Q:VK):Prop
 |mk (d kvs:_) (_:x= .ref d) (_:vs=[]) (_:H d=some (.dK kvs)) (_:∀a,H a=none->Q (.ref a) (upd H a<|Rq a d))
def CP:Re X "dict.items" MS:=by
 intro W s B H x vs v us Q I G rv h;obtain⟨d,kvs,rfl,rfl,hd,q⟩:=h;cases G;cases rv;obtain⟨z,lo,O,U,dd⟩:=gi I.hok hd;refine WH V9 dd.typeIs PySem.F.entry_dict_items (PySem.F.args_dict_items_1 _) (meets_dict_items (a9 X.prog X.w) d lo) ⟨⟨O,dd⟩,?_⟩;have new:(s.heap.push {cls:= .type "dict_items",data:= .fields #[.ref d]}).get? s.heap.objs.size=some {cls:= .type "dict_items",data:= .fields #[.ref d]}:=Wi _ M;refine⟨.ref s.heap.objs.size,_,I.laid (t':=s.toks) (λb o e=>W9 _ e) (Q4 _) (show O9 X.prog X.w _ _ _ (Rq s.heap.objs.size d) from⟨⟨_,new,M,M⟩,⟨_,new⟩,λh1 h2 p k=>?_⟩),M,q _<|I.hok.fresh (Q4 _)⟩;obtain⟨o,e,c⟩:=p;exact⟨o,k o e,c⟩
def Inv.freeze {H:Hp} {d:Addr} {kvs:List (Key×V)} (I:Inv X W B H s) (hd:H d=some (.dK kvs)) (G:s.heap.get? d=some ob):Inv X W B (upd H d<|.frz ob<|.dK kvs) s:=by
 have own:∀b y,H b=some (.own y)->upd H d (.frz ob<|.dK kvs) b=some (.own y):=λb y q=>by rw[ae (λz=>by rw[z,hd]at q;cases q)];exact q
 have tup:∀b xs,H b=some (.tup xs)->upd H d (.frz ob<|.dK kvs) b=some (.tup xs):=λb xs q=>by rw[ae (λz=>by rw[z,hd]at q;cases q)];exact q
 have non:∀b,H b=none->upd H d (.frz ob<|.dK kvs) b=none:=λb q=>by rw[ae (λz=>by rw[z,hd]at q;cases q)];exact q
 refine⟨I.ok,I.os,I.bare,⟨I.base.keep,I.base.slot,λb o e n hx=>non b<|I.base.free b o e n hx,I.base.there,λb xs e=>tup b xs<|I.base.tups b xs e,λb o u e=>?_,λb ps e=>?_⟩,I.loc,I.cell,non _ I.free,λx c e=>non c<|I.freeC x c e,λp O=>?_,λb o e=>?_,I.len⟩
 .have:=I.base.frzs b o u e;rwa[ae (λz=>by rw[z,hd]at this;cases this)]
 .obtain⟨m,q⟩:=I.base.tbls b ps e;exact⟨m,by rw[ae (λz=>by rw[z,hd]at q;cases q)];exact q⟩
 .obtain⟨h1,h2,U⟩:=I.pin p O;exact⟨h1,non _ h2,U⟩
 .by_cases z:b=d
  .subst z;rw[ai]at e;cases e;exact⟨G,(I.hok b _ hd).stay (λ_ _ _ q=>q) (λc q=>own c b q) tup⟩
  .rw[ae z]at e;exact(I.hok b o e).stay (λ_ _ _ q=>q) (λc q=>own c b q) tup
def Inv.thaw {H:Hp} {d:Addr} {kvs:List (Key×V)} (I:Inv X W B H s) (hd:H d=some (.frz ob<|.dK kvs)) (G:∀o u,X.H₀ d≠some (.frz o u)):Inv X W B (upd H d<|.dK kvs) s:=by
 have own:∀b y,H b=some (.own y)->upd H d (.dK kvs) b=some (.own y):=λb y q=>by rw[ae (λz=>by rw[z,hd]at q;cases q)];exact q
 have tup:∀b xs,H b=some (.tup xs)->upd H d (.dK kvs) b=some (.tup xs):=λb xs q=>by rw[ae (λz=>by rw[z,hd]at q;cases q)];exact q
 have non:∀b,H b=none->upd H d (.dK kvs) b=none:=λb q=>by rw[ae (λz=>by rw[z,hd]at q;cases q)];exact q
 refine⟨I.ok,I.os,I.bare,⟨I.base.keep,I.base.slot,λb o e n hx=>non b<|I.base.free b o e n hx,I.base.there,λb xs e=>tup b xs<|I.base.tups b xs e,λb o u e=>?_,λb ps e=>?_⟩,I.loc,I.cell,non _ I.free,λx c e=>non c<|I.freeC x c e,λp O=>?_,λb o e=>?_,I.len⟩
 .have:=I.base.frzs b o u e;rwa[ae (λz=>by rw[z]at e;exact G _ _ e)]
 .obtain⟨m,q⟩:=I.base.tbls b ps e;exact⟨m,by rw[ae (λz=>by rw[z,hd]at q;cases q)];exact q⟩
 .obtain⟨h1,h2,U⟩:=I.pin p O;exact⟨h1,non _ h2,U⟩
 .by_cases z:b=d
  .subst z;rw[ai]at e;cases e;obtain⟨_,q⟩:=I.hok b _ hd;exact O9.stay (show O9 X.prog X.w H s.heap b (.dK kvs) from q) (λ_ _ _ q=>q) (λc q=>own c b q) tup
  .rw[ae z]at e;exact(I.hok b o e).stay (λ_ _ _ q=>q) (λc q=>own c b q) tup
def Inv.noFrz {H:Hp} {d:Addr} {kvs:List (Key×V)} (I:Inv X W B H s) (hd:H d=some (.dK kvs)):∀o u,X.H₀ d≠some (.frz o u):=λo u e=>by
 have:=I.base.frzs d o u e;rw[hd]at this;cases this
def Nr (te:TE):TI:=λB H R=>te B H λx H1=>∃a d kvs,x= .ref a/\H1 a=some (Rq a d)/\H1 d=some (.dK kvs)/\∀ob,R (Itd ob d kvs) (upd H1 d<|.frz ob<|.dK kvs)
def CF {x1} (hl:PE X l te):PI X (.Tuple elts x1 pos) l (Nr te):=by
 intro W s B H R I h;refine P0 (hl W s B H _ I h) λv s1 O=>?_;obtain⟨x,H1,U,r1,q1⟩:=O;obtain⟨a,d,kvs,e,ha,hd,q⟩:=q1;subst e;cases r1;obtain⟨z,lo,vs,Y,dd⟩:=gi U.hok hd;obtain⟨ep,G⟩:=dd.dictAt;obtain⟨vw,_,_⟩:=(show O9 X.prog X.w H1 s1.heap a (Rq a d) from U.hok a _ ha);obtain⟨ob,es,Z,rest⟩:=id G;refine wpAny_pyIter_items vw G ?_;have If:=U.freeze hd Z;refine⟨s1.heap.objs.size,[s1.heap.objs.size],_,_,_,M,If.kept (t':=s1.toks) λb o e=>W9 _ e,DW _ ⟨Y,λh e=>⟨ob,es,e,rest⟩⟩,⟨_,_,Wi _ M⟩,λb hb=>?_,q ob⟩;have e:b=s1.heap.objs.size:=by simpa using hb
 subst e;exact If.fpOk (Q4 _) (If.hok.fresh<|Q4 _)
inductive NZ (t:TS) (D:ub) (B:St) (H:Hp):Prop
 |mk (d kvs:_) (_:H d=some (.dK kvs)) (_:t ⟨λσ' H'=>∃ob,H' d=some (.frz ob<|.dK kvs)/\D.nx σ' (upd H' d<|.dK kvs),λv H'=>∃ob,H' d=some (.frz ob<|.dK kvs)/\D.rt v (upd H' d<|.dK kvs),λσ' H'=>∃ob,H' d=some (.frz ob<|.dK kvs)/\D.bk σ' (upd H' d<|.dK kvs),λσ' H'=>∃ob,H' d=some (.frz ob<|.dK kvs)/\D.ct σ' (upd H' d<|.dK kvs)⟩ B H)
def wq {st:Stmt} {t:TS} (h:PS X st t):PS X st (NZ t):=by
 intro W s B H D I ⟨d,kvs,hd,q⟩;have U:=I.noFrz hd;refine P0 (h W s B H _ I q) λf s1 Y=>?_;cases f with
 |next=>obtain⟨z,Z,G,ob,e,O⟩:=Y;exact⟨z,_,G.thaw e U,O⟩
 |cont=>obtain⟨z,Z,G,ob,e,O⟩:=Y;exact⟨z,_,G.thaw e U,O⟩
 |brk=>obtain⟨z,Z,G,ob,e,O⟩:=Y;exact⟨z,_,G.thaw e U,O⟩
 |ret v=>obtain⟨x7,z,Z,G,r7,ob,e,O⟩:=Y;exact⟨x7,z,_,G.thaw e U,r7,O⟩
def xZ (Pv:Nat->St->Hp->Prop) (O:Pv 0 B H) (hl:∀i B H,i<=kvs.length->Pv i B H->H d=some (.frz ob<|.dK kvs))
  (hs:∀i k v p B H,kvs[i]?=some (k,v)->Pv i B H->H p=none->g (.ref p) B (upd H p<|.tup [kV k,v]) λG H2=>tb ⟨Pv<|i+1,rt,nx,Pv<|i+1⟩ G H2) (hd:∀B H,Pv kvs.length B H->nx B H):
  ∃JK:Nat->Nat->St->Hp->Prop,(∃m,JK 0 m B H)/\∀i m B H,JK i m B H->
   ((Itd ob d kvs).stop i H/\nx B H)\/((Itd ob d kvs).go i H/\∃N:St->Hp->Prop,(∀I H',N I H'->∃m',m'<m/\JK (i+1) m' I H')/\∀x H',(Itd ob d kvs).yld i H x H'->g x B H' λG H2=>tb ⟨N,rt,nx,N⟩ G H2):=by
 refine⟨λi m B H=>m=kvs.length-i/\i<=kvs.length/\Pv i B H,⟨kvs.length,by simp,QF _,O⟩,?_⟩;rintro i m B H ⟨rfl,hi,p⟩;have q:=hl i B H hi p;by_cases lt:i<kvs.length
 .refine .inr ⟨⟨q,lt⟩,Pv<|i+1,λI H' z=>⟨kvs.length-(i+1),(),M,lt,z⟩,λx H' y=>?_⟩;obtain⟨U,k,v,rfl,Y,e,rfl⟩:=y;exact hs i k v U B H e p Y
 .have e:i=kvs.length:=();subst e;exact .inl ⟨⟨q,Q4 _⟩,hd B H p⟩
def Jy:bootBuiltins "sum"=some (.builtin "sum"):=by decide+kernel
section
variable (K:WN) (hK:X.K=K)
include hK
theorem zL:gk X (.builtin "len") (λxs H Q=>∃p ys,xs=[.ref p]/\(Fz K H p ys\/PX K H p ys)/\Q (.int ys.length) H):=by subst hK;exact aH
theorem IU:IxR X (rIxL K):=by subst hK;exact aW
theorem BH:IxR X (rIxT K):=by subst hK;exact bi
end
def Ay (hc:X.calm=true):gk X (.builtin "min") (λxs H Q=>∃(p:Addr) (ns:List Int),xs=[.ref p]/\Fz X.K H p (ns.map V.int)/\0<ns.length/\∀M',M'∈ns->(∀a∈ns,M'<=a)->Q (.int M') H):=by
 intro W s B H xs us Q I r h;obtain⟨p,ns,rfl,hq,G,q⟩:=h;obtain⟨u,rfl,U⟩:=mV r;cases U;obtain⟨its,rv,pl,hz⟩:=I.list hq;have hi:IntsAre its ns:=xU rv;obtain⟨xs,e⟩:=hi.allInts.items;have z:ns=xs.toList.map (·.1):=by
  rw[<-hi.numsOf,<-nums_intItems,<-e]
 have hsz:0<xs.size:=by
  have O:=G;rw[z,Q0,Q9]at O;exact O
 have hl:=pl.isList;rw[e]at hl;refine min_intList (I.ok.hd hc) hl hsz λv h' tk Y hk=>?_;obtain⟨t,rfl⟩:=intItems_at Y;obtain⟨h1,h2⟩:=argBest_lt (numAt xs) (xs.size-1);refine⟨.int _,H,I.kept (t':=tk) hk,⟨t,M⟩,q _ ?_ λa ha=>?_⟩
 .rw[z,numAt_eq];exact getD_mem<|by rw[Q0,Q9];lia
 .rw[z]at ha;obtain⟨j,Z,rfl⟩:=mem_getD ha;rw[Q0,Q9]at Z;rw[<-numAt_eq];exact h2 j ()
def Ae {y:Int}:∀{ns:List Int} {m:Nat},m<ns.idxOf y->(h:m<ns.length)->ns[m]≠y
 | [],m,_,h=>by simp at h
 |a::r,m,lt,h=>by
  rw[List.idxOf_cons]at lt;by_cases c:a=y
  .rw[c]at lt;simp at lt
  .have:(a==y)=false:=Wo.mpr c;rw[this]at lt;cases m with
   |zero=>exact c
   |succ j=>exact Ae (ns:=r) (m:=j) (by simpa using lt)<|by simpa using h
def As:∀(ns:List Int) (i:Nat),(ns.eraseIdx i).map V.int=(ns.map V.int).eraseIdx i
 | [],_=>rfl
 |_::_,0=>rfl
 |a::r,i+1=>by
  show V.int a::(r.eraseIdx i).map V.int=V.int a::(r.map V.int).eraseIdx i;rw[As r i]
inductive KJ (x:V) (vs:List V) (H:Hp) (Q:VK):Prop
 |mk (l:Addr) (xs:List V) (k:Int) (y:V) (_:x= .ref l) (_:vs=[.int k,y]) (_:H l=some (.lst xs)) (_:0<=k) (_:k<=(xs.length:Int)) (_:xs.length<sizeLine) (_:Q .non (upd H l<|.lst (xs.take k.toNat++y::xs.drop k.toNat)))
def Af:MtM X "list.insert" KJ:=by
 intro W s B H x vs v us Q I Y rv h;obtain⟨l,xs,k,y,rfl,rfl,O,h0,hk,hz,q⟩:=h;cases Y;obtain⟨u1,u,rfl,⟨t,rfl⟩,Z⟩:=rv.two;obtain⟨z,its,n,r,hl,e⟩:=I.lstM O;have G:¬(!Builtin.List.listFitsIndex k)=true:=by
  have U:=xQ;rw[fitsIndex_both () ()];exact Qz
 have hsz:its.toArray.size<=sizeLine:=by rw[QG];lia
 refine call_meets F.slot_list_insert ⟨_,e,M⟩ F.entry_list_insert (F.args_list_insert_3 _ _ _) (AutoListH.list_insert_list_int_val_1 l its.toArray n k t u G hsz) ⟨e,?_⟩;refine⟨.non,_,I.lset (its':=its.take k.toNat++u::its.drop k.toNat) O e ?_ ((r.take k.toNat).append<|.cons Z<|r.drop k.toNat) ?_,M,q⟩
 .have e0:(if k<0 then(k+((its.toArray.size:Nat):Int)).toNat else min k.toNat its.toArray.size)=k.toNat:=by
   rw[W6 (),QG];lia
  show(its.toArray.extract 0 _).push u++its.toArray.extract _=_;rw[e0];simp;exact QT<|by rw[Zf];lia
 .rw[Q8,QM,Q6,Zf];lia
inductive KI (x:V) (vs:List V) (H:Hp) (Q:VK):Prop
 |mk (l:Addr) (ns:List Int) (y:Int) (_:x= .ref l) (_:vs=[.int y]) (_:H l=some (.lst<|ns.map V.int)) (_:y∈ns) (_:Q .non (upd H l<|.lst<|(ns.erase y).map V.int))
def Gq:MtM X "list.remove" KI:=by
 intro W s B H x vs v us Q I rx rv h;obtain⟨l,ns,y,rfl,rfl,hH,hy,q⟩:=h;cases rx;obtain⟨u,rfl,ru⟩:=rv.one;obtain⟨t,rfl⟩:=ru;obtain⟨z,its,n,r,hl,e⟩:=I.lstM hH;have hi:IntsAre its ns:=xU r;have at_:∀(m:Nat) (O:m<its.toArray.size),∃t',its.toArray[m]=Value.int (ns.getD m 0) t':=λm O=>by
  have G:m<ns.length:=by rw[QG,<-hl,Q0]at O;exact O
  obtain⟨w,hw,Y⟩:=r.get (i:=m) (x:= .int<|ns.getD m 0) (by rw[QP,Q3 G,QJ,Q3 G];rfl);obtain⟨t',rfl⟩:=Y;refine⟨t',?_⟩;have:=(Q1.mp hw).2;simpa using this
 have hx:ns.idxOf y<ns.length:=List.idxOf_lt_length_of_mem hy;have ga:∀m,m<ns.length->ns.getD m 0=ns[m]!:=λm O=>by simp[O]
 refine call_meets F.slot_list_remove ⟨_,e,M⟩ F.entry_list_remove (F.args_list_remove_2 _ _) (MeetsSeq.list_remove l its.toArray n (.int y t) (λv=>match v with| .int i _=>i==y|_=>false) (λv hv=>?_) (ns.idxOf y) (by rwa[QG,<-hl,Q0]) ?_ (λm O lt=>?_)<|by rw[QG];lia) ⟨e,?_⟩
 .obtain⟨m,O,Z⟩:=Array.getElem_of_mem hv;obtain⟨t',U⟩:=at_ m O
  rw[<-Z,U];exact MeetsSeq.EqGives.int _ _ _ _
 .obtain⟨t',U⟩:=at_ (ns.idxOf y) (by rwa[QG,<-hl,Q0])
  rw[U];show(ns.getD (ns.idxOf y) 0==y)=true;rw[QJ,Q3 hx,Option.getD_some,List.getElem_idxOf hx];exact WF y
 .obtain⟨t',U⟩:=at_ m O
  rw[U];show(ns.getD m 0==y)=false;have G:m<ns.length:=();rw[QJ,Q3 G,Option.getD_some];exact Wo.mpr<|λw=>Ae lt G w
 .have ee:ns.erase y=ns.eraseIdx (ns.idxOf y):=(List.erase_eq_eraseIdx_of_idxOf M);have Z:(ns.eraseIdx<|ns.idxOf y).map V.int=(ns.map V.int).eraseIdx (ns.idxOf y):=As _ _;rw[ee,Z]at q;refine⟨.non,_,I.lset (its':=its.eraseIdx<|ns.idxOf y) hH e ?_ (r.eraseIdx<|ns.idxOf y) ?_,M,q⟩
  .show its.toArray.eraseIdxIfInBounds (ns.idxOf y)=(its.eraseIdx<|ns.idxOf y).toArray;rw[VJ]
  .have:=uP (ns.map V.int) (ns.idxOf y);lia
def Itk (ob:Obj) (d:Addr) (kvs:List (Key×V)):It:=
 ⟨λi H=>H d=some (.frz ob<|.dK kvs)/\i<kvs.length,λi H x H'=>H'=H/\∃k v,kvs[i]?=some (k,v)/\x=kV k,λi H=>H d=some (.frz ob<|.dK kvs)/\kvs.length<=i⟩
def FT (it:Addr) (D:NU P w ob d kvs vs ep):
  Dy P w K tg (Itk ob d kvs) [it] it (λi h=>h.IsKeyIter it d i vs.length ep) where
 mem:=by simp
 obj:=λi h st b hb=>by
  have z:b=it:=by simpa using hb
  subst z;obtain⟨o,e,c,dd⟩:=st;exact⟨o,e,λv z=>by rw[dd]at z;cases z⟩
 keep:=λi h h' st k=>by
  obtain⟨o,e,r⟩:=st;exact⟨o,k it (by simp) _ e,r⟩
 item:=by
  intro X Y hw hK hc i W s B H E I hf st Z;subst Y hw hK;obtain⟨hq,hi⟩:=Z;obtain⟨f0,f1,f2,f3,f4,f5⟩:=hf it (by simp);obtain⟨G,_⟩:=I.hok d _ hq;have O:=D.2 s.heap G;obtain⟨⟨k,v⟩,hx⟩:∃kv,kvs[i]?=some kv:=⟨kvs[i],by simp[hi]⟩;obtain⟨u,hu,ru⟩:=KV.getI D.1 hx;refine wpAny_pyNext_dict_item st O hu λkey h' U st' sb=>?_;have I1:Inv X W B H {s with heap:=h'}:=I.turned (t':=s.toks) (λb o hb e=>(sb.2 b hb).trans e) f0 f1 f3 f4 f5;obtain⟨o,e,c,dd⟩:=id st';exact⟨key,M,An (s:={s with heap:=h'}) e c dd (_) ⟨kV k,H,I1,BF U,⟨M,k,v,hx,M⟩,st',λb hb=>(hf b hb).1⟩⟩
 done:=by
  intro X Y hw hK hc i W s B H E I hf st Z;subst Y hw hK;obtain⟨hq,hi⟩:=Z;obtain⟨G,_⟩:=I.hok d _ hq;have O:=D.2 s.heap G;obtain⟨f0,f1,f2,f3,f4,f5⟩:=hf it (by simp);have hl:kvs.length=vs.length:=D.1.length;exact wpAny_pyNext_dict_end (I.ok.hd hc) st O (by simp;lia) λh' eb=>⟨M,I.turned (t':=s.toks) (λb o hb e=>eb b o hb e) f0 f1 f3 f4 f5⟩
 self:=λ_ _ _ _ _ st h=>wpAny_pyIter_keyiter st h
def ON (te:TE):TI:=λB H R=>te B H λx H1=>∃d kvs,x= .ref d/\H1 d=some (.dK kvs)/\∀ob,R (Itk ob d kvs) (upd H1 d<|.frz ob<|.dK kvs)
def KP (hl:PE X l te):PI X tg l (ON te):=by
 intro W s B H R I h;refine P0 (hl W s B H _ I h) λv s1 O=>?_;obtain⟨x,H1,I1,r1,q1⟩:=O;obtain⟨d,kvs,e,hd,q⟩:=q1;subst e;cases r1;obtain⟨z,lo,vs,U,dd⟩:=gi I1.hok hd;obtain⟨ep,G⟩:=dd.dictAt;obtain⟨ob,es,Y,rest⟩:=id G;refine wpAny_pyIter_dict lo G ?_;have Z:=I1.freeze hd Y;refine⟨s1.heap.objs.size,[s1.heap.objs.size],_,_,_,M,Z.kept (t':=s1.toks) λb o e=>W9 _ e,FT _ ⟨U,λh e=>⟨ob,es,e,rest⟩⟩,⟨_,Wi _ M,M,M⟩,λb hb=>?_,q ob⟩;have e:b=s1.heap.objs.size:=by simpa using hb
 subst e;exact Z.fpOk (Q4 _)<|Z.hok.fresh (Q4 _)
def jB:gk X (.type "dict") (λxs H Q=>∃d kvs,xs=[.ref d]/\H d=some (.dK kvs)/\∀p,H p=none->Q (.ref p) (upd H p<|.dK kvs)):=by
 intro W s B H xs us Q I r h;obtain⟨d,kvs,rfl,hd,q⟩:=h;obtain⟨u,rfl,O⟩:=mV r;cases O;obtain⟨z,lo,vs,G,dd⟩:=gi I.hok hd;refine kt_call_dict lo dd (by rwa[<-G.length]) λh' U hs=>?_;obtain⟨_,Y,_⟩:=yc (P:=X.prog) (w:=X.w) (H:=H) s.heap I.big;refine⟨.ref s.heap.objs.size,_,I.laid (a:=s.heap.objs.size) (o:= .dK kvs) (t':=s.toks) (λb o e=>(hs.2 b<|Za<|Wg e).trans<|W9 _ e) (Q4 _) ⟨z,Y,vs,G,U⟩,M,q _<|I.hok.fresh (Q4 _)⟩
def GM (Pv:Nat->St->Hp->Prop) (O:Pv 0 B H) (hl:∀i B H,i<=kvs.length->Pv i B H->H d=some (.frz ob<|.dK kvs))
  (hs:∀i k v B H,kvs[i]?=some (k,v)->Pv i B H->g (kV k) B H λG H2=>tb ⟨Pv<|i+1,rt,nx,Pv<|i+1⟩ G H2) (hd:∀B H,Pv kvs.length B H->nx B H):
  ∃JK:Nat->Nat->St->Hp->Prop,(∃m,JK 0 m B H)/\∀i m B H,JK i m B H->
   ((Itk ob d kvs).stop i H/\nx B H)\/((Itk ob d kvs).go i H/\∃N:St->Hp->Prop,(∀I H',N I H'->∃m',m'<m/\JK (i+1) m' I H')/\∀x H',(Itk ob d kvs).yld i H x H'->g x B H' λG H2=>tb ⟨N,rt,nx,N⟩ G H2):=by
 refine⟨λi m B H=>m=kvs.length-i/\i<=kvs.length/\Pv i B H,⟨kvs.length,by simp,QF _,O⟩,?_⟩;rintro i m B H ⟨rfl,hi,p⟩;have q:=hl i B H hi p;by_cases lt:i<kvs.length
 .refine .inr ⟨⟨q,lt⟩,Pv<|i+1,λI H' z=>⟨kvs.length-(i+1),(),M,lt,z⟩,λx H' y=>?_⟩;obtain⟨rfl,k,v,e,rfl⟩:=y;exact hs i k v B _ e p
 .have e:i=kvs.length:=();subst e;exact .inl ⟨⟨q,Q4 _⟩,hd B H p⟩
inductive KH (x:V) (vs:List V) (H:Hp) (Q:VK):Prop
 |mk (a kvs k y:_) (_:x= .ref a) (_:vs=[kV k,y]) (_:H a=some (.dK kvs)) (_:kvs.length<sizeLine) (_:(∀v,aF kvs k=some v->Q v H)) (_:(aF kvs k=none->Q y (upd H a<|.dK<|bn kvs k y)))
def Gp:Re X "dict.setdefault" KH:=by
 intro W s B H x vs v us Q I rx rv h;obtain⟨a,kvs,k,y,rfl,rfl,Y,hl,q1,q2⟩:=h;cases rx;obtain⟨u,r,rfl,ru,Z⟩:=va rv;obtain⟨z,hd,ws,O,dd⟩:=gi I.hok Y;have G:=O.val k;refine WH VT dd.typeIs PySem.F.entry_dict_setdefault (PySem.F.args_dict_setdefault_3 _ _ _) (kt_meets_setdefault (a9 X.prog X.w) a (sV ru) hd r) ⟨ws,dd,by rwa[<-O.length],λv hv=>?_,λhn h' U hs=>?_⟩
 .rw[hv]at G;cases e:aF kvs k with
  |none=>rw[e]at G;exact G.elim
  |some x=>
   rw[e]at G;exact⟨x,H,I.tok _,G,q1 x e⟩
 .rw[hn]at G;cases e:aF kvs k with
  |some x=>rw[e]at G;exact G.elim
  |none=>
   have he:∃q,h'.get? a=some q:=let⟨q,_,_,hq,_⟩:=U;⟨q,hq⟩
   have lp:=cu kvs k y;exact⟨y,_,pY I (by rw[Y];exact Wp) hs he<|yb () hd (O.put k Z) U,Z,q2 e⟩
def uL (kvs more:List (Key×V)):List (Key×V):=more.foldl (λacc p=>bn acc p.1 p.2) kvs
def KV.mrg {more:List (Key×V)} {z:List (Key×Value)} (h:KV more z):∀{kvs:List (Key×V)} {G:List (Key×Value)},KV kvs G->KV (uL kvs more) (merged G z):=by
 induction h with
 |nil=>intro kvs G r;exact r
 |cons r t I=>
  rename_i p q ps qs
  intro kvs G rw;have e:p.1=q.1:=r.1;have:=I (rw.put p.1 r.2);rw[e]at this;show KV (uL (bn kvs p.1 p.2) ps) _;rwa[e]
def xK:∀{more kvs:List (Key×V)},(uL kvs more).length<=kvs.length+more.length
 | [],_=>Q4 _
 |p::r,kvs=>by
  have h1:=xK (more:=r) (kvs:=bn kvs p.1 p.2);have h2:=cu kvs p.1 p.2;show(uL (bn kvs p.1 p.2) r).length<=_;rw[QM];lia
inductive rUpd (x:V) (vs:List V) (H:Hp) (Q:VK):Prop
 |mk (d o kvs more:_) (_:x= .ref d) (_:vs=[.ref o]) (_:d≠o) (_:H d=some (.dK kvs)) (_:H o=some (.dK more)) (_:kvs.length+more.length<=sizeLine) (_:Q .non (upd H d<|.dK<|uL kvs more))
def Go:Re X "dict.update" rUpd:=by
 intro W s B H x vs v us Q I rx rv h;obtain⟨d,o,kvs,more,rfl,rfl,ne,hd,ho,hl,q⟩:=h;cases rx;obtain⟨u,rfl,ru⟩:=mV rv;cases ru;obtain⟨z,lo,ws,O,dd⟩:=gi I.hok hd;obtain⟨z2,Y,Z,G,a0⟩:=gi I.hok ho;refine WH PySem.F.slot_dict_update dd.typeIs PySem.F.entry_dict_update (PySem.F.args_dict_update_2 _ _) (meets_dict_update (a9 X.prog X.w) d o ne Y) ⟨ws,Z,dd,a0,by rwa[<-O.length,<-G.length],λh' U _ hs=>?_⟩;have he:∃q,h'.get? d=some q:=let⟨q,_,_,hq,_⟩:=U;⟨q,hq⟩
 exact⟨.non,_,pY I (by rw[hd];exact Wp) hs he<|yb (QQ xK hl) lo (G.mrg O) U,M,q⟩
end L2
namespace PySem
open PySem.Spec
variable {E:Value->Shared->Prop}
section
variable {prog:Program} {w:World} {A:Around} {s:Shared}
def Jq:typeLookup (.type "list") "keys"=pure none:=am_miss_of_fast ∅
def Js {a:Addr} {o:Obj} {xs:Array Value} {k:Nat} {Q:Option Value->Shared->Prop} (hx:s.heap.get? a=some o) (hc:o.cls= .type "list") (z:o.data= .seq xs k) (hd:o.dict=none) (O:A.handled=none)
  (h:∀h' tk,(∀b ob,s.heap.get? b=some ob->h'.get? b=some ob)->Q none {s with heap:=h',toks:=tk}):
  wpAny (model prog w) A (getAttr? (.ref a) "keys") Q E s:=by
 obtain⟨c,U,Y,Z⟩:=o;simp only at hc z hd;subst hc z hd;obtain⟨hp,g,d,tk,os⟩:=s;have I:∀G,(⟨hp,g,d,G,os⟩:Shared).TypeIs (.ref a) "list":=λ_=>⟨_,hx,M⟩;have f1:=sub_AttributeError;have f3:=F.slot_list_getattribute.lookup;have f4:=F.slot_list_getattribute.bind (.ref a);have f5:=am_list_getattr_none;unfold getAttr? getAttrBy? getAttrBy
 repeat (any_goals (first|assumption|exact I _|((with_reducible show wpAny _ _ (call (Value.builtin "list.__getattribute__") _ _) _ _ _);refine call_meets F.slot_list_getattribute (I _) am_entry_list_getattribute (F.args_list_getattribute_2 _ _) (meets_getattribute_miss_list a xs k Z "keys" _ Jq ∅) ⟨hx,O,λh' G e hx'=>?_⟩)|wp_step))
 obtain⟨t',u',he⟩:=hx'.there;show wpAny _ _ (getattributeRaised _ _ _ _ _ _ _) _ _ _;unfold getattributeRaised
 repeat (any_goals (first|assumption|wp_step))
 exact h _ _ hx'.keeps
end
namespace F
def entry_dict_update_loop:entryFor table "dict.update.loop"=some Builtin.«dict.update.loop»:=entryFor_of_tree (by kernel_rfl)
def plain_dict_update_loop:plainId "dict.update.loop"=true:=by decide+kernel
end F
section
variable {prog:Program} {w:World} {K:Type} [DecidableEq K] {knd:KeyKind prog w K} {A:Around} {R:Result->Shared->Prop} {s:Shared}
def Jp {E:Value->Shared->Prop} {p:Addr} {k v:Value} {Q:List Value->Shared->Prop} (z:s.heap.IsTuple p #[k,v]) (h:Q [k,v] s):wpAny (model prog w) A (Builtin.Dict.pairItems<|.ref p) Q E s:=by
 obtain⟨o,G,hc,n,hd⟩:=z;have I:s.TypeIs (.ref p) "tuple":=⟨_,G,hc⟩;unfold Builtin.Dict.pairItems;refine We<|wpAny_typeOf I ?_;have e:((Value.type "tuple"==Value.type "list")||(Value.type "tuple"==Value.type "tuple"))=true:=by decide
 rw[W7 e];obtain⟨z,g,d,tk,os⟩:=s;obtain⟨c,O,U,Y⟩:=o;simp only at hc hd;subst hc hd
 repeat (any_goals (first|assumption|wp_step))
def Jr {I ax D:Addr} {items:Array Value} {ps:List (K×Value)} {h₀:Heap} (hh:A.handled=none) (a1:ax≠I) (G:D≠I) (a2:D≠ax) (n0:h₀.get? D=none) (n1:h₀.get? I=none) (hl:ps.length<=sizeLine)
  (hi:∀(j:Nat) (v:Value),items[j]?=some v->∃p k key x,v= .ref p/\ps[j]?=some (k,x)/\knd.is k key=true/\h₀.IsTuple p #[key,x]) (hs:ps.length=items.size):
  ∀(n i:Nat) (s:Shared),items.size-i=n->i<=items.size->s.heap.IsListIter I ax i->s.heap.IsList ax items->(∀b o,h₀.get? b=some o->s.heap.get? b=some o)->s.heap.DictOf knd D (merged []<|ps.take i)->
   (∀h' tk,(∀b o,h₀.get? b=some o->h'.get? b=some o)->h'.DictOf knd D (merged [] ps)->R (.ok<|.ret .none) {s with heap:=h',toks:=tk})->
   codeAny (model prog w) A (.builtin "dict.update.loop" ⟨[.ref D,.ref I,rawInt i,.none],[]⟩) R s:=by
 intro n
 induction n with
 |zero=>
  intro i s hn hi' it il kp dd hR;have e:i=items.size:=();subst e;refine codeAny_builtin F.entry_dict_update_loop ?_;rw[Around.under_plainId F.plain_dict_update_loop _];show wpAny _ A.in1 (pyNext (.ref I)>>=_) _ _ s;have a3:A.in1.handled=none:=by simp[hh]
  refine We<|wpAny_pyNext_list_end a3 it il (by simp) λh' Y=>?_;show wpAny _ A.in1 (Builtin.Dict.addKeywords D []>>=_) _ _ _;refine We<|Wl (Wl ?_);rw[QT (Zr hs)]at dd;refine hR h' s.toks (λb o e=>Y b o (λz=>by rw[z,n1]at e;cases e)<|kp b o e) ?_;exact dd.at λo e=>Y D o G e
 |succ n ih=>
  intro i s hn hi' it il kp dd hR;have O:i<items.size:=();refine codeAny_builtin F.entry_dict_update_loop ?_;rw[Around.under_plainId F.plain_dict_update_loop _];show wpAny _ A.in1 (pyNext (.ref I)>>=_) _ _ s;refine We<|wpAny_pyNext_list_item it il (x:=items[i]) (by simp[O]) λh' Z U=>?_;obtain⟨p,k,key,x,ev,ep,hk,tp⟩:=hi i items[i] (by simp[O]);rw[ev];have a0:∀b o,h₀.get? b=some o->h'.get? b=some o:=λb o e=>U.extBut b o (λz=>by rw[z,n1]at e;cases e) (kp b o e);have a4:h'.IsTuple p #[key,x]:=tp.at λo e=>a0 p o e;show wpAny _ A.in1 (holding [Value.ref p] _>>=_) _ _ _;refine We<|WA (We<|wpAny_tryCatch<|Jp a4 ?_);show wpAny _ _ (holding [key,x]<|dictSet D key x) _ _ _;refine WA<|wpAny_dictSet_pairs hk (kvs:=merged []<|ps.take i) ?_ (λh2 d2 s2=>?_) ?_
  .exact dd.at λo e=>U.extBut D o G e
  .refine Wl ⟨plainId_quiet F.plain_dict_update_loop _,ih (i+1) _ () O ?_ ?_ ?_ ?_ λh3 tk k3 d3=>hR h3 tk k3 d3⟩
   .exact Z.at λo e=>(s2.2 I<|Ne.symm G).trans e
   .exact(il.at λo e=>U.extBut ax o a1 e).at λo e=>(s2.2 ax<|Ne.symm a2).trans e
   .exact λb o e=>(s2.2 b<|λz=>by rw[z,n0]at e;cases e).trans (a0 b o e)
   .rwa[merged_take_succ _ _ _ _ ep]
  .have:=merged_length_le [] (ps.take i);rw[Q6]at this;simp only[XV]at this;lia
end
variable {E Q:Value->Shared->Prop}
section
variable {prog:Program} {w:World} {K:Type} [DecidableEq K] {knd:KeyKind prog w K} {A:Around} {s:Shared}
def Jt {l:Addr} {items:Array Value} {ps:List (K×Value)} (U:A.handled=none) (hl:PlainL s.heap l items) (hsz:ps.length<=sizeLine)
  (hi:∀(j:Nat) (v:Value),items[j]?=some v->∃p k key x,v= .ref p/\ps[j]?=some (k,x)/\knd.is k key=true/\s.heap.IsTuple p #[key,x]) (hs:ps.length=items.size)
  (h:∀h' tk,h'.DictOf knd s.heap.objs.size (merged [] ps)->(∀b o,s.heap.get? b=some o->h'.get? b=some o)->Q (.ref s.heap.objs.size) {s with heap:=h',toks:=tk}):
  wpAny (model prog w) A (call (.type "dict") [.ref l]) Q E s:=by
 refine callType_codes (Q₁:=λobj s₁=>obj= .ref s.heap.objs.size/\s₁={s with heap:=s.heap.push {cls:= .type "dict",data:= .dict #[]}}) F.kt_called_dict (F.kt_typeCall_dict_1 _) F.entry_dict_init (kt_code_dict_new _ ⟨M,M⟩) ?_;rintro obj s₁ ⟨rfl,rfl⟩;have z:(s.heap.push {cls:= .type "dict",data:= .dict #[]}).DictOf knd s.heap.objs.size []:=Heap.DictOf.new s.heap;obtain⟨o,n,Y,hc,hd,I⟩:=hl;have G:(s.heap.push {cls:= .type "dict",data:= .dict #[]}).get? l=some o:=W9 _ Y;have lD:l<s.heap.objs.size:=Wg Y;refine⟨z.typeIs,F.args_dict_init_2 _ _,?_⟩;unfold Builtin.«dict.__init__»;refine We ?_;unfold Builtin.Dict.selfAndRest;refine We<|wpAny_notOrdered_dict z.typeIs ?_;show wpAny _ _ (pure (s.heap.objs.size,[Value.ref l])) _ _ _;refine Wl ?_;show wpAny _ _ (Builtin.Dict.updateFrom "dict.__init__" s.heap.objs.size (.ref l) [] .none) _ _ _;unfold Builtin.Dict.updateFrom;refine We<|wpAny_typeOf (show Shared.TypeIs _ (.ref l) "list" from⟨_,G,hc⟩) ?_;rw[W7 (_)];refine We<|Js G hc I hd U λh1 a0 O=>?_;simp only[Option.isNone_none,if_true];refine We<|WK ?_;have l1:h1.IsList l items:=⟨_,O _ _ G,hc,n,I⟩;refine We<|wpAny_pyIter_list l1 ?_;have D1:h1.DictOf knd s.heap.objs.size []:=z.at λo e=>O _ _ e;have sl:l<h1.objs.size:=Wg (O _ _ G);have Z:s.heap.objs.size<h1.objs.size:=by obtain⟨o',_,_,e,_⟩:=D1;exact Wg e
 refine Wl ⟨by first|rfl|exact plainId_quiet F.plain_dict_update_loop _,?_⟩;refine Jr (knd:=knd) (h₀:=s.heap) (ax:=l) (by simp[U]) (Za sl) (Za Z) (Vc lD) (WB<|Q4 _) (WB<|Zl Z) hsz hi hs _ 0 _ M (QF _) ?_ ?_ ?_ ?_ ?_
 .exact⟨_,Wi _ M,M,M⟩
 .exact l1.push _
 .exact λb o e=>W9 _ (O _ _<|W9 _ e)
 .exact D1.push _
 .exact λh' tk kp dd=>⟨M,h h' tk dd kp⟩
end
end PySem
namespace L2
open PySem PySem.Spec PyProof.Rows
variable {d:Addr} {X:Cx} {tg:Expr} {H:Hp} {hi lo st:Int} {R:It->Hp->Prop} {W:List (Addr×Obj)} {kvs:List (Key×V)} {vs:List (Key×Value)} {ob:Obj} {P:Program} {K:WN} {s:Shared} {B:St} {nx:St->Hp->Prop} {g:TG} {tb:TS} {rt:VK} {E:Value->Shared->Prop} {w:World}
def Di (I:Inv X W B H s):∀{ts:List (Addr×Key×V)} {us:List Value},G1 (ts.map λe=>V.ref e.1) us->(∀e∈ts,PX X.K H e.1 [kV e.2.1,e.2.2])->∃ps:List (Key×Value),KV (ts.map (·.2)) ps/\∀(j:Nat) (v:Value),us[j]?=some v->∃p k key x,v= .ref p/\ps[j]?=some (k,x)/\(a9 X.prog X.w).is k key=true/\s.heap.IsTuple p #[key,x]
 | [],_,.nil,_=>⟨[],.nil,λj v h=>by cases j<;>cases h⟩
 |e::r,_,.cons h1 h2,tu=>by
  obtain⟨ps,kv,g⟩:=Di I h2 λy hy=>tu y (QD _ hy);cases h1;obtain⟨its,rv,z,_⟩:=I.tuple (tu e QB);obtain⟨a,b,rfl,ra,rb⟩:=Mw rv;refine⟨(e.2.1,b)::ps,.cons ⟨M,rb⟩ kv,λj v h=>?_⟩;cases j with
  |zero=>cases h;exact⟨_,_,_,_,M,M,sV ra,z⟩
  |succ j=>exact g j v h
def EH (G:X.A.handled=none):gk X (.type "dict") (λxs H Q=>∃(a:Addr) (ts:List (Addr×Key×V)),xs=[.ref a]/\Fz X.K H a (ts.map λe=>V.ref e.1)/\(∀e∈ts,PX X.K H e.1 [kV e.2.1,e.2.2])/\∀p,H p=none->Q (.ref p) (upd H p (.dK (uL [] (ts.map (·.2)))))):=by
 intro W s B H xs us Q I r h;obtain⟨a,ts,rfl,hl,tu,q⟩:=h;obtain⟨u,rfl,O⟩:=mV r;cases O;obtain⟨its,rv,pl,z⟩:=I.list hl;obtain⟨ps,kv,g⟩:=Di I rv tu;have l1:ts.length=ps.length:=by have:=kv.length;rwa [Q0]at this
 have l2:ts.length=its.length:=by have:=rv.length;rwa [Q0]at this
 rw[Q0]at z;refine Jt (knd:=a9 X.prog X.w) (ps:=ps) G pl () (λj v e=>g j v<|by simpa using e) (by rw[QG];lia) λh' tk dd U=>?_;obtain⟨_,Y,_⟩:=yc (P:=X.prog) (w:=X.w) (H:=H) s.heap I.big;have Z:(uL [] (ts.map (·.2))).length<=sizeLine:=by
  have:=xK (kvs:=[]) (more:=ts.map (·.2));rw[Q0]at this;simp only[XV]at this;lia
 refine⟨.ref s.heap.objs.size,_,I.laid (a:=s.heap.objs.size) (o:= .dK (uL [] (ts.map (·.2)))) (t':=tk) U (Q4 _) ⟨Z,Y,_,kv.mrg .nil,dd⟩,M,q _<|I.hok.fresh (Q4 _)⟩
inductive Op (x y:V) (H:Hp) (Q:VK):Prop
 |mk (a b:Addr) (ka kb:List (Key×V)) (_:x= .ref a) (_:y= .ref b) (_:H a=some (.dK ka)) (_:H b=some (.dK kb)) (_:ka.length=kb.length) (_:(∀p∈ka,Fl p.2/\aF kb p.1=some p.2)) (_:Q (.bl true) H)
def BN {A:Around} {I:List (Key×V)} {z:List (Key×Value)} (rb:KV I z):∀{ka:List (Key×V)} {O:List (Key×Value)},KV ka O->(∀p∈ka,Fl p.2/\aF I p.1=some p.2)->PySem.W.KeqHits A s z O true
 | [],_,.nil,_=> .nil
 |(k,v)::r,(k',u)::wr,.cons h1 h2,g=>by
  obtain⟨f,e⟩:=g (k,v) QB;obtain⟨G,rv⟩:=h1;have G:k=k':=G;subst G;obtain⟨y,hy,U⟩:=Pp.some_of (v:=v) (o:=valueAt z k) (by rw[<-e];exact rb.val k);exact .hit (e:=true) (b:=true) hy (Lk f rv U)<|BN rb h2 λq hq=>g q (QD _ hq)
def E8 (hu:X.A.units+20<cLine):Qa X (compareOp .Eq) Op:=by
 intro W s B H x y v u Q I rx ry h;obtain⟨a,b,ka,kb,rfl,rfl,ha,hb,l,g,q⟩:=h;cases rx;cases ry;obtain⟨z,lo,vs,O,dd⟩:=gi I.hok ha;obtain⟨z2,U,Z,G,Y⟩:=gi I.hok hb;have l1:ka.length=vs.length:=O.length;have l2:kb.length=Z.length:=G.length;have hl:vs.length=Z.length:=();refine PySem.W.keq_eq (r:=true) lo U dd Y () (λe=>BN G O g) ⟨.bl true,H,I,?_,q⟩;show Value.bool _=Value.bool _;simp[hl]
inductive Om (x y:V) (H:Hp) (Q:VK):Prop
 |mk (a b:Addr) (ka kb:List (Key×V)) (_:x= .ref a) (_:y= .ref b) (_:H a=some (.dK ka)) (_:H b=some (.dK kb)) (_:ka.length=kb.length) (_:(∀p∈ka,Fl p.2/\aF kb p.1=some p.2)) (_:Q (.bl false) H)
def Br (hu:X.A.units+20<cLine):Qa X (compareOp .NotEq) Om:=by
 intro W s B H x y v u Q I rx ry h;obtain⟨a,b,ka,kb,rfl,rfl,ha,hb,l,g,q⟩:=h;cases rx;cases ry;obtain⟨z,lo,vs,O,dd⟩:=gi I.hok ha;obtain⟨z2,U,Z,G,Y⟩:=gi I.hok hb;have l1:ka.length=vs.length:=O.length;have l2:kb.length=Z.length:=G.length;have hl:vs.length=Z.length:=();refine PySem.W.keq_ne (r:=true) lo U dd Y () (λe=>BN G O g) ⟨.bl false,H,I,?_,q⟩;show Value.bool _=Value.bool _;simp[hl]
noncomputable def Rc (a d:Addr):HO:= .ext λh=>h.IsValuesView a d
def Itw (ob:Obj) (d:Addr) (kvs:List (Key×V)):It:=
 ⟨λi H=>H d=some (.frz ob<|.dK kvs)/\i<kvs.length,λi H x H'=>H'=H/\∃k,kvs[i]?=some (k,x),λi H=>H d=some (.frz ob<|.dK kvs)/\kvs.length<=i⟩
def FP {ep:Nat} (it:Addr) (D:NU P w ob d kvs vs ep):
  Dy P w K tg (Itw ob d kvs) [it] it (λi h=>h.IsValIter it d i vs.length ep) where
 mem:=by simp
 obj:=λi h st b hb=>by
  have z:b=it:=by simpa using hb
  subst z;obtain⟨o,e,c,dd⟩:=st;exact⟨o,e,λv z=>by rw[dd]at z;cases z⟩
 keep:=λi h h' st k=>by
  obtain⟨o,e,r⟩:=st;exact⟨o,k it (by simp) _ e,r⟩
 item:=by
  intro X U hw hK hc i W s B H E I hf st Y;subst U hw hK;obtain⟨hq,hi⟩:=Y;obtain⟨Z,f1,f2,f3,f4,f5⟩:=hf it (by simp);obtain⟨G,_⟩:=I.hok d _ hq;have O:=D.2 s.heap G;obtain⟨⟨k,v⟩,hx⟩:∃kv,kvs[i]?=some kv:=⟨kvs[i],by simp[hi]⟩;obtain⟨u,hu,ru⟩:=KV.getI D.1 hx;refine wpAny_pyNext_values_item st O hu λh' st' sb=>?_;have I1:Inv X W B H {s with heap:=h'}:=I.turned (t':=s.toks) (λb o hb e=>(sb.2 b hb).trans e) Z f1 f3 f4 f5;obtain⟨o,e,c,dd⟩:=id st';exact⟨u,M,An (s:={s with heap:=h'}) e c dd (_) ⟨v,H,I1,ru,⟨M,k,hx⟩,st',λb hb=>(hf b hb).1⟩⟩
 done:=by
  intro X U hw hK hc i W s B H E I hf st Y;subst U hw hK;obtain⟨hq,hi⟩:=Y;obtain⟨G,_⟩:=I.hok d _ hq;have O:=D.2 s.heap G;obtain⟨Z,f1,f2,f3,f4,f5⟩:=hf it (by simp);have hl:kvs.length=vs.length:=D.1.length;exact wpAny_pyNext_values_end (I.ok.hd hc) st O (by simp;lia) λh' eb=>⟨M,I.turned (t':=s.toks) (λb o hb e=>eb b o hb e) Z f1 f3 f4 f5⟩
 self:=λ_ _ _ _ _ st h=>wpAny_pyIter_valiter st h
inductive Oj (x:V) (vs:List V) (H:Hp) (Q:VK):Prop
 |mk (d kvs:_) (_:x= .ref d) (_:vs=[]) (_:H d=some (.dK kvs)) (_:∀a,H a=none->Q (.ref a) (upd H a<|Rc a d))
def uK:Re X "dict.values" Oj:=by
 intro W s B H x vs v us Q I G rv h;obtain⟨d,kvs,rfl,rfl,hd,q⟩:=h;cases G;cases rv;obtain⟨z,lo,O,U,dd⟩:=gi I.hok hd;refine WH Xu dd.typeIs PySem.F.entry_dict_values (PySem.F.args_dict_values_1 _) (meets_dict_values (a9 X.prog X.w) d lo) ⟨⟨O,dd⟩,?_⟩;have new:(s.heap.push {cls:= .type "dict_values",data:= .fields #[.ref d]}).get? s.heap.objs.size=some {cls:= .type "dict_values",data:= .fields #[.ref d]}:=Wi _ M;refine⟨.ref s.heap.objs.size,_,I.laid (t':=s.toks) (λb o e=>W9 _ e) (Q4 _) (show O9 X.prog X.w _ _ _ (Rc s.heap.objs.size d) from⟨⟨_,new,M,M⟩,⟨_,new⟩,λh1 h2 p k=>?_⟩),M,q _<|I.hok.fresh (Q4 _)⟩;obtain⟨o,e,c⟩:=p;exact⟨o,k o e,c⟩
def OI (te:TE):TI:=λB H R=>te B H λx H1=>∃a d kvs,x= .ref a/\H1 a=some (Rc a d)/\H1 d=some (.dK kvs)/\∀ob,R (Itw ob d kvs) (upd H1 d<|.frz ob<|.dK kvs)
def KO {l:Expr} {te:TE} (hl:PE X l te):PI X tg l (OI te):=by
 intro W s B H R I h;refine P0 (hl W s B H _ I h) λv s1 O=>?_;obtain⟨x,H1,U,r1,q1⟩:=O;obtain⟨a,d,kvs,e,ha,hd,q⟩:=q1;subst e;cases r1;obtain⟨z,lo,vs,Y,dd⟩:=gi U.hok hd;obtain⟨ep,G⟩:=dd.dictAt;obtain⟨vw,_,_⟩:=(show O9 X.prog X.w H1 s1.heap a (Rc a d) from U.hok a _ ha);obtain⟨ob,es,Z,rest⟩:=id G;refine wpAny_pyIter_values vw G ?_;have If:=U.freeze hd Z;refine⟨s1.heap.objs.size,[s1.heap.objs.size],_,_,_,M,If.kept (t':=s1.toks) λb o e=>W9 _ e,FP _ ⟨Y,λh e=>⟨ob,es,e,rest⟩⟩,⟨_,Wi _ M,M,M⟩,λb hb=>?_,q ob⟩;have e:b=s1.heap.objs.size:=by simpa using hb
 subst e;exact If.fpOk (Q4 _)<|If.hok.fresh (Q4 _)
def Ji (Pv:Nat->St->Hp->Prop) (O:Pv 0 B H) (hl:∀i B H,i<=kvs.length->Pv i B H->H d=some (.frz ob<|.dK kvs))
  (hs:∀i k v B H,kvs[i]?=some (k,v)->Pv i B H->g v B H λG H2=>tb ⟨Pv<|i+1,rt,nx,Pv<|i+1⟩ G H2) (hd:∀B H,Pv kvs.length B H->nx B H):
  ∃JK:Nat->Nat->St->Hp->Prop,(∃m,JK 0 m B H)/\∀i m B H,JK i m B H->
   ((Itw ob d kvs).stop i H/\nx B H)\/((Itw ob d kvs).go i H/\∃N:St->Hp->Prop,(∀I H',N I H'->∃m',m'<m/\JK (i+1) m' I H')/\∀x H',(Itw ob d kvs).yld i H x H'->g x B H' λG H2=>tb ⟨N,rt,nx,N⟩ G H2):=by
 refine⟨λi m B H=>m=kvs.length-i/\i<=kvs.length/\Pv i B H,⟨kvs.length,by simp,QF _,O⟩,?_⟩;rintro i m B H ⟨rfl,hi,p⟩;have q:=hl i B H hi p;by_cases lt:i<kvs.length
 .refine .inr ⟨⟨q,lt⟩,Pv<|i+1,λI H' z=>⟨kvs.length-(i+1),(),M,lt,z⟩,λx H' y=>?_⟩;obtain⟨rfl,k,e⟩:=y;exact hs i k x B _ e p
 .have e:i=kvs.length:=();subst e;exact .inl ⟨⟨q,Q4 _⟩,hd B H p⟩
def EV:∀{kvs:List (Key×V)} {vs:List (Key×Value)} {ns:List Int},KV kvs vs->kvs.map (·.2)=ns.map V.int->∀(i:Nat) (k:Key) (v:Value),vs[i]?=some (k,v)->∃t:Tok,v= .int (ns.getD i 0) t
 | [],_,_,.nil,_,i,k,v,h=>by cases i<;>cases h
 |p::r,_,ns,.cons h1 h2,e,i,k,v,h=>by
  cases ns with
  |nil=>cases e
  |cons n ns=>
   obtain⟨z,e2⟩:=List.cons.inj e;cases i with
   |zero=>
    cases h;have z:p.2= .int n:=z;have:=h1.2;rw[z]at this;exact this
   |succ i=>exact EV h2 e2 i k v h
def HG:∀ns:List Int,preSum (λi=>ns.getD i 0) ns.length=ns.sum
 | []=>rfl
 |n::r=>by
  rw[QM,PySem.W.kdu_shift,V5,<-HG r];rfl
def Ax (hh:X.A.handled=none):gk X (.builtin "sum") (λxs H Q=>∃(a d:Addr) (kvs:List (Key×V)) (ns:List Int),xs=[.ref a]/\H a=some (Rc a d)/\H d=some (.dK kvs)/\kvs.map (·.2)=ns.map V.int/\Q (.int ns.sum) H):=by
 intro W s B H xs us Q I r h;obtain⟨a,d,kvs,ns,rfl,ha,hd,G,q⟩:=h;obtain⟨u,rfl,ru⟩:=mV r;cases ru;obtain⟨z,lo,vs,O,dd⟩:=gi I.hok hd;obtain⟨ep,U⟩:=dd.dictAt;obtain⟨vw,_,_⟩:=(show O9 X.prog X.w H s.heap a (Rc a d) from I.hok a _ ha);have S:=PySem.W.kdl_values (prog:=X.prog) (w:=X.w) (r:=a) (d:=d) (knd:=a9 X.prog X.w) (kvs:=vs) (ep:=ep);have ok:s.heap.IsValuesView a d/\s.heap.DictAt (a9 X.prog X.w) d vs ep:=⟨vw,U⟩;have l1:vs.length=ns.length:=by
  have h1:=O.length;have h2:=Wr List.length G;rw[Q0,Q0]at h2;lia
 refine call_sum_walkAnyS ?_;obtain⟨oI,St,Y,JK,st⟩:=S.iter X.A.in1 s hh ok;refine Y _ _ ⟨s.heap.objs.size,_,_,_,vs.length,_,_,(λi=>ns.getD i 0),M,JK.toS,st,λb hb=>?_,λi v ⟨k,e⟩=>EV O G i k v e,λs' t' Z=>?_⟩
 .show b<(s.heap.push oI).objs.size;rw[size_push'];rcases QH.mp hb with e|hb
  .rw[e];exact Xd _
  .rw[Q7.mp hb];exact VE (S.there _ ok).2
 .have hk:∀b o,s.heap.get? b=some o->s'.heap.get? b=some o:=λb o e=>
   Z.heap b o (λhI=>Wb (Wg e)<|by rw[Q7.mp hI];exact Xb _) (W9 _ e)
  rw[Moved.eq_with Z,l1,HG];exact⟨.int _,H,I.kept (t':=s'.toks) hk,⟨t',M⟩,q⟩
def G2 (lo st:Int) (n:Nat):It:=⟨λi _=>i<n,λi H x H'=>H'=H/\x= .int (lo+i*st),λi _=>n<=i⟩
def Cm (it:Addr) (lo st:Int) (n:Nat):Dy P w K tg (G2 lo st n) [it] it (λi h=>IsRangeIter h it (lo+(i:Nat)*st) ((n:Int)-(i:Nat)) st) where
 mem:=by simp
 obj:=λi h G b hb=>by
  have e:b=it:=by simpa using hb
  subst e;exact⟨_,G,λv z=>by
   have z':Data.fields _=Data.cell v:=z;cases z'⟩
 keep:=λi h h' G k=>k it (by simp) _ G
 item:=by
  intro X O hw hK hc i W s B H E I hf G U;subst O hw hK;obtain⟨Y,Z,f2,f3,f4,f5⟩:=hf it (by simp);have JK:=Walks.range (prog:=X.prog) (w:=X.w) (I.ok.hd hc) it lo st n;refine JK.item i s _ _ U G λv h' tk hv st' kk=>?_;obtain⟨t,rfl⟩:=hv;have I1:Inv X W B H {s with heap:=h',toks:=tk}:=I.turned (λb o hb e=>kk b o (by simpa using hb) e) Y Z f3 f4 f5;exact⟨_,M,An (s:={s with heap:=h',toks:=tk}) (n:="range_iterator") st' M M (_) ⟨.int<|lo+i*st,H,I1,⟨t,M⟩,⟨M,M⟩,st',λb hb=>(hf b hb).1⟩⟩
 done:=by
  intro X O hw hK hc i W s B H E I hf G U;subst O hw hK;obtain⟨Y,Z,f2,f3,f4,f5⟩:=hf it (by simp);exact wpAny_pyNext_range_end (I.ok.hd hc) G (by have:n<=i:=U;lia) λh' eb=>⟨M,I.turned (t':=s.toks) (λb o hb e=>eb b o hb e) Y Z f3 f4 f5⟩
 self:=λ_ _ _ _ _ G h=>wpAny_pyIter_rangeiter G h
noncomputable def rO (lo hi st:Int):Nat:=(Builtin.Range.rangeSize lo hi st).toNat
def qq (h:0<st):Builtin.Range.rangeSize lo hi st=if lo<hi then(hi-lo-1)/st+1 else 0:=by
 unfold Builtin.Range.rangeSize;rw[W7 h]
def Bk (h:0<st) (z:0<=lo) (h1:0<=hi):0<=Builtin.Range.rangeSize lo hi st/\Builtin.Range.rangeSize lo hi st<=hi:=by
 rw[qq h];split
 .have a:0<=(hi-lo-1)/st:=VU () ();have b:(hi-lo-1)/st<=hi-lo-1:=Int.ediv_le_self _ ();lia
 .lia
def Gb {t u v:Tok} {tk:Nat} (I:Inv X W B H s) (h1:0<=lo) (h2:lo<2^30) (Y:0<=hi) (Z:hi<2^30) (U:0<st) (h6:st<2^30)
  (q:R (G2 lo st<|rO lo hi st) H):WO X (pyIter<|.ref s.heap.objs.size) (PIE X W B tg R) E {s with heap:=s.heap.push {cls:= .type "range",data:= .fields #[.int lo t,.int hi u,.int st v]},toks:=tk}:=by
 have bd:=Bk (lo:=lo) (hi:=hi) U h1 Y;refine wpAny_pyIter_range (IsRange.new ..) ?_ ?_
 .unfold Builtin.Range.small;simp only[Builtin.Range.rangeFitsLong,Zb,Bool.or_eq_true,Wn,Wk,U,if_true];generalize Builtin.Range.rangeSize lo hi st=n at bd⊢;have z:(2:Int)^63=9223372036854775808:=by decide
  have G:(2:Int)^30=1073741824:=by decide
  rw[G]at h2 Z h6
  try rw[z]
  lia
 have O:Inv X W B H {s with heap:=s.heap.push {cls:= .type "range",data:= .fields #[.int lo t,.int hi u,.int st v]},toks:=tk}:=I.kept λb o e=>W9 _ e;refine⟨(s.heap.push {cls:= .type "range",data:= .fields #[.int lo t,.int hi u,.int st v]}).objs.size,[(s.heap.push {cls:= .type "range",data:= .fields #[.int lo t,.int hi u,.int st v]}).objs.size],_,_,H,M,
  O.kept (t':=tk) λb o e=>W9 _ e,Cm _ lo st<|rO lo hi st,?_,λb hb=>?_,q⟩
 .have e1:lo+((0:Nat):Int)*st=lo:=by simp
  have e2:((rO lo hi st:Nat):Int)-((0:Nat):Int)=Builtin.Range.rangeSize lo hi st:=by unfold rO;lia
  show IsRangeIter _ _ (lo+((0:Nat):Int)*st) (((rO lo hi st:Nat):Int)-((0:Nat):Int)) st;rw[e1,e2];exact Wi _ M
 .have e:b=(s.heap.push {cls:= .type "range",data:= .fields #[.int lo t,.int hi u,.int st v]}).objs.size:=by simpa using hb
  subst e;exact O.fpOk (Q4 _)<|O.hok.fresh (Q4 _)
def OJ (ta:TA):TI:=λB H R=>ta B H λvs H1=>∃i j k:Int,vs=[.int i,.int j,.int k]/\(0<=i/\i<2^30/\0<=j/\j<2^30/\0<k/\k<2^30)/\R (G2 i k<|rO i j k) H1
def Gd {a b c:Expr} {ta:TA} {p pos:Pos} (Z:Gl X "range") (hm:X.mg "range"=none) (ha:PA X [a,b,c] ta) (hs:starEach [a,b,c] X.env=[(false,eval a X.env),(false,eval b X.env),(false,eval c X.env)]:=by rfl)
  (z:starEach [b,c] X.env=[(false,eval b X.env),(false,eval c X.env)]:=by rfl):PI X tg (.Call (.Name "range" p) [a,b,c] [] pos) (OJ ta):=by
 intro W s B H R I h;refine Call_<|uQ I Z hm boot_range (PyProof.Rows.callWith_type1 (P0 (ha pos W s B H _ I h) λus s1 O=>?_) (by rw[hs,z])<|by rw[z];rfl);obtain⟨vs,H1,I1,r1,U⟩:=O;obtain⟨i,j,k,e,⟨U,q2,q3,q4,q5,q6⟩,q⟩:=U;subst e;cases r1 with
 |cons r G=>
  cases G with
  |cons r' G=>
   cases G with
   |cons Y G=>
    cases G;obtain⟨t,rfl⟩:=r;obtain⟨t',rfl⟩:=r';obtain⟨a0,rfl⟩:=Y;exact call_range_3 () (Gb I1 U q2 q3 q4 q5 q6 q)<|.inl (PyProof.noPylong_small ())
def Dc {n:Nat} (Pv:Nat->St->Hp->Prop) (O:Pv 0 B H)
  (hs:∀i B H,i<n->Pv i B H->g (.int<|lo+i*st) B H λz H2=>tb ⟨Pv<|i+1,rt,nx,Pv<|i+1⟩ z H2) (hd:∀B H,Pv n B H->nx B H):
  ∃JK:Nat->Nat->St->Hp->Prop,(∃m,JK 0 m B H)/\∀i m B H,JK i m B H->
   ((G2 lo st n).stop i H/\nx B H)\/((G2 lo st n).go i H/\∃N:St->Hp->Prop,(∀G H',N G H'->∃m',m'<m/\JK (i+1) m' G H')/\∀x H',(G2 lo st n).yld i H x H'->g x B H' λz H2=>tb ⟨N,rt,nx,N⟩ z H2):=by
 refine⟨λi m B H=>m=n-i/\i<=n/\Pv i B H,⟨n,by simp,QF _,O⟩,?_⟩;rintro i m B H ⟨rfl,hi,p⟩;by_cases I:i<n
 .refine .inr ⟨I,Pv<|i+1,λG H' U=>⟨n-(i+1),(),M,I,U⟩,λx H' y=>?_⟩;obtain⟨e,y⟩:=y;subst e y;exact hs i B _ I p
 .have e:i=n:=();subst e;exact .inl ⟨Q4 _,hd B H p⟩
open Srt
section
variable {X:Cx}
def K3f (H:Hp) (a:Addr) (k:List Int):Prop:=∃i j m:Int,H a=some (.tup [.int i,.int j,.int m])/\k=[i,j,m]
def wD {x y z:V} {its:List Value} (r:G1 [x,y,z] its):∃u v w,its=[u,v,w]/\RelV x u/\RelV y v/\RelV z w:=by
 cases r with
 |cons r1 r=>
  obtain⟨v,w,rfl,h2,G⟩:=va r;exact⟨_,v,w,M,r1,h2,G⟩
def zK:gk X (.builtin "sorted") (λvs H Q=>∃(p:Addr) (as:List Addr) (ky:Addr->List Int),vs=[.ref p]/\Fz X.K H p (as.map V.ref)/\(∀a∈as,K3f H a (ky a))/\
  ∀(l:Addr) (bs:List Addr),H l=none->bs.Perm as->bs.Pairwise (λa b=>HT.lexLt (ky b) (ky a)=false)->Q (.ref l) (upd H l<|.lst<|bs.map V.ref)):=by
 intro W s B H xs us Q I r h;obtain⟨p,as,ky,rfl,hq,hk,q⟩:=h;obtain⟨u,rfl,ru⟩:=mV r;cases ru;obtain⟨its,rv,pl,hz⟩:=I.list hq;refine FX (κ:=tuples'<|Value.type "int" !=Value.type "tuple") (ky:=kRef ky) I hz rv pl.isList (λh' k h2 Q' G=>?_) (λh' k x y u v E' Q' hx hy rx ry G=>?_) λl ys hl pm pw=>?_
 .have tups:∀(bs:List Addr) (U:List Value),(∀a∈bs,K3f H a (ky a))->G1 (bs.map V.ref) U->∃fs:List Value,PySem.W.KatTups h' U fs/\(∀f∈fs,∃i t,f=Value.int i t)/\fs.length=U.length:=by
   intro bs
   induction bs with
   |nil=>intro U _ r;cases r;exact⟨[],.nil,λ_ h=>Wb h ZW,M⟩
   |cons a bs ih=>
    intro U hk r;cases r with
    |cons r1 r2=>
     cases r1;obtain⟨fs,t,hi,hl⟩:=ih _ (λb hb=>hk b<|QD _ hb) r2;obtain⟨i,j,m,ha,_⟩:=hk a QB;obtain⟨o,Y,n,O,e,c,d⟩:=DX I ha k;obtain⟨u1,u2,u3,rfl,q1,q2,q3⟩:=wD O;obtain⟨Z,rfl⟩:=q1;refine⟨Value.int i Z::fs,.cons e c d M t,λf hf=>?_,by rw[QM,QM,hl]⟩;rcases QH.mp hf with z|z
     .exact⟨i,Z,z⟩
     .exact hi f z
  obtain⟨fs,t,hi,hl⟩:=tups as its hk rv;refine PySem.W.kat_kind (T:= .type "int") t () (λv hv=>?_) ∅ G;obtain⟨i,t,rfl⟩:=hi v hv;exact PySem.W.Looks.of_pure M
 .obtain⟨a,ha,rfl⟩:=Qy.mp hx;obtain⟨b,hb,rfl⟩:=Qy.mp hy;cases rx;cases ry;obtain⟨i,j,m,ea,ka⟩:=hk a ha;obtain⟨i',j',m',eb,kb⟩:=hk b hb;have G:Q' (HT.lexLt (ky a)<|ky b) {s with heap:=h'}:=G;rw[ka,kb,HT.lexLt_cons,HT.lexLt_cons,HT.lexLt_cons,HT.lexLt_nil_nil]at G;obtain⟨o,a2,n,a0,e1,c1,d1⟩:=DX I ea k;obtain⟨u1,u2,u3,rfl,⟨Z,rfl⟩,⟨t2,rfl⟩,⟨t5,rfl⟩⟩:=wD a0;obtain⟨o',Y,n',O,e2,c2,d2⟩:=DX I eb k;obtain⟨w1,w2,w3,rfl,⟨t3,rfl⟩,⟨t4,rfl⟩,⟨t6,rfl⟩⟩:=wD O;refine PySem.W.kat_lt e1 d1 e2 d2<|VL (SeqAt.EqAt.int_int _ _ _ _ _ _ _ _<|W3 (λe=>VV ?_)<|λe=>W4 ?_)
  .rw[W7 (Wk.mp e)]at G;refine VL<|SeqAt.EqAt.int_int _ _ _ _ _ _ _ _ (W3 (λe=>VV ?_)<|λe=>W4 ?_)
   .rw[W7 (Wk.mp e)]at G;refine VL<|SeqAt.EqAt.int_int _ _ _ _ _ _ _ _ (W3 (λe=>VV ?_)<|λe=>W4 ?_)
    .rw[W7 (Wk.mp e)]at G;exact PySem.W.kat_nil<|by simpa using G
    .rw[W6 (Wo.mp e)]at G;exact PySem.W.kat_one _ _<|lt_int G
   .rw[W6 (Wo.mp e)]at G;exact PySem.W.kat_one _ _<|lt_int G
  .rw[W6 (Wo.mp e)]at G;exact oneLt_int G
 .obtain⟨bs,rfl,a1⟩:=Ge pm;exact q l bs hl a1<|Zm.mp pw
end
end L2
namespace L2
open PySem PySem.Spec PyProof.Rows
variable {tg:Expr} {K:WN}
def Itv (K:WN) (a:Addr) (n:Nat):It:=
 ⟨λi H=>i<n/\∃xs x,Fz K H a xs/\xs[n-1-i]?=some x,λi H x H'=>H'=H/\∀xs,Fz K H a xs->xs[n-1-i]?=some x,λi _=>n<=i⟩
def Hv {P:Program} {w:World} (a it:Addr) (n:Nat):Dy P w K tg (Itv K a n) [it] it (λi h=>i<=n/\h.IsRevIter it a ((n:Int)-1-(i:Int))) where
 mem:=by simp
 obj:=λi h st b hb=>by
  have e:b=it:=by simpa using hb
  subst e;obtain⟨_,o,e,c,d⟩:=st;exact⟨o,e,λv z=>by rw[d]at z;cases z⟩
 keep:=λi h h' st k=>⟨st.1,st.2.at λo e=>k it (by simp) o e⟩
 item:=by
  intro X O hw hK hc i W s B H E I hf st U;subst O hw hK;obtain⟨hi,xs,x,hq,hx⟩:=U;obtain⟨its,rv,p,hz⟩:=I.list hq;obtain⟨u,hu,ru⟩:=rv.get hx;obtain⟨Y,Z,f2,f3,f4,f5⟩:=hf it (by simp);have e1:(n:Int)-1-(i:Int)=((n-1-i:Nat):Int):=();have G:=st.2;rw[e1]at G;refine wpAny_pyNext_rev_item G p.isList (x:=u) (by simpa using hu) λh' st' sb=>?_;have e2:((n-1-i:Nat):Int)-1=(n:Int)-1-((i+1:Nat):Int):=();rw[e2]at st';have I1:Inv X W B H {s with heap:=h'}:=I.turned (t':=s.toks) (λb o hb e=>(sb.2 b hb).trans e) Y Z f3 f4 f5;obtain⟨o,e,c,d⟩:=id st';exact⟨u,M,An (s:={s with heap:=h'}) e c d (_) ⟨x,H,I1,ru,⟨M,λys hy=>by rwa[I.list_inj hy hq]⟩,⟨hi,st'⟩,λb hb=>(hf b hb).1⟩⟩
 done:=by
  intro X O hw hK hc i W s B H E I hf st U;subst O hw hK;obtain⟨Y,Z,f2,f3,f4,f5⟩:=hf it (by simp);have G:=st.2;have hn:n<=i:=U;have e:(n:Int)-1-(i:Int)= -1:=by have:=st.1;lia
  rw[e]at G;exact wpAny_pyNext_rev_end (I.ok.hd hc) G λh' eb=>⟨M,I.turned (t':=s.toks) (λb o hb e=>eb b o hb e) Y Z f3 f4 f5⟩
 self:=λ_ _ _ _ _ st h=>wpAny_pyIter_revIter st.2 h
section
variable {X:Cx}
def iRev (K:WN) (ta:TA):TI:=λB H R=>ta B H λvs H1=>∃a xs,vs=[.ref a]/\Fz K H1 a xs/\R (Itv K a xs.length) H1
def MW {a:Expr} {ta:TA} {p pos:Pos} (O:Gl X "reversed") (U:X.mg "reversed"=none) (ha:PA X [a] ta) (hs:starEach [a] X.env=[(false,eval a X.env)]:=by rfl):PI X tg (.Call (.Name "reversed" p) [a] [] pos) (iRev X.K ta):=by
 intro W s B H R I h;refine Call_<|uQ I O U Boot.«reversed» (PyProof.Rows.callWith_type1 (P0 (ha pos W s B H _ I h) λus s1 G=>?_) hs M);obtain⟨vs,H1,z,r1,Y⟩:=G;obtain⟨b,xs,e,hq,q⟩:=Y;subst e;cases r1 with
 |cons r Z=>
  cases Z;cases r;obtain⟨its,rv,p,hz⟩:=z.list hq;have hl:=rv.length;refine call_reversed_list p.isList ?_;refine wpAny_pyIter_revIter (l:=b) (i:=(its.toArray.size:Int)-1) ⟨_,Wi _ M,M,M⟩ ?_;refine⟨s1.heap.objs.size,[s1.heap.objs.size],_,_,H1,M,z.kept (t':=s1.toks) λb o e=>W9 _ e,Hv b _ xs.length,⟨QF _,?_⟩,λb hb=>?_,q⟩
  .have e:(xs.length:Int)-1-((0:Nat):Int)=(its.toArray.size:Int)-1:=by simp;lia
   rw[e];exact⟨_,Wi _ M,M,M⟩
  .have e:b=s1.heap.objs.size:=by simpa using hb
   subst e;exact z.fpOk (Q4 _)<|z.hok.fresh (Q4 _)
end
def GT {a D:Addr} {xs:List V} {te:TE} {tc:TT} {B:St} {H1:Hp} {Fin:Hp->Prop} (Pv:Nat->List V->Hp->Prop) (G:Pv 0 [] (upd H1 D<|.lst [])) (hl:∀i ys H,i<=xs.length->Pv i ys H->Fz K H a xs)
  (hs:∀i x ys H2,xs.reverse[i]?=some x->Pv i ys H2->H2 D=some (.lst ys)->tc (some x::B) H2 λb H4=>if b=true then te (some x::B) H4 (PY xs.length i ys D Pv)else Pw xs.length i ys D Pv H4)
  (hd:∀ys H2,Pv xs.length ys H2->H2 D=some (.lst ys)->Fin H2):
  ∃JK:Nat->Nat->List V->Hp->Prop,(∃m,JK 0 m [] (upd H1 D<|.lst []))/\∀i m ys H2,JK i m ys H2->H2 D=some (.lst ys)->
   ((Itv K a xs.length).stop i H2/\Fin H2)\/((Itv K a xs.length).go i H2/\∀x H3,(Itv K a xs.length).yld i H2 x H3->tc (some x::B) H3 λb H4=>if b=true then te (some x::B) H4 λy z=>z D=some (.lst ys)/\ys.length<sizeLine/\∃m',m'<m/\JK (i+1) m' (ys++ [y]) (upd z D<|.lst<|ys++ [y])else H4 D=some (.lst ys)/\∃m',m'<m/\JK (i+1) m' ys H4):=by
 refine⟨λi m ys H=>m=xs.length-i/\i<=xs.length/\Pv i ys H,⟨xs.length,by simp,QF _,G⟩,?_⟩;rintro i m ys H ⟨rfl,hi,p⟩ hD;have q:=hl i ys H hi p;by_cases lt:i<xs.length
 .refine .inr ⟨⟨lt,xs,xs[xs.length-1-i]'(),q,Q3 _⟩,λx H' y=>?_⟩;obtain⟨e,y⟩:=y;subst e;exact hs i x ys _ (by rw[List.getElem?_reverse lt];exact y xs q) p hD
 .have e:i=xs.length:=();subst e;exact .inl ⟨Q4 _,hd ys H p hD⟩
open SeqAt
section
variable {X:Cx} {W:List (Addr×Obj)} {B:St} {H:Hp} {s:Shared}
inductive MT (x:V) (vs:List V) (H:Hp) (Q:VK):Prop
 |mk (a kvs k y:_) (_:x= .ref a) (_:vs=[kV k,y]) (_:H a=some (.dK kvs)) (_:(∀v,aF kvs k=some v->Q v (upd H a<|.dK<|bN kvs k))) (_:(aF kvs k=none->Q y H))
def Im:Re X "dict.pop" MT:=by
 intro W s B H x vs v us Q I Y rv h;obtain⟨a,kvs,k,y,rfl,rfl,O,Z,q2⟩:=h;cases Y;obtain⟨u,r,rfl,U,rr⟩:=va rv;cases l:aF kvs k with
 |some v=>exact Md I O U l (.inr ⟨r,M⟩) λw' s4 z G=>⟨v,_,z,G,Z v l⟩
 |none=>exact NC I O U l λs4 z=>⟨y,H,z,rr,q2 l⟩
inductive Os (x:V) (vs:List V) (H:Hp) (Q:VK):Prop
 |mk (a kvs:_) (_:x= .ref a) (_:vs=[]) (_:H a=some (.dK kvs)) (_:Q .non (upd H a<|.dK []))
def Gr:Re X "dict.clear" Os:=by
 intro W s B H x vs v us Q I U rv h;obtain⟨a,kvs,rfl,rfl,hd,q⟩:=h;cases U;cases rv;obtain⟨z,lo,Y,O,dd⟩:=gi I.hok hd;refine WH PySem.F.slot_dict_clear dd.typeIs PySem.F.entry_dict_clear (PySem.F.args_dict_clear_1 _) (meets_dict_clear (a9 X.prog X.w) a) ⟨Y,dd,by rwa[<-O.length],λh' G hs=>?_⟩;have he:∃q,h'.get? a=some q:=let⟨q,_,_,hq,_⟩:=G;⟨q,hq⟩
 exact⟨.non,_,pY I (by rw[hd];exact Wp) hs he<|yb (QF _) lo .nil G,M,q⟩
end
end L2
namespace SW
open PySem L2
set_option maxHeartbeats 0
variable {C L a b c dd dx p q r tb:Addr} {E F F':Addr->Prop} {t:P5} {X X':PH} {o:HO} {x':PM} {H H' H1:Hp} {JK hi k lo m:Int} {R:Int->Bool} {T kv' ps qs:List (Int×V)} {kvs:List (Key×V)} {ls:List (List Int)} {fs:List (Str×V)} {A:List Addr} {ds l:List DR} {ks ns x y:List Int} {pa':List Pk} {ts:List Tp} {xs:List V} {i i0 j n:Nat} {K:WN} {st:O8} {B:St} {f:Str} {α β:Type} {a' av e ta v:V} {Q:VK}
structure Txt (K:WN) (mg:Str->Option Value) (t:P5):Prop where
 CW:mg "Token"=some (.ref t.gS)
 xM:mg "BySlots"=some (.ref t.aV)
 Iu:mg "Up"=some (.ref t.dQ)
 K2:mg "Down"=some (.ref t.cr)
 OY:mg "Page"=some (.ref t.bR)
 Gu:mg "Copier"=some (.ref t.aU)
 NW:mg "Leaves"=some (.ref t.bI)
 OE:mg "Makes"=some (.ref t.gT)
 OD:mg "Slots"=some (.ref t.aZ)
 OF:mg "House"=some (.ref t.bf)
 CY:mg "turned"=some (.ref t.Dv)
 yu:PD K "turned" "turned" xn t.Dv t.yd
 Du:Binds K t.yd ["number"] []
 Gz:mg "mark_of"=some (.ref t.AJ)
 AO:PD K "mark_of" "mark_of" uy t.AJ t.uX
 GX:Binds K t.uX ["key"] []
 Ew:mg "place_of"=some (.ref t.yj)
 yw:PD K "place_of" "place_of" rh t.yj t.rK
 EJ:Binds K t.rK ["key"] []
 Aj:mg "slot_of"=some (.ref t.AH)
 u9:PD K "slot_of" "slot_of" uw t.AH t.uV
 AE:Binds K t.uV ["key","size"] []
 Lb:mg "stretch_of"=some (.ref t.tG)
 Cc:PD K "stretch_of" "stretch_of" lG t.tG t.mB
 Lq:Binds K t.mB ["slot","size"] []
 Gy:mg "slot_at"=some (.ref t.AI)
 AN:PD K "slot_at" "slot_at" ux t.AI t.uW
 GW:Binds K t.uW ["place","size"] []
 Na:mg "is_whole"=some (.ref t.yk)
 EN:PD K "is_whole" "is_whole" rj t.yk t.rL
 NG:Binds K t.rL ["thing"] []
 kR:mg "is_from"=some (.ref t.AL)
 iX:PD K "is_from" "is_from" uA t.AL t.uZ
 kX:Binds K t.uZ ["thing","low"] []
 Gx:mg "word_of"=some (.ref t.AG)
 AM:PD K "word_of" "word_of" uv t.AG t.uU
 GV:Binds K t.uU ["bound"] []
 kJ:PD K "__init__" "Token.__init__" jV t.kI t.kj
 qE:Binds K t.kj ["self","kind","at","end"] []
 JM:PD K "words" "Token.words" i9 t.dJ t.jx
 pj:Binds K t.jx ["self"] []
 Hk:Qq K "__init__" "BySlots.__init__" ii t.nC t.cW
 wg:Binds K t.cW ["self","at","end"] []
 G7:PD K "holds" "BySlots.holds" gv t.lw t.gL
 kZ:Binds K t.gL ["self","key"] []
 NS:Qq K "__init__" "Up.__init__" rp t.yp t.jw
 EK:Binds K t.jw ["self","at","end"] []
 Mq:PD K "holds" "Up.holds" oi t.vt t.oY
 pf:Binds K t.oY ["self","key"] []
 LK:Qq K "__init__" "Down.__init__" lX t.tW t.fZ
 B7:Binds K t.fZ ["self","at","end"] []
 Kq:PD K "holds" "Down.holds" j7 t.qR t.kG
 kH:Binds K t.kG ["self","key"] []
 O1:mg "ask"=some (.ref t.Mm)
 OV:Qq K "ask" "ask" HM t.Mm t.Dk
 NI:jF K t.Dk ["house","token","many","sieve"] [.non]
 Hb:mg "page_by_slots"=some (.ref t.m9)
 wk:PD K "page_by_slots" "page_by_slots" hV t.m9 t.iu
 Hd:Binds K t.iu ["slots","token","many"] []
 IB:mg "page_by_keys"=some (.ref t.pC)
 yx:PD K "page_by_keys" "page_by_keys" fv t.pC t.jr
 JB:Binds K t.jr ["house","token","many"] []
 IC:mg "keys_of_page"=some (.ref t.pD)
 yz:PD K "keys_of_page" "keys_of_page" fw t.pD t.js
 JC:Binds K t.js ["leaves","token","many"] []
 L8:mg "keys_near"=some (.ref t.vn)
 DA:PD K "keys_near" "keys_near" n8 t.vn t.oU
 Mh:Binds K t.oU ["leaves","token","most"] []
 IA:mg "token_behind"=some (.ref t.pB)
 yv:PD K "token_behind" "token_behind" i4 t.pB t.jq
 JA:Binds K t.jq ["token","key"] []
 GA:mg "is_left"=some (.ref t.AK)
 AQ:PD K "is_left" "is_left" uz t.AK t.uY
 GY:Binds K t.uY ["token","key"] []
 ID:mg "change"=some (.ref t.Dx)
 DB:PD K "change" "change" xo t.Dx t.ye
 JD:Binds K t.ye ["table","row"] []
 LH:PD K "__init__" "Page.__init__" lU t.tT t.mP
 Lx:Binds K t.mP ["self","token"] []
 LG:PD K "read" "Page.read" lT t.tS t.mO
 Lw:Binds K t.mO ["self","house","many"] []
 G4:PD K "in_piece" "Page.in_piece" gp t.lh t.gI
 GZ:Binds K t.gI ["self","key"] []
 Hg:PD K "outcome" "Page.outcome" hZ t.nu t.iy
 He:Binds K t.iy ["self"] []
 JQ:Qq K "__init__" "Copier.__init__" jf t.pK t.f8
 JI:Binds K t.f8 ["self","house","token","stopped"] []
 wj:jF K t.f8 ["self","house","token","stopped"] [.non]
 DP:PD K "open_page" "Copier.open_page" dW t.iI t.d9
 qj:Binds K t.d9 ["self"] []
 DO:Qq K "read_page" "Copier.read_page" dU t.iH t.cG
 qi:Binds K t.cG ["self","many"] []
 DF:PD K "close_page" "Copier.close_page" dB t.hJ t.dI
 pA:Binds K t.dI ["self"] []
 G5:PD K "follow" "Copier.follow" gr t.lq t.gJ
 kY:Binds K t.gJ ["self","steps"] []
 Ch:PD K "follow_mark" "Copier.follow_mark" cZ t.gj t.c4
 Cg:Binds K t.c4 ["self","number"] []
 AR:PD K "follow_change" "Copier.follow_change" cI t.fc t.cO
 AF:Binds K t.cO ["self","row"] []
 JR:PD K "copy" "Copier.copy" jg t.pL t.jA
 gb:Binds K t.jA ["self"] []
 G6:PD K "covers" "Copier.covers" gu t.lu t.gK
 u8:Binds K t.gK ["self","key"] []
 Hj:PD K "place" "Copier.place" ig t.nB t.iA
 m6:Binds K t.iA ["self"] []
 JP:PD K "left" "Copier.left" je t.pJ t.jz
 f9:Binds K t.jz ["self"] []
 Hh:PD K "total" "Copier.total" ie t.nz t.iz
 Hf:Binds K t.iz ["self"] []
 FN:PD K "stopped" "Copier.stopped" fG t.jS t.f7
 tF:Binds K t.f7 ["self"] []
 JN:PD K "__init__" "Leaves.__init__" jc t.pH t.jy
 JG:Binds K t.jy ["self"] []
 Km:PD K "add" "Leaves.add" gO t.qN t.kC
 J9:Binds K t.kC ["self","key"] []
 FL:PD K "discard" "Leaves.discard" fE t.jQ t.fW
 FE:Binds K t.fW ["self","key"] []
 Kl:PD K "has" "Leaves.has" j3 t.qM t.kB
 zO:Binds K t.kB ["self","key"] []
 FK:PD K "from_on" "Leaves.from_on" c8 t.jP t.fV
 FD:Binds K t.fV ["self","key","most"] []
 DN:PD K "down_from" "Leaves.down_from" cE t.iG t.d8
 DL:Binds K t.d8 ["self","key","most"] []
 FJ:PD K "leaf_of" "Leaves.leaf_of" fB t.jO t.fS
 dt:Binds K t.fS ["self","key"] []
 DM:PD K "part_leaf" "Leaves.part_leaf" dS t.iF t.d6
 DK:Binds K t.d6 ["self","at"] []
 DE:PD K "join_small" "Leaves.join_small" dA t.g9 t.dH
 pz:Binds K t.dH ["self","at"] []
 Kk:PD K "__init__" "Makes.__init__" j2 t.qL t.kA
 J8:Binds K t.kA ["self"] []
 Kj:PD K "note" "Makes.note" jZ t.qK t.kx
 J7:Binds K t.kx ["self","moment","value"] []
 vf:mg "empty_row"=some (.ref t.vo)
 pM:PD K "empty_row" "empty_row" jI t.vo t.oV
 vj:Binds K t.oV ["size"] []
 Kh:PD K "__init__" "Slots.__init__" jX t.qI t.kt
 J0:Binds K t.kt ["self"] []
 LD:PD K "put" "Slots.put" lP t.tP t.mL
 Lu:Binds K t.mL ["self","key","value"] []
 Ki:PD K "drop" "Slots.drop" jY t.qJ t.ku
 J6:Binds K t.ku ["self","key"] []
 LF:PD K "get" "Slots.get" lR t.tR t.mN
 Lv:Binds K t.mN ["self","key"] []
 LE:PD K "has" "Slots.has" lQ t.tQ t.mM
 B6:Binds K t.mM ["self","key"] []
 Kg:PD K "rows" "Slots.rows" gN t.qH t.kr
 zN:Binds K t.kr ["self"] []
 Kf:PD K "span" "Slots.span" eC t.qG t.kq
 JZ:Binds K t.kq ["self","low","high"] []
 Ke:PD K "stop" "Slots.stop" jW t.qF t.ko
 zM:Binds K t.ko ["self","place"] []
 G3:PD K "cell_of" "Slots.cell_of" gl t.lg t.gH
 gM:Binds K t.gH ["self","key"] []
 FI:PD K "lying_at" "Slots.lying_at" fA t.jN t.fR
 FC:Binds K t.fR ["self","place"] []
 EQ:PD K "move_slot" "Slots.move_slot" eP t.jD t.eT
 rQ:Binds K t.eT ["self"] []
 ER:PD K "begin_row" "Slots.begin_row" eQ t.jE t.eU
 rR:Binds K t.eU ["self"] []
 Kn:PD K "__init__" "House.__init__" j4 t.qO t.kD
 Ka:Binds K t.kD ["self"] []
 LI:PD K "put" "House.put" lV t.tU t.mQ
 Lz:Binds K t.mQ ["self","key","value"] []
 Ko:PD K "drop" "House.drop" j5 t.qP t.kE
 Kb:Binds K t.kE ["self","key"] []
 LJ:PD K "get" "House.get" lW t.tV t.mR
 LA:Binds K t.mR ["self","key"] []
 FM:PD K "lay_mark" "House.lay_mark" fF t.jR t.fX
 tE:Binds K t.fX ["self"] []
 JO:Qq K "diary" "House.diary" jd t.pI t.fY
 JH:Binds K t.fY ["self","low"] []
 iB:jF K t.fY ["self","low"] [(.int<|0)]
 Kp:PD K "done" "House.done" j6 t.qQ t.kF
 zP:Binds K t.kF ["self","row","value"] []
 jp:mg "_law_cell_at"=some (.ref t.pG)
 gd:PD K "_law_cell_at" "_law_cell_at" i8 t.pG t.jv
 jC:Binds K t.jv ["_law_script","_law_k"] []
 BD:mg "_law_mixed"=some (.ref t.tM)
 t9:PD K "_law_mixed" "_law_mixed" lM t.tM t.mH
 BZ:Binds K t.mH ["_law_cell","_law_k"] []
 BB:mg "_law_place"=some (.ref t.tK)
 tZ:PD K "_law_place" "_law_place" lK t.tK t.mF
 BX:Binds K t.mF ["_law_key"] []
 Nb:mg "_law_run"=some (.ref t.yo)
 EO:PD K "_law_run" "_law_run" i5 t.yo t.rM
 NH:Binds K t.rM ["_law_cell"] []
 vg:mg "_law_deed"=some (.ref t.vq)
 pN:PD K "_law_deed" "_law_deed" oh t.vq t.oX
 vk:Binds K t.oX ["_law_house_here","_law_kept","_law_cell"] []
 Ld:mg "_law_house"=some (.ref t.tN)
 Ce:PD K "_law_house" "_law_house" lN t.tN t.mJ
 Ls:Binds K t.mJ ["_law_cells"] []
 DI:mg "_law_numbers_told"=some (.ref t.iE)
 qk:PD K "_law_numbers_told" "_law_numbers_told" dR t.iE t.dZ
 DJ:Binds K t.dZ ["_law_kind","_law_cell"] []
 IE:mg "_law_numbers"=some (.ref t.pE)
 yA:PD K "_law_numbers" "_law_numbers" i6 t.pE t.jt
 JE:Binds K t.jt ["_law_cell","_law_keys"] []
 BA:mg "_law_token"=some (.ref t.tI)
 tY:PD K "_law_token" "_law_token" lI t.tI t.mD
 BW:Binds K t.mD ["_law_numbers_here"] []
 BE:mg "_law_holds"=some (.ref t.tO)
 ua:PD K "_law_holds" "_law_holds" lO t.tO t.mK
 B0:Binds K t.mK ["_law_numbers_here","_law_key"] []
 IF:mg "_law_covered"=some (.ref t.pF)
 yB:PD K "_law_covered" "_law_covered" i7 t.pF t.ju
 JF:Binds K t.ju ["_law_begun","_law_rest","_law_key"] []
 Lc:mg "_law_table"=some (.ref t.tJ)
 Cd:PD K "_law_table" "_law_table" lJ t.tJ t.mE
 Lr:Binds K t.mE ["_law_rows"] []
 wc:mg "_law_is_right"=some (.ref t.ni)
 nE:PD K "_law_is_right" "_law_is_right" hX t.ni t.iw
 wf:Binds K t.iw ["_law_copier","_law_house_here","_law_begun"] []
 Bz:mg "_law_words"=some (.ref t.tH)
 tX:PD K "_law_words" "_law_words" lH t.tH t.mC
 BV:Binds K t.mC ["_law_token_here"] []
 BC:mg "_law_pages"=some (.ref t.tL)
 t7:PD K "_law_pages" "_law_pages" lL t.tL t.mG
 BY:Binds K t.mG ["_law_copier","_law_house_here","_law_begun","_law_most","_law_many"] []
 L9:mg "_law_half"=some (.ref t.vp)
 DD:PD K "_law_half" "_law_half" oe t.vp t.oW
 Mi:Binds K t.oW ["_law_copier","_law_house_here","_law_kept","_law_cell","_law_many"] []
 O0:mg "law"=some (.ref t.Ml)
 OU:PD K "law" "law" HL t.Ml t.Fx
 v8:Fy K t.aV "kind"
 gP:Fy K t.aV "at"
 cm:Fy K t.aV "end"
 bH:Qj K t.aV
 Er:Mk K t.aV t.nC
 qS:XIs K t.aV
 Ez:PySem.W.kitOne K (.ref t.aV) (.ref t.aV)=some true
 Gw:bJ K t.aV "words" t.dJ
 kQ:bJ K t.aV "holds" t.lw
 Eo:Fy K t.dQ "kind"
 oO:Fy K t.dQ "at"
 iV:Fy K t.dQ "end"
 g8:Qj K t.dQ
 Oz:Mk K t.dQ t.yp
 nO:XIs K t.dQ
 JY:PySem.W.kitOne K (.ref t.dQ) (.ref t.aV)=some false
 IT:PySem.W.kitOne K (.ref t.dQ) (.ref t.dQ)=some true
 L7:bJ K t.dQ "words" t.dJ
 oP:bJ K t.dQ "holds" t.vt
 Bv:Fy K t.cr "kind"
 gE:Fy K t.cr "at"
 gY:Fy K t.cr "end"
 cy:Qj K t.cr
 K0:Mk K t.cr t.tW
 fk:XIs K t.cr
 Hc:PySem.W.kitOne K (.ref t.cr) (.ref t.aV)=some false
 Ey:PySem.W.kitOne K (.ref t.cr) (.ref t.dQ)=some false
 JX:bJ K t.cr "words" t.dJ
 kg:bJ K t.cr "holds" t.qR
 qy:Fy K t.bR "asked"
 cY:Fy K t.bR "found"
 kf:Fy K t.bR "ahead"
 qw:Fy K t.bR "noted"
 eK:Fy K t.bR "closing"
 bE:Qj K t.bR
 OX:Mk K t.bR t.tT
 K8:bJ K t.bR "read" t.tS
 Gv:bJ K t.bR "in_piece" t.lh
 G9:bJ K t.bR "outcome" t.nu
 eL:Fy K t.aU "house"
 vZ:Fy K t.aU "first"
 cK:Fy K t.aU "rest"
 b9:Fy K t.aU "followed"
 cM:Fy K t.aU "copied"
 b6:Fy K t.aU "page"
 aA:Qj K t.aU
 Gs:Mk K t.aU t.pK
 qg:bJ K t.aU "open_page" t.iI
 qf:bJ K t.aU "read_page" t.iH
 oS:bJ K t.aU "close_page" t.hJ
 kP:bJ K t.aU "follow" t.lq
 Cf:bJ K t.aU "follow_mark" t.gj
 Ai:bJ K t.aU "follow_change" t.fc
 fQ:bJ K t.aU "copy" t.pL
 uN:bJ K t.aU "covers" t.lu
 mZ:bJ K t.aU "place" t.nB
 fP:bJ K t.aU "left" t.pJ
 Ha:bJ K t.aU "total" t.nz
 sR:bJ K t.aU "stopped" t.jS
 aG:Fy K t.bI "leaves"
 aN:Qj K t.bI
 NV:Mk K t.bI t.pH
 JV:bJ K t.bI "add" t.qN
 Fe:bJ K t.bI "discard" t.jQ
 zI:bJ K t.bI "has" t.qM
 Fd:bJ K t.bI "from_on" t.jP
 DH:bJ K t.bI "down_from" t.iG
 dh:bJ K t.bI "leaf_of" t.jO
 DG:bJ K t.bI "part_leaf" t.iF
 oQ:bJ K t.bI "join_small" t.g9
 zE:Fy K t.gT "made"
 Dp:Qj K t.gT
 OB:Mk K t.gT t.qL
 JU:bJ K t.gT "note" t.qK
 aY:Fy K t.aZ "table"
 bY:Fy K t.aZ "shifted"
 bO:Fy K t.aZ "kept"
 aL:Qj K t.aZ
 OA:Mk K t.aZ t.qI
 K5:bJ K t.aZ "put" t.tP
 JT:bJ K t.aZ "drop" t.qJ
 K7:bJ K t.aZ "get" t.tR
 By:bJ K t.aZ "has" t.tQ
 zH:bJ K t.aZ "rows" t.qH
 JS:bJ K t.aZ "span" t.qG
 zG:bJ K t.aZ "stop" t.qF
 gF:bJ K t.aZ "cell_of" t.lg
 Fc:bJ K t.aZ "lying_at" t.jN
 rF:bJ K t.aZ "move_slot" t.jD
 rG:bJ K t.aZ "begin_row" t.jE
 mi:Fy K t.bf "now"
 Il:Fy K t.bf "floor"
 dG:Fy K t.bf "slots"
 iq:Fy K t.bf "leaves"
 gB:Fy K t.bf "written"
 jn:Fy K t.bf "marks"
 zF:Fy K t.bf "past"
 Gn:Fy K t.bf "holders"
 aT:Qj K t.bf
 OC:Mk K t.bf t.qO
 K9:bJ K t.bf "put" t.tU
 JW:bJ K t.bf "drop" t.qP
 La:bJ K t.bf "get" t.tV
 sQ:bJ K t.bf "lay_mark" t.jR
 oR:bJ K t.bf "diary" t.pI
 zJ:bJ K t.bf "done" t.qQ
 qv:JL K t.gS "__init__" (.ref t.kI)
 g_BITS:∃tk,mg "BITS"=some (.int 16 tk)
 g_PLACES:∃tk,mg "PLACES"=some (.int 65536 tk)
 g_STRETCHES_A_KEY:∃tk,mg "STRETCHES_A_KEY"=some (.int 4 tk)
 g_MOST_IN_LEAF:∃tk,mg "MOST_IN_LEAF"=some (.int 8 tk)
 g_LEAST_IN_TWO:∃tk,mg "LEAST_IN_TWO"=some (.int 5 tk)
 g_LEAST_SIZE:∃tk,mg "LEAST_SIZE"=some (.int 4 tk)
 g_GREATEST_SIZE:∃tk,mg "GREATEST_SIZE"=some (.int 256 tk)
 Mt:mg "bool"=none
 wA:mg "dict"=none
 NY:mg "int"=none
 dL:mg "isinstance"=none
 bU:mg "len"=none
 Ms:mg "list"=none
 Hm:mg "max"=none
 Ci:mg "min"=none
 pO:mg "range"=none
 Mr:mg "reversed"=none
 Hl:mg "sorted"=none
 OZ:mg "str"=none
 NX:mg "sum"=none
def F6:aq ["number","told","rest","step"] ["number"] (al xn):=P9
def Ed:aq ["key"] ["key"] (al uy):=P9
def Cz:aq ["key"] ["key"] (al rh):=P9
def Eb:aq ["key","size"] ["key","size"] (al uw):=P9
def yW:aq ["slot","size","low"] ["slot","size"] (al lG):=P9
def Ec:aq ["place","size"] ["place","size"] (al ux):=P9
def CA:aq ["thing"] ["thing"] (al rj):=P9
def Ef:aq ["thing","low"] ["thing","low"] (al uA):=P9
def Ea:aq ["bound"] ["bound"] (al uv):=P9
def wY:aq ["self","kind","at","end"] ["self","kind","at","end"] (al jV):=P9
def vM:aq ["self"] ["self"] (al i9):=P9
def Pn:aq ["self","at","end"] ["self","at","end"] (al ii):=P9
def sv:aq ["self","key"] ["self","key"] (al gv):=P9
def Qg:aq ["self","at","end"] ["self","at","end"] (al rp):=P9
def Bh:aq ["self","key"] ["self","key"] (al oi):=P9
def Py:aq ["self","at","end"] ["self","at","end"] (al lX):=P9
def xl:aq ["self","key"] ["self","key"] (al j7):=P9
def RW:aq ["house","token","many","sieve","page"] ["house","token","many","sieve"] (al HM):=P9
def Po:aq ["slots","token","many","rows","reached","gone","stop"] ["slots","token","many"] (al hV):=P9
def vI:aq ["house","token","many","page"] ["house","token","many"] (al fv):=P9
def Pq:aq ["leaves","token","many","most","held","page"] ["leaves","token","many"] (al fw):=P9
def Bc:aq ["leaves","token","most"] ["leaves","token","most"] (al n8):=P9
def vH:aq ["token","key"] ["token","key"] (al i4):=P9
def Ee:aq ["token","key"] ["token","key"] (al uz):=P9
def F9:aq ["table","row"] ["table","row"] (al xo):=P9
def zg:aq ["self","token"] ["self","token"] (al lU):=P9
def zf:aq ["self","house","many","answer"] ["self","house","many"] (al lT):=P9
def sk:aq ["self","key"] ["self","key"] (al gp):=P9
def uq:aq ["self","table","row"] ["self"] (al hZ):=P9
def Ps:aq ["self","house","token","stopped"] ["self","house","token","stopped"] (al jf):=P9
def nZ:aq ["self"] ["self"] (al dW):=P9
def Pc:aq ["self","many","page"] ["self","many"] (al dU):=P9
def nK:aq ["self","page"] ["self"] (al dB):=P9
def sr:aq ["self","steps","rows","row"] ["self","steps"] (al gr):=P9
def lF:aq ["self","number","page"] ["self","number"] (al cZ):=P9
def jU:aq ["self","row","key","page"] ["self","row"] (al cI):=P9
def vP:aq ["self"] ["self"] (al jg):=P9
def ss:aq ["self","key"] ["self","key"] (al gu):=P9
def ut:aq ["self"] ["self"] (al ig):=P9
def vO:aq ["self"] ["self"] (al je):=P9
def ur:aq ["self"] ["self"] (al ie):=P9
def rf:aq ["self"] ["self"] (al fG):=P9
def vN:aq ["self"] ["self"] (al jc):=P9
def xh:aq ["self","key","at","leaf"] ["self","key"] (al gO):=P9
def rc:aq ["self","key","at"] ["self","key"] (al fE):=P9
def xg:aq ["self","key","at"] ["self","key"] (al j3):=P9
def Ph:aq ["self","key","most","told","at"] ["self","key","most"] (al c8):=P9
def Pb:aq ["self","key","most","told","at"] ["self","key","most"] (al cE):=P9
def q9:aq ["self","key","low","high","middle"] ["self","key"] (al fB):=P9
def nY:aq ["self","at","leaf","middle"] ["self","at"] (al dS):=P9
def nJ:aq ["self","at","both"] ["self","at"] (al dA):=P9
def xf:aq ["self"] ["self"] (al j2):=P9
def xb:aq ["self","moment","value"] ["self","moment","value"] (al jZ):=P9
def Be:aq ["size"] ["size"] (al jI):=P9
def w9:aq ["self"] ["self"] (al jX):=P9
def zb:aq ["self","key","value","cell"] ["self","key","value"] (al lP):=P9
def xa:aq ["self","key"] ["self","key"] (al jY):=P9
def ze:aq ["self","key","cell"] ["self","key"] (al lR):=P9
def zd:aq ["self","key"] ["self","key"] (al lQ):=P9
def w6:aq ["self"] ["self"] (al gN):=P9
def w5:aq ["self","low","high","found","reached","end","inside"] ["self","low","high"] (al eC):=P9
def wZ:aq ["self","place","size"] ["self","place"] (al jW):=P9
def sj:aq ["self","key","old","slot","new"] ["self","key"] (al gl):=P9
def qZ:aq ["self","place","size","found","row","slot","key","value"] ["self","place"] (al fA):=P9
def qd:aq ["self","old","new","key","value"] ["self"] (al eP):=P9
def qe:aq ["self","size"] ["self"] (al eQ):=P9
def xi:aq ["self"] ["self"] (al j4):=P9
def zh:aq ["self","key","value"] ["self","key","value"] (al lV):=P9
def xj:aq ["self","key"] ["self","key"] (al j5):=P9
def zi:aq ["self","key"] ["self","key"] (al lW):=P9
def re:aq ["self"] ["self"] (al fF):=P9
def Pr:aq ["self","low"] ["self","low"] (al jd):=P9
def xk:aq ["self","row","value","key"] ["self","row","value"] (al j6):=P9
def vL:aq ["_law_script","_law_k"] ["_law_script","_law_k"] (al i8):=P9
def y7:aq ["_law_cell","_law_k","_law_number"] ["_law_cell","_law_k"] (al lM):=P9
def y3:aq ["_law_key","_law_mark"] ["_law_key"] (al lK):=P9
def PF:aq ["_law_cell","_law_start","_law_number","_law_way","_law_step"] ["_law_cell"] (al i5):=P9
def Bg:aq ["_law_house_here","_law_kept","_law_cell","_law_keys","_law_k","_law_value"] ["_law_house_here","_law_kept","_law_cell"] (al oh):=P9
def y9:aq ["_law_cells","_law_house_here","_law_kept","_law_cell"] ["_law_cells"] (al lN):=P9
def nW:aq ["_law_kind","_law_cell","_law_low","_law_high"] ["_law_kind","_law_cell"] (al dR):=P9
def vJ:aq ["_law_cell","_law_keys","_law_kind","_law_number","_law_low","_law_high"] ["_law_cell","_law_keys"] (al i6):=P9
def yY:aq ["_law_numbers_here"] ["_law_numbers_here"] (al lI):=P9
def za:aq ["_law_numbers_here","_law_key","_law_kind","_law_at","_law_end"] ["_law_numbers_here","_law_key"] (al lO):=P9
def vK:aq ["_law_begun","_law_rest","_law_key"] ["_law_begun","_law_rest","_law_key"] (al i7):=P9
def yZ:aq ["_law_rows","_law_found","_law_row"] ["_law_rows"] (al lJ):=P9
def uo:aq ["_law_copier","_law_house_here","_law_begun","_law_rows","_law_place_here","_law_rest","_law_table_here","_law_due","_law_key","_law_told"] ["_law_copier","_law_house_here","_law_begun"] (al hX):=P9
def yX:aq ["_law_token_here"] ["_law_token_here"] (al lH):=P9
def y6:aq ["_law_copier","_law_house_here","_law_begun","_law_most","_law_many","_law_k"] ["_law_copier","_law_house_here","_law_begun","_law_most","_law_many"] (al lL):=P9
def Bf:aq ["_law_copier","_law_house_here","_law_kept","_law_cell","_law_many"] ["_law_copier","_law_house_here","_law_kept","_law_cell","_law_many"] (al oe):=P9
def MN:aq ["_law_script","_law_house_here","_law_kept","_law_begun","_law_many","_law_first","_law_told","_law_copied","_law_second","_law_cell","_law_again","_law_stays"] ["_law_script"] (al HL):=P9
def Sc:V->Prop
 | .non=>True| .bl _=>True| .int _=>True| .str _=>True|_=>False
def T0 (z:Int):Sc (.int z):=Wp
noncomputable def isW:V->Bool
 | .int _=>true|_=>false
def Fr (F F':Addr->Prop) (H H':Hp):Prop:=∀b o,¬F b->H b=some o->H' b=some o/\¬F' b
def Fr.refl:Fr F F H H:=λ_ _ n e=>⟨e,n⟩
def Fr.trans {z:Addr->Prop} {H'':Hp} (x:Fr F F' H H') (y:Fr F' z H' H''):Fr F z H H'':=λb o n e=>y b o (x b o n e).2 (x b o n e).1
def Fr.of_same (s:Ds H H'):Fr F F H H':=λb o n e=>⟨s b o e,n⟩
noncomputable def az (kv:List (Int×V)):List (Key×V):=kv.map λp=>(Sum.inl p.1,p.2)
def O6 {kv:List (Int×V)}:aF (az kv) (Sum.inl k:Key)=aF kv k:=by
 induction kv with
 |nil=>rfl
 |cons p r G=>
  show aF ((Sum.inl p.1,p.2)::az r) (Sum.inl k:Key)=_;by_cases e:p.1=k
  .rw[bB e,bB (by show(Sum.inl p.1:Key)=_;rw[e])]
  .rw[bq e,bq (by show ¬(Sum.inl p.1:Key)=_;exact λz=>e<|Sum.inl.inj z),G]
def GC {kv:List (Int×V)}:((az kv).any λx=>decide (x.1=(Sum.inl k:Key)))=kv.any λx=>decide (x.1=k):=by
 rw[dw,dw,O6]
def cN {kv:List (Int×V)}:bn (az kv) (Sum.inl k:Key) v=az (bn kv k v):=by
 unfold bn;rw[GC];by_cases c:(kv.any λx=>decide (x.1=k))=true
 .rw[W7 c,W7 c];unfold az;rw[QR,QR];refine ZD λp _=>?_;show(if(Sum.inl p.1:Key)=Sum.inl k then _ else _)=_;by_cases e:p.1=k
  .rw[W7 (by rw[e])];simp[e]
  .rw[W6 λz=>e (Sum.inl.inj z)];simp[e]
 .rw[W6 c,W6 c];unfold az;rw[QC];rfl
def mt {kv:List (Int×V)}:bN (az kv) (Sum.inl k:Key)=az (bN kv k):=by
 unfold bN az;rw[List.filter_map];congr 1;refine VG λp _=>?_;show decide ((Sum.inl p.1:Key)≠Sum.inl k)=_;by_cases e:p.1=k
 .rw[e];simp
 .have:¬(Sum.inl p.1:Key)=Sum.inl k:=λz=>e (Sum.inl.inj z);simp[e,this]
def bz {kv:List (Int×V)}:(az kv).length=kv.length:=Q0 _
def ox {f:Str} {v:V}:∀fs:List (Str×V),(bL f v fs).length<=fs.length+1
 | []=>Q4 _
 |(g,x)::r=>by
  rw[bL];split
  .rw[QM,QM];lia
  .have:=ox (f:=f) (v:=v) r;rw[QM,QM];lia
section
variable {κ:Type} [DecidableEq κ] {kv:List (κ×V)} {k j:κ}
def eV:∀{kv:List (κ×V)},aF (bN kv k) j=if j=k then none else aF kv j
 | []=>by
  show aF ([]:List (κ×V)) j=_;rw[kK];split<;>rfl
 |p::r=>by
  by_cases e:p.1=k
  .rw[uT e,eV];by_cases z:j=k
   .rw[W7 z,W7 z]
   .rw[W6 z,W6 z,bq λy=>z (y.symm.trans e)]
  .rw[pX e];by_cases y:p.1=j
   .rw[bB y,bB y,W6 λz=>e (y.trans z)]
   .rw[bq y,bq y,eV]
def Kd:∀{kv:List (κ×V)},k∈kv.map (·.1)↔(aF kv k).isSome=true
 | []=>by simp[kK]
 |p::r=>by
  by_cases e:p.1=k
  .rw[bB e];simp[e]
  .rw[bq e,<-Kd];simp[Ne.symm e]
def sU:(bn kv k v).map (·.1)=if(aF kv k).isSome=true then kv.map (·.1)else kv.map (·.1)++ [k]:=by
 unfold bn;rw[dw];by_cases c:(aF kv k).isSome=true
 .rw[W7 c,W7 c,QR];refine ZD λp _=>?_;show(if p.1=k then(p.1,v)else p).1=p.1;split<;>rfl
 .rw[W6 c,W6 c,QC];rfl
def xH (h:(kv.map (·.1)).Nodup):((bn kv k v).map (·.1)).Nodup:=by
 cases e:aF kv k with
 |none=>exact KY v h e
 |some x=>rwa[sU,e]
def gX:∀{l S:List κ},l.Nodup->(∀x∈l,x∈S)->l.length<=S.length
 | [],_,_,_=>QF _
 |x::xs,S,hn,hs=>by
  obtain⟨h1,h2⟩:=Zn.mp hn;have hx:x∈S:=hs x QB;have:=gX (S:=S.erase x) h2 λy hy=>(List.mem_erase_of_ne λz=>h1<|by rwa[<-z]).mpr (hs y<|QD _ hy);rw[List.length_erase_of_mem hx]at this;have:=List.length_pos_of_mem hx;rw[QM];lia
def OH {S:List κ} (z:(kv.map (·.1)).Nodup) (hs:∀x∈kv.map (·.1),x∈S):kv.length<=S.length:=by
 have:=gX z hs;rwa [Q0]at this
end
def RD (K:WN) (F:Addr->Prop) (H:Hp) (a:Addr) (xs:List V):Prop:=(Rd H a (.lst xs)/\¬F a)\/∀H',Fz K H' a xs
def RD.sq (h:RD K F H a xs):Fz K H a xs:=by
 rcases h with h|h
 .exact .inl h.1
 .exact h H
def RD.of (h:Fz K H a xs) (n:∀o,H a=some o->¬F a):RD K F H a xs:=by
 rcases h with h|h
 .rcases h with h|⟨o,h⟩
  .exact .inl ⟨.inl h,n _ h⟩
  .exact .inl ⟨.inr ⟨o,h⟩,n _ h⟩
 .exact .inr λ_=> .inr h
def RD.fr (h:RD K F H a xs) (f:Fr F F' H H'):RD K F' H' a xs:=by
 rcases h with⟨h,n⟩|h
 .rcases h with h|⟨o,h⟩
  .exact .inl ⟨.inl (f _ _ n h).1,(f _ _ n h).2⟩
  .exact .inl ⟨.inr ⟨o,(f _ _ n h).1⟩,(f _ _ n h).2⟩
 .exact .inr h
def RD.new (h:RD K F H a xs) (n:H p=none):RD K F (upd H p o) a xs:=h.fr (Fr.of_same<|ak n)
def RD.put (h:RD K F H a xs) (e:H p=some (.dK kvs)):RD K F (upd H p o) a xs:=by
 rcases h with⟨h,n⟩|h
 .rcases h with h|⟨u,h⟩
  .exact .inl ⟨.inl (by rwa[ae (λz=>by rw[z,e]at h;cases h)]),n⟩
  .exact .inl ⟨.inr ⟨u,by rwa[ae (λz=>by rw[z,e]at h;cases h)]⟩,n⟩
 .exact .inr h
structure O8 where
 kv:List (Int×V)
 size:Int
 nxt:Option Int
 mv:Int
noncomputable def O8.new:O8:=⟨[],4,none,0⟩
noncomputable def O8.one (s:O8):O8:=match s.nxt with
 |none=>s
 |some m=>if s.mv+1=s.size then{s with size:=m,nxt:=none,mv:=0}else{s with mv:=s.mv+1}
noncomputable def O8.three (s:O8):O8:=match s.nxt with
 |some _=>s
 |none=>if s.size<(s.kv.length:Int)/\s.size<256 then{s with nxt:=some (2*s.size),mv:=0}else if 4*(s.kv.length:Int)<s.size/\4<s.size then{s with nxt:=some (s.size/2),mv:=0}else s
def O8.put (s:O8) (k:Int) (v:V):O8:=O8.three {s.one with kv:=bn s.kv k v}
def O8.drop (s:O8) (k:Int):O8:=O8.three {s.one with kv:=bN s.kv k}
noncomputable def O8.rows (s:O8):List Int:=match s.nxt with
 |none=> [s.size]
 |some m=> [s.size,m]
noncomputable def O8.moved (s:O8):Int:=match s.nxt with
 |none=>0
 |some _=>s.mv
structure R6 where
 tb:Addr
 r0:Addr
 r1:Addr
 A0:List Addr
 A1:List Addr
 C0:List (List<|Int×V)
 C1:List (List<|Int×V)
 n:Int
noncomputable def Qb (tb:Addr) (sh n:Int):List (Str×V):=[("table",.ref tb),("shifted",.int sh),("kept",.int n)]
def gR {k:Str} {r:List (Str×V)}:((k,v)::r).lookup k=some v:=by
 have hb:(k==k)=true:=Wk.mpr M;simp only[List.lookup,hb]
def bM {k m:Str} {r:List (Str×V)} (h:m≠k):((k,v)::r).lookup m=r.lookup m:=by
 have hb:(m==k)=false:=Wo.mpr h;simp only[List.lookup,hb]
section
variable {tb':Addr} {sh sh' n n':Int} {m:Str}
def jH:(Qb tb sh n).lookup ("table":Str)=some (.ref tb):=gR
def Cy:(Qb tb sh n).lookup ("shifted":Str)=some (.int sh):=by unfold Qb;rw[bM ∅,gR]
def sd:(Qb tb sh n).lookup ("kept":Str)=some (.int n):=by unfold Qb;rw[bM ∅,bM ∅,gR]
def NoM (m:Str):Prop:=m≠("table":Str)/\m≠("shifted":Str)/\m≠("kept":Str)
instance:Decidable (NoM m):=by unfold NoM;infer_instance
def LT (h:NoM m):(Qb tb sh n).lookup m=none:=by unfold Qb;rw[bM h.1,bM h.2.1,bM h.2.2];rfl
def Ov:bL ("table":Str) (.ref tb') (Qb tb sh n)=Qb tb' sh n:=by unfold Qb;rw[bL,W7 M]
def LX:bL ("shifted":Str) (.int sh') (Qb tb sh n)=Qb tb sh' n:=by unfold Qb;rw[bL,W6 ∅,bL,W7 M]
def LY:bL ("kept":Str) (.int n') (Qb tb sh n)=Qb tb sh n':=by unfold Qb;rw[bL,W6 ∅,bL,W6 ∅,bL,W7 M]
def r9:(Qb tb sh n).length<1000:=by show 3<1000;decide
end
structure P8 (H:Hp) (r:Addr) (A:List Addr) (C:List (List<|Int×V)) (sz:Int):Prop where
 lst:H r=some (.lst<|A.map V.ref)
 la:(A.length:Int)=sz
 lc:(C.length:Int)=sz
 cell:∀(j:Nat) (b:Addr) (kv:List (Int×V)),A[j]?=some b->C[j]?=some kv->H b=some (.dK<|az kv)
 ndk:∀(j:Nat) (kv:List (Int×V)),C[j]?=some kv->(kv.map (·.1)).Nodup
 inj:∀(i j:Nat) (b:Addr),A[i]?=some b->A[j]?=some b->i=j
 home:∀(j:Nat) (kv:List (Int×V)),C[j]?=some kv->∀p∈kv,p.1%65536%sz=(j:Int)
def P8.has {C:List (List<|Int×V)} {sz:Int} (h:P8 H r A C sz) (hb:b∈A):∃(j:Nat) (kv:List (Int×V)),A[j]?=some b/\C[j]?=some kv/\H b=some (.dK<|az kv):=by
 obtain⟨j,G,e⟩:=Z1 hb;have hc:j<C.length:=by have:=h.la;have:=h.lc;lia
 have z:A[j]?=some b:=by rw[Q3 G,e]
 have e2:C[j]?=some C[j]:=Q3 hc;exact⟨j,C[j],z,e2,h.cell j b _ z e2⟩
def P8.frame {C:List (List<|Int×V)} {sz:Int} (h:P8 H r A C sz) (f:∀b,b=r\/b∈A->H' b=H b):P8 H' r A C sz:=
 ⟨by rw[f r (.inl M)];exact h.lst,h.la,h.lc,λj b kv z e2=>by rw[f b (.inr<|Q2 z)];exact h.cell j b kv z e2,h.ndk,h.inj,h.home⟩
def P8.notr {C:List (List<|Int×V)} {sz:Int} (h:P8 H r A C sz) (hb:b∈A) {x:Addr} (e:H x=some o) (ne:∀kvs,o≠ .dK kvs):b≠x:=λz=>by
 obtain⟨j,kv,_,_,q⟩:=h.has hb;rw[z,e]at q;cases q;exact ne _ M
def P8.set {C:List (List<|Int×V)} {sz:Int} (h:P8 H r A C sz) (I:A[j]?=some c) (nd:(kv'.map (·.1)).Nodup) (O:∀p∈kv',p.1%65536%sz=(j:Int)):
  P8 (upd H c<|.dK<|az kv') r A (C.set j kv') sz:=by
 have hc:r≠c:=(h.notr (Q2 I) h.lst<|λ_ z=>by cases z).symm;refine⟨by rw[ae hc];exact h.lst,h.la,by rw[Zk];exact h.lc,λi b kv G e2=>?_,λi kv e=>?_,h.inj,λi kv e=>?_⟩
 .rw[QW]at e2;by_cases z:j=i
  .subst z;rw[I]at G;cases G;rw[W7 M]at e2;split at e2
   .cases e2;exact ai
   .cases e2
  .rw[W6 z]at e2;rw[ae λy=>z (h.inj j i c I<|by rwa[<-y])];exact h.cell i b kv G e2
 .rw[QW]at e;by_cases z:j=i
  .rw[W7 z]at e;split at e
   .cases e;exact nd
   .cases e
  .rw[W6 z]at e;exact h.ndk i kv e
 .rw[QW]at e;by_cases z:j=i
  .subst z;rw[W7 M]at e;split at e
   .cases e;exact O
   .cases e
  .rw[W6 z]at e;exact h.home i kv e
def Pz (a:Addr) (st:O8) (d:R6):Addr->Prop:=λb=>b=a\/b=d.tb\/b=d.r0\/b∈d.A0\/(st.nxt.isSome=true/\b=d.r1)\/b∈d.A1
def IsCell (d:R6) (st:O8) (k:Int) (c:Addr) (kv:List (Int×V)):Prop:=
 (st.moved<=k%65536%st.size/\d.A0[(k%65536%st.size).toNat]?=some c/\d.C0[(k%65536%st.size).toNat]?=some kv)\/
 (∃m,st.nxt=some m/\k%65536%st.size<st.moved/\d.A1[(k%65536%m).toNat]?=some c/\d.C1[(k%65536%m).toNat]?=some kv)
structure PJ (st:O8):Prop where
 pw:st.size∈([4,8,16,32,64,128,256]:List Int)
 nx:∀m,st.nxt=some m->m∈([4,8,16,32,64,128,256]:List Int)/\0<=st.mv/\st.mv<st.size/\(m=2*st.size\/2*m=st.size)
def ou {x:Int} (h:x∈([4,8,16,32,64,128,256]:List Int)):x=4\/x=8\/x=16\/x=32\/x=64\/x=128\/x=256:=by simpa using h
def b4 {x:Int} (h:x∈([4,8,16,32,64,128,256]:List Int)):4<=x/\x<=256:=by
 rcases ou h with h|h|h|h|h|h|h<;>lia
structure PZ (t:P5) (H:Hp) (a:Addr) (st:O8) (d:R6):Prop where
 obj:∃dx,H a=some (.ins t.aZ dx<|Qb d.tb st.moved d.n)
 tbl:H d.tb=some (.lst<|match st.nxt with|none=> [.ref d.r0]|some _=> [.ref d.r0,.ref d.r1])
 row0:P8 H d.r0 d.A0 d.C0 st.size
 row1:match st.nxt with|none=>d.A1=[]/\d.C1=[]|some m=>P8 H d.r1 d.A1 d.C1 m
 dis:∀b,b∈d.A0->b∉d.A1
 tr:d.tb≠d.r0
 tr1:st.nxt.isSome=true->d.tb≠d.r1/\d.r0≠d.r1
 old:∀(j:Nat) (kv:List (Int×V)),d.C0[j]?=some kv->(j:Int)<st.moved->kv=[]
 new:∀(j:Nat) (kv:List (Int×V)),d.C1[j]?=some kv->∀p∈kv,p.1%65536%st.size<st.moved
 val:∀(k:Int) (c:Addr) (kv:List (Int×V)),IsCell d st k c kv->aF kv k=aF st.kv k
section
variable {d:R6}
def PZ.frame (h:PZ t H a st d) (f:∀b,Pz a st d b->H' b=H b):PZ t H' a st d:=by
 obtain⟨dx,z⟩:=h.obj;refine⟨⟨dx,by rwa[f a (.inl M)]⟩,by rw[f d.tb (.inr<|.inl M)];exact h.tbl,h.row0.frame λb hb=>f b ?_,?_,h.dis,h.tr,h.tr1,h.old,h.new,h.val⟩
 .rcases hb with hb|hb
  .exact .inr<|.inr (.inl hb)
  .exact .inr<|.inr (.inr<|.inl hb)
 .have r1:=h.row1;have G:=f;unfold Pz at G;cases e:st.nxt with
  |none=>rw[e]at r1;exact r1
  |some m=>
   rw[e]at r1;refine P8.frame (H:=H) r1 λb hb=>f b ?_;unfold Pz;rw[e];rcases hb with hb|hb
   .exact .inr<|.inr (.inr<|.inr<|.inl ⟨M,hb⟩)
   .exact .inr<|.inr (.inr<|.inr<|.inr hb)
def PZ.dom (h:PZ t H a st d) (hb:Pz a st d b):∃o,H b=some o:=by
 obtain⟨dx,z⟩:=h.obj;rcases hb with rfl|rfl|rfl|hb|⟨hs,rfl⟩|hb
 .exact⟨_,z⟩
 .exact⟨_,h.tbl⟩
 .exact⟨_,h.row0.lst⟩
 .obtain⟨_,_,_,_,q⟩:=h.row0.has hb;exact⟨_,q⟩
 .have r1:=h.row1;cases e:st.nxt with
  |none=>rw[e]at hs;cases hs
  |some m=>rw[e]at r1;exact⟨_,r1.lst⟩
 .have r1:=h.row1;cases e:st.nxt with
  |none=>rw[e]at r1;rw[r1.1]at hb;cases hb
  |some m=>rw[e]at r1;obtain⟨_,_,_,_,q⟩:=r1.has hb;exact⟨_,q⟩
def PZ.at (h:PZ t H a st d) {kv:List (Int×V)} (G:IsCell d st k c kv):H c=some (.dK<|az kv)/\Pz a st d c/\(kv.map (·.1)).Nodup:=by
 rcases G with⟨_,z,e2⟩|⟨m,I,_,z,e2⟩
 .exact⟨h.row0.cell _ _ _ z e2,.inr<|.inr<|.inr<|.inl<|Q2 z,h.row0.ndk _ _ e2⟩
 .have r1:=h.row1;rw[I]at r1;exact⟨r1.cell _ _ _ z e2,.inr<|.inr<|.inr<|.inr<|.inr<|Q2 z,r1.ndk _ _ e2⟩
def uM (z:4<=m):0<=k%65536%m/\k%65536%m<m/\((k%65536%m).toNat:Int)=k%65536%m:=by
 have h1:=QA (k%65536) (show m≠0 by lia);have h2:=Qx (k%65536) (show 0<m by lia);exact⟨h1,h2,Vs h1⟩
def dX {l:List α} {z:Int} (G:0<=z) (h1:z<(l.length:Int)):∃x,l[z.toNat]?=some x:=⟨l[z.toNat]'(),Q3 ()⟩
def PZ.cell (h:PZ t H a st d) (z:PJ st) (k:Int):∃c kv,IsCell d st k c kv:=by
 obtain⟨s4,_⟩:=b4 z.pw;obtain⟨I,O,m2⟩:=uM (k:=k) s4;by_cases c:st.moved<=k%65536%st.size
 .obtain⟨x,G⟩:=dX (l:=d.A0) I (by rwa[h.row0.la]);obtain⟨y,e2⟩:=dX (l:=d.C0) I (by rwa[h.row0.lc]);exact⟨x,y,.inl ⟨c,G,e2⟩⟩
 .cases e:st.nxt with
  |none=>
   exfalso;have:st.moved=0:=by unfold O8.moved;rw[e]
   lia
  |some m=>
   obtain⟨Z,_⟩:=z.nx m e;obtain⟨s5,_⟩:=b4 Z;obtain⟨U,Y,n2⟩:=uM (k:=k) s5;have r1:=h.row1;rw[e]at r1;obtain⟨x,G⟩:=dX (l:=d.A1) U (by rwa[r1.la]);obtain⟨y,e2⟩:=dX (l:=d.C1) U (by rwa[r1.lc]);exact⟨x,y,.inr ⟨m,e,(),G,e2⟩⟩
def IsCell.uniq {U:Addr} {kv:List (Int×V)} (x:IsCell d st k c kv) (y:IsCell d st k U kv'):c=U/\kv=kv':=by
 rcases x with⟨Y,O,e2⟩|⟨m,Z,Y,O,e2⟩<;>rcases y with⟨g0,z,G⟩|⟨m',I,g0,z,G⟩
 .rw[O]at z;rw[e2]at G;cases z;cases G;exact⟨M,M⟩
 .lia
 .lia
 .rw[Z]at I;cases I;rw[O]at z;rw[e2]at G;cases z;cases G;exact⟨M,M⟩
def PZ.setN (h:PZ t H a st d) {n:Int}:PZ t (upd H a<|.ins t.aZ dx<|Qb d.tb st.moved n) a st {d with n:=n}:=by
 obtain⟨O,G⟩:=h.obj;have I:d.tb≠a:=cU h.tbl G (by intro z;cases z);refine⟨⟨dx,ai⟩,by show upd H a _ d.tb=_;rw[ae I];exact h.tbl,h.row0.frame λb hb=>ae ?_,?_,h.dis,h.tr,h.tr1,h.old,h.new,h.val⟩
 .rcases hb with rfl|hb
  .exact cU h.row0.lst G<|by intro z;cases z
  .exact h.row0.notr hb G<|λ_ z=>by cases z
 .have r1:=h.row1;cases e:st.nxt with
  |none=>rw[e]at r1;exact r1
  |some m=>
   rw[e]at r1;refine P8.frame (H:=H) r1 λb hb=>ae ?_;rcases hb with rfl|hb
   .exact cU r1.lst G<|by intro z;cases z
   .exact r1.notr hb G<|λ_ z=>by cases z
def PZ.setCell (h:PZ t H a st d) (z:PJ st) {kv kvs:List (Int×V)} (ic:IsCell d st k c kv) (nd:(kv'.map (·.1)).Nodup) (hm:∀p∈kv',p∈kv\/p.1=k)
  (hk:aF kv' k=aF kvs k) (ho:∀j,j≠k->aF kv' j=aF kv j/\aF kvs j=aF st.kv j):
  ∃d',PZ t (upd H c<|.dK<|az kv') a {st with kv:=kvs} d'/\d'.n=d.n/\∀b,Pz a {st with kv:=kvs} d' b↔Pz a st d b:=by
 obtain⟨hc,hf,_⟩:=h.at ic;obtain⟨dx,a1⟩:=h.obj;obtain⟨s4,_⟩:=b4 z.pw;obtain⟨m0,m1,m2⟩:=uM (k:=k) s4;have na:a≠c:=cU a1 hc (by intro z;cases z);have nt:d.tb≠c:=cU h.tbl hc (by intro z;cases z);have nr:d.r0≠c:=cU h.row0.lst hc (by intro z;cases z);have a0:∀(d':R6) (j:Int) (b:Addr) (x:List (Int×V)),IsCell d' {st with kv:=kvs} j b x->(∀y,IsCell d st j b y->(x=y/\b≠c)\/(x=kv'/\y=kv))->(∃y,IsCell d st j b y)->aF x j=aF kvs j:=λd' j b x hx f ⟨y,hy⟩=>by
  by_cases e:j=k
  .subst e;obtain⟨rfl,rfl⟩:=IsCell.uniq hy ic;rcases f y hy with⟨_,z⟩|⟨rfl,_⟩
   .exact Wb M z
   .exact hk
  .rw[(ho j e).2];rcases f y hy with⟨rfl,_⟩|⟨rfl,rfl⟩
   .exact h.val j b x hy
   .rw[(ho j e).1];exact h.val j b y hy
 rcases ic with⟨h0,e1,e2⟩|⟨m,em,h0,e1,e2⟩
 .have Y:c∈d.A0:=Q2 e1;have Z:∀p∈kv',p.1%65536%st.size=((k%65536%st.size).toNat:Int):=λp hp=>by
   rcases hm p hp with q|q
   .exact h.row0.home _ _ e2 p q
   .rw[q,m2]
  refine⟨{d with C0:=d.C0.set (k%65536%st.size).toNat kv'},⟨⟨dx,by rwa[ae na]⟩,by show upd H c _ d.tb=_;rw[ae nt];exact h.tbl,h.row0.set e1 nd Z,?_,h.dis,h.tr,h.tr1,λj x e lt=>?_,h.new,λj b x hx=>?_⟩,M,λb=>Iff.rfl⟩
  .have r1:=h.row1;show match st.nxt with|none=>_|some m=>_
   cases e:st.nxt with
   |none=>rw[e]at r1;exact r1
   |some m=>
    rw[e]at r1;refine P8.frame (H:=H) r1 λb hb=>ae ?_;rcases hb with rfl|hb
    .exact cU r1.lst hc<|by intro z;cases z
    .exact λy=>h.dis c Y (y▸hb)
  .have e:(d.C0.set (k%65536%st.size).toNat kv')[j]?=some x:=e;have lt:(j:Int)<st.moved:=lt;rw[QW]at e;by_cases q:(k%65536%st.size).toNat=j
   .exfalso;lia
   .rw[W6 q]at e;exact h.old j x e lt
  .refine a0 _ j b x hx (λy hy=>?_) ?_
   .rcases hx with⟨U,G,O⟩|⟨m',I,U,G,O⟩
    .have O:(d.C0.set (k%65536%st.size).toNat kv')[(j%65536%st.size).toNat]?=some x:=O;have G:d.A0[(j%65536%st.size).toNat]?=some b:=G;have U:st.moved<=j%65536%st.size:=U;rcases hy with⟨_,y1,y2⟩|⟨_,_,y0,_,_⟩
     .rw[QW]at O;by_cases q:(k%65536%st.size).toNat=(j%65536%st.size).toNat
      .rw[W7 q]at O;split at O
       .cases O;rw[<-q,e2]at y2;cases y2;exact .inr ⟨M,M⟩
       .cases O
      .rw[W6 q,y2]at O;cases O;exact .inl ⟨M,λw=>q<|h.row0.inj _ _ c e1 (by rwa[<-w])⟩
     .lia
    .have G:d.A1[(j%65536%m').toNat]?=some b:=G;have O:d.C1[(j%65536%m').toNat]?=some x:=O;have U:j%65536%st.size<st.moved:=U;have I:st.nxt=some m':=I;rcases hy with⟨y0,_,_⟩|⟨m2,e3,y0,y1,y2⟩
     .lia
     .rw[I]at e3;cases e3;rw[O]at y2;cases y2;exact .inl ⟨M,λw=>h.dis c Y<|w▸Q2 G⟩
   .obtain⟨b',y,hy⟩:=h.cell z j;have:b'=b:=by
     rcases hx with⟨U,G,O⟩|⟨m',I,U,G,O⟩<;>rcases hy with⟨y0,y1,y2⟩|⟨m3,e3,y0,y1,y2⟩
     .have G:d.A0[(j%65536%st.size).toNat]?=some b:=G;rw[y1]at G;exact W8 G
     .have U:st.moved<=j%65536%st.size:=U;lia
     .have U:j%65536%st.size<st.moved:=U;lia
     .have I:st.nxt=some m':=I;rw[I]at e3;cases e3;have G:d.A1[(j%65536%m').toNat]?=some b:=G;rw[y1]at G;exact W8 G
    subst this;exact⟨y,hy⟩
 .have r1:=h.row1;rw[em]at r1;have Y:c∈d.A1:=Q2 e1;obtain⟨pm,_⟩:=z.nx m em;obtain⟨s5,_⟩:=b4 pm;obtain⟨n0,n1,n2⟩:=uM (k:=k) s5;have Z:∀p∈kv',p.1%65536%m=((k%65536%m).toNat:Int):=λp hp=>by
   rcases hm p hp with q|q
   .exact r1.home _ _ e2 p q
   .rw[q,n2]
  refine⟨{d with C1:=d.C1.set (k%65536%m).toNat kv'},⟨⟨dx,by rwa[ae na]⟩,by show upd H c _ d.tb=_;rw[ae nt];exact h.tbl,h.row0.frame λb hb=>ae ?_,?_,h.dis,h.tr,h.tr1,h.old,λj x e p hp=>?_,λj b x hx=>?_⟩,M,λb=>Iff.rfl⟩
  .rcases hb with rfl|hb
   .exact nr
   .exact λy=>h.dis b hb (y▸Y)
  .show match st.nxt with|none=>_|some m=>_
   rw[em];exact r1.set e1 nd Z
  .have e:(d.C1.set (k%65536%m).toNat kv')[j]?=some x:=e;show p.1%65536%st.size<st.moved;rw[QW]at e;by_cases q:(k%65536%m).toNat=j
   .rw[W7 q]at e;split at e
    .cases e;rcases hm p hp with q|q
     .exact h.new _ _ e2 p q
     .rwa[q]
    .cases e
   .rw[W6 q]at e;exact h.new j x e p hp
  .refine a0 _ j b x hx (λy hy=>?_) ?_
   .rcases hx with⟨U,G,O⟩|⟨m',I,U,G,O⟩
    .have G:d.A0[(j%65536%st.size).toNat]?=some b:=G;have O:d.C0[(j%65536%st.size).toNat]?=some x:=O;have U:st.moved<=j%65536%st.size:=U;rcases hy with⟨_,y1,y2⟩|⟨_,_,y0,_,_⟩
     .rw[O]at y2;cases y2;exact .inl ⟨M,λw=>h.dis b (Q2 G)<|w▸Y⟩
     .lia
    .have I:st.nxt=some m':=I;rw[em]at I;cases I;have O:(d.C1.set (k%65536%m).toNat kv')[(j%65536%m).toNat]?=some x:=O;have G:d.A1[(j%65536%m).toNat]?=some b:=G;have U:j%65536%st.size<st.moved:=U;rcases hy with⟨y0,_,_⟩|⟨m2,e3,y0,y1,y2⟩
     .lia
     .rw[em]at e3;cases e3;rw[QW]at O;by_cases q:(k%65536%m).toNat=(j%65536%m).toNat
      .rw[W7 q]at O;split at O
       .cases O;rw[<-q,e2]at y2;cases y2;exact .inr ⟨M,M⟩
       .cases O
      .rw[W6 q,y2]at O;cases O;exact .inl ⟨M,λw=>q<|r1.inj _ _ c e1 (by rwa[<-w])⟩
   .obtain⟨b',y,hy⟩:=h.cell z j;have:b'=b:=by
     rcases hx with⟨U,G,O⟩|⟨m',I,U,G,O⟩<;>rcases hy with⟨y0,y1,y2⟩|⟨m3,e3,y0,y1,y2⟩
     .have G:d.A0[(j%65536%st.size).toNat]?=some b:=G;rw[y1]at G;exact W8 G
     .have U:st.moved<=j%65536%st.size:=U;lia
     .have U:j%65536%st.size<st.moved:=U;lia
     .have I:st.nxt=some m':=I;rw[I]at e3;cases e3;have G:d.A1[(j%65536%m').toNat]?=some b:=G;rw[y1]at G;exact W8 G
    subst this;exact⟨y,hy⟩
end
def xN {kv:List (Int×V)} {p:Int×V} (h:p∈bn kv k v):p∈kv\/p.1=k:=by
 unfold bn at h;split at h
 .obtain⟨q,hq,e⟩:=Qy.mp h;by_cases z:q.1=k
  .rw[W7 z]at e;rw[<-e];exact .inr z
  .rw[W6 z]at e;rw[<-e];exact .inl hq
 .rcases Q5.mp h with h|h
  .exact .inl h
  .rw[Q7.mp h];exact .inr M
def K3 {kv:List (Int×V)} {p:Int×V} (h:p∈kv):(aF kv p.1).isSome=true:=Kd.mp (Qy.mpr ⟨p,h,M⟩)
def ir (m:Int) (C:List (List<|Int×V)) (p:Int×V):List (List<|Int×V):=C.set (p.1%65536%m).toNat (bn (C.getD (p.1%65536%m).toNat []) p.1 p.2)
def Ip {C:List (List<|Int×V)} {p:Int×V}:(ir m C p).length=C.length:=Zk
def Fb {m:Int}:∀{kv:List (Int×V)} {C:List (List<|Int×V)},(kv.foldl (ir m) C).length=C.length
 | [],_=>rfl
 |p::r,C=>by rw[List.foldl_cons,Fb,Ip]
def CS {C:List (List<|Int×V)} {p:Int×V} {y:List (Int×V)} (e:C[j]?=some y):(ir m C p)[j]?=some (if(p.1%65536%m).toNat=j then bn y p.1 p.2 else y):=by
 unfold ir;rw[QW];by_cases z:(p.1%65536%m).toNat=j
 .have G:j<C.length:=(Q1.mp e).1;rw[W7 z,W7 z,W7 (by rwa[z]),QJ,z,e];rfl
 .rw[W6 z,W6 z,e]
def Bx {m:Int}:∀{kv:List (Int×V)} {C:List (List<|Int×V)} {j:Nat} {y:List (Int×V)},(kv.map (·.1)).Nodup->C[j]?=some y->∃x,(kv.foldl (ir m) C)[j]?=some x/\
  (∀p∈x,p∈y\/p.1∈kv.map (·.1))/\∀k,aF x k=if(k%65536%m).toNat=j then(aF kv k).or (aF y k)else aF y k
 | [],C,j,y,_,e=>⟨y,e,λp G=> .inl G,λk=>by rw[kK];simp⟩
 |p::r,C,j,y,nd,e=>by
  obtain⟨I,O⟩:=Zn.mp (show(p.1::r.map (·.1)).Nodup from nd);obtain⟨x,h1,h2,U⟩:=Bx (m:=m) O (CS (m:=m) (p:=p) e);refine⟨x,h1,λq hq=>?_,λk=>?_⟩
  .rcases h2 q hq with z|z
   .split at z
    .rcases xN z with z|z
     .exact .inl z
     .exact .inr<|Qy.mpr ⟨p,QB,z.symm⟩
    .exact .inl z
   .exact .inr<|QD _ z
  .rw[U k];by_cases z:(k%65536%m).toNat=j
   .rw[W7 z,W7 z];by_cases w:p.1=k
    .subst w;have:aF r p.1=none:=by
      cases q:aF r p.1 with
      |none=>rfl
      |some v=>exact Wb (wm q) I
     rw[this,bB M,W7 z,eB,W7 M];rfl
    .rw[bq w];congr 1;split
     .rw[eB,W6 (Ne.symm w)]
     .rfl
   .rw[W6 z,W6 z];split
    .rename_i w
     rw[eB,W6 (λy=>z<|by rwa[y])]
    .rfl
def P8.mov {C:List (List<|Int×V)} {sz:Int} {y:List (Int×V)} (h:P8 H r A C sz) (s4:4<=sz) (I:A[(k%65536%sz).toNat]?=some c) (G:C[(k%65536%sz).toNat]?=some y):
  P8 (upd H c<|.dK<|az<|bn y k v) r A (ir sz C (k,v)) sz:=by
 have e:ir sz C (k,v)=C.set (k%65536%sz).toNat (bn y k v):=by
  unfold ir;rw[QJ];show C.set (k%65536%sz).toNat (bn (C[(k%65536%sz).toNat]?.getD []) k v)=_;rw[G];rfl
 rw[e];obtain⟨Y,Z,O⟩:=uM (k:=k) s4;refine h.set I (xH<|h.ndk _ _ G) λp U=>?_;rcases xN U with z|z
 .exact h.home _ _ G p z
 .rw[z,O]
section
variable {d:R6}
def O8.moved_some (e:st.nxt=some m):st.moved=st.mv:=by unfold O8.moved;rw[e]
def O8.moved_none (e:st.nxt=none):st.moved=0:=by unfold O8.moved;rw[e]
def PZ.movVal (h:PZ t H a st d) (z:PJ st) (G:st.nxt=some m) {kv:List (Int×V)} (I:d.C0[st.mv.toNat]?=some kv) (hk:k%65536%st.size<=st.mv) {x:List (Int×V)}
  (ex:(kv.foldl (ir m) d.C1)[(k%65536%m).toNat]?=some x):aF x k=aF st.kv k:=by
 obtain⟨pm,v0,v1,_⟩:=z.nx m G;obtain⟨s4,_⟩:=b4 z.pw;obtain⟨s5,_⟩:=b4 pm;have r1:=h.row1;rw[G]at r1;obtain⟨n0,n1,n2⟩:=uM (k:=k) s5;obtain⟨m0,m1,m2⟩:=uM (k:=k) s4;obtain⟨y,O⟩:=dX (l:=d.C1) n0 (by rwa[r1.lc]);obtain⟨c1,U⟩:=dX (l:=d.A1) n0 (by rwa[r1.la]);obtain⟨x',e',_,hv⟩:=Bx (m:=m) (h.row0.ndk _ _ I) O;rw[ex]at e';cases e';rw[hv k,W7 M];have hm:=O8.moved_some G;by_cases c:k%65536%st.size=st.mv
 .obtain⟨b0,Y⟩:=dX (l:=d.A0) m0 (by rwa[h.row0.la]);have Z:IsCell d st k b0 kv:= .inl ⟨(),Y,by rw[c];exact I⟩;have yn:aF y k=none:=by
   cases q:aF y k with
   |none=>rfl
   |some v=>
    obtain⟨p,hp,e⟩:=Qy.mp (wm q);have:=h.new _ _ O p hp;rw[e]at this;lia
  rw[h.val k b0 kv Z,yn];simp
 .have Z:IsCell d st k c1 y:= .inr ⟨m,G,(),U,O⟩;have kn:aF kv k=none:=by
   cases q:aF kv k with
   |none=>rfl
   |some v=>
    obtain⟨p,hp,e⟩:=Qy.mp (wm q);have:=h.row0.home _ _ I p hp;rw[e]at this;lia
  rw[kn,h.val k c1 y Z];rfl
def eF {l:List α} {x y:α} (e:(l.set i x)[j]?=some y):(i=j/\y=x)\/(i≠j/\l[j]?=some y):=by
 rw[QW]at e;by_cases z:i=j
 .rw[W7 z]at e;split at e
  .cases e;exact .inl ⟨z,M⟩
  .cases e
 .rw[W6 z]at e;exact .inr ⟨z,e⟩
def PZ.one (h:PZ t H a st d) (z:PJ st) (Y:st.nxt=some m) {kv:List (Int×V)} (ek:d.C0[st.mv.toNat]?=some kv) {b':Addr} (nl:st.mv+1≠st.size)
  (ha:H' a=some (.ins t.aZ dx<|Qb d.tb (st.mv+1) d.n)) (ht:H' d.tb=H d.tb) (h0:H' d.r0=some (.lst<|(d.A0.set st.mv.toNat b').map V.ref)) (hb:H' b'=some (.dK [])) (hF:¬Pz a st d b')
  (hA:∀(j:Nat) b,d.A0[j]?=some b->j≠st.mv.toNat->H' b=H b) (hr:P8 H' d.r1 d.A1 (kv.foldl (ir m) d.C1) m):
  PZ t H' a st.one {d with A0:=d.A0.set st.mv.toNat b',C0:=d.C0.set st.mv.toNat [],C1:=kv.foldl (ir m) d.C1}:=by
 obtain⟨pm,v0,v1,_⟩:=z.nx m Y;have a1:st.one={st with mv:=st.mv+1}:=by unfold O8.one;rw[Y];exact W6 nl
 have G:({st with mv:=st.mv+1}:O8).moved=st.mv+1:=O8.moved_some (st:={st with mv:=st.mv+1}) Y;have hm:=O8.moved_some Y;have a2:b'∉d.A0:=λq=>hF (.inr<|.inr<|.inr<|.inl q);have a3:b'∉d.A1:=λq=>hF (.inr<|.inr<|.inr<|.inr<|.inr q);rw[a1];have r1:=h.row1;rw[Y]at r1;refine⟨⟨dx,by rwa[G]⟩,by rw[ht];exact h.tbl,⟨h0,by rw[Zk];exact h.row0.la,by rw[Zk];exact h.row0.lc,λj b x Z e2=>?_,λj x e=>?_,λi j b Z e2=>?_,λj x e p hp=>?_⟩,?_,λb a4 hb1=>?_,h.tr,h.tr1,λj x e lt=>?_,λj x e p hp=>?_,λk c x ic=>?_⟩
 .rcases eF Z with⟨q,rfl⟩|⟨q,Z⟩
  .rcases eF e2 with⟨_,rfl⟩|⟨q2,_⟩
   .exact hb
   .exact Wb q q2
  .rcases eF e2 with⟨q2,_⟩|⟨_,e2⟩
   .exact Wb q2 q
   .rw[hA j b Z (Ne.symm q)];exact h.row0.cell j b x Z e2
 .rcases eF e with⟨_,rfl⟩|⟨_,e⟩
  .exact Zx
  .exact h.row0.ndk j x e
 .have Z:(d.A0.set st.mv.toNat b')[i]?=some b:=Z;have e2:(d.A0.set st.mv.toNat b')[j]?=some b:=e2;rcases eF Z with⟨q,y1⟩|⟨q,O⟩<;>rcases eF e2 with⟨q2,y2⟩|⟨q2,I⟩
  .exact q.symm.trans q2
  .rw[y1]at I;exact Wb (Q2 I) a2
  .rw[y2]at O;exact Wb (Q2 O) a2
  .exact h.row0.inj i j b O I
 .rcases eF e with⟨_,rfl⟩|⟨_,e⟩
  .cases hp
  .exact h.row0.home j x e p hp
 .show match st.nxt with|none=>_|some m=>_
  rwa[Y]
 .obtain⟨j,hj,e⟩:=Z1 (show b∈d.A0.set st.mv.toNat b' from a4);rcases eF (Q1.mpr ⟨hj,e⟩)with⟨_,rfl⟩|⟨_,e⟩
  .exact a3 hb1
  .exact h.dis b (Q2 e) hb1
 .rw[G]at lt;rcases eF e with⟨_,rfl⟩|⟨q,e⟩
  .rfl
  .exact h.old j x e ()
 .rw[G];show p.1%65536%st.size<st.mv+1;obtain⟨y,ey⟩:∃y,d.C1[j]?=some y:=by
   have hj:j<(kv.foldl (ir m) d.C1).length:=(Q1.mp e).1;rw[Fb]at hj;exact⟨_,Q3 hj⟩
  obtain⟨x',e',a0,_⟩:=Bx (m:=m) (h.row0.ndk _ _ ek) ey;have e:(kv.foldl (ir m) d.C1)[j]?=some x:=e;rw[e]at e';cases e';rcases a0 p hp with q|q
  .have:=h.new j y ey p q;lia
  .obtain⟨p',a0,e3⟩:=Qy.mp q;have:=h.row0.home _ _ ek p' a0;rw[e3]at this;lia
 .show aF x k=aF st.kv k;rcases ic with⟨g0,O,I⟩|⟨m',U,g0,O,I⟩
  .rw[G]at g0;have g0:st.mv+1<=k%65536%st.size:=g0;have O:(d.A0.set st.mv.toNat b')[(k%65536%st.size).toNat]?=some c:=O;have I:(d.C0.set st.mv.toNat [])[(k%65536%st.size).toNat]?=some x:=I;rcases eF O with⟨q,_⟩|⟨_,O⟩
   .lia
   .rcases eF I with⟨q,_⟩|⟨_,I⟩
    .lia
    .exact h.val k c x<|.inl ⟨(),O,I⟩
  .rw[G]at g0;have U:st.nxt=some m':=U;rw[Y]at U;cases U;have g0:k%65536%st.size<st.mv+1:=g0;exact h.movVal z Y ek () I
def PZ.last (h:PZ t H a st d) (z:PJ st) (U:st.nxt=some m) {kv:List (Int×V)} (Y:d.C0[st.mv.toNat]?=some kv) {tb':Addr} (l:st.mv+1=st.size)
  (ha:H' a=some (.ins t.aZ dx<|Qb tb' 0 d.n)) (Z:H' tb'=some (.lst [.ref d.r1])) (hn:tb'≠d.r1) (hr:P8 H' d.r1 d.A1 (kv.foldl (ir m) d.C1) m):
  PZ t H' a st.one ⟨tb',d.r1,d.r1,d.A1,[],kv.foldl (ir m) d.C1,[],d.n⟩:=by
 have G:st.one={st with size:=m,nxt:=none,mv:=0}:=by unfold O8.one;rw[U];exact W7 l
 obtain⟨s4,_⟩:=b4 z.pw;rw[G];refine⟨⟨dx,ha⟩,Z,hr,⟨M,M⟩,(λb _ q=>by cases q),hn,(λq=>by cases q),λj x e lt=>?_,(λj x e=>by simp at e),λk c x ic=>?_⟩
 .have lt:(j:Int)<0:=lt;lia
 .rcases ic with⟨g0,f1,I⟩|⟨m',O,_⟩
  .have I:(kv.foldl (ir m) d.C1)[(k%65536%m).toNat]?=some x:=I;obtain⟨m0,m1,m2⟩:=uM (k:=k) s4;exact h.movVal z U Y () I
  .cases O
def PZ.begin (h:PZ t H a st d) (Z:st.nxt=none) (ha:H' a=H a) (ht:H' d.tb=some (.lst [.ref d.r0,.ref r])) (h0:∀b,b=d.r0\/b∈d.A0->H' b=H b)
  (hr:P8 H' r A (List.replicate m.toNat []) m) (nr:¬Pz a st d r) (nA:∀b∈A,¬Pz a st d b):PZ t H' a {st with nxt:=some m,mv:=0} {d with r1:=r,A1:=A,C1:=List.replicate m.toNat []}:=by
 obtain⟨dx,O⟩:=h.obj;have U:=O8.moved_none Z;refine⟨⟨dx,by rw[ha];rw[U]at O;exact O⟩,ht,h.row0.frame h0,hr,λb q q2=>nA b q2<|.inr<|.inr<|.inr<|.inl q,h.tr,λ_=>⟨λq=>nr<|.inr<|.inl q.symm,λq=>nr<|.inr (.inr<|.inl q.symm)⟩,λj x e lt=>?_,λj x e p hp=>?_,λk c x ic=>?_⟩
 .have lt:(j:Int)<0:=lt;lia
 .have:=Xc (Q2 e);subst this;cases hp
 .rcases ic with⟨G,Y,I⟩|⟨m',a0,G,Y,I⟩
  .refine h.val k c x<|.inl ⟨?_,Y,I⟩;rwa[U]
  .have G:k%65536%st.size<0:=G;have I:(List.replicate m.toNat ([]:List (Int×V)))[(k%65536%m').toNat]?=some x:=I;have:0<=k%65536%st.size:=by
    have z:(0:Int)<=st.size:=by rw[<-h.row0.la];lia
    rcases Int.lt_or_eq_of_le z with q|q
    .exact QA _ ()
    .rw[<-q,Int.emod_zero];exact QA _ (_)
   lia
def PZ.fresh (ha:H a=some (.ins t.aZ dx<|Qb tb 0 0)) (I:H tb=some (.lst [.ref r])) (O:P8 H r A (List.replicate 4 []) 4) (n:tb≠r):PZ t H a O8.new ⟨tb,r,r,A,[],List.replicate 4 [],[],0⟩:=by
 refine⟨⟨dx,ha⟩,I,O,⟨M,M⟩,(λb _ q=>by cases q),n,(λq=>by cases q),λj x e lt=>?_,(λj x e=>by simp at e),λk c x U=>?_⟩
 .have lt:(j:Int)<0:=lt;lia
 .rcases U with⟨Y,Z,z⟩|⟨m',G,_⟩
  .have z:(List.replicate 4 ([]:List (Int×V)))[(k%65536%4).toNat]?=some x:=z;have:=Xc (Q2 z);subst this;rfl
  .cases G
def PZ.short (h:PZ t H a st d) (z:PJ st) {kv:List (Int×V)} (ic:IsCell d st k c kv):kv.length<=st.kv.length:=by
 obtain⟨_,_,nd⟩:=h.at ic;have sub:∀x∈kv.map (·.1),x∈st.kv.map (·.1):=λx hx=>by
  obtain⟨p,I,e⟩:=Qy.mp hx;subst e;refine Kd.mpr ?_;have hs:=K3 I;have:∃O,IsCell d st p.1 O kv:=by
   rcases ic with⟨g0,U,G⟩|⟨m,Y,g0,U,G⟩
   .obtain⟨s4,_⟩:=b4 z.pw;obtain⟨m0,m1,m2⟩:=uM (k:=k) s4;have e:=h.row0.home _ _ G p I;rw[m2]at e;exact⟨c,.inl ⟨by rwa[e],by rwa[e],by rwa[e]⟩⟩
   .obtain⟨pm,_⟩:=z.nx m Y;obtain⟨s5,_⟩:=b4 pm;obtain⟨n0,n1,n2⟩:=uM (k:=k) s5;have r1:=h.row1;rw[Y]at r1;have e:=r1.home _ _ G p I;rw[n2]at e;exact⟨c,.inr ⟨m,Y,h.new _ _ G p I,by rwa[e],by rwa[e]⟩⟩
  obtain⟨O,Z⟩:=this;rwa[<-h.val p.1 O kv Z]
 have:=gX nd sub;rw[Q0,Q0]at this;exact this
end
def CQ {m:Int}:∀{kv:List (Int×V)} {C:List (List<|Int×V)} {j:Nat} {x y:List (Int×V)},C[j]?=some y->(kv.foldl (ir m) C)[j]?=some x->x.length<=y.length+kv.length
 | [],C,j,x,y,e,f=>by
  have f:C[j]?=some x:=f;rw[e]at f;cases f;exact Q4 _
 |p::r,C,j,x,y,e,f=>by
  have h:=CQ (m:=m) (CS (m:=m) (p:=p) e) f;have l:=cu y p.1 p.2;rw[QM];split at h<;>lia
section
variable {d:R6}
def PZ.short0 (h:PZ t H a st d) (z:PJ st) {kv:List (Int×V)} (e:d.C0[j]?=some kv):kv.length<=st.kv.length:=by
 cases kv with
 |nil=>exact QF _
 |cons p r=>
  have I:=h.row0.home j _ e p QB;have O:¬(j:Int)<st.moved:=λq=>by have:=h.old j _ e q;cases this
  have ej:(p.1%65536%st.size).toNat=j:=();have G:j<d.A0.length:=by
   have:=h.row0.la;have:=h.row0.lc;have:=(Q1.mp e).1;lia
  exact h.short z (k:=p.1) (c:=d.A0[j])<|.inl ⟨(),by rw[ej];exact Q3 G,by rwa[ej]⟩
def PZ.short1 (h:PZ t H a st d) (z:PJ st) (G:st.nxt=some m) {kv:List (Int×V)} (e:d.C1[j]?=some kv):kv.length<=st.kv.length:=by
 have r1:=h.row1;rw[G]at r1;cases kv with
 |nil=>exact QF _
 |cons p r=>
  have U:=r1.home j _ e p QB;have I:=h.new j _ e p QB;have ej:(p.1%65536%m).toNat=j:=();have O:j<d.A1.length:=by
   have:=r1.la;have:=r1.lc;have:=(Q1.mp e).1;lia
  exact h.short z (k:=p.1) (c:=d.A1[j])<|.inr ⟨m,G,I,by rw[ej];exact Q3 O,by rwa[ej]⟩
end
def PJ.new:PJ O8.new:=⟨(_),λm e=>by cases e⟩
def PJ.kv {kvs:List (Int×V)} (z:PJ st):PJ {st with kv:=kvs}:=⟨z.pw,z.nx⟩
def PJ.one (z:PJ st):PJ st.one:=by
 unfold O8.one;cases e:st.nxt with
 |none=>exact z
 |some m=>
  obtain⟨G,O,U,I⟩:=z.nx m e;show PJ (if _ then _ else _);split
  .exact⟨G,λm' q=>by cases q⟩
  .rename_i c
   refine⟨z.pw,λm' q=>?_⟩;have q:some m=some m':=q;cases q;exact⟨G,by show 0<=st.mv+1;lia,by show st.mv+1<st.size;lia,I⟩
def Ou {x:Int} (h:x∈([4,8,16,32,64,128,256]:List Int)) (c:x<256):2*x∈([4,8,16,32,64,128,256]:List Int):=by
 rcases ou h with rfl|rfl|rfl|rfl|rfl|rfl|rfl<;>first|decide|exact Wb c (_)
def LW {x:Int} (h:x∈([4,8,16,32,64,128,256]:List Int)) (c:4<x):x/2∈([4,8,16,32,64,128,256]:List Int)/\2*(x/2)=x:=by
 rcases ou h with rfl|rfl|rfl|rfl|rfl|rfl|rfl<;>first|decide|exact Wb c (_)
def LV {x:Int} (h:x∈([4,8,16,32,64,128,256]:List Int)):0<x:=by
 rcases ou h with rfl|rfl|rfl|rfl|rfl|rfl|rfl<;>decide
def PJ.three (z:PJ st):PJ st.three:=by
 unfold O8.three;cases e:st.nxt with
 |some m=>exact z
 |none=>
  show PJ (if _ then _ else _);split
  .rename_i c
   refine⟨z.pw,λm' q=>?_⟩;cases q;exact⟨Ou z.pw c.2,Xa _,LV z.pw,.inl M⟩
  .split
   .rename_i c
    refine⟨z.pw,λm' q=>?_⟩;cases q;exact⟨(LW z.pw c.2).1,Xa _,LV z.pw,.inr (LW z.pw c.2).2⟩
   .exact z
def Pg (_K:WN) (t:P5) (H:Hp) (a:Addr) (F:Addr->Prop) (st:O8):Prop:=
 ∃d,PZ t H a st d/\(∀b,F b↔Pz a st d b)/\d.n=(st.kv.length:Int)/\(st.kv.map (·.1)).Nodup/\PJ st
def Pg.ins (h:Pg K t H a F st):∃dx fs,H a=some (.ins t.aZ dx fs)/\∀m,NoM m->fs.lookup m=none:=by
 obtain⟨d,hb,_⟩:=h;obtain⟨dx,z⟩:=hb.obj;exact⟨dx,_,z,λm G=>LT G⟩
def Pg.dom (h:Pg K t H a F st) (hb:F b):∃o,H b=some o:=by
 obtain⟨d,h1,h2,_⟩:=h;exact h1.dom<|(h2 b).mp hb
def Pg.frame (h:Pg K t H a F st) (f:∀b,F b->H' b=H b):Pg K t H' a F st:=by
 obtain⟨d,h1,h2,z⟩:=h;exact⟨d,h1.frame λb hb=>f b<|(h2 b).mpr hb,h2,z⟩
def Pg.same (h:Pg K t H a F st) (s:Ds H H'):Pg K t H' a F st:=h.frame λb hb=>by
 obtain⟨o,e⟩:=h.dom hb;rw[e];exact s b o e
def Pg.out (h:Pg K t H a F st) (e:H p=none):¬F p:=λz=>by
 obtain⟨o,q⟩:=h.dom z;rw[q]at e;cases e
def Pg.upd (h:Pg K t H a F st) (e:¬F p):Pg K t (L2.upd H p o) a F st:=h.frame λb hb=>ae λz=>e (z▸hb)
def Pg.new (h:Pg K t H a F st) (e:H p=none):Pg K t (L2.upd H p o) a F st:=h.upd (h.out e)
def wK (K:WN) (t:P5):Sp:=λvs H Q _=>∃(a dx:Addr),vs=[.ref a]/\H a=some (.ins t.aZ dx [])/\H dx=some (.own a)/\∀H' F,Pg K t H' a F O8.new->Fr (λb=>b=a\/b=dx) F H H'->Q .non H'
def yN (K:WN) (t:P5):Sp:=λvs H Q _=>∃(a:Addr) (k i:Int) (F:Addr->Prop) (st:O8),vs=[.ref a,.int k,.int i]/\Pg K t H a F st/\0<=k/\st.kv.length<4096/\
 ∀H' F',Pg K t H' a F' (st.put k<|.int i)->Fr F F' H H'->Q .non H'
def wL (K:WN) (t:P5):Sp:=λvs H Q E=>∃(a:Addr) (k:Int) (F:Addr->Prop) (st:O8),vs=[.ref a,.int k]/\Pg K t H a F st/\0<=k/\
 ((aF st.kv k).isSome=true->st.kv.length<4096/\∀H' F',Pg K t H' a F' (st.drop k)->Fr F F' H H'->Q .non H')/\(aF st.kv k=none->False)
def yP (K:WN) (t:P5):Sp:=λvs H Q E=>∃(a:Addr) (k:Int) (F:Addr->Prop) (st:O8),vs=[.ref a,.int k]/\Pg K t H a F st/\0<=k/\
 (∀v,aF st.kv k=some v->∀H' F',Pg K t H' a F' st->Fr F F' H H'->Q v H')/\(aF st.kv k=none->False)
def yO (K:WN) (t:P5):Sp:=λvs H Q _=>∃(a:Addr) (k:Int) (F:Addr->Prop) (st:O8),vs=[.ref a,.int k]/\Pg K t H a F st/\0<=k/\
 ∀H' F',Pg K t H' a F' st->Fr F F' H H'->Q (.bl (aF st.kv k).isSome) H'
def wJ (K:WN) (t:P5):Sp:=λvs H Q _=>∃(a:Addr) (F:Addr->Prop) (st:O8),vs=[.ref a]/\Pg K t H a F st/\
 ∀H' F' l,Pg K t H' a F' st->Fr F F' H H'->H l=none->¬F' l->H' l=some (.lst<|st.rows.map V.int)->Q (.ref l) H'
def du (l:List Int):Prop:=l.Pairwise (· < ·)
structure PQ (ls:List (List Int)):Prop where
 ne:∀l∈ls,l≠[]
 le:∀l∈ls,l.length<=8
 nb:∀(i:Nat) (x y:List Int),ls[i]?=some x->ls[i+1]?=some y->5<=x.length+y.length
 up:du ls.flatten
def PQ.nil:PQ []:=⟨(λ_ h=>by cases h),(λ_ h=>by cases h),(λi x y e=>by simp at e),Ws⟩
def ND (e:ls[i]?=some x):ls=ls.take i++x::ls.drop (i+1):=by
 obtain⟨h,e⟩:=Q1.mp e;rw[<-e,<-ZG h,Zi]
def iO (e:ls[i]?=some x):ls.flatten=(ls.take i).flatten++(x++(ls.drop<|i+1).flatten):=by
 conv=>lhs;rw[ND e]
 rw[ZR,ZP]
def Qr {a b c:List Int}:du (a++(b++c))↔du a/\du b/\du c/\(∀x∈a,∀y∈b,x<y)/\(∀x∈a,∀y∈c,x<y)/\∀x∈b,∀y∈c,x<y:=by
 unfold du;rw[QI,QI];constructor
 .rintro ⟨h1,⟨h2,I,O⟩,G⟩;exact⟨h1,h2,I,λx hx y hy=>G x hx y<|XR _ hy,λx hx y hy=>G x hx y<|QV _ hy,O⟩
 .rintro ⟨h1,h2,I,O,G,U⟩;refine⟨h1,⟨h2,I,U⟩,λx hx y hy=>?_⟩;rcases Q5.mp hy with z|z
  .exact O x hx y z
  .exact G x hx y z
structure Pd (ls:List (List Int)) (k:Int) (i:Nat):Prop where
 le:i<=ls.length
 lo:∀(j:Nat) (x:List Int),j<i->ls[j]?=some x->∀y∈x,y<k
 hi:∀x,ls[i]?=some x->∃y∈x,k<=y
def Co {y:Int} (h:y∈(ls.take i).flatten):∃(j:Nat) (x:List Int),j<i/\ls[j]?=some x/\y∈x:=by
 obtain⟨x,hx,hy⟩:=VM.mp h;obtain⟨j,z,e⟩:=Z1 hx;rw[Q6]at z;rw[Xk]at e;exact⟨j,x,(),Q1.mpr ⟨(),e⟩,hy⟩
def Pd.ahead (h:Pd ls k i):∀y∈(ls.take i).flatten,y<k:=λy hy=>by
 obtain⟨j,x,z,e,hx⟩:=Co hy;exact h.lo j x z e y hx
def Pd.behind (o:PQ ls) (h:Pd ls k i):∀y∈(ls.drop<|i+1).flatten,k<y:=λy hy=>by
 cases e:ls[i]? with
 |none=>
  have:ls.length<=i:=X0.mp e;rw[ZT ()]at hy;cases hy
 |some x=>
  obtain⟨z,hz,le⟩:=h.hi x e;have up:=o.up;rw[iO e]at up;have:=(Qr.mp up).2.2.2.2.2 z hz y hy;lia
def Pd.mem (o:PQ ls) (h:Pd ls k i):k∈ls.flatten↔∃x,ls[i]?=some x/\k∈x:=by
 constructor
 .intro hk;cases e:ls[i]? with
  |none=>
   have l:ls.length<=i:=X0.mp e;have:ls.take i=ls:=QT l;have:=h.ahead k (by rwa[this]);lia
  |some x=>
   rw[iO e]at hk;rcases Q5.mp hk with z|z
   .have:=h.ahead k z;lia
   .rcases Q5.mp z with z|z
    .exact⟨x,M,z⟩
    .have:=h.behind o k z;lia
 .rintro ⟨x,e,hk⟩;exact VM.mpr ⟨x,Q2 e,hk⟩
def Dm:∀{l:List Int} {k:Int},du l->k∉l->(∀x∈l.take (l.filter<|λz=>decide (z<k)).length,x<k)/\∀x∈l.drop (l.filter<|λz=>decide (z<k)).length,k<x
 | [],k,_,_=>⟨λx h=>by simp at h,λx h=>by simp at h⟩
 |a::r,k,up,nk=>by
  obtain⟨h1,h2⟩:=Xh.mp up;have nr:k∉r:=λz=>nk (QD _ z);have O:a≠k:=λz=>nk (by rw[z];exact QB);by_cases c:a<k
  .obtain⟨G,I⟩:=Dm h2 nr;rw[XJ,W7 (by simpa using c),QM,Vt,List.drop_succ_cons];refine⟨λx hx=>?_,I⟩;rcases QH.mp hx with rfl|hx
   .exact c
   .exact G x hx
  .have:(a::r).filter (λz=>decide (z<k))=[]:=by
    rw[XF];intro x hx;rcases QH.mp hx with rfl|hx
    .simpa using c
    .have:=h1 x hx;simp;lia
   rw[this];refine⟨λx hx=>by simp at hx,λx hx=>?_⟩;have hx:x∈a::r:=by simpa using hx
   rcases QH.mp hx with rfl|hx
   .lia
   .have:=h1 x hx;lia
noncomputable def gZ (l:List Int) (k:Int):List Int:=l.take (l.filter<|λz=>decide (z<k)).length++k::l.drop (l.filter<|λz=>decide (z<k)).length
def IW {l:List Int}:(gZ l k).length=l.length+1:=by
 have h:=QK (λz=>decide (z<k)) l;unfold gZ;rw[Q8,QM,Q6,Zf];lia
def Qm {l:List Int} {x:Int}:x∈gZ l k↔x=k\/x∈l:=by
 unfold gZ;rw[Q5,QH];have:x∈l↔x∈l.take (l.filter<|λz=>decide (z<k)).length\/x∈l.drop (l.filter<|λz=>decide (z<k)).length:=by
  rw[<-Q5,Zi]
 rw[this];constructor
 .rintro (h|h|h)
  .exact .inr<|.inl h
  .exact .inl h
  .exact .inr<|.inr h
 .rintro (h|h|h)
  .exact .inr<|.inl h
  .exact .inl h
  .exact .inr<|.inr h
def GI {l:List Int} (up:du l) (I:k∉l):du (gZ l k):=by
 obtain⟨h1,h2⟩:=Dm up I;have G:du (l.take (l.filter<|λz=>decide (z<k)).length++l.drop (l.filter<|λz=>decide (z<k)).length):=by rwa[Zi]
 obtain⟨O,U,Y⟩:=QI.mp G;unfold gZ;refine QI.mpr ⟨O,Xh.mpr ⟨h2,U⟩,λx hx y hy=>?_⟩;rcases QH.mp hy with rfl|hy
 .exact h1 x hx
 .exact Y x hx y hy
structure RU (ls:List (List Int)) (k:Int) (i:Nat) (x:List Int):Prop where
 at_:ls[i]?=some x
 lo:∀y∈(ls.take i).flatten,y<k
 hi:∀y∈(ls.drop<|i+1).flatten,k<y
def Pd.add (o:PQ ls) (h:Pd ls k i) (ne:ls≠[]):∃x,RU ls k (min i<|ls.length-1) x:=by
 have hl:0<ls.length:=ZE.mpr ne;by_cases c:i<ls.length
 .have:min i (ls.length-1)=i:=();rw[this];exact⟨ls[i],Q3 c,h.ahead,h.behind o⟩
 .have le:=h.le;have:min i (ls.length-1)=ls.length-1:=();rw[this];have z:ls.length-1<ls.length:=();refine⟨ls[ls.length-1],Q3 z,λy hy=>?_,λy hy=>?_⟩
  .obtain⟨j,x,G,e,hx⟩:=Co hy;exact h.lo j x () e y hx
  .rw[ZT ()]at hy;cases hy
def Ba (e:ls[i]?=some x):ls.set i y=ls.take i++y::ls.drop (i+1):=by
 have hi:=(Q1.mp e).1;rw[List.set_eq_take_append_cons_drop,W7 hi]
def si (e:ls[i]?=some x):(ls.set i y).flatten=(ls.take i).flatten++(y++(ls.drop<|i+1).flatten):=by
 rw[Ba e,ZR,ZP]
def RU.set (o:PQ ls) (h:RU ls k i x) (G:k∉ls.flatten):du (ls.set i<|gZ x k).flatten/\∀z,z∈(ls.set i<|gZ x k).flatten↔z=k\/z∈ls.flatten:=by
 have up:=o.up;rw[iO h.at_]at up G;obtain⟨I,O,U,Y,Z,u6⟩:=Qr.mp up;have nx:k∉x:=λz=>G (QV _<|XR _ z);rw[si h.at_,iO h.at_];refine⟨Qr.mpr ⟨I,GI O nx,U,λa ha b hb=>?_,Z,λa ha b hb=>?_⟩,λz=>?_⟩
 .rcases Qm.mp hb with rfl|hb
  .exact h.lo a ha
  .exact Y a ha b hb
 .rcases Qm.mp ha with rfl|ha
  .exact h.hi b hb
  .exact u6 a ha b hb
 .rw[Q5,Q5,Q5,Q5,Qm];constructor
  .rintro (h|(h|h)|h)
   .exact .inr<|.inl h
   .exact .inl h
   .exact .inr<|.inr (.inl h)
   .exact .inr<|.inr (.inr h)
  .rintro (h|h|h|h)
   .exact .inr<|.inl (.inl h)
   .exact .inl h
   .exact .inr<|.inl (.inr h)
   .exact .inr<|.inr h
def sW {z:List Int} (e:ls[i]?=some x) (f:(ls.set i y)[j]?=some z):(i=j/\z=y)\/(i≠j/\ls[j]?=some z):=by
 rw[QW]at f;by_cases c:i=j
 .rw[W7 c]at f;split at f
  .cases f;exact .inl ⟨c,M⟩
  .cases f
 .rw[W6 c]at f;exact .inr ⟨c,f⟩
def wv {z:List Int} (e:ls[i]?=some x) (h:z∈ls.set i y):z=y\/z∈ls:=by
 obtain⟨j,G,I⟩:=Z1 h;rcases sW e (Q1.mpr ⟨G,I⟩)with⟨_,q⟩|⟨_,q⟩
 .exact .inl q
 .exact .inr<|Q2 q
def PQ.grown (o:PQ ls) (e:ls[i]?=some x) (l1:x.length<=y.length) (O:y.length<=8) (up:du (ls.set i y).flatten):PQ (ls.set i y):=by
 have hx:=o.ne x (Q2 e);have px:0<x.length:=ZE.mpr hx;refine⟨λl hl=>?_,λl hl=>?_,λj a b f g=>?_,up⟩
 .rcases wv e hl with rfl|hl
  .exact X9 ()
  .exact o.ne l hl
 .rcases wv e hl with rfl|hl
  .exact O
  .exact o.le l hl
 .rcases sW e f with⟨c,h1⟩|⟨c,z⟩<;>rcases sW e g with⟨G,h2⟩|⟨G,I⟩
  .lia
  .subst c;have:=o.nb i x b e I;rw[h1];lia
  .rw[G]at e;have:=o.nb j a x z e;rw[h2];lia
  .exact o.nb j a b z I
def PQ.parted {a b:List Int} (o:PQ ls) (e:ls[i]?=some x) (U:a.length=4) (Y:b.length=5) (up:du (ls.set i<|a++b).flatten):
  PQ ((ls.set i a).take (i+1)++b::(ls.set i a).drop (i+1))/\((ls.set i a).take (i+1)++b::(ls.set i a).drop (i+1)).flatten=(ls.set i<|a++b).flatten:=by
 have hi:=(Q1.mp e).1;have lt:(ls.take i).length=i:=by rw[Q6];lia
 have O:(ls.set i a).take (i+1)++b::(ls.set i a).drop (i+1)=ls.take i++a::b::ls.drop (i+1):=by
  rw[Ba (y:=a) e];have h1:(ls.take i++a::ls.drop (i+1)).take (i+1)=ls.take i++ [a]:=by
   rw[List.take_append,lt,QT ()];have:i+1-i=1:=();rw[this];rfl
  have h2:(ls.take i++a::ls.drop (i+1)).drop (i+1)=ls.drop (i+1):=by
   rw[List.drop_append,lt,ZT ()];have:i+1-i=1:=();rw[this];rfl
  rw[h1,h2,QE];rfl
 have e2:(ls.take i++a::b::ls.drop (i+1)).flatten=(ls.set i<|a++b).flatten:=by
  rw[si e,ZR,ZP,ZP,QE]
 rw[O];refine⟨⟨λl hl=>?_,λl hl=>?_,λj p q f g=>?_,by rwa[e2]⟩,e2⟩
 .rcases Q5.mp hl with h|h
  .exact o.ne l<|Zd h
  .rcases QH.mp h with rfl|h
   .exact X9 ()
   .rcases QH.mp h with rfl|h
    .exact X9 ()
    .exact o.ne l<|XU h
 .rcases Q5.mp hl with h|h
  .exact o.le l<|Zd h
  .rcases QH.mp h with rfl|h
   .lia
   .rcases QH.mp h with rfl|h
    .lia
    .exact o.le l<|XU h
 .have look:∀(j:Nat) (p:List Int),(ls.take i++a::b::ls.drop (i+1))[j]?=some p->(j<i/\ls[j]?=some p)\/(j=i/\p=a)\/(j=i+1/\p=b)\/(i+2<=j/\ls[j-1]?=some p):=λj p f=>by
   rw[Vm,lt]at f;split at f
   .rename_i c
    rw[Xz,W7 c]at f;exact .inl ⟨c,f⟩
   .rename_i c
    rcases(show j=i\/j=i+1\/i+2<=j by lia)with rfl|rfl|h
    .have:j-j=0:=();rw[this]at f;cases f;exact .inr<|.inl ⟨M,M⟩
    .have:i+1-i=1:=();rw[this]at f;cases f;exact .inr<|.inr (.inl ⟨M,M⟩)
    .obtain⟨n,rfl⟩:∃n,j=i+2+n:=⟨j-(i+2),()⟩;have:i+2+n-i=n+1+1:=();rw[this,Va,Va,Xg]at f;refine .inr<|.inr (.inr ⟨h,?_⟩);have:i+2+n-1=i+1+n:=();rw[this];exact f
  have pos:∀(j:Nat) (p:List Int),ls[j]?=some p->1<=p.length:=λj p f=>ZE.mpr (o.ne p<|Q2 f);rcases look j p f with⟨c,z⟩|⟨c,h1⟩|⟨c,h1⟩|⟨c,z⟩<;>rcases look (j+1) q g with⟨I,G⟩|⟨I,h2⟩|⟨I,h2⟩|⟨I,G⟩<;>(try rw[h1])<;>(try rw[h2])<;>(try lia)
  .exact o.nb j p q z G
  .have:=pos j p z;lia
  .have:j+1-1=j-1+1:=();rw[this]at G;exact o.nb (j-1) p q z G
def lvF (L:Addr):List (Str×V):=[("leaves",.ref L)]
def dj:(lvF L).lookup ("leaves":Str)=some (.ref L):=by
 have hb:(("leaves":Str)==("leaves":Str))=true:=Wk.mpr M;unfold lvF;simp only[List.lookup,hb]
def Ma {m:Str} (h:m≠("leaves":Str)):(lvF L).lookup m=none:=by
 have hb:(m==("leaves":Str))=false:=Wo.mpr h;unfold lvF;simp only[List.lookup,hb]
structure Px (t:P5) (H:Hp) (a L:Addr) (A:List Addr) (ls:List (List Int)):Prop where
 obj:∃dx,H a=some (.ins t.bI dx<|lvF L)
 lst:H L=some (.lst<|A.map V.ref)
 len:A.length=ls.length
 leaf:∀(j:Nat) (b:Addr) (l:List Int),A[j]?=some b->ls[j]?=some l->H b=some (.lst<|l.map V.int)
 inj:∀(i j:Nat) (b:Addr),A[i]?=some b->A[j]?=some b->i=j
 nL:L∉A
def Ql (a L:Addr) (A:List Addr):Addr->Prop:=λb=>b=a\/b=L\/b∈A
def Px.at (h:Px t H a L A ls) (e:ls[i]?=some x):∃c,A[i]?=some c/\H c=some (.lst<|x.map V.int):=by
 have hi:i<A.length:=by rw[h.len];exact(Q1.mp e).1
 exact⟨A[i],Q3 hi,h.leaf i _ x (Q3 hi) e⟩
def Px.has (h:Px t H a L A ls) (hb:b∈A):∃(j:Nat) (l:List Int),A[j]?=some b/\ls[j]?=some l/\H b=some (.lst<|l.map V.int):=by
 obtain⟨j,z,e⟩:=Z1 hb;have hc:j<ls.length:=by rwa[<-h.len]
 have G:A[j]?=some b:=by rw[Q3 z,e]
 exact⟨j,ls[j],G,Q3 hc,h.leaf j b _ G<|Q3 hc⟩
def Px.frame (h:Px t H a L A ls) (f:∀b,Ql a L A b->H' b=H b):Px t H' a L A ls:=by
 obtain⟨dx,G⟩:=h.obj;exact⟨⟨dx,by rwa[f a (.inl M)]⟩,by rw[f L (.inr<|.inl M)];exact h.lst,h.len,λj b l z e2=>by rw[f b (.inr<|.inr<|Q2 z)];exact h.leaf j b l z e2,h.inj,h.nL⟩
def Px.dom (h:Px t H a L A ls) (hb:Ql a L A b):∃o,H b=some o:=by
 obtain⟨dx,z⟩:=h.obj;rcases hb with rfl|rfl|hb
 .exact⟨_,z⟩
 .exact⟨_,h.lst⟩
 .obtain⟨_,_,_,_,q⟩:=h.has hb;exact⟨_,q⟩
def Px.same (h:Px t H a L A ls) (s:Ds H H'):Px t H' a L A ls:=h.frame λb hb=>by
 obtain⟨o,e⟩:=h.dom hb;rw[e,s b o e]
def Px.out (h:Px t H a L A ls) (n:H p=none):¬Ql a L A p:=λz=>by
 obtain⟨o,e⟩:=h.dom z;rw[n]at e;cases e
def Px.write (h:Px t H a L A ls) (G:A[i]?=some c) (ex:ls[i]?=some x):Px t (upd H c<|.lst<|y.map V.int) a L A (ls.set i y):=by
 obtain⟨dx,O⟩:=h.obj;have hc:=h.leaf i c x G ex;have U:=Q2 G;refine⟨⟨dx,by rwa[ae (cU O hc<|by intro z;cases z)]⟩,by rw[ae (λz=>h.nL<|by rwa[z])];exact h.lst,by rw[Zk];exact h.len,λj b l I e2=>?_,h.inj,h.nL⟩;rw[QW]at e2;by_cases z:i=j
 .subst z;rw[G]at I;cases I;rw[W7 M]at e2;split at e2
  .cases e2;exact ai
  .cases e2
 .rw[W6 z]at e2;rw[ae (λy=>z<|h.inj i j c G<|by rw[<-y];exact I)];exact h.leaf j b l I e2
def Px.swap (h:Px t H a L A ls) {n:Addr} (ec:A[i]?=some c) (ex:ls[i]?=some x) (Y:H n=some (.lst<|y.map V.int)) (I:¬Ql a L A n):Px t (upd H L<|.lst<|(A.set i n).map V.ref) a L (A.set i n) (ls.set i y):=by
 obtain⟨dx,O⟩:=h.obj;have nA:n∉A:=λz=>I (.inr<|.inr z);have U:n≠L:=λz=>I (.inr<|.inl z);refine⟨⟨dx,by rwa[ae (cU O h.lst<|by intro z;cases z)]⟩,ai,by rw[Zk,Zk];exact h.len,λj b l G e2=>?_,λj k b G e2=>?_,λz=>?_⟩
 .rw[QW]at G e2;by_cases z:i=j
  .rw[W7 z]at G e2;split at G
   .cases G;split at e2
    .cases e2;rwa[ae U]
    .cases e2
   .cases G
  .rw[W6 z]at G e2;rw[ae (λy=>h.nL<|by rw[<-y];exact Q2 G)];exact h.leaf j b l G e2
 .rw[QW]at G e2;by_cases z:i=j
  .rw[W7 z]at G;split at G
   .cases G;by_cases w:i=k
    .exact z.symm.trans w
    .rw[W6 w]at e2;exact Wb (Q2 e2) nA
   .cases G
  .rw[W6 z]at G;by_cases w:i=k
   .rw[W7 w]at e2;split at e2
    .cases e2;exact Wb (Q2 G) nA
    .cases e2
   .rw[W6 w]at e2;exact h.inj j k b G e2
 .obtain⟨j,Z,e⟩:=Z1 z;have G:=Q1.mpr ⟨Z,e⟩;rw[QW]at G;by_cases w:i=j
  .rw[W7 w]at G;split at G
   .cases G;exact U M
   .cases G
  .rw[W6 w]at G;exact h.nL<|Q2 G
def Pf {l:List α} {x y:α} (hi:i<=l.length) (e:(l.take i++x::l.drop i)[j]?=some y):(j<i/\l[j]?=some y)\/(j=i/\y=x)\/(i<j/\l[j-1]?=some y):=by
 have lt:(l.take i).length=i:=by rw[Q6];lia
 rw[Vm,lt]at e;split at e
 .rename_i c
  rw[Xz,W7 c]at e;exact .inl ⟨c,e⟩
 .rename_i c
  rcases(show j=i\/i<j by lia)with rfl|h
  .have:j-j=0:=();rw[this]at e;cases e;exact .inr<|.inl ⟨M,M⟩
  .obtain⟨n,rfl⟩:∃n,j=i+1+n:=⟨j-(i+1),()⟩;have:i+1+n-i=n+1:=();rw[this,Va,Xg]at e;have:i+1+n-1=i+n:=();exact .inr<|.inr ⟨h,by rwa[this]⟩
def Px.insert (h:Px t H a L A ls) {n:Addr} (hi:i<=A.length) (hn:H n=some (.lst<|y.map V.int)) (nF:¬Ql a L A n):
  Px t (upd H L<|.lst<|(A.take i++n::A.drop i).map V.ref) a L (A.take i++n::A.drop i) (ls.take i++y::ls.drop i):=by
 obtain⟨dx,ho⟩:=h.obj;have nA:n∉A:=λz=>nF (.inr<|.inr z);have nL:n≠L:=λz=>nF (.inr<|.inl z);have Y:i<=ls.length:=by rwa[<-h.len]
 refine⟨⟨dx,by rwa[ae (cU ho h.lst<|by intro z;cases z)]⟩,ai,?_,λj b l Z e2=>?_,λj k b Z e2=>?_,λz=>?_⟩
 .have:=h.len;rw[Q8,Q8,QM,QM,Q6,Q6,Zf,Zf];lia
 .rcases Pf hi Z with⟨O,G⟩|⟨O,G⟩|⟨O,G⟩<;>rcases Pf Y e2 with⟨U,I⟩|⟨U,I⟩|⟨U,I⟩<;>(try lia)
  .rw[ae (λy=>h.nL<|by rw[<-y];exact Q2 G)];exact h.leaf j b l G I
  .rwa[G,I,ae nL]
  .rw[ae (λy=>h.nL<|by rw[<-y];exact Q2 G)];exact h.leaf (j-1) b l G I
 .rcases Pf hi Z with⟨O,G⟩|⟨O,G⟩|⟨O,G⟩<;>rcases Pf hi e2 with⟨U,I⟩|⟨U,I⟩|⟨U,I⟩
  .exact h.inj j k b G I
  .rw[I]at G;exact Wb (Q2 G) nA
  .have:=h.inj _ _ b G I;lia
  .rw[G]at I;exact Wb (Q2 I) nA
  .lia
  .rw[G]at I;exact Wb (Q2 I) nA
  .have:=h.inj _ _ b G I;lia
  .rw[I]at G;exact Wb (Q2 G) nA
  .have:=h.inj _ _ b G I;lia
 .rcases Q5.mp z with z|z
  .exact h.nL<|Zd z
  .rcases QH.mp z with z|z
   .exact nL z.symm
   .exact h.nL<|XU z
def pW {l:List α} {y:α} (e:(l.eraseIdx i)[j]?=some y):(j<i/\l[j]?=some y)\/(i<=j/\l[j+1]?=some y):=by
 rw[List.getElem?_eraseIdx]at e;split at e
 .rename_i c;exact .inl ⟨c,e⟩
 .rename_i c;exact .inr ⟨(),e⟩
def Px.erase (h:Px t H a L A ls):Px t (upd H L<|.lst<|(A.eraseIdx i).map V.ref) a L (A.eraseIdx i) (ls.eraseIdx i):=by
 obtain⟨dx,Z⟩:=h.obj;refine⟨⟨dx,by rwa[ae (cU Z h.lst<|by intro z;cases z)]⟩,ai,?_,λj b l O e2=>?_,λj k b O e2=>?_,λz=>h.nL<|ZI z⟩
 .rw[Vn,Vn,h.len]
 .have bA:b∈A:=ZI (Q2 O);rw[ae (λy=>h.nL<|by rwa[<-y])];rcases pW O with⟨U,G⟩|⟨U,G⟩<;>rcases pW e2 with⟨Y,I⟩|⟨Y,I⟩<;>(try lia)
  .exact h.leaf j b l G I
  .exact h.leaf (j+1) b l G I
 .rcases pW O with⟨U,G⟩|⟨U,G⟩<;>rcases pW e2 with⟨Y,I⟩|⟨Y,I⟩
  .exact h.inj j k b G I
  .have:=h.inj _ _ b G I;lia
  .have:=h.inj _ _ b G I;lia
  .have:=h.inj _ _ b G I;lia
def zZ (up:du ls.flatten) (ex:ls[i]?=some x) (z:ls[j]?=some y) (h:i<j):∀p∈x,∀q∈y,p<q:=λp G q hq=>by
 rw[iO ex]at up;refine(Qr.mp up).2.2.2.2.2 p G q<|VM.mpr ⟨y,?_,hq⟩;refine Q2 (i:=j-(i+1)) ?_;rw[Xg];have:i+1+(j-(i+1))=j:=();rwa[this]
def KG (up:du ls.flatten) (ex:ls[i]?=some x):du x:=by
 rw[iO ex]at up;exact(Qr.mp up).2.1
def IP (up:du x) (ne:x≠[]):∃m,x[x.length-1]?=some m/\m∈x/\∀y∈x,y<=m:=by
 have hl:=ZE.mpr ne;have z:x.length-1<x.length:=();refine⟨x[x.length-1],Q3 z,ZV z,λy hy=>?_⟩;obtain⟨j,G,e⟩:=Z1 hy;rcases(show j=x.length-1\/j<x.length-1 by lia)with h|h
 .subst h;rw[e];exact Xa _
 .have:=Zu.mp up j (x.length-1) G z h;rw[e]at this;lia
structure Ry (ls:List (List Int)) (E:Nat->Prop):Prop where
 ne:∀l∈ls,l≠[]
 le:∀l∈ls,l.length<=8
 nb:∀(i:Nat) (x y:List Int),ls[i]?=some x->ls[i+1]?=some y->E i\/5<=x.length+y.length
 up:du ls.flatten
def Ry.ok {E:Nat->Prop} (h:Ry ls E) (no:∀i,¬E i):PQ ls:=⟨h.ne,h.le,λi x y z e2=>(h.nb i x y z e2).resolve_left<|no i,h.up⟩
noncomputable def qz (ls:List (List Int)) (i:Nat):List (List Int):=match ls[i]?,ls[i+1]? with
 |some x,some y=>if x.length+y.length<5 then(ls.set i<|x++y).eraseIdx (i+1)else ls
 |_,_=>ls
def xT (h:ls.length<=i+1):qz ls i=ls:=by
 unfold qz;have:ls[i+1]?=none:=X0.mpr h;rw[this];split
 .rename_i h2;cases h2
 .rfl
def Da (ex:ls[i]?=some x) (z:ls[i+1]?=some y):qz ls i=if x.length+y.length<5 then(ls.set i<|x++y).eraseIdx (i+1)else ls:=by
 unfold qz;rw[ex,z]
def GG:(qz ls i).length<=ls.length/\ls.length<=(qz ls i).length+1:=by
 unfold qz;split
 .split
  .rw[Vn,Zk];split<;>lia
  .lia
 .lia
def xS {z v:List Int} (e:((ls.set i z).eraseIdx<|i+1)[j]?=some v):(j<i/\ls[j]?=some v)\/(j=i/\v=z)\/(i<j/\ls[j+1]?=some v):=by
 rw[List.getElem?_eraseIdx]at e;split at e
 .rename_i c
  rw[QW]at e;by_cases h:i=j
  .rw[W7 h]at e;split at e
   .cases e;exact .inr<|.inl ⟨h.symm,M⟩
   .cases e
  .rw[W6 h]at e;exact .inl ⟨(),e⟩
 .rename_i c
  rw[QW,W6 ()]at e;exact .inr<|.inr ⟨(),e⟩
def GF (ex:ls[i]?=some x) (z:ls[i+1]?=some y):((ls.set i<|x++y).eraseIdx<|i+1).flatten=ls.flatten:=by
 have hi:=(Q1.mp ex).1;have lt:(ls.take i).length=i:=by rw[Q6];lia
 have hy:ls.drop (i+1)=y::ls.drop (i+2):=by
  obtain⟨h,e⟩:=Q1.mp z;rw[<-e,<-ZG h]
 have G:(ls.set i<|x++y).eraseIdx (i+1)=ls.take i++(x++y)::ls.drop (i+2):=by
  rw[Ba ex,hy,Vw (),lt];have:i+1-i=1:=();rw[this];rfl
 rw[G,iO ex,hy,ZR,ZP,ZP,QE]
def Ry.join {E:Nat->Prop} (h:Ry ls E) (I:∀j,E j->j=i\/j+1=i):Ry (qz ls i) (λj=>j+1=i/\E j)/\(qz ls i).flatten=ls.flatten:=by
 cases ex:ls[i]? with
 |none=>
  have hl:ls.length<=i:=X0.mp ex;rw[xT ()];refine⟨⟨h.ne,h.le,λj x y G e2=>?_,h.up⟩,M⟩;rcases h.nb j x y G e2 with z|z
  .rcases I j z with rfl|w
   .rw[ex]at G;cases G
   .exact .inl ⟨w,z⟩
  .exact .inr z
 |some x=>
  cases O:ls[i+1]? with
  |none=>
   have hl:ls.length<=i+1:=X0.mp O;rw[xT hl];refine⟨⟨h.ne,h.le,λj x' y G e2=>?_,h.up⟩,M⟩;rcases h.nb j x' y G e2 with z|z
   .rcases I j z with rfl|w
    .rw[O]at e2;cases e2
    .exact .inl ⟨w,z⟩
   .exact .inr z
  |some y=>
   rw[Da ex O];by_cases c:x.length+y.length<5
   .rw[W7 c];have fl:=GF ex O;have mem:∀v∈(ls.set i<|x++y).eraseIdx (i+1),v=x++y\/v∈ls:=λv Z=>by
     obtain⟨j,hj,e⟩:=Z1 Z;rcases xS (Q1.mpr ⟨hj,e⟩)with⟨_,q⟩|⟨_,q⟩|⟨_,q⟩
     .exact .inr<|Q2 q
     .exact .inl q
     .exact .inr<|Q2 q
    have px:=ZE.mpr (h.ne x<|Q2 ex);have a0:(x++y).length=x.length+y.length:=Q8;refine⟨⟨λv Z=>?_,λv Z=>?_,λj u v G e2=>?_,by rw[fl];exact h.up⟩,fl⟩
    .rcases mem v Z with rfl|q
     .exact X9 ()
     .exact h.ne v q
    .rcases mem v Z with rfl|q
     .lia
     .exact h.le v q
    .rcases xS G with⟨c1,U⟩|⟨c1,U⟩|⟨c1,U⟩<;>rcases xS e2 with⟨c2,Y⟩|⟨c2,Y⟩|⟨c2,Y⟩<;>(try lia)
     .rcases h.nb j u v U Y with z|z
      .rcases I j z with w|w
       .lia
       .lia
      .exact .inr z
     .rcases h.nb j u x U (by rwa[c2])with z|z
      .exact .inl ⟨c2,z⟩
      .rw[Y];exact .inr ()
     .have e3:ls[i+1+1]?=some v:=by rwa[<-c1]
      rcases h.nb (i+1) y v O e3 with z|z
      .rcases I (i+1) z with w|w<;>lia
      .rw[U];exact .inr ()
     .rcases h.nb (j+1) u v U Y with z|z
      .rcases I (j+1) z with w|w<;>lia
      .exact .inr z
   .rw[W6 c];refine⟨⟨h.ne,h.le,λj u v G e2=>?_,h.up⟩,M⟩;rcases h.nb j u v G e2 with z|z
    .rcases I j z with w|w
     .subst w;rw[ex]at G;rw[O]at e2;cases G;cases e2;exact .inr ()
     .exact .inl ⟨w,z⟩
    .exact .inr z
def En {l:List Int} (h:du l):l.Nodup:=h.imp λh=>Int.ne_of_lt h
def PQ.gone (o:PQ ls) (ex:ls[i]?=some x) (hk:k∈x):du (ls.set i<|x.erase k).flatten/\∀z,z∈(ls.set i<|x.erase k).flatten↔z≠k/\z∈ls.flatten:=by
 have up:=o.up;rw[iO ex]at up;obtain⟨U,G,Y,I,Z,O⟩:=Qr.mp up;have sub:(x.erase k).Sublist x:=List.erase_sublist;have nx:=En G;rw[si ex,iO ex];refine⟨Qr.mpr ⟨U,G.sublist sub,Y,λa ha b hb=>I a ha b<|sub.subset hb,Z,λa ha b hb=>O a (sub.subset ha) b hb⟩,λz=>?_⟩;rw[Q5,Q5,Q5,Q5,nx.mem_erase_iff];constructor
 .rintro (h|⟨h1,h2⟩|h)
  .have:=I z h k hk;exact⟨(),.inl h⟩
  .exact⟨h1,.inr<|.inl h2⟩
  .have:=O k hk z h;exact⟨(),.inr<|.inr h⟩
 .rintro ⟨h0,h|h|h⟩
  .exact .inl h
  .exact .inr<|.inl ⟨h0,h⟩
  .exact .inr<|.inr h
def PQ.shrunk (o:PQ ls) (ex:ls[i]?=some x) (G:y≠[]) (U:y.length<=x.length) (up:du (ls.set i y).flatten):Ry (ls.set i y) (λj=>j=i\/j+1=i):=by
 have hx:=o.le x (Q2 ex);refine⟨λl hl=>?_,λl hl=>?_,λj a b f g=>?_,up⟩
 .rcases wv ex hl with rfl|hl
  .exact G
  .exact o.ne l hl
 .rcases wv ex hl with rfl|hl
  .lia
  .exact o.le l hl
 .rcases sW ex f with⟨c,_⟩|⟨c,I⟩
  .exact .inl<|.inl c.symm
  .rcases sW ex g with⟨z,_⟩|⟨z,O⟩
   .exact .inl<|.inr z.symm
   .exact .inr<|o.nb j a b I O
def PQ.out (o:PQ ls) (ex:ls[i]?=some x) (Y:x.length=1) (up:du (ls.set i []).flatten):PQ (ls.eraseIdx i)/\(ls.eraseIdx i).flatten=(ls.set i []).flatten:=by
 have hi:=(Q1.mp ex).1;have lt:(ls.take i).length=i:=by rw[Q6];lia
 have I:ls.eraseIdx i=ls.take i++ls.drop (i+1):=List.eraseIdx_eq_take_drop_succ _ _;have fl:(ls.eraseIdx i).flatten=(ls.set i []).flatten:=by
  rw[I,si ex,ZR];rfl
 refine⟨⟨λl hl=>o.ne l<|ZI hl,λl hl=>o.le l<|ZI hl,λj a b f g=>?_,by rwa[fl]⟩,fl⟩;rcases pW f with⟨O,z⟩|⟨O,z⟩<;>rcases pW g with⟨U,G⟩|⟨U,G⟩
 .exact o.nb j a b z G
 .have e2:j+1=i:=();subst e2;have h1:=o.nb j a x z ex;have h2:=o.nb (j+1) x b ex G;lia
 .lia
 .exact o.nb (j+1) a b z G
def Qf (_K:WN) (t:P5) (H:Hp) (a:Addr) (F:Addr->Prop) (ks:List Int):Prop:=∃L A ls,Px t H a L A ls/\PQ ls/\ls.flatten=ks/\∀b,F b↔Ql a L A b
def Qf.ins (h:Qf K t H a F ks):∃dx fs,H a=some (.ins t.bI dx fs)/\∀m,m≠("leaves":Str)->fs.lookup m=none:=by
 obtain⟨L,A,ls,hb,_⟩:=h;obtain⟨dx,z⟩:=hb.obj;exact⟨dx,_,z,λm G=>Ma G⟩
def Qf.dom (h:Qf K t H a F ks) (hb:F b):∃o,H b=some o:=by
 obtain⟨L,A,ls,h1,_,_,h2⟩:=h;exact h1.dom<|(h2 b).mp hb
def Qf.frame (h:Qf K t H a F ks) (f:∀b,F b->H' b=H b):Qf K t H' a F ks:=by
 obtain⟨L,A,ls,h1,z,G,h2⟩:=h;exact⟨L,A,ls,h1.frame λb hb=>f b<|(h2 b).mpr hb,z,G,h2⟩
def Qf.out (h:Qf K t H a F ks) (e:H p=none):¬F p:=λz=>by
 obtain⟨o,q⟩:=h.dom z;rw[q]at e;cases e
def vC (K:WN) (t:P5):Sp:=λvs H Q _=>∃(a dx:Addr),vs=[.ref a]/\H a=some (.ins t.bI dx [])/\H dx=some (.own a)/\∀H' F,Qf K t H' a F []->Fr (λb=>b=a\/b=dx) F H H'->Q .non H'
def wO (K:WN) (t:P5):Sp:=λvs H Q _=>∃(a:Addr) (k:Int) (F:Addr->Prop) (ks:List Int),vs=[.ref a,.int k]/\Qf K t H a F ks/\∀H' F',Qf K t H' a F' ks->Fr F F' H H'->Q (.bl<|decide (k∈ks)) H'
def wP (K:WN) (t:P5):Sp:=λvs H Q E=>∃(a:Addr) (k:Int) (F:Addr->Prop) (ks:List Int),vs=[.ref a,.int k]/\Qf K t H a F ks/\ks.length<4096/\
 (k∉ks->∀H' F' ks',Qf K t H' a F' ks'->(∀z,z∈ks'↔z=k\/z∈ks)->Fr F F' H H'->Q .non H')/\(k∈ks->False)
def qW (K:WN) (t:P5):Sp:=λvs H Q E=>∃(a:Addr) (k:Int) (F:Addr->Prop) (ks:List Int),vs=[.ref a,.int k]/\Qf K t H a F ks/\ks.length<4096/\
 (k∈ks->∀H' F' ks',Qf K t H' a F' ks'->(∀z,z∈ks'↔z≠k/\z∈ks)->Fr F F' H H'->Q .non H')/\(k∉ks->False)
def PQ.short (o:PQ ls):ls.length<=ls.flatten.length:=by
 have h:=o.ne;clear o
 induction ls with
 |nil=>exact Q4 _
 |cons x r z=>
  have:=ZE.mpr (h x QB);have:=z λl hl=>h l (QD _ hl);rw[ZP,Q8,QM];lia
def qV (K:WN) (t:P5):Sp:=λvs H Q _=>∃(a:Addr) (k n:Int) (F:Addr->Prop) (ks:List Int),vs=[.ref a,.int k,.int n]/\Qf K t H a F ks/\ks.length<4096/\0<=n/\
 ∀(H':Hp) (l:Addr),Ds H H'->H l=none->H' l=some (.lst<|((ks.filter λz=>decide (k<=z)).take n.toNat).map V.int)->Q (.ref l) H'
def kW {n:Int} (h:0<=n):qh xs none (some n)=xs.take n.toNat:=by
 unfold qh HT.sIx;simp only[ZM,Nat.sub_zero];rw[W6 ()];rcases Nat.le_total n.toNat xs.length with c|c
 .rw[ZQ c]
 .rw[VN c,QX,QT c]
def GL (o:PQ ls) (h:Pd ls k i0):∀z∈(ls.take i0).flatten,¬k<=z:=λz hz=>by
 have:=h.ahead z hz;lia
noncomputable def fh (k:Option Int) (z:Int):Bool:=match k with|none=>true|some k=>decide (z<=k)
def vDn:Option Int->V|none=> .non|some k=> .int k
def nT (K:WN) (t:P5):Sp:=λvs H Q _=>∃(a:Addr) (k:Option Int) (n:Int) (F:Addr->Prop) (ks:List Int),vs=[.ref a,vDn k,.int n]/\Qf K t H a F ks/\ks.length<4096/\0<=n/\
 ∀(H':Hp) (l:Addr),Ds H H'->H l=none->H' l=some (.lst<|((ks.reverse.filter<|fh k).take n.toNat).map V.int)->Q (.ref l) H'
noncomputable def O8.low (s:O8):Int:=match s.nxt with
 |none=>s.size
 |some m=>if m<s.size then m else s.size
def IG {M':Int} (h:M'∈st.rows) (l:∀x∈st.rows,M'<=x):M'=st.low:=by
 unfold O8.rows at h l;unfold O8.low;cases e:st.nxt with
 |none=>rw[e]at h;simpa using h
 |some m=>
  rw[e]at h l;have h:M'=st.size\/M'=m:=by simpa using h
  have l1:=l st.size (by simp);have z:=l m (by simp);show M'=if m<st.size then m else st.size
  split<;>lia
def kh (z:PJ st):st.low∈([4,8,16,32,64,128,256]:List Int):=by
 unfold O8.low;cases e:st.nxt with
 |none=>exact z.pw
 |some m=>
  show(if m<st.size then m else st.size)∈_;split
  .exact(z.nx m e).1
  .exact z.pw
def Bl {x:Int} (h:x∈([4,8,16,32,64,128,256]:List Int)):∃a b,Row x a b:=by
 rcases ou h with h|h|h|h|h|h|h<;>subst h
 .exact⟨_,_,rq (k:=0) (_)⟩
 .exact⟨_,_,rq (k:=1) (_)⟩
 .exact⟨_,_,rq (k:=2) (_)⟩
 .exact⟨_,_,rq (k:=3) (_)⟩
 .exact⟨_,_,rq (k:=4) (_)⟩
 .exact⟨_,_,rq (k:=5) (_)⟩
 .exact⟨_,_,rq (k:=6) (_)⟩
def AV {S p:Int} {a b:Nat} (R:Row S a b) (G:0<=p) (h1:p<65536):tz (tz p%S)+65536/S=(p/(65536/S)+1)*(65536/S):=by
 have hs:=R.st_has (m:=tz p) (ud p);rw[EW G h1]at hs;have I:=R.slot (s:=tz p%S) (R.mod0 _) (R.mod1 _);have w:=R.width;have z:=R.wpos';rw[I.1,<-w]at hs⊢;have:p/(65536/S)=rz a (tz p%S):=by
  have k0:=QA p (Zs z);have O:=Qx p z;have k2:=Vi p (65536/S);exact R.between z (x:=p/(65536/S)) (y:=rz a<|tz p%S) (p:=p) () () hs.1 hs.2
 rw[this,Int.add_mul,Int.one_mul,Vz]
def wH (K:WN) (t:P5):Sp:=λvs H Q _=>∃(a:Addr) (p:Int) (F:Addr->Prop) (st:O8),vs=[.ref a,.int p]/\Pg K t H a F st/\0<=p/\p<65536/\
 ∀H' F',Pg K t H' a F' st->Fr F F' H H'->Q (.int<|(p/(65536/st.low)+1)*(65536/st.low)) H'
structure zR (kd:Str) (fs:List (Str×V)) (a e:V):Prop where
 ki:fs.lookup ("kind":Str)=some (.str kd)
 at_:fs.lookup ("at":Str)=some a
 end_:fs.lookup ("end":Str)=some e
 wo:fs.lookup ("words":Str)=none
 ho:fs.lookup ("holds":Str)=none
def okS (a e:V):Prop:=∃i j,a= .int i/\e= .int j/\0<=i/\i<=j/\j<=65536
def Qv (a e:V):Prop:=∃i,a= .int i/\0<=i/\(e= .non\/∃j,e= .int j/\i<=j)
def R1 (a e:V):Prop:=∃j,e= .int j/\0<=j/\(a= .non\/∃i,a= .int i/\j<=i)
def Qo (p:Addr) (H H':Hp):Prop:=∀b o,H b=some o->b≠p->H' b=some o
def Ct:Sp:=λvs H Q _=>∃x,vs=[x]/\Sc x/\Q (.bl<|isW x) H
noncomputable def isF (lo:Int):V->Bool
 | .int i=>decide (lo<=i)|_=>false
def D7:Sp:=λvs H Q _=>∃x lo,vs=[x,.int lo]/\Sc x/\Q (.bl<|isF lo x) H
noncomputable def wr:V->Str
 | .int i=>toString i|_=>"-"
def D0:Sp:=λvs H Q _=>∃x,vs=[x]/\(x= .non\/∃i:Int,x= .int i/\i.natAbs.log2<1920)/\Q (.str<|wr x) H
def iZ (K:WN):Sp:=λvs H Q _=>∃(p C dx:Addr) (kd:Str) (a e:V),vs=[.ref p,.str kd,a,e]/\H p=some (.ins C dx [])/\Qj K C/\Fy K C "kind"/\Fy K C "at"/\Fy K C "end"/\∀H' fs,Qo p H H'->H' p=some (.ins C dx fs)->zR kd fs a e->Q .non H'
def EX (C N:Addr) (kd:Str) (ok:V->V->Prop):Sp:=λvs H Q E=>∃(p dx:Addr) (a e:V),vs=[.ref p,a,e]/\H p=some (.ins C dx [])/\Sc a/\Sc e/\
 (ok a e->∀H' fs,Qo p H H'->H' p=some (.ins C dx fs)->zR kd fs a e->Q .non H')/\(¬ok a e->False)
def uk (t:P5):Sp:=EX t.aV t.p8 "slots" okS
def Cv (t:P5):Sp:=EX t.dQ t.p8 "up" Qv
def yU (t:P5):Sp:=EX t.cr t.p8 "down" R1
def Qc (kd:Int) (a e:V):Prop:=(kd=0/\okS a e)\/(kd=1/\Qv a e)\/(kd=2/\R1 a e)
def hS:V->V->Int->Bool
 | .int i,.int j,k=>decide (i<=tz (k%65536))&&decide (tz (k%65536)<j)
 |_,_,_=>false
noncomputable def hU:V->V->Int->Bool
 | .int i,.int j,k=>decide (i<=k)&&decide (k<j)
 | .int i,.non,k=>decide (i<=k)
 |_,_,_=>false
noncomputable def hD:V->V->Int->Bool
 | .int i,.int j,k=>decide (j<=k)&&decide (k<=i)
 | .non,.int j,k=>decide (j<=k)
 |_,_,_=>false
def hN (kd:Int):V->V->Int->Bool:=if kd=0 then hS else if kd=1 then hU else hD
def RB:V->Prop
 | .int i=>i<10^80|_=>True
def Hs (kd:Str) (a e:V):Str:=Txt.join (" ":Str) [kd,wr a,wr e]
def D8 (C:Addr) (kd:Str) (ok:V->V->Prop) (h:V->V->Int->Bool):Sp:=λvs H Q _=>∃(p dx:Addr) (fs:List (Str×V)) (a e:V) (k:Int),vs=[.ref p,.int k]/\H p=some (.ins C dx fs)/\zR kd fs a e/\ok a e/\0<=k/\∀H',Ds H H'->Q (.bl<|h a e k) H'
def ft (t:P5):Sp:=D8 t.aV "slots" okS hS
def dM (t:P5):Sp:=D8 t.dQ "up" Qv hU
def cH (t:P5):Sp:=D8 t.cr "down" R1 hD
def RO (t:P5) (kd:Int):Addr:=if kd=0 then t.aV else if kd=1 then t.dQ else t.cr
noncomputable def Ro (kd:Int):Str:=if kd=0 then "slots" else if kd=1 then "up" else "down"
def cT (t:P5):Sp:=λvs H Q _=>∃(p dx:Addr) (kd:Int) (fs:List (Str×V)) (a e:V),vs=[.ref p]/\H p=some (.ins (RO t kd) dx fs)/\zR (Ro kd) fs a e/\Qc kd a e/\RB a/\RB e/\∀H',Ds H H'->Q (.str<|Hs (Ro kd) a e) H'
def uu {x:Addr} (h1:H x=none) (h2:H dx=none) (k:Qo x (upd (upd H dx<|.own x) x<|.ins C dx []) H'):Ds H H':=λb o q=>by
 refine k b o ?_<|am q h1;rw[ae (am q h1),ae (am q h2)];exact q
def spHN (t:P5) (kd:Int):Sp:=if kd=0 then ft t else if kd=1 then dM t else cH t
def Pe (t:P5) (H:Hp) (p:Addr) (kd:Int) (a e:V):Prop:=∃(dx:Addr) (fs:List (Str×V)),H p=some (.ins (RO t kd) dx fs)/\zR (Ro kd) fs a e
def Pe.same {kd:Int} {a:V} (h:Pe t H p kd a e) (s:Ds H H'):Pe t H' p kd a e:=by
 obtain⟨dx,fs,h1,h2⟩:=h;exact⟨dx,fs,s _ _ h1,h2⟩
def Qc.sc {kd:Int} {a:V} (h:Qc kd a e):Sc a/\Sc e:=by
 rcases h with⟨_,i,j,rfl,rfl,_⟩|⟨_,i,rfl,_,rfl|⟨j,rfl,_⟩⟩|⟨_,j,rfl,_,rfl|⟨i,rfl,_⟩⟩<;>exact⟨Wp,Wp⟩
def Qc.kd {kd:Int} {a:V} (h:Qc kd a e):kd=0\/kd=1\/kd=2:=by
 rcases h with⟨h,_⟩|⟨h,_⟩|⟨h,_⟩
 .exact .inl h
 .exact .inr<|.inl h
 .exact .inr<|.inr h
def Qc.s {a:V} (h:Qc 0 a e):okS a e:=by
 rcases h with⟨_,h⟩|⟨h,_⟩|⟨h,_⟩
 .exact h
 .cases h
 .cases h
def Qc.u {a:V} (h:Qc 1 a e):Qv a e:=by
 rcases h with⟨h,_⟩|⟨_,h⟩|⟨h,_⟩
 .cases h
 .exact h
 .cases h
def Qc.d {a:V} (h:Qc 2 a e):R1 a e:=by
 rcases h with⟨h,_⟩|⟨h,_⟩|⟨_,h⟩
 .cases h
 .cases h
 .exact h
def dHN {kd:Int} (h:kd=0\/kd=1\/kd=2):SE (D1 t.aV<|ft t) (SE (D1 t.dQ<|dM t)<|D1 t.cr<|cH t) (RO t kd) (spHN t kd):=by
 rcases h with rfl|rfl|rfl
 .exact .inl ⟨M,M⟩
 .exact .inr<|.inl ⟨M,M⟩
 .exact .inr<|.inr ⟨M,M⟩
def dWN {kd:Int} (h:kd=0\/kd=1\/kd=2):SE (D1 t.aV<|cT t) (SE (D1 t.dQ<|cT t)<|D1 t.cr<|cT t) (RO t kd) (cT t):=by
 rcases h with rfl|rfl|rfl
 .exact .inl ⟨M,M⟩
 .exact .inr<|.inl ⟨M,M⟩
 .exact .inr<|.inr ⟨M,M⟩
def A8 {kd:Int} {a:V} {E:XK} (z:Qc kd a e) (h:H p=some (.ins (RO t kd) dx fs)) (f:zR (Ro kd) fs a e) (G:0<=k)
  (q:∀H',Ds H H'->Q (.bl<|hN kd a e k) H'):spHN t kd [.ref p,.int k] H Q E:=by
 rcases z.kd with rfl|rfl|rfl
 .exact⟨p,dx,fs,a,e,k,M,h,f,z.s,G,q⟩
 .exact⟨p,dx,fs,a,e,k,M,h,f,z.u,G,q⟩
 .exact⟨p,dx,fs,a,e,k,M,h,f,z.d,G,q⟩
set_option exponentiation.threshold 2000 in
def OG {i:Int} (G:0<=i) (h1:i<10^80):i.natAbs.log2<1920:=by
 rcases Xf i.natAbs with z|z
 .rw[z];decide
 .refine(Nat.log2_lt<|Vc z).mpr ?_;have:i.natAbs<10^80:=();exact Nat.lt_trans this<|QU (show 10^80<2^300 by decide) (Nat.pow_le_pow_right (_) (_))
def few (a:V):Prop:=(a= .non\/∃i:Int,a= .int i/\i.natAbs.log2<1920)/\(wr a).length<=81
def Fp:few .non:=⟨.inl M,∅⟩
def jL {i:Int} (z:0<=i) (h1:RB (.int i)):few (.int i):=by
 have h1:i<10^80:=h1;refine⟨.inr ⟨i,M,OG z h1⟩,?_⟩;show(Str.ofString<|toString i).length<=81;have h:(toString i).length<=80+1:=PySem.int_text_length_le10 (_) ();rw[Str.ofString_eq_toList];show((toString i).toList.map Char.toNat).toArray.size<=81;rwa[QG,Q0]
def Qc.few {kd:Int} {a:V} (h:Qc kd a e) (G:RB a) (I:RB e):few a/\few e:=by
 rcases h with⟨_,i,j,rfl,rfl,z,h1,_⟩|⟨_,i,rfl,z,rfl|⟨j,rfl,h1⟩⟩|⟨_,j,rfl,z,rfl|⟨i,rfl,h1⟩⟩
 .exact⟨jL z G,jL () I⟩
 .exact⟨jL z G,Fp⟩
 .exact⟨jL z G,jL () I⟩
 .exact⟨Fp,jL z I⟩
 .exact⟨jL () G,jL z I⟩
structure Tp where
 p:Addr
 k:Int
 v:V
def Tp.kv (e:Tp):Int×V:=(e.k,e.v)
structure PgA (H H':Hp) (F F':Addr->Prop) (r g:Addr) (v:V) (ts:List Tp):Prop where
 tu:H' r=some (.tup [.ref g,v])
 li:H' g=some (.lst<|ts.map λe=>V.ref e.p)
 rw:∀e∈ts,H' e.p=some (.tup [.int e.k,e.v])/\¬F' e.p
 nr:(¬F r->H r=none)/\¬F' r
 ng:(¬F g->H g=none)/\¬F' g
section
variable {P:Program} {w:World} {mg:Str->Option Value} {base:Heap}
variable {K:WN} {t:P5} (T:Txt K mg t)
def FV:Sp:=λvs H Q _=>∃n:Int,vs=[.int n]/\0<=n/\Q (.int<|tz n) H
def D5:Sp:=λvs H Q _=>∃k:Int,vs=[.int k]/\Q (.int<|k%65536) H
def Cs:Sp:=λvs H Q _=>∃k:Int,vs=[.int k]/\Q (.int<|tz<|k%65536) H
def D3:Sp:=λvs H Q _=>∃k n:Int,vs=[.int k,.int n]/\0<n/\Q (.int<|k%65536%n) H
def D4:Sp:=λvs H Q _=>∃p n:Int,vs=[.int p,.int n]/\0<=p/\0<n/\Q (.int<|tz p%n) H
def yE:Sp:=λvs H Q _=>∃s n:Int,vs=[.int s,.int n]/\0<=s/\0<n/\n<1073741824/\∀p,H p=none->Q (.ref p) (upd H p<|.tup [.int (tz s),.int (tz s+65536/n)])
def uF:Dr P w K mg base P1 1 t.Dv t.yd ["number"] FV:=by
 obtain⟨G,z⟩:=T.g_BITS;refine T.yu.okl F6 λs H vs Q E O h _=>?_;intro X;obtain⟨n,rfl,U,k⟩:=h;refine aj (P7 1 af)
   (aj (P7 2 Ca)
   (aj (fH Wm M (iU {_} T.pO (ac (db (v:= .int 16) {_} z ⟨_,M⟩) ag)) (Qu 3)
    (oy (P7 1<|ao bF (ao cQ Kc af)<|ao aS M2 af)
    (aB<|P7 2<|ao aR M2 af)))
   (aC (aD Kc) ?_)))
 intros
 have I:((n.toNat/2^0:Nat):Int)=n:=by rw[Nat.pow_zero,Nat.div_one];lia
 refine⟨_,M,16,M,(_),(_),Ap (n:=16) (λi B H'=>∃v,H'=H/\B=[some (.int n),some (.int ((rv i n.toNat:Nat):Int)),some (.int ((n.toNat/2^i:Nat):Int)),v]) ?_ ?_ ?_⟩
 .refine⟨none,M,?_⟩;rw[I];rfl
 .rintro i B H' hi ⟨v,rfl,rfl⟩;refine⟨_,M,_,_,M,M,.inr ⟨(_),(_)⟩,_,M,_,_,M,M,(by show(0:Int)<2;decide),_,_,M,M,_,M,_,_,M,M,⟨(_),(_)⟩,?_⟩;refine⟨some<|.int<|0+(i:Int),M,?_⟩;rw[<-FQ i n.toNat,<-FR i n.toNat];rfl
 .rintro B H' ⟨v,rfl,rfl⟩;unfold tz at k;exact⟨_,M,k⟩
def xw:Dr P w K mg base P1 1 t.AJ t.uX ["key"] D5:=by
 obtain⟨G,z⟩:=T.g_PLACES;refine T.AO.okl Ed λs H vs Q E I h _=>?_;intro X;obtain⟨n,rfl,k⟩:=h;refine⟨_,(aB<|aD<|ao aS Ca<|db (v:= .int 65536) {_} z ⟨_,M⟩)
  ,?_⟩
 exact⟨_,M,_,_,M,M,(by show(0:Int)<65536;decide),k⟩
def vc:Dr P w K mg base P1 2 t.yj t.rK ["key"] Cs:=by
 refine T.yw.okl Cz λs H vs Q E z h _=>?_;intro X;obtain⟨n,rfl,k⟩:=h;refine⟨_,(aB<|aD<|aJ (uF T) z.mo {_} T.CY T.yu.kp T.Du .nil ar (ac (aJ (xw T) z.mo {_} T.Gz T.AO.kp T.GX .nil ar (ac Ca ag)) ag))
  ,?_⟩
 exact⟨_,M,_,M,_,M,QA _ (_),k⟩
def xu:Dr P w K mg base P1 2 t.AH t.uV ["key","size"] D3:=by
 refine T.u9.okl Eb λs H vs Q E z h _=>?_;intro X;obtain⟨n,m,rfl,G,k⟩:=h;refine⟨_,(aB<|aD<|ao aS (aJ (xw T) z.mo {_} T.Gz T.AO.kp T.GX .nil ar (ac Ca ag)) Kc)
  ,?_⟩
 exact⟨_,M,_,M,_,M,_,_,M,M,G,k⟩
def xv:Dr P w K mg base P1 2 t.AI t.uW ["place","size"] D4:=by
 refine T.AN.okl Ec λs H vs Q E z h _=>?_;intro X;obtain⟨n,m,rfl,G,I,k⟩:=h;refine⟨_,(aB<|aD<|ao aS (aJ (uF T) z.mo {_} T.CY T.yu.kp T.Du .nil ar (ac Ca ag)) Kc)
  ,?_⟩
 exact⟨_,M,_,M,G,_,M,_,_,M,M,I,k⟩
def zn:Dr P w K mg base P1 2 t.tG t.mB ["slot","size"] yE:=by
 obtain⟨G,z⟩:=T.g_PLACES;refine T.Cc.okl yW λs H vs Q E I h _=>?_;intro X;obtain⟨n,m,rfl,O,U,h1,k⟩:=h;refine aj (P7 2<|aJ (uF T) I.mo {_} T.CY T.yu.kp T.Du .nil ar (ac Ca ag))
   (aC (aD<|bQ<|ac M2<|ac (ao bF M2<|ao aR (db (v:= .int 65536) {_} z ⟨_,M⟩) Kc) ag) ?_)
 intros
 exact⟨_,M,_,M,O,_,M,_,M,_,M,_,_,M,M,⟨U,h1⟩,_,_,M,M,(by show 2<=sizeLine;decide),λp Y=>k p Y⟩
def FY (h:n<=4096):n<sizeLine:=XY h (_)
def AY:Sp:=λvs H Q _=>∃n:Int,vs=[.int n]/\0<=n/\n<=1000/\∀H' r A,Ds H H'->H r=none->(∀b∈A,H b=none)->P8 H' r A (List.replicate n.toNat []) n->Q (.ref r) H'
def sK:Dr P w K mg base P1 1 t.vo t.oV ["size"] AY:=by
 refine T.pM.okl Be λs H vs Q E hr h _=>?_;intro X;obtain⟨n,rfl,n0,n1,q⟩:=h;refine⟨_,(aB<|aD<|pS M (P6.of (M':=["slot"]) (N:=["size"]) (N':=["size"]) (dsc:=al jI) M M ∅) (iU {_} T.pO (ac Ca ag))<|λ_ _ _ _ _=>fJ)
  ,?_⟩
 refine⟨_,M,n,M,(),(),λD hD=>?_⟩;refine rN (n:=n.toNat) (lo:=0) (λi ys H3=>Ds H H3/\∃as:List Addr,ys=as.map V.ref/\as.length=i/\(∀b∈as,H b=none/\b≠D/\H3 b=some (.dK []))/\∀(x y:Nat) (b:Addr),as[x]?=some b->as[y]?=some b->x=y)
  ⟨ak hD,[],M,M,(λb hb=>by cases hb),λx y b e=>by simp at e⟩ (λi ys H3 hi ⟨s3,as,Y,Z,hb,inj⟩ G=>?_) (λys H3 ⟨s3,as,Y,Z,hb,inj⟩ G=>?_)
 .intro c O;have cD:c≠D:=(am G O).symm;have I:c∉as:=λz=>by
   have:=(hb c z).2.2;rw[O]at this;cases this
  have nH:H c=none:=by
   cases e:H c with
   |none=>rfl
   |some o=>rw[s3 c o e]at O;cases O
  refine PY.mk hi (by rwa[ae cD.symm]) (by rw[Y,Q0];exact cX ()) ⟨bZ (s3.trans<|ak O) hD,as++ [c],by rw[Y,QC];rfl,by rw[Q8,Z];rfl,λb a0=>?_,λx y b e1 e2=>?_⟩
  .rcases Q5.mp a0 with z|z
   .obtain⟨h1,h2,h3⟩:=hb b z;exact⟨h1,h2,by rwa[ae h2,ae (λw=>I<|by rw[<-w];exact z)]⟩
   .rw[Q7.mp z];exact⟨nH,cD,by rw[ae cD,ai]⟩
  .have U:∀x:Nat,(as++ [c])[x]?=some b->as[x]?=some b\/(x=as.length/\b=c):=λx e=>by
    rw[Vm]at e;split at e
    .exact .inl e
    .rename_i w
     have:x-as.length=0:=by
      rcases Xf (x-as.length)with z|z
      .exact z
      .rw[Vh (by simp;lia)]at e;cases e
     rw[this]at e;cases e;exact .inr ⟨(),M⟩
   rcases U x e1 with f1|⟨f1,g1⟩<;>rcases U y e2 with f2|⟨f2,g2⟩
   .exact inj x y b f1 f2
   .subst g2;exact Wb (Q2 f1) I
   .subst g1;exact Wb (Q2 f2) I
   .lia
 .refine q H3 D as s3 hD (λb z=>(hb b z).1) ⟨by rw[G,Y],by rw[Z];lia,by rw[ZY];lia,λj b kv e1 e2=>?_,λj kv e=>?_,inj,λj kv e p hp=>?_⟩
  .rw[Xc (Q2 e2)];exact(hb b<|Q2 e1).2.2
  .rw[Xc (Q2 e)];exact Zx
  .rw[Xc (Q2 e)]at hp;cases hp
def rW (t:P5):Sp:=λvs H Q _=>∃(a:Addr) (k:Int) (st:O8) (d:R6),vs=[.ref a,.int k]/\PZ t H a st d/\PJ st/\∀c kv,IsCell d st k c kv->Q (.ref c) H
def qb (t:P5):Sp:=λvs H Q _=>∃(a:Addr) (st:O8) (d:R6),vs=[.ref a]/\PZ t H a st d/\PJ st/\st.kv.length<4096/\∀H' d',PZ t H' a st.one d'->d'.n=d.n->Fr (Pz a st d) (Pz a st.one d') H H'->Q .non H'
def qc (t:P5):Sp:=λvs H Q _=>∃(a:Addr) (st:O8) (d:R6),vs=[.ref a]/\PZ t H a st d/\PJ st/\d.n=(st.kv.length:Int)/\∀H' d',PZ t H' a st.three d'->d'.n=d.n->Fr (Pz a st d) (Pz a st.three d') H H'->Q .non H'
def xP {z:Int} (G:0<=z) (e:A[z.toNat]?=some c):R9 (A.map V.ref) z=some (.ref c):=by
 obtain⟨j,rfl⟩:=ZC G;refine wz ?_;rw[QP];have e:A[j]?=some c:=e;rw[e];rfl
def de:Dr P w K mg base P1 3 t.lg t.gH ["self","key"] (rW t):=by
 refine T.G3.okl sj λs H vs Q E Y h _=>?_;intro X;obtain⟨a,k,st,d,rfl,hb,z,q⟩:=h;refine aj (P7 2<|aP aW (au Ca M) af<|λ_ _=>M)
   (aj (P7 3<|aJ (xu T) Y.mo {_} T.Aj T.u9.kp T.AE .nil ar (ac Kc<|ac (aI aH {_} T.bU bp (ac M2 ag)) ag))
   (aj (aO (aw Ac PB (au Ca M)<|ay _)
    (aB<|aD<|aP aW M2 PB<|λ_ _=>M)
    aE)
   (aj (P7 4<|aP aW (au Ca M) af<|λ_ _=>M)
   (aC (aD<|aP aW Pa (aJ (xu T) Y.mo {_} T.Aj T.u9.kp T.AE .nil ar (ac Kc<|ac (aI aH {_} T.bU bp (ac Pa ag)) ag))<|λ_ _=>M) ?_))))
 intros
 obtain⟨dx,I⟩:=hb.obj;obtain⟨s4,s5⟩:=b4 z.pw;obtain⟨O,Z,m2⟩:=uM (k:=k) s4;have t0:∃xs,H d.tb=some (.lst xs)/\R9 xs 0=some (.ref d.r0):=by
  refine⟨_,hb.tbl,?_⟩;cases st.nxt<;>rfl
 obtain⟨xs,hx,x0⟩:=t0;have a0:∀{Q':VK},Q' (.ref d.tb) H->tFld K (MB 0) "table" [some (.ref a),some (.int k),none,none,none] H Q':=λ{Q'} q=>⟨_,M,a,_,dx,_,_,M,I,T.aL,T.aY,jH,q⟩;have la:((d.A0.map V.ref).length:Int)=st.size:=by rw[Q0];exact hb.row0.la
 refine⟨_,M,a,_,dx,_,_,M,I,T.aL,T.aY,jH,d.tb,_,_,_,M,M,Fz.of hx,x0,?_⟩;refine⟨_,M,_,M,d.r0,_,M,.inl<|Fz.of hb.row0.lst,k,_,M,by rw[la];lia,?_⟩;dsimp only;rw[la];refine⟨_,M,_,M,a,_,dx,_,_,M,I,T.aL,T.bY,Cy,_,_,M,M,_,M,bP (λc=>?_)<|λc=>?_⟩
 .have c:=Wd c;obtain⟨x,G⟩:=dX (l:=d.A0) O (by rwa[hb.row0.la]);obtain⟨y,e2⟩:=dX (l:=d.C0) O (by rwa[hb.row0.lc]);exact⟨_,M,_,M,d.r0,_,_,_,M,M,Fz.of hb.row0.lst,xP O G,q x y<|.inl ⟨c,G,e2⟩⟩
 .have c:¬st.moved<=k%65536%st.size:=λz=>c (Wf z);cases e:st.nxt with
  |none=>rw[O8.moved_none e]at c;exact Wb O c
  |some m=>
   have hm:=O8.moved_some e;obtain⟨pm,_⟩:=z.nx m e;obtain⟨s6,_⟩:=b4 pm;obtain⟨U,n1,n2⟩:=uM (k:=k) s6;have r1:=hb.row1;rw[e]at r1;have ht:=hb.tbl;rw[e]at ht;have lb:((d.A1.map V.ref).length:Int)=m:=by rw[Q0];exact r1.la
   obtain⟨x,G⟩:=dX (l:=d.A1) U (by rwa[r1.la]);obtain⟨y,e2⟩:=dX (l:=d.C1) U (by rwa[r1.lc]);refine⟨_,M,a,_,dx,_,_,M,I,T.aL,T.aY,jH,d.tb,_,_,_,M,M,Fz.of ht,M,?_⟩;refine⟨_,M,_,M,_,M,d.r1,_,M,.inl<|Fz.of r1.lst,k,_,M,by rw[lb];lia,?_⟩;dsimp only;rw[lb];exact⟨d.r1,_,_,_,M,M,Fz.of r1.lst,xP U G,q x y<|.inr ⟨m,e,(),G,e2⟩⟩
def bg (h:n<=100000):n<sizeLine:=XY h (_)
def Nm {z:Int} (G:0<=z) (h1:z<n):RM n z=some z.toNat:=by unfold RM;rw[W7 G,W7 h1]
def uO {kv:List (Int×V)} {k:Key} (e:(az kv)[i]?=some (k,v)):∃n:Int,k=Sum.inl n/\kv[i]?=some (n,v):=by
 unfold az at e;rw[QP]at e;cases q:kv[i]? with
 |none=>rw[q]at e;cases e
 |some p=>rw[q]at e;cases e;exact⟨p.1,M,M⟩
def Hx {kv:List (Int×V)} {C:List (List<|Int×V)} {p:Int×V} (e:kv[i]?=some p):(kv.take<|i+1).foldl (ir m) C=ir m ((kv.take i).foldl (ir m) C) p:=by
 rw[QL,e,XG];rfl
def iC:Dr P w K mg base P1 3 t.jD t.eT ["self"] (qb t):=by
 refine T.EQ.okl qd λs H vs Q E hr h _=>?_;intro X;obtain⟨a,st,d,rfl,hb,z,hl,q⟩:=h;refine aj (aO (aw bT (aI aH {_} T.bU bp (ac (au Ca M) ag)) af<|ay _)
    (aB pR)
    aE)
   (aj (P7 1<|aP aW (au Ca M) af<|λ_ _=>M)
   (aj (P7 2<|aP aW (au Ca M) af<|λ_ _=>M)
   (bW (λx=>(wq (fH Wm M (CF<|uD QY V9 PySem.F.type_dict_items CP<|aP aW Kc (au Ca M)<|λ_ _=>M) (Bm M<|fI (Qu 3)<|fI (Qu 4) wt)
    x))) ?_)))
 refine aC (l9 (jK hr) (aP aW M2 (aJ (xu T) hr.mo {_} T.Aj T.u9.kp T.AE .nil ar (ac PB<|ac (aI aH {_} T.bU bp (ac M2 ag)) ag))<|λ_ _=>M) PB Pa M) ?_
 intros
 refine aj (xq fJ<|Ek Kc (au Ca M) wV)
   (aj (iT Ca af xV)
   (aC (aO (aw bT (au Ca M) (aI aH {_} T.bU bp (ac Kc ag))<|ay _)
    (oy (bh Ca (cn<|ac M2 ag) M)
    (aB<|bh Ca af M))
    aE) ?_))
 intros
 obtain⟨dx,ho⟩:=hb.obj;have ht:=hb.tbl;cases e:st.nxt with
 |none=>
  rw[e]at ht;refine⟨_,M,a,_,dx,_,_,M,ho,T.aL,T.aY,jH,d.tb,_,M,.inl<|Fz.of ht,M,_,M,fj M ?_⟩;have e1:st.one=st:=by unfold O8.one;rw[e]
  rw[e1]at q;exact q H d hb M Fr.refl
 |some m=>
  rw[e]at ht;refine⟨_,M,a,_,dx,_,_,M,ho,T.aL,T.aY,jH,d.tb,_,M,.inl<|Fz.of ht,M,_,M,a6 (λz=>by cases z) ?_⟩;refine⟨_,M,a,_,dx,_,_,M,ho,T.aL,T.aY,jH,d.tb,_,_,_,M,M,Fz.of ht,M,?_⟩;refine⟨_,M,a,_,dx,_,_,M,ho,T.aL,T.aY,jH,d.tb,_,_,_,M,M,Fz.of ht,M,?_⟩;obtain⟨pm,v0,v1,_⟩:=z.nx m e;obtain⟨s4,s5⟩:=b4 z.pw;obtain⟨s6,s7⟩:=b4 pm;have hm:=O8.moved_some e;rw[hm]at ho;have r1:=hb.row1;rw[e]at r1;obtain⟨c0,ec⟩:=dX (l:=d.A0) v0 (by rwa[hb.row0.la]);obtain⟨kv,ek⟩:=dX (l:=d.C0) v0 (by rwa[hb.row0.lc]);have I:=hb.row0.cell _ _ _ ec ek;have lb:((d.A1.map V.ref).length:Int)=m:=by rw[Q0];exact r1.la
  have a5:c0∉d.A1:=hb.dis c0 (Q2 ec);have an:d.r1≠c0:=cU r1.lst I (by intro z;cases z);have bb:=hb.short0 z ek;have aa:∀b,b=d.r1\/b∈d.A1->∃o,H b=some o:=λb hb1=>by
   rcases hb1 with rfl|hb1
   .exact⟨_,r1.lst⟩
   .obtain⟨_,_,_,_,w⟩:=r1.has hb1;exact⟨_,w⟩
  refine⟨c0,az kv,I,_,M,_,M,a,_,dx,_,_,M,ho,T.aL,T.bY,Cy,d.r0,_,_,_,M,M,Fz.of hb.row0.lst,xP v0 ec,.inr<|.inr<|.inl ⟨M,.inl ⟨_,I⟩⟩,c0,az kv,M,M,I,λvw nv=>?_⟩;have b3:upd H vw (Rq vw c0) c0=some (.dK<|az kv):=by rw[ae (am I nv)];exact I
  refine⟨vw,c0,az kv,M,ai,b3,λob=>?_⟩;refine xZ (λi B H'=>∃v3 v4,B=[some (.ref a),some (.ref d.r0),some (.ref d.r1),v3,v4]/\P8 H' d.r1 d.A1 ((kv.take i).foldl (ir m) d.C1) m/\H' c0=some (.frz ob<|.dK<|az kv)/\∀b o,b∉d.A1->b≠c0->H b=some o->H' b=some o)
   ⟨_,_,M,?_,ai,λb o _ n2 e=>?_⟩ (λi B H' _ ⟨_,_,_,_,hf,_⟩=>hf) (λi k v p B H' ei ⟨v3,v4,ab,hr,hf,hk⟩ np=>?_) (λB H' ⟨v3,v4,ab,hr,hf,hk⟩=>?_)
  .refine P8.frame (H:=H) r1 λb hb1=>?_;obtain⟨o,w⟩:=aa b hb1;have n2:b≠c0:=by
    rcases hb1 with rfl|hb1
    .exact an
    .exact λz=>a5 (z▸hb1)
   rw[ae n2,ae (am w nv)]
  .rwa[ae n2,ae (am e nv)]
  .subst ab;obtain⟨n,rfl,en⟩:=uO ei;have a0:P8 (upd H' p<|.tup [kV (Sum.inl n),v]) d.r1 d.A1 ((kv.take i).foldl (ir m) d.C1) m:=hr.frame λb hb1=>ae λw=>by
    have:∃o,H' b=some o:=by
     rcases hb1 with rfl|hb1
     .exact⟨_,hr.lst⟩
     .obtain⟨_,_,_,_,w⟩:=hr.has hb1;exact⟨_,w⟩
    obtain⟨o,q⟩:=this;rw[w,np]at q;cases q
   obtain⟨n0,n1,n2⟩:=uM (k:=n) s6;obtain⟨c,e1⟩:=dX (l:=d.A1) n0 (by rwa[a0.la]);obtain⟨y,e2⟩:=dX (l:=(kv.take i).foldl (ir m) d.C1) n0 (by rwa[a0.lc]);obtain⟨y0,e3⟩:=dX (l:=d.C1) n0 (by rwa[r1.lc]);have yl:=CQ e3 e2;have bc:=hb.short1 z e e3;have tl:(kv.take i).length<=kv.length:=by rw[Q6];lia
   have hc:=a0.cell _ _ _ e1 e2;have cA:c∈d.A1:=Q2 e1;refine⟨p,_,M,PX.of ai,M,_,_,M,_,_,M,M,?_⟩;refine⟨_,M,_,M,_,M,_,M,d.r1,_,M,.inl<|Fz.of a0.lst,n,_,M,by rw[lb];lia,?_⟩;dsimp only;rw[lb];refine⟨d.r1,_,_,_,M,M,Fz.of a0.lst,xP n0 e1,_,M,c,_,M,Qh.k (k:=Sum.inl n) hc (by rw[bz];exact bg ()),?_⟩;rw[cN];have pn:∀b o,H' b=some o->b≠p:=λb o q=>am q np;refine⟨_,_,M,?_,?_,λb o nA nc q=>?_⟩
   .rw[Hx en];exact a0.mov s6 e1 e2
   .rwa[ae (λw=>a5<|by rw[w];exact cA),ae (pn _ _ hf)]
   .have q:=hk b o nA nc q;rw[ae (λw=>nA<|by rw[w];exact cA),ae (pn _ _ q)];exact q
  .subst ab;rw[bz,QX]at hr;refine⟨ob,hf,λb' O=>?_⟩;have hF:∀b,¬Pz a st d b->b∉d.A1/\b≠c0/\b≠a/\b≠d.r0/\b≠d.tb/\b≠d.r1:=λb n=>
    ⟨λq=>n<|.inr<|.inr<|.inr<|.inr<|.inr q,λq=>n<|.inr<|.inr<|.inr<|.inl<|q▸Q2 ec,λq=>n<|.inl q,λq=>n<|.inr<|.inr<|.inl q,λq=>n<|.inr<|.inl q,λq=>n<|.inr (.inr<|.inr<|.inr<|.inl ⟨by rw[e];rfl,q⟩)⟩
   have a2:∀b o,H b=some o->(∀kvs,o≠ .dK kvs)->b∉d.A1:=λb o q ne w=>(r1.notr w q ne) M;have K1:∀b o,b∉d.A1->b≠c0->H b=some o->upd H' c0 (.dK<|az kv) b=some o:=λb o n1 n2 q=>by rw[ae n2];exact hk b o n1 n2 q
   have a1:P8 (upd H' c0<|.dK<|az kv) d.r1 d.A1 (kv.foldl (ir m) d.C1) m:=hr.frame λb hb1=>ae (by
    rcases hb1 with rfl|hb1
    .exact an
    .exact λw=>a5<|w▸hb1)
   have ax:upd H' c0 (.dK<|az kv) c0=some (.dK<|az kv):=ai;generalize upd H' c0 (.dK<|az kv)=H3 at O K1 a1 ax⊢;have U:=K1 a _ (a2 _ _ ho<|λ_ w=>by cases w) (cU ho I<|by intro w;cases w) ho;have a3:=hb.row0.lst;have G:=K1 d.r0 _ (a2 _ _ a3<|λ_ w=>by cases w) (cU a3 I<|by intro w;cases w) a3;have ah:=K1 d.tb _ (a2 _ _ ht<|λ_ w=>by cases w) (cU ht I<|by intro w;cases w) ht;have b6:¬Pz a st d b':=λw=>by
    rcases w with w|w|w|w|⟨_,w⟩|w
    .rw[w,U]at O;cases O
    .rw[w,ah]at O;cases O
    .rw[w,G]at O;cases O
    .obtain⟨j,b7,f1,f2,f3⟩:=hb.row0.has w;by_cases y:b'=c0
     .rw[y,ax]at O;cases O
     .rw[K1 b' _ (hb.dis b' w) y f3]at O;cases O
    .rw[w,a1.lst]at O;cases O
    .obtain⟨_,_,_,_,w'⟩:=a1.has w;rw[w']at O;cases O
   have lA:((d.A0.map V.ref).length:Int)=st.size:=by rw[Q0];exact hb.row0.la
   have bo:∀{x:Addr} {o:HO},H3 x=some o->x≠b':=λq=>am q O;refine⟨_,M,_,M,a,_,dx,_,_,M,(by rwa[ae (bo U)]),T.aL,T.bY,Cy,d.r0,_,_,_,M,M,(by rwa[ae (bo G)]),Nm v0 (by rwa[lA]),?_⟩;have g0:H3 d.r1=some (.lst<|d.A1.map V.ref):=a1.lst;have ra:d.r0≠a:=cU a3 ho (by intro w;cases w);have b8:d.r0≠d.r1:=(hb.tr1<|by rw[e];rfl).2;have t1:d.tb≠d.r1:=(hb.tr1<|by rw[e];rfl).1;have ta:d.tb≠a:=cU ht ho (by intro w;cases w);have b1:d.r1≠a:=cU r1.lst ho (by intro w;cases w);have Z:∀b∈d.A1,b≠b'/\b≠d.r0/\b≠a:=λb w=>by
    obtain⟨_,_,_,_,f⟩:=a1.has w;exact⟨bo f,cU f G (by intro w;cases w),cU f U<|by intro w;cases w⟩
   have es:(d.A0.map V.ref).set st.mv.toNat (V.ref b')=(d.A0.set st.mv.toNat b').map V.ref:=by rw[List.map_set]
   rw[es];have b2:upd (upd H3 b'<|.dK []) d.r0 (.lst<|(d.A0.set st.mv.toNat b').map V.ref) a=some (.ins t.aZ dx<|Qb d.tb st.mv d.n):=by rwa[ae ra.symm,ae (bo U)]
   refine⟨_,M,a,_,dx,_,_,M,b2,T.aL,T.bY,Cy,_,_,M,M,dx,_,b2,r9,?_⟩;rw[LX];have a4:∀{o:HO},upd (upd (upd H3 b'<|.dK []) d.r0<|.lst<|(d.A0.set st.mv.toNat b').map V.ref) a o d.r0=some (.lst<|(d.A0.set st.mv.toNat b').map V.ref):=by
    intro o;rw[ae ra,ai]
   have lS:(((d.A0.set st.mv.toNat b').map V.ref).length:Int)=st.size:=by rw[Q0,Zk];exact hb.row0.la
   refine⟨_,M,a,_,dx,_,_,M,ai,T.aL,T.bY,Cy,_,M,d.r0,_,M,.inl<|Fz.of a4,M,_,M,?_⟩;rw[lS];have Y:∀{o:HO},P8 (upd (upd (upd H3 b'<|.dK []) d.r0<|.lst<|(d.A0.set st.mv.toNat b').map V.ref) a o) d.r1 d.A1 (kv.foldl (ir m) d.C1) m:=λ{o}=>a1.frame λb hb1=>by
    have:b≠b'/\b≠d.r0/\b≠a:=by
     rcases hb1 with rfl|hb1
     .exact⟨bo g0,b8.symm,b1⟩
     .exact Z b hb1
    rw[ae this.2.2,ae this.2.1,ae this.1]
   have K6:∀{o':HO} (b:Addr) (o:HO),¬Pz a st d b->H b=some o->upd (upd (upd H3 b'<|.dK []) d.r0<|.lst<|(d.A0.set st.mv.toNat b').map V.ref) a o' b=some o:=λ{o'} b o n q=>by
    obtain⟨f1,f2,f3,f4,_⟩:=hF b n;have q3:=K1 b o f1 f2 q;rwa[ae f3,ae f4,ae (bo q3)]
   refine bP (λc=>?_)<|λc=>?_
   .have c:st.mv+1=st.size:=V.int.inj (Wd c);refine⟨_,M,(by show 1<=sizeLine;decide),λtb' nt=>⟨_,M,a,_,dx,_,M,(by rw[ae (am ai nt)];exact ai),T.aL,T.aY,r9,?_⟩⟩;rw[Ov];refine⟨_,M,a,_,dx,_,M,ai,T.aL,T.bY,r9,?_⟩;rw[LX,eE];have b9:tb'≠a:=(am ai nt).symm;have ba:tb'≠d.r1:=(am (Y (o:= .ins t.aZ dx<|Qb d.tb (st.mv+1) d.n)).lst nt).symm;refine q _ _ (hb.last z e ek (tb':=tb') (dx:=dx) c ai (by rw[ae b9];exact ai) ba ?_) M<|λb o n w=>?_
    .refine(Y (o:= .ins t.aZ dx<|Qb d.tb (st.mv+1) d.n)).frame λb hb1=>?_;have:b≠a:=by
      rcases hb1 with rfl|hb1
      .exact b1
      .exact(Z b hb1).2.2
     rw[ae this,ae (λw=>?_)];obtain⟨o,f⟩:∃o,upd (upd (upd H3 b'<|.dK []) d.r0<|.lst<|(d.A0.set st.mv.toNat b').map V.ref) a (.ins t.aZ dx<|Qb d.tb (st.mv+1) d.n) b=some o:=by
      rcases hb1 with rfl|hb1
      .exact⟨_,Y.lst⟩
      .obtain⟨_,_,_,_,f⟩:=Y.has hb1;exact⟨_,f⟩
     rw[w,nt]at f;cases f
    .obtain⟨f1,f2,f3,f4,f5,f6⟩:=hF b n;have k6:=K6 (o':= .ins t.aZ dx<|Qb d.tb (st.mv+1) d.n) b o n w;have bt:b≠tb':=am k6 nt;refine⟨by rwa[ae f3,ae bt],λy=>?_⟩;rcases y with y|y|y|y|⟨_,y⟩|y
     .exact f3 y
     .exact bt y
     .exact f6 y
     .exact f1 y
     .exact f6 y
     .cases y
   .have c:st.mv+1≠st.size:=λw=>c (Wf<|by rw[w]);refine q _ _ (hb.one z e ek (b':=b') (dx:=dx) c ai (by rw[ae ta,ae hb.tr,ae (bo ah),ah,hb.tbl,e]) a4 ?_ b6 (λj b f1 f2=>?_) Y) M<|λb o n w=>⟨K6 b o n w,λy=>?_⟩
    .have n1:b'≠a:=(bo U).symm;have n2:b'≠d.r0:=(bo G).symm;rw[ae n1,ae n2];exact ai
    .have bA:=Q2 f1;obtain⟨_,b7,_,_,f⟩:=hb.row0.has bA;have nc:b≠c0:=λw=>f2 (hb.row0.inj j _ c0 (w▸f1) ec);have f3:=K1 b _ (hb.dis b bA) nc f;rw[ae (cU f3 U<|by intro w;cases w),ae (cU f3 G<|by intro w;cases w),ae (bo f3),f3,f]
    .obtain⟨f1,f2,f3,f4,f5,f6⟩:=hF b n;rcases y with y|y|y|y|⟨_,y⟩|y
     .exact f3 y
     .exact f5 y
     .exact f4 y
     .obtain⟨j,hj,ej⟩:=Z1 (show b∈d.A0.set st.mv.toNat b' from y);rcases eF (Q1.mpr ⟨hj,ej⟩)with⟨_,g⟩|⟨_,g⟩
      .have:=K1 b o f1 f2 w;rw[g,O]at this;cases this
      .exact n<|.inr (.inr<|.inr<|.inl<|Q2 g)
     .exact f6 y
     .exact f1 y
def iD:Dr P w K mg base P1 2 t.jE t.eU ["self"] (qc t):=by
 obtain⟨U,G⟩:=T.g_GREATEST_SIZE;obtain⟨Z,I⟩:=T.g_LEAST_SIZE;refine T.ER.okl qe λs H vs Q E hr h _=>?_;intro X;obtain⟨a,st,d,rfl,hb,z,hn,q⟩:=h;refine aj (aO (aw bT (aI aH {_} T.bU bp (ac (au Ca M) ag)) af<|ay _)
    (aB pR)
    aE)
   (aj (P7 1<|aI aH {_} T.bU bp (ac (aP aW (au Ca M) af<|λ_ _=>M) ag))
   (LZ (λx y=>aO (PW.pt<|gx (aw sJ (au Ca M) Kc<|ay _)<|eG<|aw eD Kc (db (v:= .int 256) {_} G ⟨_,M⟩)<|ay _) x y) ?_))
 refine aC (aM<|dE QN Zy Zz eY (au Ca M)<|ac (aJ (sK T) hr.mo {_} T.vf T.pM.kp T.vj .nil ar (ac (ao cQ Kc af) ag)) ag) ?_
 intros
 refine mY (λx=>aO (PW.pt<|gx (aw eD (ao cQ af<|au Ca M) Kc<|ay _)<|eG<|aw sJ Kc (db (v:= .int 4) {_} I ⟨_,M⟩)<|ay _) x aE) ?_;refine aC (aM<|dE QN Zy Zz eY (au Ca M)<|ac (aJ (sK T) hr.mo {_} T.vf T.pM.kp T.vj .nil ar (ac (ao aR Kc af) ag)) ag) ?_
 intros
 obtain⟨dx,O⟩:=hb.obj;have Y:=hb.tbl;cases e:st.nxt with
 |some m=>
  rw[e]at Y;refine⟨_,M,a,_,dx,_,_,M,O,T.aL,T.aY,jH,d.tb,_,M,.inl<|Fz.of Y,M,_,M,fj M ?_⟩;have e1:st.three=st:=by unfold O8.three;rw[e]
  rw[e1]at q;exact q H d hb M Fr.refl
 |none=>
  rw[e]at Y;refine⟨_,M,a,_,dx,_,_,M,O,T.aL,T.aY,jH,d.tb,_,M,.inl<|Fz.of Y,M,_,M,a6 (λz=>by cases z) ?_⟩;have la:((d.A0.map V.ref).length:Int)=st.size:=by rw[Q0];exact hb.row0.la
  obtain⟨a4,a5⟩:=b4 z.pw;refine⟨_,M,a,_,dx,_,_,M,O,T.aL,T.aY,jH,d.tb,_,_,_,M,M,Fz.of Y,M,d.r0,_,M,.inl<|Fz.of hb.row0.lst,?_⟩;dsimp only;rw[la];have fin:∀{m:Int} {H':Hp} {r:Addr} {A:List Addr},st.three={st with nxt:=some m,mv:=0}->Ds H H'->H r=none->(∀b∈A,H b=none)->P8 H' r A (List.replicate m.toNat []) m->H' d.tb=some (.lst [.ref d.r0])/\Q .non (upd H' d.tb<|.lst<|[.ref d.r0]++ [.ref r]):=λ{m H' r A} e3 s nr nA hr=>by
   have a1:=s _ _ Y;have a0:∀b,Pz a st d b->∃o,H b=some o:=λb w=>hb.dom w;have a2:¬Pz a st d r:=λw=>by obtain⟨o,q⟩:=a0 r w;rw[nr]at q;cases q
   have a3:∀b∈A,¬Pz a st d b:=λb hA w=>by obtain⟨o,q⟩:=a0 b w;rw[nA b hA]at q;cases q
   refine⟨a1,?_⟩;have sb:=hb.begin (H':=upd H' d.tb<|.lst [.ref d.r0,.ref r]) e (m:=m) (r:=r) (A:=A) (by rw[ae (cU O Y<|by intro w;cases w),s _ _ O,O]) ai (λb hb1=>?_) (hr.frame λb hb1=>ae ?_) a2 a3
   .rw[<-e3]at sb;refine q _ _ sb M λb o n w=>⟨?_,λy=>?_⟩
    .rw[ae (λv=>n<|.inr<|.inl v)];exact s _ _ w
    .rw[e3]at y;rcases y with y|y|y|y|⟨_,y⟩|y
     .exact n<|.inl y
     .exact n<|.inr (.inl y)
     .exact n<|.inr (.inr<|.inl y)
     .exact n<|.inr (.inr<|.inr<|.inl y)
     .have y:b=r:=y;rw[y,nr]at w;cases w
     .rw[nA b y]at w;cases w
   .obtain⟨o,q⟩:=a0 b (by
     rcases hb1 with w|w
     .exact .inr<|.inr (.inl w)
     .exact .inr<|.inr<|.inr<|.inl w)
    have:b≠d.tb:=by
     rcases hb1 with w|w
     .rw[w];exact hb.tr.symm
     .exact hb.row0.notr w Y<|λ_ z=>by cases z
    rw[ae this,s _ _ q,q]
   .rcases hb1 with w|w
    .rw[w];exact λv=>by rw[v,Y]at nr;cases nr
    .exact λv=>by have:=nA b w;rw[v,Y]at this;cases this
  by_cases cA:st.size<d.n/\st.size<256
  .have e3:st.three={st with nxt:=some (2*st.size),mv:=0}:=by
    unfold O8.three;rw[e];exact W7<|by rwa[<-hn]
   refine⟨_,M,a,_,dx,_,_,M,O,T.aL,T.bO,sd,_,M,_,_,M,M,_,M,nN cA.1 ⟨_,M,_,_,M,M,_,M,nN cA.2 ?_⟩⟩;refine⟨_,M,a,_,dx,_,_,M,O,T.aL,T.aY,jH,.inl ⟨M,_,Fz.of Y⟩,_,M,_,_,M,M,.inr ⟨(_),(_)⟩,_,M,(),(),λH' r A s nr nA hr=>?_⟩;obtain⟨f1,f2⟩:=fin (m:=st.size*2) (by rw[e3,Vz]) s nr nA hr;exact⟨d.tb,_,_,M,M,f1,cX (by show 1<=1000;decide),f2⟩
  .by_cases cB:4*d.n<st.size/\4<st.size
   .have e3:st.three={st with nxt:=some (st.size/2),mv:=0}:=by
     unfold O8.three;rw[e];exact(W6<|by rwa[<-hn]).trans<|W7 (by rwa[<-hn])
    have c1:¬st.size<d.n:=();refine⟨_,M,a,_,dx,_,_,M,O,T.aL,T.bO,sd,_,M,_,_,M,M,_,M,a6 c1 ?_⟩;refine⟨_,M,a,_,dx,_,_,M,O,T.aL,T.bO,sd,_,_,M,M,.inl ⟨(_),(_)⟩,_,M,_,_,M,M,_,M,nN cB.1 ⟨_,M,_,_,M,M,_,M,nN cB.2 ?_⟩⟩;refine⟨_,M,a,_,dx,_,_,M,O,T.aL,T.aY,jH,.inl ⟨M,_,Fz.of Y⟩,_,M,_,_,M,M,⟨(_),(_)⟩,_,M,(),(),λH' r A s nr nA hr=>?_⟩;obtain⟨f1,f2⟩:=fin (m:=st.size/2) e3 s nr nA hr;exact⟨d.tb,_,_,M,M,f1,cX (by show 1<=1000;decide),f2⟩
   .have e3:st.three=st:=by
     unfold O8.three;rw[e];exact(W6<|by rwa[<-hn]).trans<|W6 (by rwa[<-hn])
    rw[e3]at q;have q0:=q H d hb M Fr.refl;by_cases c1:st.size<d.n
    .have c2:¬st.size<256:=λw=>cA ⟨c1,w⟩;have c3:¬4*d.n<st.size:=();refine⟨_,M,a,_,dx,_,_,M,O,T.aL,T.bO,sd,_,M,_,_,M,M,_,M,nN c1 ⟨_,M,_,_,M,M,_,M,a6 c2 ?_⟩⟩;exact⟨_,M,a,_,dx,_,_,M,O,T.aL,T.bO,sd,_,_,M,M,.inl ⟨(_),(_)⟩,_,M,_,_,M,M,_,M,a6 c3 q0⟩
    .refine⟨_,M,a,_,dx,_,_,M,O,T.aL,T.bO,sd,_,M,_,_,M,M,_,M,a6 c1 ?_⟩;refine⟨_,M,a,_,dx,_,_,M,O,T.aL,T.bO,sd,_,_,M,M,.inl ⟨(_),(_)⟩,_,M,_,_,M,M,_,M,?_⟩;by_cases c3:4*d.n<st.size
     .exact nN c3 ⟨_,M,_,_,M,M,_,M,a6 (λw=>cB ⟨c3,w⟩) q0⟩
     .exact a6 c3 q0
section
variable {d:R6}
def PZ.put (h:PZ t H a st d) (z:PJ st) {kv:List (Int×V)} (G:IsCell d st k c kv) (v:V):
  ∃d',PZ t (upd H c<|.dK<|az<|bn kv k v) a {st with kv:=bn st.kv k v} d'/\d'.n=d.n/\∀b,Pz a {st with kv:=bn st.kv k v} d' b↔Pz a st d b:=
 h.setCell z G (xH (h.at G).2.2) (λ_ O=>xN O) (by rw[eB,eB,W7 M,W7 M]) λj I=>⟨by rw[eB,W6 I],by rw[eB,W6 I]⟩
def PZ.drop (h:PZ t H a st d) (z:PJ st) {kv:List (Int×V)} (G:IsCell d st k c kv):
  ∃d',PZ t (upd H c<|.dK<|az<|bN kv k) a {st with kv:=bN st.kv k} d'/\d'.n=d.n/\∀b,Pz a {st with kv:=bN st.kv k} d' b↔Pz a st d b:=
 h.setCell z G (sM (h.at G).2.2) (λ_ O=> .inl<|At O) (by rw[eV,eV,W7 M,W7 M]) λj I=>⟨by rw[eV,W6 I],by rw[eV,W6 I]⟩
def PZ.insM (h:PZ t H a st d):∃dx fs,H a=some (.ins t.aZ dx fs)/\∀m,NoM m->fs.lookup m=none:=by
 obtain⟨dx,z⟩:=h.obj;exact⟨dx,_,z,λm G=>LT G⟩
def O8.one_kv:st.one.kv=st.kv:=by
 unfold O8.one;cases st.nxt with
 |none=>rfl
 |some m=>show(if _ then _ else _:O8).kv=_;split<;>rfl
def O8.three_kv:st.three.kv=st.kv:=by
 unfold O8.three;cases st.nxt with
 |some m=>rfl
 |none=>show(if _ then _ else _:O8).kv=_;split;rfl;split<;>rfl
def Fg {kv:List (Int×V)}:((bn kv k v).length:Int)=if(aF kv k).isSome=true then(kv.length:Int)else kv.length+1:=by
 have:=Wr List.length (sU (kv:=kv) (k:=k) (v:=v));rw[Q0]at this;split
 .rename_i c;rw[W7 c,Q0]at this;lia
 .rename_i c;rw[W6 c,Q8,Q0]at this;simp at this;lia
end
def qt:Dr P w K mg base P1 4 t.tQ t.mM ["self","key"] (yO K t):=by
 refine T.LE.okl zd λs H vs Q E G h _=>?_;intro X;obtain⟨a,k,F,st,rfl,⟨d,hb,O,U,nd,z⟩,Z,q⟩:=h;refine⟨_,(aB<|aD<|Ic<|El (jK G) Kc<|aQ Ca T.aL T.gF (de T) G.mo T.gM .nil ar<|ac Kc ag)
  ,?_⟩
 obtain⟨dx,fs,hi,Y⟩:=hb.insM;refine⟨_,M,_,M,a,dx,fs,M,hi,Y _ ∅,_,M,a,k,st,d,M,hb,z,λc kv I=>?_⟩;obtain⟨hc,_,_⟩:=hb.at I;refine⟨c,_,M,Pu.k (k:=Sum.inl k) hc,?_⟩;rw[O6,hb.val k c kv I];exact q H F ⟨d,hb,O,U,nd,z⟩ Fr.refl
def zy:Dr P w K mg base P1 4 t.tR t.mN ["self","key"] (yP K t):=by
 refine T.LF.okl ze λs H vs Q E G h _=>?_;intro X;obtain⟨a,k,F,st,rfl,⟨d,hb,U,Y,nd,z⟩,h0,Z,q2⟩:=h;refine aj (P7 2<|aQ Ca T.aL T.gF (de T) G.mo T.gM .nil ar<|ac Kc ag)
   (aj (aO (Eh<|z8 (jK G) Kc M2)
    (aB eI)
    aE)
   (aC (aD<|E5 (jK G) M2 Kc<|λ_ _=>M) ?_))
 intros
 have hA:Pg K t H a F st:=⟨d,hb,U,Y,nd,z⟩;obtain⟨dx,fs,hi,hm⟩:=hb.insM;refine⟨_,M,a,dx,fs,M,hi,hm _ ∅,_,M,a,k,st,d,M,hb,z,λc kv I=>?_⟩;obtain⟨hc,_,_⟩:=hb.at I;have O:=hb.val k c kv I;refine⟨_,M,_,M,c,_,M,Pu.k (k:=Sum.inl k) hc,?_⟩;rw[O6,O];cases e:aF st.kv k with
 |none=>
  refine⟨_,M,cP ?_⟩;exact(q2 e).elim
 |some v=>
  refine⟨_,M,cq ?_⟩;refine⟨_,M,_,M,c,v,M,?_,Z v e H F hA Fr.refl⟩;have:=Pu.k (k:=Sum.inl k) hc;rw[O6,O,e]at this;exact this
def zx:Dr P w K mg base P1 4 t.tP t.mL ["self","key","value"] (yN K t):=by
 refine T.LD.okl zb λs H vs Q E hr h _=>?_;intro X;obtain⟨a,k,i,F,st,rfl,⟨d,hb,hF,hn,nd,z⟩,h0,hl,q⟩:=h;refine aj (aM<|aX Ca T.aL T.rF (iC T) hr.mo T.rQ .nil ar)
   (aj (P7 3<|aQ Ca T.aL T.gF (de T) hr.mo T.gM .nil ar<|ac Kc ag)
   (aj (aO (Eh<|z8 (jK hr) Kc PB)
    (aB<|iT Ca af xV)
    aE)
   (aj (l9 (jK hr) PB Kc M2 M)
   (aC (aM<|aX Ca T.aL T.rG (iD T) hr.mo T.rR .nil ar) ?_))))
 intros
 obtain⟨dx,fs,hi,hm⟩:=hb.insM;refine⟨_,M,a,dx,fs,M,hi,hm _ ∅,a,st,d,M,hb,z,hl,λH1 d1 hb1 e1 I=>?_⟩;obtain⟨aa,ab,ah,an⟩:=hb1.insM;have z1:=z.one;refine⟨_,M,a,aa,ab,M,ah,an _ ∅,_,M,a,k,st.one,d1,M,hb1,z1,λc kv ic=>?_⟩;obtain⟨hc,cF,_⟩:=hb1.at ic;have hv:=hb1.val k c kv ic;have sh:=hb1.short z1 ic;rw[O8.one_kv]at hv sh;obtain⟨O,U⟩:=hb1.obj;have na:a≠c:=cU U hc (by intro w;cases w);have key:∀(H2:Hp) (n2:Int),PZ t H2 a st.one {d1 with n:=n2}->Fr (Pz a st d) (Pz a st.one d1) H H2->n2=((bn st.kv k<|.int i).length:Int)->∃d3,PZ t (upd H2 c<|.dK<|az<|bn kv k<|.int i) a {st.one with kv:=bn st.one.kv k (.int i)} d3/\d3.n=((bn st.one.kv k<|.int i).length:Int)/\
   ∀H4 d4,PZ t H4 a (O8.three {st.one with kv:=bn st.one.kv k (.int i)}) d4->d4.n=d3.n->Fr (Pz a {st.one with kv:=bn st.one.kv k (.int i)} d3) (Pz a (O8.three {st.one with kv:=bn st.one.kv k (.int i)}) d4) (upd H2 c<|.dK<|az<|bn kv k<|.int i) H4->Q .non H4:=λH2 n2 Y ax b1=>by
  obtain⟨d3,G,e3,f3⟩:=Y.put z1 (kv:=kv) ic (.int i);have Z:d3.n=((bn st.one.kv k<|.int i).length:Int):=by rwa[e3,O8.one_kv]
  refine⟨d3,G,Z,λH4 d4 a4 e4 a5=>?_⟩;rw[O8.one_kv]at a4 a5 f3 Z;refine q H4 _ ⟨d4,a4,λb=>Iff.rfl,?_,?_,?_⟩ ?_
  .show d4.n=((O8.three _).kv.length:Int);rw[O8.three_kv,e4,Z]
  .show((O8.three _).kv.map (·.1)).Nodup;rw[O8.three_kv];exact xH nd
  .exact(z1.kv).three
  .have step:Fr (Pz a st.one d1) (Pz a {st.one with kv:=bn st.kv k (.int i)} d3) H2 (upd H2 c<|.dK<|az<|bn kv k<|.int i):=λb o n w=>⟨by rwa[ae (λy=>n<|by rw[y];exact cF)],λy=>n<|(f3 b).mp y⟩;exact Fr.trans (λb o n w=>ax b o (λy=>n<|(hF b).mpr y) w)<|Fr.trans step a5
 refine⟨_,M,_,M,c,_,M,Pu.k (k:=Sum.inl k) hc,?_⟩;rw[O6,hv];have kl:(az kv).length<sizeLine:=by rw[bz];exact FY ()
 cases e:aF st.kv k with
 |none=>
  refine⟨_,M,cP ?_⟩;refine⟨_,M,a,_,O,_,_,M,U,T.aL,T.bO,sd,_,_,M,M,O,_,U,r9,?_⟩;rw[LY];have Y:=hb1.setN (dx:=O) (n:=d1.n+1);have b2:upd H1 a (.ins t.aZ O<|Qb d1.tb st.one.moved<|d1.n+1) c=some (.dK<|az kv):=by rwa[ae na.symm]
  obtain⟨d3,G,n3,fin⟩:=key _ _ Y (λb o n w=>⟨by rw[ae (λy=>(I b o n w).2<|.inl y)];exact(I b o n w).1,(I b o n w).2⟩) (by rw[Fg,e,e1,hn];rfl);refine⟨_,M,_,M,_,M,c,_,M,Qh.k (k:=Sum.inl k) b2 kl,?_⟩;rw[cN];obtain⟨a0,a1,a2,a3⟩:=G.insM;exact⟨_,M,a,a0,a1,M,a2,a3 _ ∅,a,_,d3,M,G,z1.kv,n3,fin⟩
 |some v=>
  refine⟨_,M,cq ?_⟩;obtain⟨d3,G,n3,fin⟩:=key H1 d1.n hb1 I (by rw[Fg,e,e1,hn];rfl);refine⟨_,M,_,M,_,M,c,_,M,Qh.k (k:=Sum.inl k) hc kl,?_⟩;rw[cN];obtain⟨a0,a1,a2,a3⟩:=G.insM;exact⟨_,M,a,a0,a1,M,a2,a3 _ ∅,a,_,d3,M,G,z1.kv,n3,fin⟩
def xB:Dr P w K mg base P1 5 t.qJ t.ku ["self","key"] (wL K t):=by
 refine T.Ki.okl xa λs H vs Q E Y h _=>?_;intro X;obtain⟨a,k,F,st,rfl,hA,h0,q1,q2⟩:=h;refine aj (aO (io<|bV<|aQ Ca T.aL T.By (qt T) Y.mo T.B6 .nil ar<|ac Kc ag)
    (aB eI)
    aE)
   (aj (aM<|aX Ca T.aL T.rF (iC T) Y.mo T.rQ .nil ar)
   (aj (aM<|dE QY ZZ XI Bw (aQ Ca T.aL T.gF (de T) Y.mo T.gM .nil ar<|ac Kc ag)<|ac Kc ag)
   (aj (iT Ca af No)
   (aC (aM<|aX Ca T.aL T.rG (iD T) Y.mo T.rR .nil ar) ?_))))
 intros
 obtain⟨dx,fs,hi,hm⟩:=hA.ins;refine⟨_,M,a,dx,fs,M,hi,hm _ ∅,_,M,a,k,F,st,M,hA,h0,λH0 F0 a0 a1=>?_⟩;cases e:aF st.kv k with
 |none=>
  refine⟨_,M,cP ?_⟩;exact(q2 e).elim
 |some v=>
  refine⟨_,M,cq ?_⟩;obtain⟨d,hb,hF,hn,nd,z⟩:=a0;obtain⟨dx,fs,hi,hm⟩:=hb.insM;obtain⟨hl,q1⟩:=q1 (by rw[e];rfl);refine⟨_,M,a,dx,fs,M,hi,hm _ ∅,a,st,d,M,hb,z,hl,λH1 d1 hb1 e1 a2=>?_⟩;obtain⟨a3,a4,a5,aa⟩:=hb1.insM;have Z:=z.one;refine⟨_,M,a,a3,a4,M,a5,aa _ ∅,_,M,a,k,st.one,d1,M,hb1,Z,λc kv ic=>?_⟩;obtain⟨hc,cF,_⟩:=hb1.at ic;have hv:=hb1.val k c kv ic;rw[O8.one_kv,e]at hv;obtain⟨d3,G,e3,f3⟩:=hb1.drop Z ic;rw[O8.one_kv]at G f3;refine⟨.inr<|.inr<|.inl ⟨M,.inl ⟨_,hc⟩⟩,_,M,c,_,Sum.inl k,v,M,M,hc,O6.trans hv,?_⟩;rw[mt];obtain⟨I,O⟩:=G.obj;refine⟨_,M,a,_,I,_,_,M,O,T.aL,T.bO,sd,_,_,M,M,I,_,O,r9,?_⟩;rw[LY];have U:=G.setN (dx:=I) (n:=d3.n-1);obtain⟨ab,ah,an,ax⟩:=U.insM;have dl:=Au nd (wm e);have n4:d3.n-1=((bN st.kv k).length:Int):=by rw[e3,e1,hn];lia
  refine⟨_,M,a,ab,ah,M,an,ax _ ∅,a,_,_,M,U,Z.kv,n4,λH5 d5 b1 e5 b2=>?_⟩;refine q1 H5 _ ⟨d5,b1,λb=>Iff.rfl,?_,?_,Z.kv.three⟩ ?_
  .show d5.n=((O8.three _).kv.length:Int);rwa[O8.three_kv,e5]
  .show((O8.three _).kv.map (·.1)).Nodup;rw[O8.three_kv];exact sM nd
  .refine a1.trans<|Fr.trans (λb o n w=>a2 b o (λy=>n<|(hF b).mpr y) w) (Fr.trans (λb o n w=>?_) b2);exact⟨by rwa[ae (λy=>n<|.inl y),ae (λy=>n<|by rw[y];exact cF)],λy=>n<|(f3 b).mp y⟩
def oH:Dr P w K mg base P1 1 t.qH t.kr ["self"] (wJ K t):=by
 refine T.Kg.okl w6 λs H vs Q E U h _=>?_;intro X;obtain⟨a,F,st,rfl,⟨d,hb,hF,hn,nd,z⟩,q⟩:=h;refine⟨_,(aB<|aD<|pS M (P6.of (M':=["row"]) (N:=["self"]) (N':=["self"]) (dsc:=al gN) M M ∅) (dO<|au Ca M)<|λ_ _ _ _ _=>(aI (zL K M) {_} T.bU bp (ac Ca ag)))
  ,?_⟩
 have hA:Pg K t H a F st:=⟨d,hb,hF,hn,nd,z⟩;obtain⟨dx,ho⟩:=hb.obj;have Y:∃xs,H d.tb=some (.lst xs)/\xs.length=st.rows.length/\∀(i:Nat) (x:V),xs[i]?=some x->∃r rs,x= .ref r/\H r=some (.lst rs)/\st.rows[i]?=some (rs.length:Int):=by
  have G:=hb.tbl;have l0:((d.A0.map V.ref).length:Int)=st.size:=by rw[Q0];exact hb.row0.la
  unfold O8.rows;have r1:=hb.row1;cases e:st.nxt with
  |none=>
   rw[e]at G;refine⟨_,G,M,λi x hx=>?_⟩;cases i with
   |zero=>cases hx;exact⟨d.r0,_,M,hb.row0.lst,by rw[l0];rfl⟩
   |succ j=>simp at hx
  |some m=>
   rw[e]at G r1;have l1:((d.A1.map V.ref).length:Int)=m:=by rw[Q0];exact r1.la
   refine⟨_,G,M,λi x hx=>?_⟩;cases i with
   |zero=>cases hx;exact⟨d.r0,_,M,hb.row0.lst,by rw[l0];rfl⟩
   |succ j=>
    cases j with
    |zero=>cases hx;exact⟨d.r1,_,M,r1.lst,by rw[l1];rfl⟩
    |succ j=>simp at hx
 obtain⟨xs,G,lx,look⟩:=Y;refine⟨_,M,a,_,dx,_,_,M,ho,T.aL,T.aY,jH,d.tb,M,⟨_,Fz.of G⟩,λD hD=>?_⟩;refine u0 (K:=K) (a:=d.tb) (xs:=xs) (λi ys H3=>H3=upd H D (.lst ys)/\ys=(st.rows.take i).map V.int) ⟨M,M⟩ (λi ys H3 _ w=>Fz.of<|by rwa[w.1,ae (am G hD)]) (λi x ys H3 hx w I=>?_)<|λys H3 w I=>?_
 .obtain⟨O,e2⟩:=w;obtain⟨r,rs,rfl,U,hs⟩:=look i x hx;have hi:i<xs.length:=(Q1.mp hx).1;have Z:H3 r=some (.lst rs):=by rwa[O,ae (am U hD)]
  refine⟨_,M,r,_,M,.inl<|Fz.of Z,PY.mk hi I ?_ ⟨?_,?_⟩⟩
  .rw[e2,Q0,Q6];have:st.rows.length<=2:=by(unfold O8.rows;cases st.nxt<;>simp)
   exact cX ()
  .rw[O,eE]
  .rw[e2,QL,hs,QC];rfl
 .obtain⟨O,e2⟩:=w;rw[lx,QX]at e2;subst e2;subst O;exact q _ F D (hA.new hD) (Fr.of_same<|ak hD) hD (hA.out hD) ai
def MM {sh n:Int}:bL ("kept":Str) (.int n) (bL ("shifted":Str) (.int sh)<|bL ("table":Str) (.ref tb) [])=Qb tb sh n:=by
 have z:bL ("table":Str) (.ref tb) []=[(("table":Str),V.ref tb)]:=M;rw[z,bL,W6 ∅,bL,bL,W6 ∅,bL,W6 ∅,bL];rfl
def xA:Dr P w K mg base P1 2 t.qI t.kt ["self"] (wK K t):=by
 obtain⟨G,z⟩:=T.g_LEAST_SIZE;refine T.Kh.okl w9 λs H vs Q E I h _=>?_;intro X;obtain⟨a,dx,rfl,ha,hd,q⟩:=h;refine aj (bh Ca (cn<|ac (aJ (sK T) I.mo {_} T.vf T.pM.kp T.vj .nil ar (ac (db (v:= .int 4) {_} z ⟨_,M⟩) ag)) ag) M)
   (aj (bh Ca af M)
   (aC (bh Ca af M) ?_))
 intros
 refine⟨4,M,(_),(_),λH' r A s nr nA I=>⟨(by show 1<=sizeLine;decide),λtb Y=>?_⟩⟩;have O:=s _ _ ha;have U:a≠tb:=am O Y;refine⟨_,M,a,_,dx,[],M,(by rwa[ae U]),T.aL,T.aY,(by show 0<1000;decide),?_⟩;refine⟨_,M,a,_,dx,_,M,ai,T.aL,T.bY,?_,?_⟩
 .show 1<1000;decide
 refine⟨_,M,a,_,dx,_,M,ai,T.aL,T.bO,?_,?_⟩
 .have h1:=ox (f:="shifted") (v:= .int 0) (bL "table" (.ref tb) []);have h2:=ox (f:="table") (v:= .ref tb) [];have h3:([]:List (Str×V)).length=0:=M;lia
 rw[MM,eE,eE];have a0:tb≠r:=(am I.lst Y).symm;have sb:=PZ.fresh (t:=t) (H:=upd (upd H' tb<|.lst [.ref r]) a<|.ins t.aZ dx<|Qb tb 0 0) (a:=a) (tb:=tb) (r:=r) (A:=A) (dx:=dx) ai (by rw[ae U.symm];exact ai) (I.frame λb hb1=>?_) a0
 .refine q _ _ ⟨_,sb,λb=>Iff.rfl,M,Zx,PJ.new⟩ λb o n w=>?_;have Z:b≠a:=λy=>n (.inl y);have w1:=s _ _ w;have n2:b≠tb:=am w1 Y;refine⟨by rwa[ae Z,ae n2],λy=>?_⟩;rcases y with y|y|y|y|⟨y,_⟩|y
  .exact Z y
  .exact n2 y
  .have y:b=r:=y;rw[y,nr]at w;cases w
  .rw[nA b y]at w;cases w
  .cases y
  .cases y
 .have:∃o,H' b=some o:=by
   rcases hb1 with rfl|hb1
   .exact⟨_,I.lst⟩
   .obtain⟨_,_,_,_,w⟩:=I.has hb1;exact⟨_,w⟩
  obtain⟨o,w⟩:=this;have n2:b≠tb:=am w Y;have Z:b≠a:=λy=>by
   rcases hb1 with y2|y2
   .rw[<-y2,y,ha]at nr;cases nr
   .have:=nA b y2;rw[y,ha]at this;cases this
  rw[ae Z,ae n2]
def oG:Dr P w K mg base P1 3 t.qF t.ko ["self","place"] (wH K t):=by
 refine T.Ke.okl wZ λs H vs Q E G h _=>?_;intro X;obtain⟨a,p,F,st,rfl,I,U,Z,q⟩:=h;refine aj (P7 2<|aI (Ay M) {_} T.Ci u7 (ac (aX Ca T.aL T.zH (oH T) G.mo T.zN .nil ar) ag))
   (aC (aD<|aP bi (aJ (zn T) G.mo {_} T.Lb T.Cc.kp T.Lq .nil ar (ac (aJ (xv T) G.mo {_} T.Gy T.AN.kp T.GW .nil ar (ac Kc<|ac M2 ag))<|ac M2 ag)) af<|λ_ _=>M) ?_)
 intros
 have z:PJ st:=let⟨_,_,_,_,_,z⟩:=I;z
 obtain⟨s4,s5⟩:=b4 (kh z);obtain⟨x,y,R⟩:=Bl (kh z);obtain⟨dx,fs,hi,hm⟩:=I.ins;refine⟨_,M,a,dx,fs,M,hi,hm _ ∅,a,F,st,M,I,λH1 F1 l sA fr nl oF hl=>⟨l,st.rows,M,Fz.of hl,?_,λM' hM O=>?_⟩⟩
 .unfold O8.rows;cases st.nxt<;>simp
 .have eM:=IG hM O;subst eM;refine⟨_,M,_,M,p,_,M,U,(),_,M,_,_,M,QA _ (),(),(),λtp Y=>?_⟩;rw[AV R U Z];exact⟨tp,_,_,_,M,M,PX.of ai,M,q _ F1 (sA.new Y)<|fr.trans (Fr.of_same<|ak Y)⟩
structure Rw where
 r:Addr
 A:List Addr
 C:List (List<|Int×V)
 s:Int
noncomputable def gf (st:O8) (d:R6):List Rw:=match st.nxt with|none=> [⟨d.r0,d.A0,d.C0,st.size⟩]|some m=> [⟨d.r0,d.A0,d.C0,st.size⟩,⟨d.r1,d.A1,d.C1,m⟩]
def PV (k:Int):Int:=tz (k%65536)
def ww {st:Int} {x:Nat} (h:0<st):x<rO lo hi st↔lo+(x:Int)*st<hi:=by
 unfold rO;rw[qq h];by_cases c:lo<hi
 .rw[W7 c];have a:0<=(hi-lo-1)/st:=VU () ();have e:(x:Int)<=(hi-lo-1)/st↔(x:Int)*st<=hi-lo-1:=Int.le_ediv_iff_mul_le h;lia
 .rw[W6 c];have:0<=(x:Int)*st:=V1 () ();lia
def bC {kv:List (Int×V)} (nd:(kv.map (·.1)).Nodup) (h:(k,v)∈kv):aF kv k=some v:=by
 induction kv with
 |nil=>cases h
 |cons p r z=>
  rw[QO,Zn]at nd;by_cases e:p.1=k
  .rw[bB e];rcases QH.mp h with h|h
   .rw[<-h]
   .exact Wb (Xq (f:=(·.1)) h)<|by rw[<-e]at*;exact nd.1
  .rw[bq e];rcases QH.mp h with h|h
   .rw[<-h]at e;exact Wb M e
   .exact z nd.2 h
def bD {kv:List (Int×V)} (h:aF kv k=some v):(k,v)∈kv:=by
 induction kv with
 |nil=>rw[kK]at h;cases h
 |cons p r z=>
  by_cases e:p.1=k
  .rw[bB e]at h;cases h;rw[<-e];exact QB
  .rw[bq e]at h;exact QD _<|z h
def wy {d:R6} {ri:Nat} {R:Rw} {kv:List (Int×V)} (hb:PZ t H a st d) (U:(gf st d)[ri]?=some R) (hk:R.C[j]?=some kv) (Y:(k,v)∈kv):
  k%65536%R.s=(j:Int)/\(kv.map (·.1)).Nodup/\∃c,IsCell d st k c kv:=by
 have O:∀{A:List Addr} {C:List (List<|Int×V)} {r:Addr} {s:Int} {x:Nat},P8 H r A C s->C[x]?=some kv->∃b,A[x]?=some b:=λ{A C r s x} ro h=>by
  have h1:=(Q1.mp h).1;have h2:=ro.la;have h3:=ro.lc;exact⟨A[x]'(),Q3 _⟩
 have Z:kv≠[]:=λz=>by rw[z]at Y;cases Y
 have I:=hb.row1;have zero:(j:Int)<st.moved->d.C0[j]?=some kv->False:=λh1 h2=>Z (hb.old _ _ h2 h1);unfold gf at U;cases en:st.nxt with
 |none=>
  rw[en]at U;cases ri with
  |zero=>
   cases U;have G:=hb.row0.home _ _ hk _ Y;obtain⟨b,eb⟩:=O hb.row0 hk;refine⟨G,hb.row0.ndk _ _ hk,b,.inl ⟨?_,by rwa[G],by rwa[G]⟩⟩;rw[G,O8.moved_none en];lia
  |succ j=>simp at U
 |some m=>
  rw[en]at U I;cases ri with
  |zero=>
   cases U;have G:=hb.row0.home _ _ hk _ Y;obtain⟨b,eb⟩:=O hb.row0 hk;refine⟨G,hb.row0.ndk _ _ hk,b,.inl ⟨?_,by rwa[G],by rwa[G]⟩⟩;rw[G];exact Int.not_lt.mp λy=>zero y hk
  |succ j'=>
   cases j' with
   |zero=>
    cases U;have G:=I.home _ _ hk _ Y;obtain⟨b,eb⟩:=O I hk;exact⟨G,I.ndk _ _ hk,b,.inr ⟨_,en,hb.new _ _ hk _ Y,by rwa[G],by rwa[G]⟩⟩
   |succ j=>simp at U
noncomputable def ql (C:List (List<|Int×V)) (s m:Int) (x:Nat):List (Int×V):=C.getD (s+(x:Int)*m).toNat []
def KF (s m:Int) (R:Rw):List (Int×V):=(List.range<|rO s R.s m).flatMap (ql R.C s m)
def Nc (st:O8) (d:R6) (s:Int):List (Int×V):=(gf st d).flatMap (KF s st.low)
def uC {d:R6} (z:PJ st) {R:Rw} (h:R∈gf st d):R.s=st.low\/R.s=2*st.low:=by
 unfold gf at h;unfold O8.low;cases e:st.nxt with
 |none=>rw[e]at h;rw[Q7.mp h];exact .inl M
 |some m=>
  rw[e]at h;obtain⟨_,_,_,nx⟩:=z.nx m e;have p:=b4 z.pw;show R.s=(if m<st.size then m else st.size)\/R.s=2*(if m<st.size then m else st.size);rcases QH.mp h with h|h
  .rw[h];show st.size=_\/st.size=_;split<;>lia
  .rw[Q7.mp h];show m=_\/m=_;split<;>lia
def Ff {x r:Int} (h:r=m\/r=2*m):x%r%m=x%m:=by
 rcases h with rfl|rfl
 .exact Int.emod_emod_of_dvd _<|Int.dvd_refl _
 .exact Int.emod_emod_of_dvd _ ⟨2,()⟩
def K4 {d:R6} {s:Int} (hb:PZ t H a st d) (z:PJ st) (nd:(st.kv.map (·.1)).Nodup) (s0:0<=s) (s1:s<st.low) (k:Int) (v:V):
  (k,v)∈Nc st d s↔(k,v)∈st.kv/\k%65536%st.low=s:=by
 have lp:=b4 (kh z);constructor
 .intro h;obtain⟨R,G,h⟩:=Xn.mp h;obtain⟨x,hx,h⟩:=Xn.mp h;have hx:=VW.mp hx;have O:=uC z G;obtain⟨ri,U,Y⟩:=Z1 G;have Y:(gf st d)[ri]?=some R:=by rw[Q3 U,Y]
  unfold ql at h;have xs:=(ww ()).mp hx;have xm:0<=(x:Int)*st.low:=V1 () ();cases Z:R.C[(s+(x:Int)*st.low).toNat]? with
  |none=>rw[QJ,Z]at h;cases h
  |some kv=>
   rw[QJ,Z]at h;have h:(k,v)∈kv:=h;obtain⟨h1,h2,c,I⟩:=wy hb Y Z h;refine⟨bD (by rw[<-hb.val k c kv I];exact bC h2 h),?_⟩;rw[<-Ff O,h1,Vs (),Int.add_mul_emod_self_right];exact Int.emod_eq_of_lt s0 s1
 .rintro ⟨h,hs⟩;obtain⟨c,kv,ic⟩:=hb.cell z k;have hv:=hb.val k c kv ic;rw[bC nd h]at hv;have hm:=bD hv;have fin:∀R:Rw,R∈gf st d->R.C[(k%65536%R.s).toNat]?=some kv->(k,v)∈Nc st d s:=λR G hk=>by
   have O:=uC z G;have j0:0<=k%65536%R.s:=QA _ ();have j1:k%65536%R.s<R.s:=Qx _ ();have jm:=Ff (x:=k%65536) O;rw[hs]at jm;have dv:=Vi (k%65536%R.s) st.low;have q0:0<=k%65536%R.s/st.low:=VU j0 ();have eq:s+((k%65536%R.s/st.low).toNat:Int)*st.low=k%65536%R.s:=by
    rw[Vs q0,Vz];lia
   refine Xn.mpr ⟨R,G,Xn.mpr ⟨(k%65536%R.s/st.low).toNat,VW.mpr<|(ww ()).mpr (by rwa[eq]),?_⟩⟩;unfold ql;rwa[eq,QJ,hk]
  rcases ic with⟨_,_,I⟩|⟨m,en,_,_,I⟩
  .refine fin ⟨d.r0,d.A0,d.C0,st.size⟩ ?_ I;unfold gf;cases st.nxt<;>simp
  .refine fin ⟨d.r1,d.A1,d.C1,m⟩ ?_ I;unfold gf;rw[en];simp
def pU {C:List (List<|Int×V)} {s:Int} {x:Nat} {p:Int×V} (h:p∈ql C s m x):∃kv,C[(s+(x:Int)*m).toNat]?=some kv/\p∈kv:=by
 unfold ql at h;cases z:C[(s+(x:Int)*m).toNat]? with
 |none=>rw[QJ,z]at h;cases h
 |some kv=>
  rw[QJ,z]at h;exact⟨kv,M,h⟩
def Gk {d:R6} {s:Int} (hb:PZ t H a st d) (z:PJ st) (s0:0<=s):((Nc st d s).map (·.1)).Nodup:=by
 have lp:=b4 (kh z);refine Zm.mpr ?_;have row:∀R∈gf st d,(KF s st.low R).Pairwise (λp q=>p.1≠q.1):=λR O=>by
  obtain⟨ri,U,G⟩:=Z1 O;have G:(gf st d)[ri]?=some R:=by rw[Q3 U,G]
  refine List.pairwise_flatMap.mpr ⟨λx _=>?_,?_⟩
  .unfold ql;cases Y:R.C[(s+(x:Int)*st.low).toNat]? with
   |none=>rw[QJ,Y];exact Ws
   |some kv=>
    rw[QJ,Y];show List.Pairwise _ kv;cases ke:kv with
    |nil=>exact Ws
    |cons p r=>
     have:=(wy hb G Y (k:=p.1) (v:=p.2)<|by rw[ke];exact QB).2.1;rw[ke]at this;exact Zm.mp this
  .refine(List.pairwise_lt_range (n:=rO s R.s st.low)).imp λ{x y} a3 p I q hq e=>?_;obtain⟨kv,h1,h2⟩:=pU I;obtain⟨kv',Z,h4⟩:=pU hq;have a1:=(wy hb G h1 h2).1;have a2:=(wy hb G Z h4).1;have m1:(x:Int)*st.low<(y:Int)*st.low:=Int.mul_lt_mul_of_pos_right () ();have m0:0<=(x:Int)*st.low:=V1 () ();rw[e,a2]at a1;lia
 refine List.pairwise_flatMap.mpr ⟨row,?_⟩;have a0:=hb.row1;unfold gf;cases en:st.nxt with
 |none=>exact ZN _ _
 |some m=>
  refine Xh.mpr ⟨λR O p I q hq e=>?_,ZN _ _⟩;rw[Q7.mp O]at hq;obtain⟨x,_,I⟩:=Xn.mp I;obtain⟨y,_,hq⟩:=Xn.mp hq;obtain⟨kv,h1,h2⟩:=pU I;obtain⟨kv',Z,h4⟩:=pU hq;have n1:=hb.new _ _ Z _ h4;have n2:=hb.row0.home _ _ h1 _ h2;have n3:¬((s+(x:Int)*st.low).toNat:Int)<st.moved:=λc=>by
   have:=hb.old _ _ h1 c;rw[this]at h2;cases h2
  rw[<-e,n2]at n1;exact n3 n1
structure Ly (X:List Addr) (H H':Hp) (l:Addr) (ts:List Tp) (L:List (Int×V)):Prop where
 sm:∀c o,c∉X->H c=some o->H' c=some o
 li:H' l=some (.lst<|ts.map λe=>V.ref e.p)
 tu:∀e∈ts,H' e.p=some (.tup [.int (PV e.k),.int e.k,e.v])/\H e.p=none
 eq:ts.map Tp.kv=L
section
variable {X:List Addr} {H'':Hp} {l:Addr} {L:List (Int×V)}
def Ly.same (h:Ly X H H' l ts L) (s:Ds H' H''):Ly X H H'' l ts L:=⟨λc o n e=>s _ _<|h.sm c o n e,s _ _ h.li,λe he=>⟨s _ _ (h.tu e he).1,(h.tu e he).2⟩,h.eq⟩
def Ly.add (h:Ly X H H' l ts L) (s:Ds H' H'') (G:H' p=none) (U:H l=none) (Y:∀c∈X,∃o,H c=some o/\∃o',H' c=some o') (Z:H'' p=some (.tup [.int (PV k),.int k,v])):
  Ly X H (upd H'' l<|.lst<|ts.map (λe=>V.ref e.p)++ [.ref p]) l (ts++ [⟨p,k,v⟩]) (L++ [(k,v)]):=by
 have pl:p≠l:=λz=>by rw[z,h.li]at G;cases G
 have I:H p=none:=by
  cases q:H p with
  |none=>rfl
  |some o=>
   by_cases c:p∈X
   .obtain⟨_,_,o',O⟩:=Y p c;rw[G]at O;cases O
   .rw[h.sm _ _ c q]at G;cases G
 have h2:=h.same s;refine⟨λc o n e=>?_,by rw[ai,QC];rfl,λe he=>?_,by rw[QC,h.eq];rfl⟩
 .rw[ae λz=>by rw[z,U]at e;cases e];exact h2.sm c o n e
 .rcases Q5.mp he with he|he
  .have q:=h2.tu e he;exact⟨by rw[ae λz=>by rw[z,h2.li]at q;cases q.1];exact q.1,q.2⟩
  .rw[Q7.mp he];exact⟨by rwa[ae pl],I⟩
def Ly.freeze {o':HO} (h:Ly [] H H' l ts L) (hb:H b=some o) (bl:b≠l):Ly [b] H (upd H' b o') l ts L:=
 ⟨λc o n e=>by rw[ae λz=>n (by rw[z];exact QB)];exact h.sm c o (by simp) e,by rw[ae bl.symm];exact h.li,
  λe he=>⟨by rw[ae λz=>by have:=(h.tu e he).2;rw[z,hb]at this;cases this];exact(h.tu e he).1,(h.tu e he).2⟩,h.eq⟩
def Ly.thaw (h:Ly [b] H H' l ts L) (hb:H b=some o) (bl:b≠l):Ly [] H (upd H' b o) l ts L:=by
 refine⟨λc o' _ e=>?_,by rw[ae bl.symm];exact h.li,λe he=>⟨by rw[ae λz=>by have:=(h.tu e he).2;rw[z,hb]at this;cases this];exact(h.tu e he).1,(h.tu e he).2⟩,h.eq⟩;by_cases z:c=b
 .rwa[z,ai,<-hb,<-z]
 .rw[ae z];exact h.sm c o' (by simpa using z) e
end
def qT (K:WN) (t:P5):Sp:=λvs H Q _=>∃(a:Addr) (p:Int) (F:Addr->Prop) (st:O8),vs=[.ref a,.int p]/\Pg K t H a F st/\0<=p/\p<65536/\st.kv.length<4096/\
 ∀(H':Hp) (F':Addr->Prop) (l:Addr) (ts:List Tp),Pg K t H' a F' st->Fr F F' H H'->¬F' l->H' l=some (.lst<|ts.map λe=>V.ref e.p)->(∀e∈ts,H' e.p=some (.tup [.int (PV e.k),.int e.k,e.v])/\¬F' e.p)->
  (∀k v,(k,v)∈ts.map Tp.kv↔(k,v)∈st.kv/\k%65536%st.low=tz p%st.low)->((ts.map Tp.kv).map (·.1)).Nodup->Q (.ref l) H'
def MA {d:R6} (hb:PZ t H a st d) (sz:PJ st):∃xs,H d.tb=some (.lst xs)/\xs.length=(gf st d).length/\(gf st d).length<=2/\
  ∀(i:Nat) (x:V),xs[i]?=some x->∃R:Rw,x= .ref R.r/\(gf st d)[i]?=some R/\P8 H R.r R.A R.C R.s/\R.s<=256/\∀(j:Nat) (kv:List (Int×V)),R.C[j]?=some kv->kv.length<=st.kv.length:=by
 have pw:=b4 sz.pw;have z:=hb.tbl;have r1:=hb.row1;unfold gf;cases e:st.nxt with
 |none=>
  rw[e]at z;refine⟨_,z,M,by simp,λi x hx=>?_⟩;cases i with
  |zero=>cases hx;exact⟨_,M,M,hb.row0,pw.2,λj kv h=>hb.short0 sz h⟩
  |succ j=>simp at hx
 |some m=>
  rw[e]at z r1;refine⟨_,z,M,by simp,λi x hx=>?_⟩;cases i with
  |zero=>cases hx;exact⟨_,M,M,hb.row0,pw.2,λj kv h=>hb.short0 sz h⟩
  |succ j=>
   cases j with
   |zero=>cases hx;exact⟨_,M,M,r1,(b4 (sz.nx m e).1).2,λj kv h=>hb.short1 sz e h⟩
   |succ j=>simp at hx
def Jk {RR:List Rw} {f:Rw->List (Int×V)} {R:Rw} (e:RR[i]?=some R):(RR.take<|i+1).flatMap f=(RR.take i).flatMap f++f R:=by
 rw[QL,e,List.flatMap_append];simp
def EF {f:Nat->List (Int×V)} {x:Nat}:(List.range<|x+1).flatMap f=(List.range x).flatMap f++f x:=by
 rw[List.range_succ,List.flatMap_append];simp
def FU {kv:List (Int×V)} {p:Int×V} (e:kv[i]?=some p):kv.take (i+1)=kv.take i++ [p]:=by
 rw[QL,e];rfl
def rB:Dr P w K mg base P1 3 t.jN t.fR ["self","place"] (qT K t):=by
 refine T.FI.okl qZ λs H vs Q E hr h _=>?_;intro X;obtain⟨a,p,F,st,rfl,hA,p0,p1,b3,q⟩:=h;refine aj (P7 2<|aI (Ay M) {_} T.Ci u7 (ac (aX Ca T.aL T.zH (oH T) hr.mo T.zN .nil ar) ag))
   (aj (P7 3<|cn ag)
   (bW (λx=>(fH Wm M (dO<|au Ca M) (Qu 4)
    x)) ?_))
 refine mY (λx=>(fH Wm M (Gd {_} T.pO (ac (aJ (xv T) hr.mo {_} T.Gy T.AN.kp T.GW .nil ar (ac Kc<|ac M2 ag))<|ac (aI aH {_} T.bU bp (ac Pa ag))<|ac M2 ag)) (Qu 5)
    x)) ?_
 refine mY (λx=>(wq (fH Wm M (CF<|uD QY V9 PySem.F.type_dict_items CP<|aP aW Pa Qi<|λ_ _=>M) (Bm M<|fI (Qu 6)<|fI (Qu 7) wt)
    x))) ?_
 refine aC (aM<|dE QN Zy Zz eY PB<|ac (bQ<|ac (aJ (vc T) hr.mo {_} T.Ew T.yw.kp T.EJ .nil ar (ac RT ag))<|ac RT<|ac Rp ag) ag) ?_
 intros
 refine aC (aD PB) ?_
 intros
 have z:PJ st:=let⟨_,_,_,_,_,z⟩:=hA;z
 obtain⟨s4,s5⟩:=b4 (kh z);obtain⟨dx,fs,hi,hm⟩:=hA.ins;refine⟨_,M,a,dx,fs,M,hi,hm _ ∅,a,F,st,M,hA,λH1 F1 lr sA fr b6 oF a4=>⟨lr,st.rows,M,Fz.of a4,?_,λM' hM a5=>?_⟩⟩
 .unfold O8.rows;cases st.nxt<;>simp
 have eM:=IG hM a5;subst eM;have sB:=sA;obtain⟨d,hb,hF,hn,nd,_⟩:=sB;obtain⟨aa,ho⟩:=hb.obj;obtain⟨xs,ht,lx,l2,look⟩:=MA hb z;have g0:0<=tz p%st.low:=QA _ ();have g1:tz p%st.low<st.low:=Qx _ ();have U:st.low>0:=();refine⟨QF _,λl nl=>?_⟩;have y0:Ly [] H1 (upd H1 l<|.lst []) l [] []:=⟨λc o _ e=>ak nl _ _ e,ai,(λe he=>by cases he),M⟩;generalize upd H1 l (.lst [])=H2 at y0⊢;generalize hs:tz p%st.low=I at g0 g1 q;refine⟨_,M,a,_,aa,_,_,M,y0.sm _ _ (by simp) ho,T.aL,T.aY,jH,d.tb,M,⟨_,Fz.of<|y0.sm _ _ (by simp) ht⟩,iW (K:=K) (a:=d.tb) (xs:=xs) (λi B H'=>∃(v4 v5 Y Z:Option V) (ts:List Tp),B=[some (.ref a),some (.int p),some (.int st.low),some (.ref l),v4,v5,Y,Z]/\Ly [] H1 H' l ts (((gf st d).take i).flatMap<|KF I st.low)/\ts.length<=8192*i)
  ⟨_,_,_,_,[],M,y0,by simp⟩ (λi B H' _ w=>by obtain⟨_,_,_,_,_,_,c,_⟩:=w;exact Fz.of<|c.sm _ _ (by simp) ht) (λi x B H' hx w=>?_) (λB H' w=>?_)⟩
 .obtain⟨v4,v5,Y,Z,ts,G,c,lt⟩:=w;subst G;obtain⟨R,rfl,hR,ro,b2,ab⟩:=look i x hx;have hr:=c.sm _ _ (by simp) ro.lst;have iL:=(Q1.mp hx).1;have lA:((R.A.map V.ref).length:Int)=R.s:=by rw[Q0];exact ro.la
  have rl:=uC z (Q2 hR);have a1:∀y:Nat,y<rO I R.s st.low->y<2:=λy hy=>by
   have:=(ww U).mp hy;refine Nat.lt_of_not_le λy2=>?_;have:(2:Int)*st.low<=(y:Int)*st.low:=VO () ();lia
  have b7:rO I R.s st.low<=2:=by
   by_cases c0:rO I R.s st.low=0
   .lia
   .have:=a1 (rO I R.s st.low-1) ();lia
  refine⟨_,M,_,M,p,_,M,p0,U,_,M,R.r,_,M,.inl<|Fz.of hr,_,M,_,_,_,M,?_,?_⟩
  .rw[hs,lA];exact⟨(),(),(),(),(),()⟩
  rw[hs,lA];generalize ah:((gf st d).take i).flatMap (KF I st.low)=L0 at c;refine Dc (n:=rO I R.s st.low) (λx B H'=>∃(v5 Y Z:Option V) (ts:List Tp),B=[some (.ref a),some (.int p),some (.int st.low),some (.ref l),some (.ref R.r),v5,Y,Z]/\Ly [] H1 H' l ts (L0++(List.range x).flatMap (ql R.C I st.low))/\ts.length<=8192*i+4096*x)
   ⟨_,_,_,ts,M,by simpa using c,()⟩ (λx B H' hx w=>?_) (λB H' w=>?_)
  .obtain⟨v5,Y,Z,ts,G,c,lt⟩:=w;subst G;have b8:=(ww U).mp hx;have x2:=a1 x hx;have xm:0<=(x:Int)*st.low:=V1 () ();have la:=ro.la;have lc:=ro.lc;have eb:R.A[(I+(x:Int)*st.low).toNat]?=some (R.A[(I+(x:Int)*st.low).toNat]'()):=Q3 ();have ek:R.C[(I+(x:Int)*st.low).toNat]?=some (R.C[(I+(x:Int)*st.low).toNat]'()):=Q3 ();generalize R.A[(I+(x:Int)*st.low).toNat]'()=b at eb;generalize R.C[(I+(x:Int)*st.low).toNat]'()=kv at ek;have O:=ro.cell _ _ _ eb ek;have b9:=ab _ _ ek;have a0:=c.sm _ _ (by simp) O;have an:=c.sm _ _ (by simp) ro.lst;have bl:b≠l:=λz=>by rw[z,nl]at O;cases O
   refine⟨b,az kv,a0,_,M,_,M,R.r,_,_,_,M,M,Fz.of an,xP () eb,.inr<|.inr<|.inl ⟨M,.inl ⟨_,a0⟩⟩,b,az kv,M,M,a0,λvw nv=>?_⟩;have ax:upd H' vw (Rq vw b) b=some (.dK<|az kv):=by rwa[ae (am a0 nv)]
   refine⟨vw,b,az kv,M,ai,ax,λob=>?_⟩;have cF:=(c.same<|ak (o:=Rq vw b) nv).freeze (o':= .frz ob<|.dK<|az kv) O bl;generalize b1:L0++(List.range x).flatMap (ql R.C I st.low)=L1 at cF;refine xZ (λy B H''=>∃(Y Z:Option V) (ts:List Tp),B=[some (.ref a),some (.int p),some (.int st.low),some (.ref l),some (.ref R.r),some (.int<|I+(x:Int)*st.low),Y,Z]/\Ly [b] H1 H'' l ts (L1++kv.take y)/\H'' b=some (.frz ob<|.dK<|az kv)/\ts.length<=8192*i+4096*x+y)
    ⟨_,_,ts,M,by simpa using cF,ai,()⟩ (λy B H'' _ w=>by obtain⟨_,_,_,_,_,hf,_⟩:=w;exact hf) (λy k v p' B H'' ei w np=>?_) (λB H'' w=>?_)
   .obtain⟨Y,Z,ts,G,c,hf,lt⟩:=w;subst G;obtain⟨n,rfl,en⟩:=uO ei;have yl:=(Q1.mp en).1;refine⟨p',_,M,PX.of ai,M,_,_,M,_,_,M,M,?_⟩;have c3:=c.same (ak (o:= .tup [kV (Sum.inl n),v]) np);have a2:=ak (o:= .tup [kV (Sum.inl n),v]) np _ _ hf;generalize upd H'' p' (.tup [kV (Sum.inl n),v])=H3 at c3 a2⊢;refine⟨_,M,.inl ⟨M,_,Fz.of c3.li⟩,_,M,n,M,_,M,_,M,(by show 3<=sizeLine;decide),λp2 a3=>?_⟩;have s4:Ds H3 (upd H3 p2<|.tup [.int (tz<|n%65536),kV (Sum.inl n),v]):=ak a3;have e4:upd H3 p2 (.tup [.int (tz<|n%65536),kV (Sum.inl n),v]) p2=some (.tup [.int (PV n),.int n,v]):=ai;generalize upd H3 p2 (.tup [.int (tz<|n%65536),kV (Sum.inl n),v])=H4 at s4 e4⊢;refine⟨l,_,_,M,M,s4 _ _ c3.li,bg (by rw[Q0];lia),?_⟩;refine⟨_,_,ts++ [⟨p2,n,v⟩],M,?_,?_,?_⟩
    .rw[FU en,<-QE];exact c3.add s4 a3 nl (λc hc=>by rw[Q7.mp hc];exact⟨_,O,_,a2⟩) e4
    .rw[ae bl];exact s4 _ _ a2
    .rw[Q8,Zw];lia
   .obtain⟨Y,Z,ts,G,c,hf,lt⟩:=w;subst G;rw[bz,QX]at c;rw[bz]at lt;refine⟨ob,hf,_,_,_,ts,M,?_,()⟩;rw[EF,<-QE,show ql R.C I st.low x=kv by unfold ql;rw[QJ,ek];rfl];rw[b1];exact c.thaw O bl
  .obtain⟨v5,Y,Z,ts,G,c,lt⟩:=w;subst G;exact⟨_,_,_,_,ts,M,by rw[Jk hR,ah];exact c,()⟩
 .obtain⟨v4,v5,Y,Z,ts,G,c,lt⟩:=w;subst G;rw[lx,QX]at c;have e:=c.eq;have sm:Ds H1 H':=λb o e=>c.sm b o (by simp) e;refine⟨_,M,q H' F1 l ts (sA.same sm) (fr.trans<|Fr.of_same sm) (sA.out nl) c.li (λe he=>⟨(c.tu e he).1,sA.out (c.tu e he).2⟩) (λk v=>?_) ?_⟩
  .rw[e];exact K4 hb z nd g0 g1 k v
  .rw[e];exact Gk hb z g0
def Bi {S p:Int} {a b:Nat} (R:Row S a b) (G:0<=p) (h1:p<65536) (hS:S<=65536):k%65536%S=tz p%S↔PV k/(65536/S)=p/(65536/S):=by
 have I:=R.wpos';have z:=AV R G h1;have k0:0<=k%65536:=QA _ (_);have O:k%65536<65536:=Qx _ (_);have e2:=AV R (p:=PV k) (ud _) (LL _);rw[show tz (PV k)=k%65536 from EW k0 O]at e2;have U:=R.mod0 (k%65536);have Z:=R.mod1 (k%65536);have Y:=R.mod0 (tz p);have y1:=R.mod1 (tz p);constructor
 .intro e;rw[e,z]at e2;have:=Int.eq_of_mul_eq_mul_right (Zs I) e2;lia
 .intro e;rw[e,<-z]at e2;exact Mv U () Y () ()
def MV (k:Int):0<=PV k/\PV k<65536:=⟨ud _,LL _⟩
def Bn {f:α->β}:∀{ts:List α} {l:List β},l.Perm (ts.map f)->∃us:List α,us.Perm ts/\us.map f=l:=by
 intro ts l h;generalize e:ts.map f=m at h
 induction h generalizing ts with
 |nil=>exact⟨[],by rw[List.map_eq_nil_iff.mp e],M⟩
 |cons x _ I=>
  cases ts with
  |nil=>cases e
  |cons y ts=>
   rw[QO]at e;injection e with e1 e2;obtain⟨us,h1,h2⟩:=I e2;exact⟨y::us,h1.cons y,by rw[QO,h2,e1]⟩
 |swap x y l=>
  cases ts with
  |nil=>cases e
  |cons a ts=>
   cases ts with
   |nil=>cases e
   |cons b ts=>
    rw[QO,QO]at e;injection e with e1 e2;injection e2 with e2 e3;exact⟨b::a::ts,List.Perm.swap a b ts,by rw[QO,QO,e1,e2,e3]⟩
 |trans _ _ z G=>
  obtain⟨us,h1,h2⟩:=G e;obtain⟨O,U,Y⟩:=z h2;exact⟨O,U.trans h1,Y⟩
def Ej (x y:Int×V):Prop:=PV x.1<PV y.1\/(PV x.1=PV y.1/\x.1<y.1)
def wI (K:WN) (t:P5):Sp:=λvs H Q _=>∃(a:Addr) (lo hi:Int) (F:Addr->Prop) (st:O8),vs=[.ref a,.int lo,.int hi]/\Pg K t H a F st/\st.kv.length<4096/\(∀p∈st.kv,∃i:Int,p.2= .int i)/\
 ∀(H':Hp) (F':Addr->Prop) (l:Addr) (ts:List Tp),Pg K t H' a F' st->Fr F F' H H'->¬F' l->(¬F l->H l=none)->H' l=some (.lst<|ts.map λe=>V.ref e.p)->(∀e∈ts,H' e.p=some (.tup [.int e.k,e.v])/\¬F' e.p)->
  (ts.map Tp.kv).Pairwise Ej->(∀k v,(k,v)∈ts.map Tp.kv↔(k,v)∈st.kv/\lo<=PV k/\PV k<hi)->Q (.ref l) H'
def Fq {x q:Int} (h:0<JK):x/JK=q↔q*JK<=x/\x<(q+1)*JK:=by
 constructor
 .rintro rfl;exact⟨Int.ediv_mul_le x<|Zs h,XW x h⟩
 .rintro ⟨h1,h2⟩;have a:=(Int.le_ediv_iff_mul_le h).mpr h1;have b:=(Int.ediv_lt_iff_lt_mul h).mpr h2;lia
def ky3 (H:Hp) (b:Addr):List Int:=match H b with
 |some (.tup [.int i,.int j,.int m])=> [i,j,m]
 |_=> []
def Ex {i j:Int} (h:H b=some (.tup [.int i,.int j,.int m])):ky3 H b=[i,j,m]:=by
 unfold ky3;rw[h]
def none_of {H2:Hp} (s:Ds H H2) (n:H2 p=none):H p=none:=by
 cases e:H p with
 |none=>rfl
 |some o=>rw[s _ _ e]at n;cases n
def sY (f:Fr F F' H H') (n:¬F b) (e:H' b=none):H b=none:=by
 cases q:H b with
 |none=>rfl
 |some o=>rw[(f _ _ n q).1]at e;cases e
def Fr.upd_new (f:Fr F F' H H') (n:¬F b->H b=none):Fr F F' H (upd H' b o):=λc u G e=>⟨by rw[ae λz=>by rw[z]at G e;rw[n G]at e;cases e];exact(f c u G e).1,(f c u G e).2⟩
def HQ (z:(ts.map λe=>V.ref e.p)[n]?=some v):∃e:Tp,v= .ref e.p/\ts[n]?=some e:=by
 rw[QP]at z;cases G:ts[n]? with
 |none=>rw[G]at z;cases z
 |some e=>rw[G]at z;cases z;exact⟨e,M,M⟩
structure RZ (K:WN) (t:P5) (H H':Hp) (a l:Addr) (F F':Addr->Prop) (st:O8) (ts:List Tp) (b0 c:Int):Prop where
 sl:Pg K t H' a F' st
 fr:Fr F F' H H'
 ol:¬F' l
 li:H' l=some (.lst<|ts.map λe=>V.ref e.p)
 tu:∀e∈ts,H' e.p=some (.tup [.int (PV e.k),.int e.k,e.v])/\¬F' e.p
 me:∀k v,(k,v)∈ts.map Tp.kv↔(k,v)∈st.kv/\b0<=PV k/\PV k<c
 nd:((ts.map Tp.kv).map (·.1)).Nodup
section
variable {l l1:Addr} {F1:Addr->Prop} {ts1:List Tp} {b0 c:Int}
def RZ.len (h:RZ K t H H' a l F F' st ts b0 c):ts.length<=st.kv.length:=by
 have:=gX h.nd (S:=st.kv.map (·.1)) λx hx=>by
  obtain⟨p,z,rfl⟩:=Qy.mp hx;exact Xq ((h.me p.1 p.2).mp z).1
 simpa using this
def RZ.move (h:RZ K t H H' a l F F' st ts b0 c) (s1:Pg K t H1 a F1 st) (z:Fr F' F1 H' H1):RZ K t H H1 a l F F1 st ts b0 c:=
 ⟨s1,h.fr.trans z,(z _ _ h.ol h.li).2,(z _ _ h.ol h.li).1,λe he=>z _ _ (h.tu e he).2 (h.tu e he).1,h.me,h.nd⟩
def RZ.step {r:Int} (h:RZ K t H H' a l F F' st ts b0 (r/JK*JK)) (nl:H l=none) (W0:0<JK) (hb:b0<=r/JK*JK) (s1:Pg K t H1 a F1 st) (Z:Fr F' F1 H' H1) (u1:∀e∈ts1,H1 e.p=some (.tup [.int (PV e.k),.int e.k,e.v])/\¬F1 e.p)
  (m1:∀k v,(k,v)∈ts1.map Tp.kv↔(k,v)∈st.kv/\PV k/JK=r/JK) (n1:((ts1.map Tp.kv).map (·.1)).Nodup):
  RZ K t H (upd H1 l<|.lst<|ts.map (λe=>V.ref e.p)++ts1.map (λe=>V.ref e.p)) a l F F1 st (ts++ts1) b0 ((r/JK+1)*JK):=by
 obtain⟨l1,G⟩:=Z _ _ h.ol h.li;have e1:(r/JK+1)*JK=r/JK*JK+JK:=by rw[Int.add_mul,Int.one_mul]
 have I:∀{p:Addr} {xs:List V},H1 p=some (.tup xs)->p≠l:=λ{p xs} e z=>by rw[z,l1]at e;cases e
 refine⟨s1.upd G,λb o n e=>?_,G,by rw[ai,QC],λe he=>?_,λk v=>?_,?_⟩
 .obtain⟨O,Y⟩:=(h.fr.trans Z) b o n e;exact⟨by rwa[ae λz=>by rw[z,nl]at e;cases e],Y⟩
 .rcases Q5.mp he with he|he
  .obtain⟨O,Y⟩:=h.tu e he;obtain⟨U,g4⟩:=Z _ _ Y O;exact⟨by rwa[ae (I U)],g4⟩
  .obtain⟨U,g4⟩:=u1 e he;exact⟨by rwa[ae (I U)],g4⟩
 .rw[QC,Q5,h.me,m1,Fq W0,e1];constructor
  .rintro (⟨x,y,z⟩|⟨x,y,z⟩)
   .exact⟨x,y,()⟩
   .exact⟨x,(),z⟩
  .rintro ⟨x,y,z⟩;by_cases d:PV k<r/JK*JK
   .exact .inl ⟨x,y,d⟩
   .exact .inr ⟨x,(),z⟩
 .rw[QC,QC];refine VH.mpr ⟨h.nd,n1,λx hx y hy e=>?_⟩;obtain⟨p,hp,rfl⟩:=Qy.mp hx;obtain⟨q,hq,rfl⟩:=Qy.mp hy;have O:=(h.me p.1 p.2).mp hp;have Y:=(Fq W0).mp ((m1 q.1 q.2).mp hq).2;rw[e]at O;lia
end
def Oe {fs us:List Tp} (up:us.Perm fs) (z:∀e∈fs,∃i:Int,H e.p=some (.tup [.int (PV e.k),.int e.k,.int i])) (nd:(fs.map (·.k)).Nodup) (pw:(us.map (·.p)).Pairwise (λa b=>HT.lexLt (ky3 H b) (ky3 H a)=false)):(us.map Tp.kv).Pairwise Ej:=by
 have I:us.Pairwise (λe f=>e.k≠f.k):=(up.pairwise_iff<|λh=>h.symm).mpr (Zm.mp nd);refine Zm.mpr<|((Zm.mp pw).and I).imp_of_mem λ{e f} he hf h=>?_;obtain⟨i,te⟩:=z e (up.mem_iff.mp he);obtain⟨j,O⟩:=z f (up.mem_iff.mp hf);obtain⟨h1,h2⟩:=h;rw[Ex te,Ex O,HT.lexLt_cons,HT.lexLt_cons]at h1;show PV e.k<PV f.k\/(PV e.k=PV f.k/\e.k<f.k);by_cases G:PV f.k=PV e.k
 .rw[W7 G,W6 (Ne.symm h2)]at h1;have:=Wu h1;lia
 .rw[W6 G]at h1;have:=Wu h1;lia
def xz:Dr P w K mg base P1 4 t.qG t.kq ["self","low","high"] (wI K t):=by
 obtain⟨a4,O⟩:=T.g_PLACES;refine T.Kf.okl w5 λs H vs Q E hr h _=>?_;intro X;obtain⟨a,lo,hi,F,st,rfl,hA,b2,hint,q⟩:=h;refine aj (P7 3<|cn ag)
   (aj (P7 4<|aI (p6 M) {_} T.Hm BS (ac Kc<|ac af ag))
   (aj (P7 5<|aI (pZ M) {_} T.Ci u7 (ac M2<|ac (db (v:= .int 65536) {_} O ⟨_,M⟩) ag))
   (bW (λx=>(oz Wm (aw eD Pa Qi<|ay _)
    x)) ?_)))
 refine aj (aM<|dE QN Xv Xw pT PB<|ac (aQ Ca T.aL T.Fc (rB T) hr.mo T.FC .nil ar<|ac Pa ag) ag)
   (aC (P7 4<|aQ Ca T.aL T.zG (oG T) hr.mo T.zM .nil ar<|ac Pa ag) ?_)
 intros
 refine aj (P7 6<|aI zK {_} T.Hl Az (ac (sI M (P6.of (M':=["one"]) (N:=["self","low","high","found","reached","end","inside"]) (N':=["self","low","high","found","reached","end","inside"]) (dsc:=al eC) M M ∅) (dO PB) (λ_ _ _ _ _=>(HW oC eD M2 (aP (BH K M) Ca af<|λ_ _=>M) PB))<|λ_ _ _ _ _=>Ca) ag))
   (aC (aD<|pS M (P6.of (M':=["one"]) (N:=["self","low","high","found","reached","end","inside"]) (N':=["self","low","high","found","reached","end","inside"]) (dsc:=al eC) M M ∅) (dO RT)<|λ_ _ _ _ _=>(bQ<|ac (aP (BH K M) Ca af<|λ_ _=>M)<|ac (aP (BH K M) Ca af<|λ_ _=>M) ag)) ?_)
 intros
 have z:PJ st:=let⟨_,_,_,_,_,z⟩:=hA;z
 obtain⟨s4,s5⟩:=b4 (kh z);obtain⟨x,y,R⟩:=Bl (kh z);have W0:=R.wpos';have a3:∀{p k:Int},0<=p->p<65536->(k%65536%st.low=tz p%st.low↔PV k/(65536/st.low)=p/(65536/st.low)):=λh0 h1=>Bi R h0 h1 ();refine⟨QF _,λl nl=>?_⟩;refine⟨_,M,_,_,M,_,M,_,_,M,?_⟩;have r1:0<=(if(0:Int)>lo then 0 else lo)/\lo<=(if(0:Int)>lo then 0 else lo)/\((if(0:Int)>lo then 0 else lo)=0\/(if(0:Int)>lo then 0 else lo)=lo):=by split<;>lia
 have r2:(if(65536:Int)<hi then 65536 else hi)<=65536/\((if(65536:Int)<hi then 65536 else hi)=65536\/(if(65536:Int)<hi then 65536 else hi)=hi):=by split<;>lia
 dsimp only;generalize (if(0:Int)>lo then 0 else lo)=r0 at r1⊢;generalize (if(65536:Int)<hi then 65536 else hi)=e0 at r2⊢;generalize eW:65536/st.low=JK at W0 a3;have I0:RZ K t H (upd H l<|.lst []) a l F F st [] (r0/JK*JK) (r0/JK*JK):=⟨hA.new nl,Fr.of_same<|ak nl,hA.out nl,ai,(λe he=>by cases he),(λk v=>⟨λh=>by(cases h),λh=>()⟩),Zx⟩;generalize upd H l (.lst [])=H1 at I0⊢;refine⟨λm B H'=>∃(r:Int) (F':Addr->Prop) (ts:List Tp),m=(e0-r).toNat/\B=[some (.ref a),some (.int lo),some (.int hi),some (.ref l),some (.int r),some (.int e0),none]/\RZ K t H H' a l F F' st ts (r0/JK*JK) (r/JK*JK)/\r0<=r/\(r=r0\/r/JK*JK=r),⟨_,r0,F,[],M,M,I0,Xa _,.inl M⟩,λm B H' w=>?_⟩;obtain⟨r,F',ts,rfl,b3,I,rr,rm⟩:=w;subst b3;refine⟨_,M,_,M,_,_,M,M,_,M,bP (λc=>?_)<|λc=>?_⟩
 .have c:=Wd c;obtain⟨dx,fs,ah,hm⟩:=I.sl.ins;refine⟨λan H2=>∃(r':Int) (F2:Addr->Prop) (a5:List Tp),r<r'/\an=[some (.ref a),some (.int lo),some (.int hi),some (.ref l),some (.int r'),some (.int e0),none]/\RZ K t H H2 a l F F2 st a5 (r0/JK*JK) (r'/JK*JK)/\r'/JK*JK=r',λan H2 w=>?_,?_⟩
  .obtain⟨r',F2,a5,lt,e,I2,g⟩:=w;exact⟨_,(),r',F2,a5,M,e,I2,(),.inr g⟩
  refine⟨_,M,.inl ⟨M,_,Fz.of I.li⟩,_,M,a,dx,fs,M,ah,hm _ ∅,_,M,a,r,F',st,M,I.sl,(),(),b2,λH2 F2 l1 ts1 s2 f2 o2 e2 u2 m2 n2=>?_⟩;have b6:r0/JK*JK<=r/JK*JK:=VO (Int.ediv_le_ediv W0 rr) ();have I2:=I.step nl W0 b6 s2 f2 u2 (λk v=>by rw[m2,a3 () ()]) n2;have ln:=I2.len;rw[Q8]at ln;refine⟨l,l1,_,_,M,M,(f2 _ _ I.ol I.li).1,e2,by rw[Q0,Q0];exact Zl<|bg (),?_⟩;generalize upd H2 l (.lst<|ts.map (λe=>V.ref e.p)++ts1.map (λe=>V.ref e.p))=H3 at I2⊢;obtain⟨b7,b8,aa,b9⟩:=I2.sl.ins;refine⟨_,M,a,b7,b8,M,aa,b9 _ ∅,_,M,a,r,F2,st,M,I2.sl,(),(),λH4 F4 s4 f4=>?_⟩;rw[eW];have ed:(r/JK+1)*JK/JK*JK=(r/JK+1)*JK:=by rw[Int.mul_ediv_cancel _ (Zs W0)]
  exact⟨(r/JK+1)*JK,F4,ts++ts1,XW r W0,M,by rw[ed];exact I2.move s4 f4,ed⟩
 .have c:¬r<e0:=λy=>c (Wf y);have hl:=I.li;have ln:=I.len;refine⟨_,M,l,M,⟨_,Fz.of hl⟩,λD hD=>?_⟩;refine mS (K:=K) (a:=l) (xs:=ts.map λe=>V.ref e.p) (λn ys H3=>H3=upd H' D (.lst ys)/\ys=((ts.take n).filter λe=>decide (lo<=PV e.k)&&decide (PV e.k<hi)).map (λe=>V.ref e.p)) ⟨M,M⟩
   (λn ys H3 _ w=>Fz.of<|by rwa[w.1,ae (am hl hD)]) (λn v ys H3 hv w U=>?_) (λys H3 w U=>?_)
  .obtain⟨e1,e2⟩:=w;have hn:=(Q1.mp hv).1;obtain⟨e,rfl,Y⟩:=HQ hv;have te:=(I.tu e<|Q2 Y).1;have ba:H3 e.p=some (.tup [.int (PV e.k),.int e.k,e.v]):=by rwa[e1,ae (am te hD)]
   have yl:ys.length<=ts.length:=by
    rw[e2,Q0];have h1:=QK (λe:Tp=>decide (lo<=PV e.k)&&decide (PV e.k<hi)) (ts.take n);have h2:(ts.take n).length<=ts.length:=by rw[Q6];lia
    lia
   refine⟨_,M,_,M,e.p,_,_,_,M,M,PX.of ba,M,_,_,M,M,_,M,?_⟩;by_cases c1:lo<=PV e.k
   .refine nN c1 ⟨_,M,_,_,M,M,_,M,?_⟩;by_cases c2:PV e.k<hi
    .refine nN c2 ⟨_,M,PY.mk hn U (bg ()) ⟨by rw[e1,eE],?_⟩⟩;rw[e2,QL,Y,Z0,QC];simp[c1,c2]
    .refine a6 c2<|Pw.mk hn U ⟨e1,?_⟩;rw[e2,QL,Y,Z0];simp[c1,c2]
   .refine a6 c1 ⟨_,M,cq<|Pw.mk hn U ⟨e1,?_⟩⟩;rw[e2,QL,Y,Z0];simp[c1]
  .obtain⟨e1,e2⟩:=w;rw[Q0,QX]at e2;have s3:Ds H' H3:=by rw[e1];exact ak hD
   have Z:(ts.filter λe=>decide (lo<=PV e.k)&&decide (PV e.k<hi)).Sublist ts:=Xr;have fm:∀e,e∈(ts.filter λe=>decide (lo<=PV e.k)&&decide (PV e.k<hi))↔e∈ts/\lo<=PV e.k/\PV e.k<hi:=λe=>by
    rw[QS,Zb,Wn,Wn]
   generalize (ts.filter λe=>decide (lo<=PV e.k)&&decide (PV e.k<hi))=fs at e2 Z fm;have ax:∀e∈fs,(e.k,e.v)∈st.kv:=λe he=>((I.me e.k e.v).mp<|Xq (f:=Tp.kv) ((fm e).mp he).1).1;have t3:∀e∈fs,∃i:Int,e.v= .int i/\H3 e.p=some (.tup [.int (PV e.k),.int e.k,.int i]):=λe he=>by
    obtain⟨i,ei⟩:=hint _ (ax e he);have te:=s3 _ _ (I.tu e ((fm e).mp he).1).1;have ei:e.v= .int i:=ei;rw[ei]at te;exact⟨i,ei,te⟩
   refine⟨D,fs.map (·.p),ky3 H3,M,Fz.of (by rw[U,e2,QR];rfl),λb hb=>?_,λl2 bs bb pm pw=>?_⟩
   .obtain⟨e,he,rfl⟩:=Qy.mp hb;obtain⟨i,_,te⟩:=t3 e he;exact⟨_,_,_,te,Ex te⟩
   obtain⟨us,up,ue⟩:=Bn pm;subst ue;have um:∀e,e∈us↔e∈fs:=λe=>up.mem_iff;have nk:(fs.map (·.k)).Nodup:=by
    have h0:=I.nd;rw[QR]at h0;exact h0.sublist<|Z.map _
   have a1:=Oe up (λe he=>(t3 e he).imp λ_ h=>h.2) nk pw;have ab:∀k v,(k,v)∈us.map Tp.kv↔(k,v)∈st.kv/\lo<=PV k/\PV k<hi:=λk v=>by
    constructor
    .intro h;obtain⟨e,he,Y⟩:=Qy.mp h;cases Y;have he:=(um e).mp he;exact⟨ax e he,((fm e).mp he).2⟩
    .rintro ⟨h1,h2,h3⟩;have pb:=MV k;have b1:=Int.ediv_mul_le r0 (Zs W0);have h4:(k,v)∈ts.map Tp.kv:=(I.me k v).mpr ⟨h1,(),()⟩;obtain⟨e,he,Y⟩:=Qy.mp h4;cases Y;exact Qy.mpr ⟨e,(um e).mpr<|(fm e).mpr ⟨he,h2,h3⟩,M⟩
   have ul:us.length<=ts.length:=by rw[up.length_eq];exact Z.length_le
   have e8:upd H3 l2 (.lst ((us.map (·.p)).map V.ref)) l2=some (.lst<|us.map λe=>V.ref e.p):=by rw[ai,QR];rfl
   have s8:Ds H' (upd H3 l2 (.lst ((us.map (·.p)).map V.ref))):=s3.trans (ak bb);have t8:∀e∈us,upd H3 l2 (.lst ((us.map (·.p)).map V.ref)) e.p=some (.tup [.int (PV e.k),.int e.k,e.v]):=λe he=>s8 _ _ (I.tu e ((fm e).mp<|(um e).mp he).1).1;generalize upd H3 l2 (.lst ((us.map (·.p)).map V.ref))=H8 at e8 s8 t8⊢;refine⟨_,M,l2,M,⟨_,Fz.of e8⟩,λD2 a2=>?_⟩;refine u0 (K:=K) (a:=l2) (xs:=us.map λe=>V.ref e.p) (λn ys H9=>Ds H8 H9/\∃ws:List Tp,ys=ws.map (λe=>V.ref e.p)/\ws.map Tp.kv=(us.take n).map Tp.kv/\∀e∈ws,e.p≠D2/\H8 e.p=none/\H9 e.p=some (.tup [.int e.k,e.v]))
    ⟨ak a2,[],M,M,λe he=>by cases he⟩ (λn ys H9 _ w=>Fz.of<|w.1 _ _ e8) (λn v ys H9 hv w G=>?_) (λys H9 w G=>?_)
   .obtain⟨s9,ws,ey,ek,ew⟩:=w;have hn:=(Q1.mp hv).1;obtain⟨e,rfl,Y⟩:=HQ hv;have te:=s9 _ _ (t8 e<|Q2 Y);refine⟨_,M,e.p,_,_,_,M,M,PX.of te,M,_,M,e.p,_,_,_,M,M,PX.of te,M,(by show 2<=sizeLine;decide),λp2 a0=>?_⟩;have pd:p2≠D2:=λz=>by rw[z,G]at a0;cases a0
    have wl:ws.length<=us.length:=by
     have:=Wr List.length ek;rw[Q0,Q0,Q6]at this;lia
    refine PY.mk hn (by rwa[ae pd.symm]) (bg<|by rw[ey,Q0];lia) ⟨bZ (s9.trans<|ak a0) a2,ws++ [⟨p2,e.k,e.v⟩],by rw[ey,QC];rfl,?_,λf hf=>?_⟩
    .rw[QC,ek,QL,Y,QC];rfl
    .rcases Q5.mp hf with hf|hf
     .obtain⟨g1,g2,g3⟩:=ew f hf;exact⟨g1,g2,by rw[ae g1];exact ak a0 _ _ g3⟩
     .rw[Q7.mp hf];exact⟨pd,none_of s9 a0,by rw[ae pd];exact ai⟩
   .obtain⟨s9,ws,ey,ek,ew⟩:=w;rw[Q0,QX]at ek;have sm:=s8.trans s9;refine q H9 F' D2 ws (I.sl.same sm) (I.fr.trans<|Fr.of_same sm) (I.sl.out<|none_of s8 a2) (λnF=>sY (I.fr.trans<|Fr.of_same s8) nF a2) (by rw[G,ey]) (λe he=>?_) (by rwa[ek]) (by rwa[ek]);obtain⟨_,g2,g3⟩:=ew e he;exact⟨g3,I.sl.out<|none_of s8 g2⟩
def gQ (e:A[j]?=some c):R9 (A.map V.ref) (j:Int)=some (.ref c):=by
 refine wz ?_;rw[QP,e];rfl
def FF (ne:x≠[]) (e:x[x.length-1]?=some m):R9 (x.map V.int) (-1)=some (.int m):=by
 have hl:=ZE.mpr ne;unfold R9 RM;rw[Q0,W6 (_),W7 ()];show(x.map V.int)[((-1:Int)+(x.length:Int)).toNat]?=_;have:((-1:Int)+(x.length:Int)).toNat=x.length-1:=();rw[this,QP,e];rfl
def Fj (h:i<A.length):RM (A.map V.ref).length (i:Int)=some i:=by
 unfold RM;rw[W7 (),W7 (by rw[Q0];lia)];rfl
def rJ:∀(A:List Addr) (i:Nat),(A.map V.ref).eraseIdx i=(A.eraseIdx i).map V.ref
 | [],_=>rfl
 |_::_,0=>rfl
 |a::r,i+1=>by
  show V.ref a::(r.map V.ref).eraseIdx i=V.ref a::(r.eraseIdx i).map V.ref;rw[rJ r i]
def Ar:∀(ls:List (List Int)) (i:Nat) (y:List Int),(ls.set i y).eraseIdx i=ls.eraseIdx i
 | [],_,_=>rfl
 |_::_,0,_=>rfl
 |x::r,i+1,y=>by
  show x::(r.set i y).eraseIdx i=x::r.eraseIdx i;rw[Ar r i y]
def Mn (a:Addr) (k:Int) (ls:List (List Int)) (H:Hp):Nat->St->Hp->Prop:=λm B H'=>∃(lo hi:Nat) (v4:Option V),m=hi-lo/\H'=H/\B=[some (.ref a),some (.int k),some (.int (lo:Int)),some (.int (hi:Int)),v4]/\lo<=hi/\hi<=ls.length/\
 (∀(j:Nat) (x:List Int),j<lo->ls[j]?=some x->∀y∈x,y<k)/\∀(j:Nat) (x:List Int),hi<=j->ls[j]?=some x->∃y∈x,k<=y
def qU (t:P5):Sp:=λvs H Q _=>∃(a:Addr) (k:Int) (L:Addr) (A:List Addr) (ls:List (List Int)),vs=[.ref a,.int k]/\Px t H a L A ls/\(∀l∈ls,l≠[])/\du ls.flatten/\∀i:Nat,Pd ls k i->Q (.int (i:Int)) H
def b5:Dr P w K mg base P1 1 t.jO t.fS ["self","key"] (qU t):=by
 refine T.FJ.okl q9 λs H vs Q E hr h _=>?_;intro X;obtain⟨a,k,L,A,ls,rfl,hb,ne,up,q⟩:=h;refine aj (P7 2 af)
   (aj (P7 3<|aI aH {_} T.bU bp (ac (au Ca M) ag))
   (bW (λx=>(oz Wm (aw eD M2 PB<|ay _)
    x)) ?_))
 refine aj (P7 4<|ao aR (ao bF M2 PB) af)
   (aC (aO (aw eD (aP aW (aP aW (au Ca M) Pa<|λ_ _=>M) (Ia DU af)<|λ_ _=>M) Kc<|ay _)
    (aB<|P7 2<|ao bF Pa af)
    (aB<|P7 3 Pa)) ?_)
 intros
 refine aC (aD M2) ?_
 intros
 obtain⟨dx,ho⟩:=hb.obj;have lA:((A.map V.ref).length:Int)=(ls.length:Int):=by rw[Q0,hb.len]
 refine⟨_,M,a,_,dx,_,_,M,ho,T.aN,T.aG,dj,L,_,M,.inl<|Fz.of hb.lst,?_⟩;dsimp only;rw[lA];refine⟨Mn a k ls H,⟨_,0,ls.length,none,M,M,M,QF _,Q4 _,λj x h=>Wb h (),λj x h e=>?_⟩,?_⟩
 .have:=(Q1.mp e).1;lia
 rintro m B H' ⟨lo,hi,v4,rfl,rfl,rfl,h1,h2,h3,h4⟩;refine⟨_,M,_,M,_,_,M,M,_,M,bP (λc=>?_)<|λc=>?_⟩
 .have c:lo<hi:=by have:=Wd c;lia
  refine⟨λY H''=>∃m',m'<hi-lo/\Mn a k ls H' m' Y H'',λ_ _ h=>h,?_⟩;refine⟨_,M,_,M,_,_,M,M,_,_,M,M,⟨(_),(_)⟩,?_⟩;obtain⟨G,em,m1,m2⟩:∃G:Nat,((lo:Int)+(hi:Int))/2=(G:Int)/\lo<=G/\G<hi:=⟨(lo+hi)/2,(),(),()⟩;dsimp only;rw[em];have hm:G<ls.length:=();have ex:ls[G]?=some ls[G]:=Q3 hm;obtain⟨b,eb,Z⟩:=hb.at ex;have I:=ne _ (ZV hm);obtain⟨g,eg,gm,O⟩:=IP (KG up ex) I;refine⟨_,M,a,_,dx,_,_,M,ho,T.aN,T.aG,dj,_,M,L,_,_,_,M,M,Fz.of hb.lst,gQ eb,_,M,b,_,_,_,M,M,Fz.of Z,FF I eg,_,M,_,_,M,M,_,M,bP (λU=>?_)<|λU=>?_⟩
  .have U:=Wd U;refine⟨_,M,_,_,M,M,hi-(G+1),(),G+1,hi,_,M,M,M,(),h2,λj x hj e y hy=>?_,h4⟩;rcases(show j<G\/j=G by lia)with h|h
   .have:=zZ up e ex h y hy g gm;lia
   .subst h;rw[ex]at e;cases e;have:=O y hy;lia
  .have U:¬g<k:=λz=>U (Wf z);refine⟨_,M,G-lo,(),lo,G,_,M,M,M,(),(),h3,λj x hj e=>?_⟩;rcases(show j=G\/G<j by lia)with h|h
   .subst h;rw[ex]at e;cases e;exact⟨g,gm,()⟩
   .obtain⟨y,hy⟩:=List.exists_mem_of_ne_nil x (ne x<|Q2 e);have:=zZ up ex e h g gm y hy;exact⟨y,hy,()⟩
 .have c:¬lo<hi:=λz=>c (Wf ());have:lo=hi:=();subst this;exact⟨_,M,q lo ⟨h2,h3,λx e=>h4 lo x (Q4 _) e⟩⟩
def Db {k:Int}:∀{x:List Int},inV (.int k) (x.map V.int)=decide (k∈x)
 | []=>rfl
 |a::r=>by
  have G:=Db (k:=k) (x:=r);unfold inV at G⊢;rw[QO,XM,G];have:RQ (.int a) (.int k)=decide (k=a):=by
   show(_:Bool)=_;by_cases c:a=k
   .subst c;simp[RQ]
   .have I:¬k=a:=λz=>c z.symm;simp[RQ,c,I]
  rw[this];by_cases c:k=a
  .simp[c]
  .simp[c]
def GN:(x.map V.int).all tw=true:=by
 rw[List.all_map];exact Xe.mpr λ_ _=>rfl
def oK:Dr P w K mg base P1 2 t.qM t.kB ["self","key"] (wO K t):=by
 refine T.Kl.okl xg λs H vs Q E hr h _=>?_;intro X;obtain⟨a,k,F,ks,rfl,I,q⟩:=h;refine aj (P7 2<|aQ Ca T.aN T.dh (b5 T) hr.mo T.dt .nil ar<|ac Kc ag)
   (aC (aD<|gA (bG eD M2 (aI aH {_} T.bU bp (ac (au Ca M) ag))<|ay _)<|dD<|bG Gh Kc (aP aW (au Ca M) M2<|λ_ _=>M) M) ?_)
 intros
 obtain⟨dx,fs,hi,hm⟩:=I.ins;have q:=q H F I Fr.refl;obtain⟨L,A,ls,hb,ok,U,hF⟩:=I;obtain⟨G,Y⟩:=hb.obj;have lA:((A.map V.ref).length:Int)=(ls.length:Int):=by rw[Q0,hb.len]
 refine⟨_,M,a,dx,fs,M,hi,hm _ ∅,_,M,a,k,L,A,ls,M,hb,ok.ne,ok.up,λi Z=>?_⟩;refine⟨_,M,_,M,a,_,G,_,_,M,Y,T.aN,T.aG,dj,L,_,M,.inl<|Fz.of hb.lst,_,_,M,M,_,M,bP (λc=>?_)<|λc=>?_⟩
 .have c:=Wd c;have hi:i<ls.length:=();have ex:ls[i]?=some ls[i]:=Q3 hi;obtain⟨b,eb,O⟩:=hb.at ex;refine⟨_,M,_,M,a,_,G,_,_,M,Y,T.aN,T.aG,dj,_,M,L,_,_,_,M,M,Fz.of hb.lst,gQ eb,b,_,M,.inl<|Fz.of O,M,GN,?_⟩;show Q (.bl<|inV (.int k)<|ls[i].map V.int) H;rw[Db];have:k∈ls[i]↔k∈ks:=by
   rw[<-U,Z.mem ok];constructor
   .exact λz=>⟨_,ex,z⟩
   .rintro ⟨x,e,z⟩;rw[ex]at e;cases e;exact z
  rw[decide_eq_decide.mpr this];exact q
 .have c:¬(i:Int)<((A.map V.ref).length:Int):=λz=>c (Wf z);have:k∉ks:=λz=>by
   rw[<-U,Z.mem ok]at z;obtain⟨x,e,_⟩:=z;have:=(Q1.mp e).1;lia
  rw[Wj this]at q;exact q
def vX:Dr P w K mg base P1 1 t.pH t.jy ["self"] (vC K t):=by
 refine T.JN.okl vN λs H vs Q E Y h _=>?_;intro X;obtain⟨a,dx,rfl,ha,hd,q⟩:=h;refine⟨_,(aB<|bh Ca (cn ag) M)
  ,?_⟩
 refine⟨QF _,λL G=>⟨_,M,a,_,dx,[],M,(by rwa[ae (am ha G)]),T.aN,T.aG,(by show 0<1000;decide),?_⟩⟩;have U:=am ha G;refine q _ (Ql a L []) ⟨L,[],[],⟨⟨dx,ai⟩,by rw[ae U.symm];exact ai,M,(λj b l e=>by simp at e),(λi j b e=>by simp at e),(λz=>by cases z)⟩,PQ.nil,M,λb=>Iff.rfl⟩ λb o n w=>?_;have I:b≠a:=λy=>n (.inl y);have O:b≠L:=am w G;refine⟨by rwa[ae I,ae O],λy=>?_⟩;rcases y with y|y|y
 .exact I y
 .exact O y
 .cases y
def nS (t:P5):Sp:=λvs H Q _=>∃(a L:Addr) (A:List Addr) (ls:List (List Int)) (i:Nat) (x:List Int),vs=[.ref a,.int (i:Int)]/\Px t H a L A ls/\ls[i]?=some x/\x.length=9/\ls.length<5000/\
 ∀H' A',Px t H' a L A' ((ls.set i<|x.take 4).take (i+1)++x.drop 4::(ls.set i<|x.take 4).drop (i+1))->Fr (Ql a L A) (Ql a L A') H H'->Q .non H'
def oJ:Dr P w K mg base P1 1 t.iF t.d6 ["self","at"] (nS t):=by
 refine T.DM.okl nY λs H vs Q E hr h _=>?_;intro X;obtain⟨a,L,A,ls,i,x,rfl,hb,ex,lx,ll,q⟩:=h;refine aj (P7 2<|aP aW (au Ca M) Kc<|λ_ _=>M)
   (aj (P7 3<|ao aR (aI aH {_} T.bU bp (ac M2 ag)) af)
   (aj (xq (dC fu M2 iJ<|dN PB)<|Ek (au Ca M) Kc wV)
   (aC (aM<|dE QN PySem.F.slot_list_insert PySem.F.type_list_insert Af (au Ca M)<|ac (ao bF Kc af)<|ac (dC fu M2 (dN PB) iJ) ag) ?_)))
 intros
 obtain⟨dx,ho⟩:=hb.obj;obtain⟨c,ec,hc⟩:=hb.at ex;have b2:i<A.length:=(Q1.mp ec).1;have a0:((x.map V.int).length:Int)=9:=by rw[Q0,lx];rfl
 refine⟨_,M,a,_,dx,_,_,M,ho,T.aN,T.aG,dj,_,M,L,_,_,_,M,M,Fz.of hb.lst,gQ ec,?_⟩;refine⟨_,M,c,_,M,.inl<|Fz.of hc,_,_,M,M,⟨(_),(_)⟩,?_⟩;dsimp only;rw[a0];have a1:qh (x.map V.int) none (some<|9/2)=(x.take 4).map V.int:=by
  unfold qh;rw[Q0,lx];show((x.map V.int).drop 0).take (4-0)=_;rw[ZM,ZJ]
 have a2:qh (x.map V.int) (some<|9/2) none=(x.drop 4).map V.int:=by
  unfold qh;rw[Q0,lx];show((x.map V.int).drop 4).take (9-4)=_;rw[XN,QT (by rw[Zf,Q0,lx];exact Q4 _)]
 refine⟨_,M,_,M,_,M,c,_,M,Fz.of hc,λG O=>?_⟩;rw[a1];have s1:Ds H (upd H G<|.lst<|(x.take 4).map V.int):=ak O;have hb1:=hb.same s1;have a3:upd H G (.lst<|(x.take 4).map V.int) G=some (.lst<|(x.take 4).map V.int):=ai;have b3:=hb.out O;have a4:=s1 _ _ ho;have a5:=s1 _ _ hc;have aa:=s1 _ _ hb.lst;generalize upd H G (.lst<|(x.take 4).map V.int)=H1 at s1 hb1 a3 a4 a5 aa⊢;refine⟨_,M,a,_,dx,_,_,M,a4,T.aN,T.aG,dj,_,M,L,_,_,_,M,M,aa,Fj b2,?_⟩;have es:(A.map V.ref).set i (V.ref G)=(A.set i G).map V.ref:=by rw[List.map_set]
 rw[es];have I:=hb1.swap ec ex a3 b3;have cL:c≠L:=λz=>hb.nL (z▸Q2 ec);have ab:upd H1 L (.lst<|(A.set i G).map V.ref) c=some (.lst<|x.map V.int):=by rwa[ae cL]
 obtain⟨b6,ah⟩:=I.obj;have U:=I.lst;have f2:Fr (Ql a L A) (Ql a L<|A.set i G) H (upd H1 L<|.lst<|(A.set i G).map V.ref):=λb o n w=>by
  have w1:=s1 _ _ w;refine⟨by rwa[ae (λy=>n<|.inr<|.inl y)],λy=>?_⟩;rcases y with y|y|y
  .exact n<|.inl y
  .exact n<|.inr (.inl y)
  .rcases List.mem_or_eq_of_mem_set y with y|y
   .exact n<|.inr (.inr y)
   .rw[y,O]at w;cases w
 generalize upd H1 L (.lst<|(A.set i G).map V.ref)=H2 at I ab ah U f2⊢;refine⟨_,M,a,_,b6,_,_,M,ah,T.aN,T.aG,dj,.inl ⟨M,_,Fz.of U⟩,_,M,_,_,M,M,_,M,_,M,_,M,c,_,M,Fz.of ab,λZ Y=>?_⟩;rw[a2];have s3:Ds H2 (upd H2 Z<|.lst<|(x.drop 4).map V.int):=ak Y;have an:=I.same s3;have ax:upd H2 Z (.lst<|(x.drop 4).map V.int) Z=some (.lst<|(x.drop 4).map V.int):=ai;have b7:=I.out Y;have b1:=s3 _ _ U;generalize upd H2 Z (.lst<|(x.drop 4).map V.int)=H3 at s3 an ax b1⊢;have lS:(A.set i G).length=A.length:=Zk;refine⟨L,_,_,_,M,M,b1,(),(by rw[Q0,lS];lia),(by rw[Q0,lS,hb.len];exact bg ()),?_⟩;have ei:((i:Int)+1).toNat=i+1:=();have b8:=an.insert (i:=i+1) (by rw[lS];lia) ax b7;rw[ei];have em:((A.set i G).map V.ref).take (i+1)++V.ref Z::((A.set i G).map V.ref).drop (i+1)=((A.set i G).take (i+1)++Z::(A.set i G).drop (i+1)).map V.ref:=by
  rw[QC,QO,ZJ,XN]
 rw[em];refine q _ _ b8<|f2.trans (λb o n w=>?_);have w3:=s3 _ _ w;refine⟨by rwa[ae (λy=>n<|.inr<|.inl y)],λy=>?_⟩;rcases y with y|y|y
 .exact n<|.inl y
 .exact n<|.inr (.inl y)
 .rcases Q5.mp y with y|y
  .exact n<|.inr (.inr<|Zd y)
  .rcases QH.mp y with y|y
   .rw[y,Y]at w;cases w
   .exact n<|.inr (.inr<|XU y)
def Px.insM (h:Px t H a L A ls):∃dx fs,H a=some (.ins t.bI dx fs)/\∀m,m≠("leaves":Str)->fs.lookup m=none:=by
 obtain⟨dx,z⟩:=h.obj;exact⟨dx,_,z,λm G=>Ma G⟩
def xE:Dr P w K mg base P1 3 t.qN t.kC ["self","key"] (wP K t):=by
 obtain⟨I,G⟩:=T.g_MOST_IN_LEAF;refine T.Km.okl xh λs H vs Q E hr h _=>?_;intro X;obtain⟨a,k,F,ks,rfl,hA,hl,q1,q2⟩:=h;refine aj (aO (bV<|aQ Ca T.aN T.zI (oK T) hr.mo T.zO .nil ar<|ac Kc ag)
    (aB eI)
    aE)
   (bW (λx=>aO (aw bT (aI aH {_} T.bU bp (ac (au Ca M) ag)) af<|ay _) x aE) ?_)
 refine aj (aM<|dE QN Zy Zz eY (au Ca M)<|ac (cn<|ac Kc ag) ag)
   (aC pR ?_)
 intros
 refine aj (P7 2<|aI (pZ M) {_} T.Ci u7 (ac (aQ Ca T.aN T.dh (b5 T) hr.mo T.dt .nil ar<|ac Kc ag)<|ac (ao ji (aI aH {_} T.bU bp (ac (au Ca M) ag)) af) ag))
   (aj (P7 3<|aP aW (au Ca M) M2<|λ_ _=>M)
   (aj (aM<|dE QN PySem.F.slot_list_insert PySem.F.type_list_insert Af PB<|ac (aI aH {_} T.bU bp (ac (sI M (P6.of (M':=["one"]) (N:=["self","key","at","leaf"]) (N':=["self","key","at","leaf"]) (dsc:=al gO) M M ∅) (dO PB) (λ_ _ _ _ _=>(aw eD Ca M2<|ay _))<|λ_ _ _ _ _=>Ca) ag))<|ac Kc ag)
   (aC (aO (aw sJ (aI aH {_} T.bU bp (ac PB ag)) (db (v:= .int 8) {_} G ⟨_,M⟩)<|ay _)
    (aB<|aM<|aQ Ca T.aN T.DG (oJ T) hr.mo T.DK .nil ar<|ac M2 ag)
    aE) ?_)))
 intros
 obtain⟨dx,fs,hi,hm⟩:=hA.ins;refine⟨_,M,a,dx,fs,M,hi,hm _ ∅,_,M,a,k,F,ks,M,hA,λH0 F0 a5 a0=>?_⟩;by_cases ck:k∈ks
 .rw[Wf ck];refine⟨_,M,cP ?_⟩;exact(q2 ck).elim
 rw[Wj ck];refine⟨_,M,cq ?_⟩;have q:=q1 ck;obtain⟨L,A,ls,hb,ok,ef,hF⟩:=a5;obtain⟨O,ho⟩:=hb.obj;have lA:((A.map V.ref).length:Int)=(ls.length:Int):=by rw[Q0,hb.len]
 have sh:=ok.short;rw[ef]at sh;have fr:Fr F (Ql a L A) H H0:=λb o n e=>⟨(a0 b o n e).1,λy=>(a0 b o n e).2<|(hF b).mpr y⟩;have nk:k∉ls.flatten:=by rwa[ef]
 by_cases ce:ls=[]
 .subst ce;have eA:A=[]:=List.length_eq_zero_iff.mp hb.len;subst eA;refine⟨_,M,a,_,O,_,_,M,ho,T.aN,T.aG,dj,L,_,M,.inl<|Fz.of hb.lst,M,_,M,fj M ?_⟩;refine⟨_,M,a,_,O,_,_,M,ho,T.aN,T.aG,dj,.inl ⟨M,_,Fz.of hb.lst⟩,_,M,(by show 1<=sizeLine;decide),λn nn=>?_⟩;have s1:Ds H0 (upd H0 n<|.lst [.int k]):=ak nn;have hb1:=hb.same s1;have aa:upd H0 n (.lst [.int k]) n=some (.lst<|([k]:List Int).map V.int):=ai;have nF:=hb.out nn;have ab:=s1 _ _ hb.lst;refine⟨L,_,_,M,M,ab,cX (by show 0<=1000;decide),?_⟩;have ah:=hb1.insert (i:=0) (QF _) aa nF;have an:PQ [[k]]:=⟨(λl hl=>by rw[Q7.mp hl];simp),(λl hl=>by rw[Q7.mp hl];simp),(λi x y e1 e2=>by simp at e2),by show du [k];exact ZN _ _⟩;refine q _ (Ql a L [n]) [k] ⟨L,[n],[[k]],ah,an,M,λb=>Iff.rfl⟩ (λz=>?_)<|fr.trans λb o n' w=>?_
  .rw[<-ef];simp
  .have w1:=s1 _ _ w;refine⟨by rwa[ae (λy=>n'<|.inr<|.inl y)],λy=>?_⟩;rcases y with y|y|y
   .exact n'<|.inl y
   .exact n'<|.inr (.inl y)
   .rw[Q7.mp y,nn]at w;cases w
 .have bl:=ZE.mpr ce;refine⟨_,M,a,_,O,_,_,M,ho,T.aN,T.aG,dj,L,_,M,.inl<|Fz.of hb.lst,M,_,M,a6 (λw=>?_) ?_⟩
  .have:=V.int.inj w;lia
  obtain⟨ax,b1,b2,b3⟩:=hb.insM;refine⟨_,M,a,ax,b1,M,b2,b3 _ ∅,_,M,a,k,L,A,ls,M,hb,ok.ne,ok.up,λi li=>?_⟩;refine⟨_,M,a,_,O,_,_,M,ho,T.aN,T.aG,dj,L,_,M,.inl<|Fz.of hb.lst,_,_,M,M,_,_,M,?_⟩;obtain⟨x,ad⟩:=li.add ok ce;have em:(if((A.map V.ref).length:Int)-1<(i:Int)then((A.map V.ref).length:Int)-1 else(i:Int))=((min i (ls.length-1):Nat):Int):=by
   rw[lA];split<;>lia
  dsimp only;rw[em];generalize min i (ls.length-1)=j at ad⊢;obtain⟨c,ec,hc⟩:=hb.at ad.at_;have jl:j<ls.length:=(Q1.mp ad.at_).1;have x8:=ok.le x (Q2 ad.at_);refine⟨_,M,a,_,O,_,_,M,ho,T.aN,T.aG,dj,_,M,L,_,_,_,M,M,Fz.of hb.lst,gQ ec,?_⟩;refine⟨_,M,.inl ⟨M,_,Fz.of hc⟩,_,M,c,M,⟨_,Fz.of hc⟩,λD hD=>?_⟩;refine mS (K:=K) (a:=c) (xs:=x.map V.int) (λn ys H3=>H3=upd H0 D (.lst ys)/\ys=((x.take n).filter<|λz=>decide (z<k)).map V.int) ⟨M,M⟩ (λn ys H3 _ w=>Fz.of<|by rwa[w.1,ae (am hc hD)]) (λn v ys H3 hv w U=>?_)<|λys H3 w U=>?_
  .obtain⟨e1,e2⟩:=w;obtain⟨g,rfl,eg⟩:∃g:Int,v= .int g/\x[n]?=some g:=by
    rw[QP]at hv;cases e:x[n]? with
    |none=>rw[e]at hv;cases hv
    |some g=>rw[e]at hv;cases hv;exact⟨g,M,M⟩
   have hn:n<(x.map V.int).length:=(Q1.mp hv).1;refine⟨_,M,_,M,_,_,M,M,_,M,?_⟩;have fl:ys.length<=8:=by
    rw[e2,Q0];have h1:=QK (λz=>decide (z<k)) (x.take n);have h2:(x.take n).length<=x.length:=by rw[Q6];lia
    lia
   by_cases cg:g<k
   .refine nN cg ⟨_,M,PY.mk hn U (cX ()) ⟨by rw[e1,eE],?_⟩⟩;rw[e2,QL,eg,Z0,QC];simp[cg]
   .refine a6 cg<|Pw.mk hn U ⟨e1,?_⟩;rw[e2,QL,eg,Z0];simp[cg]
  .obtain⟨e1,e2⟩:=w;rw[Q0,QX]at e2;have s3:Ds H0 H3:=by rw[e1];exact ak hD
   have b6:=hb.same s3;have b7:=s3 _ _ hc;have yl:(ys.length:Int)=((x.filter<|λz=>decide (z<k)).length:Int):=by rw[e2,Q0]
   have bo:=QK (λz=>decide (z<k)) x;refine⟨D,_,M,.inl<|Fz.of U,_,M,c,_,_,_,M,M,b7,(),(by rw[Q0];lia),(by rw[Q0];exact cX ()),?_⟩;have ei:(x.map V.int).take (ys.length:Int).toNat++V.int k::(x.map V.int).drop (ys.length:Int).toNat=(gZ x k).map V.int:=by
    rw[yl,Zg];unfold gZ;rw[QC,QO,ZJ,XN]
   dsimp only;rw[ei];have Y:=b6.write (y:=gZ x k) ec ad.at_;have il:=IW (l:=x) (k:=k);obtain⟨a1,Z⟩:=ad.set ok nk;have cF:Ql a L A c:= .inr (.inr<|Q2 ec);have f4:Fr (Ql a L A) (Ql a L A) H0 (upd H3 c<|.lst<|(gZ x k).map V.int):=λb o n w=>⟨by rw[ae (λy=>n<|by rwa[y])];exact s3 _ _ w,n⟩;have a2:upd H3 c (.lst<|(gZ x k).map V.int) c=some (.lst<|(gZ x k).map V.int):=ai;generalize upd H3 c (.lst<|(gZ x k).map V.int)=H4 at Y f4 a2⊢;refine⟨_,M,c,_,M,.inl<|Fz.of a2,_,_,M,M,_,M,?_⟩;have ll:((gZ x k).map V.int).length=x.length+1:=by rw[Q0,il]
   by_cases c9:x.length=8
   .refine nN (by rw[ll];lia) ?_;obtain⟨b8,b9,ba,bb⟩:=Y.insM;have e5:(ls.set j<|gZ x k)[j]?=some (gZ x k):=by rw[QW,W7 M,W7 jl]
    refine⟨_,M,a,b8,b9,M,ba,bb _ ∅,_,M,a,L,A,_,j,_,M,Y,e5,(),by rw[Zk];lia,λH6 A6 a3 f6=>?_⟩;have er:(ls.set j<|gZ x k).set j ((gZ x k).take 4)=ls.set j ((gZ x k).take 4):=List.set_set _;rw[er]at a3;have bc:du (ls.set j<|(gZ x k).take 4++(gZ x k).drop 4).flatten:=by rwa[Zi]
    obtain⟨be,a4⟩:=ok.parted ad.at_ (a:=(gZ x k).take 4) (b:=(gZ x k).drop 4) (by rw[Q6];lia) (by rw[Zf];lia) bc;rw[Zi]at a4;refine q H6 _ _ ⟨L,A6,_,a3,be,M,λb=>Iff.rfl⟩ (λz=>?_)<|fr.trans (f4.trans f6);rw[a4,Z,ef]
   .refine a6 (by rw[ll];lia) ?_;have bf:=ok.grown ad.at_ (y:=gZ x k) () () a1;exact q H4 _ _ ⟨L,A,_,Y,bf,M,λb=>Iff.rfl⟩ (λz=>by rw[Z,ef])<|fr.trans f4
def nG (t:P5):Sp:=λvs H Q _=>∃(a L:Addr) (A:List Addr) (ls:List (List Int)) (i:Int),vs=[.ref a,.int i]/\Px t H a L A ls/\-1<=i/\i<(ls.length:Int)/\(∀l∈ls,l.length<=8)/\ls.length<5000/\
 ∀H' A' ls',Px t H' a L A' ls'->ls'=(if 0<=i then qz ls i.toNat else ls)->Fr (Ql a L A) (Ql a L A') H H'->Q .non H'
def Iy {n:Addr} (h:b∈A.set i n):b∈A\/b=n:=List.mem_or_eq_of_mem_set h
def nM:Dr P w K mg base P1 1 t.g9 t.dH ["self","at"] (nG t):=by
 obtain⟨I,z⟩:=T.g_LEAST_IN_TWO;refine T.DE.okl nJ λs H vs Q E hr h _=>?_;intro X;obtain⟨a,L,A,ls,i,rfl,hb,i0,i1,l8,ll,q⟩:=h;refine aj (aO (PW.pt<|gU (aw eD Kc af<|ay _)<|gw<|aw bT (ao bF Kc af) (aI aH {_} T.bU bp (ac (au Ca M) ag))<|ay _)
    (aB pR)
    aE)
   (aj (P7 2<|ao M0 (aP aW (au Ca M) Kc<|λ_ _=>M)<|aP aW (au Ca M) (ao bF Kc af)<|λ_ _=>M)
   (mY (λx=>aO (aw eD (aI aH {_} T.bU bp (ac M2 ag)) (db (v:= .int 5) {_} z ⟨_,M⟩)<|ay _) x aE) ?_))
 refine aj (xq M2<|Ek (au Ca M) Kc wV)
   (aC (aM<|dE QN PySem.F.slot_list_pop PySem.F.type_list_pop CO (au Ca M)<|ac (ao bF Kc af) ag) ?_)
 intros
 obtain⟨dx,ho⟩:=hb.obj;have lA:((A.map V.ref).length:Int)=(ls.length:Int):=by rw[Q0,hb.len]
 by_cases c0:i<0
 .refine⟨_,M,_,_,M,M,_,M,nN c0 ?_⟩;exact cP<|q H A ls hb (by rw[W6 ()]) Fr.refl
 refine⟨_,M,_,_,M,M,_,M,a6 c0 ?_⟩;obtain⟨n,rfl⟩:=ZC (show 0<=i by lia);have en:((n:Int)).toNat=n:=Zg n;rw[W7 (),en]at q;refine⟨_,M,_,_,M,M,_,M,a,_,dx,_,_,M,ho,T.aN,T.aG,dj,L,_,M,.inl<|Fz.of hb.lst,M,_,M,?_⟩;by_cases c1:n+1=ls.length
 .refine fj (Wr V.int<|by rw[lA];lia) ?_;exact q H A ls hb (xT ()).symm Fr.refl
 refine a6 (λw=>c1<|by have:=V.int.inj w;rw[lA]at this;lia) ?_;have hn:n<ls.length:=();have U:n+1<ls.length:=();have ex:ls[n]?=some ls[n]:=Q3 hn;have ey:ls[n+1]?=some ls[n+1]:=Q3 U;have x8:=l8 _ (ZV hn);have y8:=l8 _ (ZV U);generalize ls[n]=x at ex x8;generalize ls[n+1]=y at ey y8;obtain⟨c,ec,hc⟩:=hb.at ex;obtain⟨d,ed,hd⟩:=hb.at ey;have ah:(n:Int)+1=((n+1:Nat):Int):=M;refine⟨_,M,a,_,dx,_,_,M,ho,T.aN,T.aG,dj,_,M,L,_,_,_,M,M,Fz.of hb.lst,gQ ec,_,M,a,_,dx,_,_,M,ho,T.aN,T.aG,dj,_,M,_,_,M,M,L,_,_,_,M,M,Fz.of hb.lst,gQ ed,c,d,_,_,M,M,hc,hd,Zl<|cX (by rw[Q0,Q0];lia),λG Y=>?_⟩;rw[<-QC];have s1:Ds H (upd H G<|.lst<|(x++y).map V.int):=ak Y;have hb1:=hb.same s1;have Z:upd H G (.lst<|(x++y).map V.int) G=some (.lst<|(x++y).map V.int):=ai;have nF:=hb.out Y;have a1:=s1 _ _ ho;have a2:=s1 _ _ hb.lst;generalize upd H G (.lst<|(x++y).map V.int)=H1 at s1 hb1 Z a1 a2⊢;refine⟨_,M,G,_,M,.inl<|Fz.of Z,_,_,M,M,_,M,?_⟩;have a3:(((x++y).map V.int).length:Int)=(x.length:Int)+(y.length:Int):=by rw[Q0,Q8];rfl
 rw[Da ex ey]at q;by_cases c5:x.length+y.length<5
 .refine nN (by rw[a3];lia) ?_;rw[W7 c5]at q;have nA:n<A.length:=by rwa[hb.len]
  refine⟨_,M,_,M,a,_,dx,_,_,M,a1,T.aN,T.aG,dj,_,M,L,_,_,_,M,M,a2,Fj nA,?_⟩;have es:(A.map V.ref).set n (V.ref G)=(A.set n G).map V.ref:=by rw[List.map_set]
  rw[es];have O:=hb1.swap ec ex Z nF;obtain⟨a5,a4⟩:=O.obj;have a0:=O.lst;have f2:Fr (Ql a L A) (Ql a L<|A.set n G) H (upd H1 L<|.lst<|(A.set n G).map V.ref):=λb o n' w=>by
   have w1:=s1 _ _ w;refine⟨by rwa[ae (λy=>n'<|.inr<|.inl y)],λy=>?_⟩;rcases y with y|y|y
   .exact n'<|.inl y
   .exact n'<|.inr (.inl y)
   .rcases Iy y with y|y
    .exact n'<|.inr (.inr y)
    .rw[y,Y]at w;cases w
  generalize upd H1 L (.lst<|(A.set n G).map V.ref)=H2 at O a4 a0 f2⊢;have lS:((A.set n G).map V.ref).length=ls.length:=by rw[Q0,Zk,hb.len]
  have aa:n+1<(A.set n G).length:=by rwa[Zk,hb.len]
  have sx:seqIndex? ((n:Int)+1) ((A.set n G).map V.ref).length=some (n+1):=by
   have:=seqIndex_of (k:=(n:Int)+1) (n:=((A.set n G).map V.ref).length) () (by rw[lS];lia);rw[this];congr 1
  refine⟨_,M,a,_,a5,_,_,M,a4,T.aN,T.aG,dj,.inl ⟨M,_,Fz.of a0⟩,_,M,_,_,M,M,L,_,_,n+1,_,M,M,a0,(),(),sx,(by rw[QP,Q3 aa];rfl),?_⟩;have ab:=O.erase (i:=n+1);have em:((A.set n G).map V.ref).eraseIdx (n+1)=((A.set n G).eraseIdx<|n+1).map V.ref:=rJ _ _;rw[em];refine q _ _ _ ab M<|f2.trans λb o n' w=>?_;refine⟨by rwa[ae (λy=>n'<|.inr<|.inl y)],λy=>?_⟩;rcases y with y|y|y
  .exact n'<|.inl y
  .exact n'<|.inr (.inl y)
  .exact n'<|.inr (.inr<|ZI y)
 .refine a6 (by rw[a3];lia) ?_;rw[W6 c5]at q;exact q H1 A ls hb1 M<|Fr.of_same s1
def rD:Dr P w K mg base P1 3 t.jQ t.fW ["self","key"] (qW K t):=by
 refine T.FL.okl rc λs H vs Q E hr h _=>?_;intro X;obtain⟨a,k,F,ks,rfl,hA,hl,q1,q2⟩:=h;refine aj (aO (io<|bV<|aQ Ca T.aN T.zI (oK T) hr.mo T.zO .nil ar<|ac Kc ag)
    (aB eI)
    aE)
   (aj (P7 2<|aQ Ca T.aN T.dh (b5 T) hr.mo T.dt .nil ar<|ac Kc ag)
   (aj (aM<|dE QN PySem.F.slot_list_remove PySem.F.type_list_remove Gq (aP aW (au Ca M) M2<|λ_ _=>M)<|ac Kc ag)
   (bW (λx=>aO (aw bT (aI aH {_} T.bU bp (ac (aP aW (au Ca M) M2<|λ_ _=>M) ag)) af<|ay _) x aE) ?_)))
 refine aj (aM<|dE QN PySem.F.slot_list_pop PySem.F.type_list_pop CO (au Ca M)<|ac M2 ag)
   (aC pR ?_)
 intros
 refine aj (aM<|aQ Ca T.aN T.oQ (nM T) hr.mo T.pz .nil ar<|ac M2 ag)
   (aC (aM<|aQ Ca T.aN T.oQ (nM T) hr.mo T.pz .nil ar<|ac (ao ji M2 af) ag) ?_)
 intros
 obtain⟨dx,fs,hi,hm⟩:=hA.ins;refine⟨_,M,a,dx,fs,M,hi,hm _ ∅,_,M,a,k,F,ks,M,hA,λH0 F0 aa a1=>?_⟩;by_cases ck:k∈ks
 case neg=>
  rw[Wj ck];refine⟨_,M,cP ?_⟩;exact(q2 ck).elim
 rw[Wf ck];refine⟨_,M,cq ?_⟩;have q:=q1 ck;obtain⟨L,A,ls,hb,ok,ef,hF⟩:=aa;obtain⟨ab,ho⟩:=hb.obj;have sh:=ok.short;rw[ef]at sh;have fr:Fr F (Ql a L A) H H0:=λb o n e=>⟨(a1 b o n e).1,λy=>(a1 b o n e).2<|(hF b).mpr y⟩;obtain⟨ah,an,ax,b1⟩:=hb.insM;refine⟨_,M,a,ah,an,M,ax,b1 _ ∅,_,M,a,k,L,A,ls,M,hb,ok.ne,ok.up,λi li=>?_⟩;obtain⟨x,ex,hx⟩:=(li.mem ok).mp (by rwa[ef]);obtain⟨c,ec,hc⟩:=hb.at ex;have il:i<ls.length:=(Q1.mp ex).1;have br:i<A.length:=by rwa[hb.len]
 refine⟨_,M,a,_,ab,_,_,M,ho,T.aN,T.aG,dj,_,M,L,_,_,_,M,M,Fz.of hb.lst,gQ ec,.inl ⟨M,_,Fz.of hc⟩,_,M,c,x,k,M,M,hc,hx,?_⟩;have hb1:=hb.write (y:=x.erase k) ec ex;obtain⟨up1,G⟩:=ok.gone ex hx;have cF:Ql a L A c:= .inr (.inr<|Q2 ec);have f1:Fr (Ql a L A) (Ql a L A) H0 (upd H0 c<|.lst<|(x.erase k).map V.int):=λb o n w=>⟨by rwa[ae (λy=>n<|by rw[y];exact cF)],n⟩;have a2:upd H0 c (.lst<|(x.erase k).map V.int) c=some (.lst<|(x.erase k).map V.int):=ai;obtain⟨a3,Y⟩:=hb1.obj;have O:=hb1.lst;generalize upd H0 c (.lst<|(x.erase k).map V.int)=H1 at hb1 f1 a2 Y O⊢;have le:=List.length_erase_of_mem hx;refine⟨_,M,a,_,a3,_,_,M,Y,T.aN,T.aG,dj,_,M,L,_,_,_,M,M,Fz.of O,gQ ec,c,_,M,.inl<|Fz.of a2,M,_,M,?_⟩;have px:=List.length_pos_of_mem hx;by_cases c0:x.length=1
 .refine fj (Wr V.int<|by rw[Q0,le,c0];rfl) ?_;have en:x.erase k=[]:=List.length_eq_zero_iff.mp ();rw[en]at up1 G hb1;have sx:seqIndex? (i:Int) (A.map V.ref).length=some i:=by
   have:=seqIndex_of (k:=(i:Int)) (n:=(A.map V.ref).length) () (by rw[Q0];lia);rw[this,Zg]
  refine⟨_,M,a,_,a3,_,_,M,Y,T.aN,T.aG,dj,.inl ⟨M,_,Fz.of O⟩,_,M,L,_,_,i,_,M,M,O,(),(),sx,(by rw[QP,ec];rfl),?_⟩;have I:=hb1.erase (i:=i);have e2:(ls.set i ([]:List Int)).eraseIdx i=ls.eraseIdx i:=Ar _ _ _;rw[e2]at I;rw[rJ];obtain⟨b2,b3⟩:=ok.out ex c0 up1;refine q _ _ _ ⟨L,_,_,I,b2,M,λb=>Iff.rfl⟩ (λz=>by rw[b3,G,ef])<|(fr.trans f1).trans λb o n w=>?_;refine⟨by rwa[ae (λy=>n<|.inr<|.inl y)],λy=>?_⟩;rcases y with y|y|y
  .exact n<|.inl y
  .exact n<|.inr (.inl y)
  .exact n<|.inr (.inr<|ZI y)
 .refine a6 (λw=>c0<|by have:=V.int.inj w;rw[Q0,le]at this;lia) ?_;have ny:x.erase k≠[]:=X9 ();have w1:=ok.shrunk ex ny () up1;obtain⟨b6,b7,b8,b9⟩:=hb1.insM;have Z:(ls.set i<|x.erase k).length=ls.length:=Zk;refine⟨_,M,a,b6,b7,M,b8,b9 _ ∅,_,M,a,L,A,_,(i:Int),M,hb1,(),by rw[Z];lia,w1.le,by rw[Z];lia,λH2 A2 U I e2 f2=>?_⟩;rw[W7 (),Zg]at e2;obtain⟨w2,a4⟩:=w1.join (i:=i) (λj h=>h);rw[<-e2]at w2 a4;have l2:i<=U.length/\U.length<=ls.length:=by
   have:=GG (ls:=ls.set i<|x.erase k) (i:=i);rw[<-e2,Z]at this;lia
  obtain⟨ba,bb,bc,be⟩:=I.insM;refine⟨_,M,a,ba,bb,M,bc,be _ ∅,_,M,_,_,M,M,a,L,A2,U,(i:Int)-1,M,I,(),(),w2.le,(),λH3 A3 a0 bf e3 f3=>?_⟩;have fin:PQ a0/\a0.flatten=U.flatten:=by
   by_cases ci:i=0
   .subst ci;rw[W6 ()]at e3;subst e3;exact⟨w2.ok λj h=>(),M⟩
   .have ei:((i:Int)-1).toNat=i-1:=();rw[W7 (),ei]at e3;obtain⟨w3,a5⟩:=w2.join (i:=i-1) (λj h=>());rw[<-e3]at w3 a5;exact⟨w3.ok λj h=>(),a5⟩
  obtain⟨bl,bo⟩:=fin;refine q H3 _ _ ⟨L,A3,a0,bf,bl,M,λb=>Iff.rfl⟩ (λz=>by rw[bo,a4,G,ef])<|((fr.trans f1).trans f2).trans f3
def Mo (a l:Addr) (k n:Int) (ls:List (List Int)) (H:Hp):Nat->St->Hp->Prop:=λm B H'=>∃(i:Nat),m=ls.length-i/\Ds H H'/\H l=none/\B=[some (.ref a),some (.int k),some (.int n),some (.ref l),some (.int (i:Int))]/\i<=ls.length/\H' l=some (.lst<|(((ls.take i).flatten).filter λz=>decide (k<=z)).map V.int)
def uS (e:ls[i]?=some x):(ls.take<|i+1).flatten=(ls.take i).flatten++x:=by
 rw[QL,e,ZR];simp
def tm (ls:List (List Int)) (i:Nat):ls.flatten=(ls.take i).flatten++(ls.drop i).flatten:=by rw[<-ZR,Zi]
def rC:Dr P w K mg base P1 2 t.jP t.fV ["self","key","most"] (qV K t):=by
 refine T.FK.okl Ph λs H vs Q E hr h _=>?_;intro X;obtain⟨a,k,n,F,ks,rfl,hA,hl,n0,q⟩:=h;refine aj (P7 3<|cn ag)
   (aj (P7 4<|aQ Ca T.aN T.dh (b5 T) hr.mo T.dt .nil ar<|ac Kc ag)
   (bW (λx=>(oz Wm (PW.pt<|gx (aw eD Pa (aI aH {_} T.bU bp (ac (au Ca M) ag))<|ay _)<|eG<|aw eD (aI aH {_} T.bU bp (ac PB ag)) M2<|ay _)
    x)) ?_))
 refine aj (aM<|dE QN Xv Xw pT PB<|ac (sI M (P6.of (M':=["one"]) (N:=["self","key","most","told","at"]) (N':=["self","key","most","told","at"]) (dsc:=al c8) M M ∅) (dO<|aP aW (au Ca M) Pa<|λ_ _=>M) (λ_ _ _ _ _=>(aw Ac Ca M2<|ay _))<|λ_ _ _ _ _=>Ca) ag)
   (aC (Ei (i:=4) Ph.nd M (Or.inl M) af IV) ?_)
 intros
 refine aC (aD<|dC fu PB iJ<|dN M2) ?_
 intros
 obtain⟨L,A,ls,hb,ok,ef,hF⟩:=hA;refine⟨QF _,λl Z=>?_⟩;have s0:Ds H (upd H l<|.lst []):=ak Z;have e0:upd H l (.lst []) l=some (.lst<|([]:List Int).map V.int):=ai;have O:=hb.same s0;generalize upd H l (.lst [])=H0 at s0 e0 O⊢;obtain⟨a3,a4,a5,aa⟩:=O.insM;refine⟨_,M,a,a3,a4,M,a5,aa _ ∅,_,M,a,k,L,A,ls,M,O,ok.ne,ok.up,λi0 li=>?_⟩;have f0:((ls.take i0).flatten).filter (λz=>decide (k<=z))=[]:=XF.mpr λz hz=>by
  have:=GL ok li z hz;simpa using this
 have lA:((A.map V.ref).length:Int)=(ls.length:Int):=by rw[Q0,hb.len]
 refine⟨Mo a l k n ls H,⟨_,i0,M,s0,Z,M,li.le,by rwa[f0]⟩,?_⟩;rintro m B H' ⟨i,rfl,s1,_,rfl,il,e1⟩;have hb1:=hb.same s1;obtain⟨a0,a1⟩:=hb1.obj;have fin:∀(done:((((ls.take i).flatten).filter λz=>decide (k<=z)).take n.toNat)=(ks.filter λz=>decide (k<=z)).take n.toNat),∀p,H' p=none->Q (.ref p) (upd H' p<|.lst<|qh ((((ls.take i).flatten).filter λz=>decide (k<=z)).map V.int) none<|some n):=λdone p np=>by
  refine q _ p (s1.trans<|ak np) ?_ ?_
  .cases e:H p with
   |none=>rfl
   |some o=>rw[s1 _ _ e]at np;cases np
  .rw[ai,kW n0,<-ZJ,done]
 refine⟨_,M,_,M,a,_,a0,_,_,M,a1,T.aN,T.aG,dj,L,_,M,.inl<|Fz.of hb1.lst,_,_,M,M,_,M,?_⟩;by_cases c:i<ls.length
 .refine nN (by rw[lA];lia) ?_;refine⟨_,M,l,_,M,.inl<|Fz.of e1,_,M,_,_,M,M,_,M,?_⟩;by_cases c2:((((((ls.take i).flatten).filter λz=>decide (k<=z)).map V.int).length:Nat):Int)<n
  .refine nN c2 ?_;refine⟨λab H''=>∃m',m'<ls.length-i/\Mo a l k n ls H m' ab H'',λ_ _ h=>h,?_⟩;have ex:ls[i]?=some ls[i]:=Q3 c;obtain⟨b,eb,G⟩:=hb1.at ex;have lb:l≠b:=λz=>by
    obtain⟨b',a2,h'⟩:=hb.at ex;rw[eb]at a2;cases a2;rw[<-z,Z]at h';cases h'
   have an:=QK (λz=>decide (k<=z)) (ls.take i).flatten;have ah:(ls.take i).flatten.length+ls[i].length<=ks.length:=by
    rw[<-ef,tm ls (i+1),uS ex,Q8,Q8];lia
   refine⟨_,M,.inl ⟨M,_,Fz.of e1⟩,_,M,a,_,a0,_,_,M,a1,T.aN,T.aG,dj,_,M,L,_,_,_,M,M,Fz.of hb1.lst,gQ eb,b,M,⟨_,Fz.of G⟩,λD hD=>?_⟩;generalize ls[i]=x at ex G ah⊢;refine mS (K:=K) (a:=b) (xs:=x.map V.int) (λm ys H3=>H3=upd H' D (.lst ys)/\ys=((x.take m).filter<|λz=>decide (k<=z)).map V.int) ⟨M,M⟩ (λm ys H3 _ w=>Fz.of<|by rwa[w.1,ae (am G hD)]) (λm v ys H3 Y w I=>?_)<|λys H3 w I=>?_
   .obtain⟨w1,U⟩:=w;obtain⟨g,rfl,eg⟩:∃g:Int,v= .int g/\x[m]?=some g:=by
     rw[QP]at Y;cases e:x[m]? with
     |none=>rw[e]at Y;cases Y
     |some g=>rw[e]at Y;cases Y;exact⟨g,M,M⟩
    have hn:m<(x.map V.int).length:=(Q1.mp Y).1;refine⟨_,M,_,M,_,_,M,M,_,M,?_⟩;have fl:ys.length<=100000:=by
     rw[U,Q0];have h1:=QK (λz=>decide (k<=z)) (x.take m);have h2:(x.take m).length<=x.length:=by rw[Q6];lia
     lia
    by_cases cg:k<=g
    .refine nN cg ⟨_,M,PY.mk hn I (bg fl) ⟨by rw[w1,eE],?_⟩⟩;rw[U,QL,eg,Z0,QC];simp[cg]
    .refine a6 cg<|Pw.mk hn I ⟨w1,?_⟩;rw[U,QL,eg,Z0];simp[cg]
   .obtain⟨w1,U⟩:=w;rw[Q0,QX]at U;have s3:Ds H' H3:=by rw[w1];exact ak hD
    have e3:=s3 _ _ e1;have ax:=QK (λz=>decide (k<=z)) x;have hsz:((((ls.take i).flatten).filter λz=>decide (k<=z)).map V.int).length+ys.length<=sizeLine:=by
     rw[U,Q0,Q0];exact Zl<|bg ()
    refine⟨l,D,_,_,M,M,e3,I,hsz,?_⟩;have hE:(((ls.take i).flatten).filter λz=>decide (k<=z)).map V.int++ys=(((ls.take<|i+1).flatten).filter λz=>decide (k<=z)).map V.int:=by
     rw[U,uS ex,Z0,QC]
    rw[hE];refine⟨_,M,_,_,M,M,_,?_,i+1,M,?_,Z,M,c,ai⟩
    .lia
    .exact bZ (s1.trans s3) Z
  .refine a6 c2 ?_;refine⟨_,M,_,M,_,M,l,_,M,Fz.of e1,fin ?_⟩;have:ks.filter (λz=>decide (k<=z))=((ls.take i).flatten).filter (λz=>decide (k<=z))++((ls.drop i).flatten).filter (λz=>decide (k<=z)):=by rw[<-ef,tm ls i,Z0]
   rw[this,Z2];rw[Q0]at c2;lia
 .refine a6 (by rw[lA];lia) ?_;have ei:i=ls.length:=();subst ei;refine⟨_,M,_,M,_,M,l,_,M,Fz.of e1,fin ?_⟩;rw[QX,ef]
def WDn (a l:Addr) (k:Option Int) (n:Int) (ls:List (List Int)) (H:Hp):Nat->St->Hp->Prop:=λm B H'=>Ds H H'/\H l=none/\m<=ls.length/\B=[some (.ref a),some (vDn k),some (.int n),some (.ref l),some (.int<|(m:Int)-1)]/\H' l=some (.lst<|(((ls.drop m).flatten).reverse.filter<|fh k).map V.int)
def Lg {c:Prop} [Decidable c] {D:ub} {A:Prop} (Pv:St->Hp->Prop) (main:∀z H',Pv z H'->D.nx z H') (G:c->(∀z H',Pv z H'->D.nx z H')->A) (I:Pv B H):if c then A else nQ D B H:=bP (λh=>G h main) (λ_=>main _ _ I)
def GO (e:ls[i]?=some x):((ls.drop i).flatten).reverse=((ls.drop<|i+1).flatten).reverse++x.reverse:=by
 obtain⟨h,e⟩:=Q1.mp e;rw[ZG h,e,ZP,List.reverse_append]
def GP (ok:PQ ls) (G:Pd ls k i0):((ls.drop<|i0+1).flatten).reverse.filter (fh<|some k)=[]:=XF.mpr λz hz=>by
 have:=G.behind ok z (Xo.mp hz);simp only[fh,Wn];lia
def Ju {len:Nat}:(if((len:Int)-1<(i0:Int))then((len:Int)-1)else(i0:Int))=((min (i0+1) len:Nat):Int)-1:=by
 split<;>lia
def GQ (ok:PQ ls) (z:Pd ls k i0):((ls.drop<|min (i0+1) ls.length).flatten).reverse.filter (fh<|some k)=[]:=by
 rcases Nat.le_total (i0+1) ls.length with c|c
 .rw[ZQ c];exact GP ok z
 .rw[VN c,List.drop_length];rfl
def oM:Dr P w K mg base P1 2 t.iG t.d8 ["self","key","most"] (nT K t):=by
 refine T.DN.okl Pb λs H vs Q E hr h _=>?_;intro X;obtain⟨a,k,n,F,ks,rfl,hA,hl,n0,q⟩:=h;refine aj (P7 3<|cn ag)
   (aj (P7 4<|ao ji (aI aH {_} T.bU bp (ac (au Ca M) ag)) af)
   (bW (λx=>aO (aw iM Kc a8<|ay _) x aE) ?_))
 refine aC (P7 4<|aI (pZ M) {_} T.Ci u7 (ac (aQ Ca T.aN T.dh (b5 T) hr.mo T.dt .nil ar<|ac Kc ag)<|ac Pa ag)) ?_
 intros
 refine bW (λx=>(oz Wm (PW.pt<|gx (aw Ac Pa af<|ay _)<|eG<|aw eD (aI aH {_} T.bU bp (ac PB ag)) M2<|ay _)
    x)) ?_
 refine aj (aM<|dE QN Xv Xw pT PB<|ac (sI M (P6.of (M':=["one"]) (N:=["self","key","most","told","at"]) (N':=["self","key","most","told","at"]) (dsc:=al cE) M M ∅) (MW {_} T.Mr (ac (aP aW (au Ca M) Pa<|λ_ _=>M) ag)) (λ_ _ _ _ _=>(PW.pt<|gU (aw dF M2 a8<|ay _)<|gw<|aw oC Ca M2<|ay _))<|λ_ _ _ _ _=>Ca) ag)
   (aC (Ei (i:=4) Pb.nd M (Or.inl M) af Nn) ?_)
 intros
 refine aC (aD<|dC fu PB iJ<|dN M2) ?_
 intros
 obtain⟨L,A,ls,hb,ok,ef,hF⟩:=hA;refine⟨QF _,λl nl=>?_⟩;have s0:Ds H (upd H l<|.lst []):=ak nl;have e0:upd H l (.lst []) l=some (.lst<|([]:List Int).map V.int):=ai;have z:=hb.same s0;generalize upd H l (.lst [])=H0 at s0 e0 z⊢;obtain⟨a1,a2⟩:=z.obj;have lA:((A.map V.ref).length:Int)=(ls.length:Int):=by rw[Q0,hb.len]
 refine⟨_,M,a,_,a1,_,_,M,a2,T.aN,T.aG,dj,L,_,M,.inl<|Fz.of z.lst,_,_,M,M,?_⟩;rw[lA];refine⟨_,M,M,_,M,Lg (λG H'=>∃m,WDn a l k n ls H m G H') (λG H' wW=>?main) (λc key=>?A) ⟨ls.length,s0,nl,Q4 _,M,by rwa[List.drop_length]⟩⟩
 case A=>
  cases k with
  |none=>exact Wb c (_)
  |some k=>
   obtain⟨a3,a4,a5,aa⟩:=z.insM;refine⟨_,M,a,a3,a4,M,a5,aa _ ∅,_,M,a,k,L,A,ls,M,z,ok.ne,ok.up,λi0 li=>?_⟩;refine⟨_,M,_,_,M,?_⟩;dsimp only;rw[Ju];exact key _ _ ⟨min (i0+1) ls.length,s0,nl,Nat.min_le_right _ _,M,by rwa[GQ ok li]⟩
 case main=>
  obtain⟨m0,w0⟩:=wW;refine⟨WDn a l k n ls H,⟨m0,w0⟩,?_⟩;rintro m B H' ⟨s1,_,ml,rfl,e1⟩;have hb1:=hb.same s1;obtain⟨ab,ah⟩:=hb1.obj;have fin:∀(done:((((ls.drop m).flatten).reverse.filter<|fh k).take n.toNat)=(ks.reverse.filter<|fh k).take n.toNat),∀p,H' p=none->Q (.ref p) (upd H' p<|.lst<|qh ((((ls.drop m).flatten).reverse.filter<|fh k).map V.int) none<|some n):=λdone p np=>by
   refine q _ p (s1.trans<|ak np) ?_ ?_
   .cases e:H p with
    |none=>rfl
    |some o=>rw[s1 _ _ e]at np;cases np
   .rw[ai,kW n0,<-ZJ,done]
  refine⟨_,M,_,_,M,M,_,M,?_⟩;cases m with
  |zero=>
   refine a6 (_) ?_;refine⟨_,M,_,M,_,M,l,_,M,Fz.of e1,fin ?_⟩;rw[ZM,ef]
  |succ i=>
   have im:((i+1:Nat):Int)-1=(i:Int):=();rw[im];refine nN () ?_;refine⟨_,M,l,_,M,.inl<|Fz.of e1,_,M,_,_,M,M,_,M,?_⟩;by_cases c2:((((((ls.drop<|i+1).flatten).reverse.filter<|fh k).map V.int).length:Nat):Int)<n
   .refine nN c2 ?_;refine⟨λG H''=>∃m',m'<i+1/\WDn a l k n ls H m' G H'',λ_ _ h=>h,?_⟩;have ex:ls[i]?=some ls[i]:=Q3 ml;obtain⟨b,eb,I⟩:=hb1.at ex;have b1:=QK (fh k) ((ls.drop<|i+1).flatten).reverse;have an:((ls.drop<|i+1).flatten).reverse.length+ls[i].length<=ks.length:=by
     rw[<-ef,tm ls (i+1),uS ex,Q8,Q8,ZF];lia
    refine⟨_,M,.inl ⟨M,_,Fz.of e1⟩,_,M,a,_,ab,_,_,M,ah,T.aN,T.aG,dj,_,M,L,_,_,_,M,M,Fz.of hb1.lst,gQ eb,b,_,M,Fz.of I,λD hD=>?_⟩;generalize ls[i]=x at ex I an⊢;refine GT (K:=K) (a:=b) (xs:=x.map V.int) (λm ys H3=>H3=upd H' D (.lst ys)/\ys=((x.reverse.take m).filter<|fh k).map V.int) ⟨M,M⟩ (λm ys H3 _ w=>Fz.of<|by rw[w.1,ae (am I hD)];exact I) (λm v ys H3 Z w O=>?_)<|λys H3 w O=>?_
    .obtain⟨w1,Y⟩:=w;obtain⟨g,rfl,eg⟩:∃g:Int,v= .int g/\x.reverse[m]?=some g:=by
      rw[<-List.map_reverse,QP]at Z;cases e:x.reverse[m]? with
      |none=>rw[e]at Z;cases Z
      |some g=>rw[e]at Z;cases Z;exact⟨g,M,M⟩
     have hn:m<(x.map V.int).length:=by
      have:=(Q1.mp Z).1;rwa [ZF]at this
     have fl:ys.length<=100000:=by
      rw[Y,Q0];have h1:=QK (fh k) (x.reverse.take m);have h2:(x.reverse.take m).length<=x.reverse.length:=by rw[Q6];lia
      rw[ZF]at h2;lia
     have a0:fh k g=true->PY (x.map V.int).length m ys D (λm ys H3=>H3=upd H' D (.lst ys)/\ys=((x.reverse.take m).filter<|fh k).map V.int) (.int g) H3:=λU=>by
      refine PY.mk hn O (bg fl) ⟨by rw[w1,eE],?_⟩;rw[Y,QL,eg,Z0,QC];simp[U]
     have no:fh k g=false->Pw (x.map V.int).length m ys D (λm ys H3=>H3=upd H' D (.lst ys)/\ys=((x.reverse.take m).filter<|fh k).map V.int) H3:=λU=>by
      refine Pw.mk hn O ⟨w1,?_⟩;rw[Y,QL,eg,Z0];simp[U]
     refine⟨_,M,M,_,M,?_⟩;cases k with
     |none=>exact cP<|cP ⟨_,M,a0 M⟩
     |some k=>
      refine cq ⟨_,M,_,M,_,_,M,M,_,M,?_⟩;by_cases U:g<=k
      .exact nN U ⟨_,M,a0<|Wf U⟩
      .exact a6 U<|no (Wj U)
    .obtain⟨w1,Y⟩:=w;rw[Q0,show x.length=x.reverse.length from ZF.symm,QX]at Y;have s3:Ds H' H3:=by rw[w1];exact ak hD
     have e3:=s3 _ _ e1;have ax:=QK (fh k) x.reverse;have hsz:((((ls.drop<|i+1).flatten).reverse.filter<|fh k).map V.int).length+ys.length<=sizeLine:=by
      rw[Y,Q0,Q0];rw[ZF]at ax;exact Zl<|bg ()
     refine⟨l,D,_,_,M,M,e3,O,hsz,?_⟩;have hE:(((ls.drop<|i+1).flatten).reverse.filter<|fh k).map V.int++ys=(((ls.drop i).flatten).reverse.filter<|fh k).map V.int:=by
      rw[Y,GO ex,Z0,QC]
     rw[hE];refine⟨_,M,_,_,M,M,i,Xd _,bZ (s1.trans s3) nl,nl,Zl ml,M,ai⟩
   .refine a6 c2 ?_;refine⟨_,M,_,M,_,M,l,_,M,Fz.of e1,fin ?_⟩;have:ks.reverse.filter (fh k)=((ls.drop<|i+1).flatten).reverse.filter (fh k)++((ls.take<|i+1).flatten).reverse.filter (fh k):=by rw[<-ef,tm ls (i+1),List.reverse_append,Z0]
    rw[this,Z2];rw[Q0]at c2;lia
def wE:(0:Int)<10^(39:Int).toNat:=by decide
def CC:∀{a b:List Int},du a->du b->(∀z,z∈a↔z∈b)->a=b
 | [],[],_,_,_=>rfl
 | [],y::r,_,_,h=>by have:=(h y).mpr QB;cases this
 |x::r,[],_,_,h=>by have:=(h x).mp QB;cases this
 |x::r,y::r',ha,hb,h=>by
  obtain⟨I,U⟩:=Xh.mp ha;obtain⟨O,Y⟩:=Xh.mp hb;have G:x=y:=by
   rcases QH.mp ((h x).mp QB)with e|e
   .exact e
   .rcases QH.mp ((h y).mpr QB)with e2|e2
    .exact e2.symm
    .have h1:=O x e;have h2:=I y e2;lia
  subst G;rw[CC U Y λz=>?_];constructor
  .intro hz;rcases QH.mp ((h z).mp<|QD _ hz)with e|e
   .have:=I z hz;lia
   .exact e
  .intro hz;rcases QH.mp ((h z).mpr<|QD _ hz)with e|e
   .have:=O z hz;lia
   .exact e
def Qf.rise (h:Qf K t H a F ks):du ks:=by
 obtain⟨_,_,ls,_,ok,z,_⟩:=h;rw[<-z];exact ok.up
def Dn (ms:List Int) (lo hi:Option Int):∃z:List Int,qh (ms.map V.int) lo hi=z.map V.int/\z.Sublist ms:=by
 refine⟨(ms.drop<|HT.sIx (ms.map V.int).length 0 lo).take<|HT.sIx (ms.map V.int).length (ms.map V.int).length hi-HT.sIx (ms.map V.int).length 0 lo,?_,?_⟩
 .unfold qh;rw[ZJ,XN]
 .exact(V2 _ _).trans<|List.drop_sublist _ _
def CK:Dr P w K mg base P1 1 t.yk t.rL ["thing"] Ct:=by
 refine T.EN.okl CA λs H vs Q E z h _=>?_;intro X;obtain⟨x,rfl,hx,k⟩:=h;refine⟨_,(aB<|aD<|gA (aI jM {_} T.dL cC (ac Ca<|ac (wu (v:= .ty "int") {_} T.NY Jz M) ag))<|dD<|Bo<|aI jM {_} T.dL cC (ac Ca<|ac (wu (v:= .ty "bool") {_} T.Mt FB M) ag))
  ,?_⟩
 cases x with
 |int i=>
  refine⟨_,M,_,_,_,_,M,PP.int _,IR,true,M,cP ?_⟩;exact⟨_,M,_,_,_,_,M,PP.int _,IS,_,M,k⟩
 |bl c=>
  refine⟨_,M,_,_,_,_,M,PP.bl _,Ng,true,M,cP ?_⟩;exact⟨_,M,_,_,_,_,M,PP.bl _,Nh,_,M,k⟩
 |str c=>exact⟨_,M,_,_,_,_,M,PP.str _,Nd,false,M,cq k⟩
 |non=>exact⟨_,M,_,_,_,_,M,PP.non,Nf,false,M,cq k⟩
 |_=>exact hx.elim
def rA:Dr P w K mg base P1 2 t.AL t.uZ ["thing","low"] D7:=by
 refine T.iX.okl Ef λs H vs Q E z h _=>?_;intro X;obtain⟨x,lo,rfl,hx,k⟩:=h;refine⟨_,(aB<|aD<|gA (aJ (CK T) z.mo {_} T.Na T.EN.kp T.NG .nil ar (ac Ca ag))<|dD<|bG Ac Ca Kc<|ay _)
  ,?_⟩
 cases x with
 |int i=>exact⟨_,M,_,M,hx,true,M,cP ⟨_,M,_,M,_,_,M,M,k⟩⟩
 |bl c=>exact⟨_,M,_,M,hx,false,M,cq k⟩
 |str c=>exact⟨_,M,_,M,hx,false,M,cq k⟩
 |non=>exact⟨_,M,_,M,hx,false,M,cq k⟩
 |_=>exact hx.elim
def Em:Dr P w K mg base P1 1 t.AG t.uU ["bound"] D0:=by
 refine T.AM.okl Ea λs H vs Q E z h _=>?_;intro X;obtain⟨x,rfl,hx,k⟩:=h;refine⟨_,(aB<|aD<|Ib (aw dF Ca a8<|ay _) gy<|dP BO {_} T.OZ NE (ac Ca ag))
  ,?_⟩
 rcases hx with rfl|⟨i,rfl,hi⟩
 .exact⟨_,M,M,_,M,cP k⟩
 .exact⟨_,M,M,_,M,cq ⟨_,M,i,M,hi,k⟩⟩
def jj:Dr P w K mg base P1 1 t.kI t.kj ["self","kind","at","end"] (iZ K):=by
 refine T.kJ.okl wY λs H vs Q E Y h _=>?_;intro X;obtain⟨p,C,dx,kd,a,e,rfl,G,cl,I,O,U,k⟩:=h;refine aj (bh Ca Kc M)
   (aj (bh Ca M2 M)
   (aC (bh Ca PB M) ?_))
 intros
 refine⟨_,M,_,M,p,C,dx,[],M,G,cl,I,(by show 0<1000;decide),_,M,_,M,p,C,dx,_,M,ai,cl,O,(by show 1<1000;decide),_,M,_,M,p,C,dx,_,M,ai,cl,U,?_,?_⟩
 .have h1:=ox (f:="at") (v:=a) (bL "kind" (.str kd) []);have h2:=ox (f:="kind") (v:= .str kd) [];have Z:([]:List (Str×V)).length=0:=M;lia
 rw[eE,eE];refine k _ _ (λb o q z=>by rw[ae z];exact q) ai ⟨?_,?_,?_,?_,?_⟩
 .rw[bx,W6 ∅,bx,W6 ∅,bx,W7 M]
 .rw[bx,W6 ∅,bx,W7 M]
 .rw[bx,W7 M]
 .rw[bx,W6 ∅,bx,W6 ∅,bx,W6 ∅];rfl
 .rw[bx,W6 ∅,bx,W6 ∅,bx,W6 ∅];rfl
def tkN (T:Txt K mg t) {kd:Int} (h:kd=0\/kd=1\/kd=2):Qj K (RO t kd)/\Fy K (RO t kd) "kind"/\Fy K (RO t kd) "at"/\Fy K (RO t kd) "end":=by
 rcases h with rfl|rfl|rfl
 .exact⟨T.bH,T.v8,T.gP,T.cm⟩
 .exact⟨T.g8,T.Eo,T.oO,T.iV⟩
 .exact⟨T.cy,T.Bv,T.gE,T.gY⟩
def Lf {kd:Int} (h:kd=0\/kd=1\/kd=2):(Ro kd).length<=5:=by
 rcases h with rfl|rfl|rfl<;>decide+kernel
def vW:Dr P w K mg base P1 2 t.dJ t.jx ["self"] (cT t):=by
 refine T.JM.okl vM λs H vs Q E O h _=>?_;intro X;obtain⟨p,dx,kd,fs,a,e,rfl,z,G,I,Z,be,q⟩:=h;refine⟨_,(aB<|aD<|dE PySem.F.plainAttrs_str PySem.F.slot_str_join PySem.F.type_str_join KZ gy<|ac (cn<|ac (au Ca M)<|ac (aJ (Em T) O.mo {_} T.Gx T.AM.kp T.GV .nil ar (ac (au Ca M) ag))<|ac (aJ (Em T) O.mo {_} T.Gx T.AM.kp T.GV .nil ar (ac (au Ca M) ag)) ag) ag)
  ,?_⟩
 obtain⟨cl,n0,n1,n2⟩:=tkN T I.kd;obtain⟨U,Y⟩:=Qc.few I Z be;have kl:=Lf I.kd;refine⟨M,_,M,p,_,dx,fs,_,M,z,cl,n0,G.ki,_,M,p,_,dx,fs,_,M,z,cl,n1,G.at_,a,M,U.1,_,M,p,_,dx,fs,_,M,z,cl,n2,G.end_,e,M,Y.1,(by show 3<=sizeLine;decide),λl nl=>?_⟩;refine⟨" ",l,[Ro kd,wr a,wr e],M,M,Fz.of ai,∅,?_,q _<|ak nl⟩;have:=U.2;have:=Y.2;simp only[QO,Vx,V5,List.sum_nil,QM,XV];lia
def pV {x:V} (h:isF lo x=true):∃i,x= .int i/\lo<=i:=by
 cases x with
 |int i=>exact⟨i,M,Wd h⟩
 |_=>cases h
def kO:Dr P w K mg base P1 3 t.nC t.cW ["self","at","end"] (uk t):=by
 obtain⟨G,z⟩:=T.g_PLACES;have a0:=Pn.nd;refine T.Hk.ok Pn (λvs H Q E h=>?_)<|λa1 A outer s H vs Q E U h=>?_
 .obtain⟨p,dx,a,e,rfl,_⟩:=h;rfl
 .obtain⟨p,dx,a,e,rfl,hp,sa,se,k1,k2⟩:=h;refine aj (aO (io<|PW.pt<|gx (bV<|aJ (rA T) U.mo {_} T.kR T.iX.kp T.kX .nil ar (ac Kc<|ac af ag))<|gx (bV<|aJ (rA T) U.mo {_} T.kR T.iX.kp T.kX .nil ar (ac M2<|ac Kc ag))<|eG<|aw oC M2 (db (v:= .int 65536) {_} z ⟨_,M⟩)<|ay _)
   (aB eI)
   aE)
     (aC (aM<|Bp {_} T.CW T.qv T.kJ.kp (jj T) U.mo T.qE .nil ar (ac Ca<|ac gy<|ac Kc<|ac M2 ag)) ?_)
  intros
  refine⟨_,M,a,0,M,sa,_,M,bP (λc=>?_)<|λc=>?_⟩
  .obtain⟨i,rfl,i0⟩:=pV c;refine⟨_,M,_,M,e,i,M,se,_,M,bP (λc=>?_)<|λc=>?_⟩
   .obtain⟨j,rfl,ij⟩:=pV c;refine⟨_,M,_,_,M,M,_,M,?_⟩;by_cases I:j<=65536
    .rw[Wf I];exact cq ⟨_,M,_,M,_,M,p,_,dx,_,.int i,.int j,M,hp,T.bH,T.v8,T.gP,T.cm,λH' fs k h f=>k1 ⟨i,j,M,M,i0,ij,I⟩ H' fs k h f⟩
    .rw[Wj I];exact cP<|(k2 λ⟨Y,Z,O,e2,_,_,h⟩=>by cases e2;exact I h)
   .exact cP<|(k2 λ⟨Y,Z,O,e2,_,h,_⟩=>c<|by cases O;rw[e2];exact Wf h)
  .exact cP<|(k2 λ⟨Y,Z,O,_,h,_⟩=>c<|by rw[O];exact Wf h)
def vd:Dr P w K mg base P1 3 t.yp t.jw ["self","at","end"] (Cv t):=by
 have U:=Qg.nd;refine T.NS.ok Qg (λvs H Q E h=>?_)<|λY A outer s H vs Q E G h=>?_
 .obtain⟨p,dx,a,e,rfl,_⟩:=h;rfl
 .obtain⟨p,dx,a,e,rfl,Z,sa,se,k1,k2⟩:=h;refine aj (aO (io<|PW.pt<|gx (bV<|aJ (rA T) G.mo {_} T.kR T.iX.kp T.kX .nil ar (ac Kc<|ac af ag))<|eG<|PW.pt<|gU (aw dF M2 a8<|ay _)<|gw<|bV<|aJ (rA T) G.mo {_} T.kR T.iX.kp T.kX .nil ar (ac M2<|ac Kc ag))
   (aB eI)
   aE)
     (aC (aM<|Bp {_} T.CW T.qv T.kJ.kp (jj T) G.mo T.qE .nil ar (ac Ca<|ac gy<|ac Kc<|ac M2 ag)) ?_)
  intros
  refine⟨_,M,a,0,M,sa,_,M,bP (λc=>?_)<|λc=>?_⟩
  .obtain⟨i,rfl,i0⟩:=pV c;have fin:Qv (.int i) e->iZ K [.ref p,.str "up",.int i,e] H (λ_ H'=>Q .non H') E0:=λok=>⟨p,_,dx,"up",.int i,e,M,Z,T.g8,T.Eo,T.oO,T.iV,λH' fs k h f=>k1 ok H' fs k h f⟩;by_cases z:e= .non
   .exact⟨_,M,M,_,M,fj z<|cq ⟨_,M,_,M,_,M,fin ⟨i,M,i0,.inl z⟩⟩⟩
   .refine⟨_,M,M,_,M,a6 z ⟨_,M,_,M,e,i,M,se,_,M,?_⟩⟩;cases I:isF i e with
    |true=>
     obtain⟨j,rfl,ij⟩:=pV I;exact cq ⟨_,M,_,M,_,M,fin ⟨i,M,i0,.inr ⟨j,M,ij⟩⟩⟩
    |false=>
     refine cP<|(k2 λ⟨i',O,_,e2⟩=>?_);cases O;rcases e2 with e2|⟨j',e2,h⟩
     .exact z e2
     .rw[e2]at I;exact Wu I h
  .exact cP<|(k2 λ⟨i',O,h,_⟩=>c<|by rw[O];exact Wf h)
def qu:Dr P w K mg base P1 3 t.tW t.fZ ["self","at","end"] (yU t):=by
 have Y:=Py.nd;refine T.LK.ok Py (λvs H Q E h=>?_)<|λZ A outer s H vs Q E G h=>?_
 .obtain⟨p,dx,a,e,rfl,_⟩:=h;rfl
 .obtain⟨p,dx,a,e,rfl,hp,sa,se,k1,k2⟩:=h;refine aj (aO (io<|PW.pt<|gx (bV<|aJ (rA T) G.mo {_} T.kR T.iX.kp T.kX .nil ar (ac M2<|ac af ag))<|eG<|PW.pt<|gU (aw dF Kc a8<|ay _)<|gw<|bV<|aJ (rA T) G.mo {_} T.kR T.iX.kp T.kX .nil ar (ac Kc<|ac M2 ag))
   (aB eI)
   aE)
     (aC (aM<|Bp {_} T.CW T.qv T.kJ.kp (jj T) G.mo T.qE .nil ar (ac Ca<|ac gy<|ac Kc<|ac M2 ag)) ?_)
  intros
  refine⟨_,M,e,0,M,se,_,M,bP (λc=>?_)<|λc=>?_⟩
  .obtain⟨j,rfl,U⟩:=pV c;have fin:R1 a (.int j)->iZ K [.ref p,.str "down",a,.int j] H (λ_ H'=>Q .non H') E0:=λok=>⟨p,_,dx,"down",a,.int j,M,hp,T.cy,T.Bv,T.gE,T.gY,λH' fs k h f=>k1 ok H' fs k h f⟩;by_cases z:a= .non
   .exact⟨_,M,M,_,M,fj z<|cq ⟨_,M,_,M,_,M,fin ⟨j,M,U,.inl z⟩⟩⟩
   .refine⟨_,M,M,_,M,a6 z ⟨_,M,_,M,a,j,M,sa,_,M,?_⟩⟩;cases I:isF j a with
    |true=>
     obtain⟨i,rfl,ij⟩:=pV I;exact cq ⟨_,M,_,M,_,M,fin ⟨j,M,U,.inr ⟨i,M,ij⟩⟩⟩
    |false=>
     refine cP<|(k2 λ⟨j',O,_,e2⟩=>?_);cases O;rcases e2 with e2|⟨i',e2,h⟩
     .exact z e2
     .rw[e2]at I;exact Wu I h
  .exact cP<|(k2 λ⟨j',O,h,_⟩=>c<|by rw[O];exact Wf h)
def fN:Dr P w K mg base P1 3 t.lw t.gL ["self","key"] (ft t):=by
 refine T.G7.okl sv λs H vs Q E I h _=>?_;intro X;obtain⟨p,dx,fs,a,e,k,rfl,z,G,⟨i,j,rfl,rfl,i0,O,U⟩,Y,q⟩:=h;refine⟨_,(aB<|aD<|Ie oC eD (au Ca M) (aJ (vc T) I.mo {_} T.Ew T.yw.kp T.EJ .nil ar (ac Kc ag))<|au Ca M)
  ,?_⟩
 have q:Q (.bl<|decide (i<=tz (k%65536))&&decide (tz (k%65536)<j)) H:=q H (Ds.refl H);refine⟨_,M,p,_,dx,fs,_,M,z,T.bH,T.gP,G.at_,_,M,k,M,_,_,M,M,_,M,bP (λc=>?_)<|λc=>?_⟩
 .refine⟨_,M,p,_,dx,fs,_,M,z,T.bH,T.cm,G.end_,_,_,M,M,?_⟩;rw[c,XO]at q;exact q
 .rw[Zp.mpr c,Xl]at q;exact q
def iN:Dr P w K mg base P1 1 t.vt t.oY ["self","key"] (dM t):=by
 refine T.Mq.okl Bh λs H vs Q E O h _=>?_;intro X;obtain⟨p,dx,fs,a,e,k,rfl,G,I,⟨i,rfl,i0,he⟩,U,q⟩:=h;refine⟨_,(aB<|aD<|gA (bG oC (au Ca M) Kc<|ay _)<|dD<|CG (bG dF (au Ca M) a8<|ay _)<|dD<|bG eD Kc (au Ca M)<|ay _)
  ,?_⟩
 have q:=q H (Ds.refl H);rcases he with rfl|⟨j,rfl,Y⟩
 .have q:Q (.bl<|decide (i<=k)) H:=q;refine⟨_,M,p,_,dx,fs,_,M,G,T.g8,T.oO,I.at_,_,M,_,_,M,M,_,M,bP (λc=>⟨_,M,p,_,dx,fs,_,M,G,T.g8,T.iV,I.end_,M,_,M,fj M ?_⟩)<|λc=>?_⟩
  .rw[c]at q;exact q
  .rw[Zp.mpr c]at q;exact q
 .have q:Q (.bl<|decide (i<=k)&&decide (k<j)) H:=q;refine⟨_,M,p,_,dx,fs,_,M,G,T.g8,T.oO,I.at_,_,M,_,_,M,M,_,M,bP (λc=>⟨_,M,p,_,dx,fs,_,M,G,T.g8,T.iV,I.end_,M,_,M,a6 (λz=>by cases z) ⟨_,M,_,M,p,_,dx,fs,_,M,G,T.g8,T.iV,I.end_,_,_,M,M,?_⟩⟩)<|λc=>?_⟩
  .rw[c,XO]at q;exact q
  .rw[Zp.mpr c,Xl]at q;exact q
def fK:Dr P w K mg base P1 1 t.qR t.kG ["self","key"] (cH t):=by
 refine T.Kq.okl xl λs H vs Q E O h _=>?_;intro X;obtain⟨p,dx,fs,a,e,k,rfl,G,I,⟨j,rfl,U,ha⟩,Y,q⟩:=h;refine⟨_,(aB<|aD<|gA (bG oC (au Ca M) Kc<|ay _)<|dD<|CG (bG dF (au Ca M) a8<|ay _)<|dD<|bG oC Kc (au Ca M)<|ay _)
  ,?_⟩
 have q:=q H (Ds.refl H);rcases ha with rfl|⟨i,rfl,Z⟩
 .have q:Q (.bl<|decide (j<=k)) H:=q;refine⟨_,M,p,_,dx,fs,_,M,G,T.cy,T.gY,I.end_,_,M,_,_,M,M,_,M,bP (λc=>⟨_,M,p,_,dx,fs,_,M,G,T.cy,T.gE,I.at_,M,_,M,fj M ?_⟩)<|λc=>?_⟩
  .rw[c]at q;exact q
  .rw[Zp.mpr c]at q;exact q
 .have q:Q (.bl<|decide (j<=k)&&decide (k<=i)) H:=q;refine⟨_,M,p,_,dx,fs,_,M,G,T.cy,T.gY,I.end_,_,M,_,_,M,M,_,M,bP (λc=>⟨_,M,p,_,dx,fs,_,M,G,T.cy,T.gE,I.at_,M,_,M,a6 (λz=>by cases z) ⟨_,M,_,M,p,_,dx,fs,_,M,G,T.cy,T.gE,I.at_,_,_,M,M,?_⟩⟩)<|λc=>?_⟩
  .rw[c,XO]at q;exact q
  .rw[Zp.mpr c,Xl]at q;exact q
structure RP where
 p:Addr
 mo:Int
 v:V
structure RY (t:P5) (H:Hp) (m l:Addr) (es:List RP):Prop where
 ob:∃dx,H m=some (.ins t.gT dx [("made",.ref l)])
 li:H l=some (.lst<|es.map λe=>V.ref e.p)
 tu:∀e∈es,H e.p=some (.tup [.int e.mo,e.v])
def RY.keep {m l:Addr} {es:List RP} (h:RY t H m l es) (z:H' m=H m) (e2:H' l=H l) (G:∀b xs,H b=some (.tup xs)->H' b=some (.tup xs)):RY t H' m l es:=⟨h.ob.imp λ_ e=>z.trans e,e2.trans h.li,λe he=>G _ _<|h.tu e he⟩
def wN (t:P5):Sp:=λvs H Q _=>∃(a dx:Addr),vs=[.ref a]/\H a=some (.ins t.gT dx [])/\∀(H':Hp) (l:Addr),RY t H' a l []->H l=none->(∀b o,b≠a->H b=some o->H' b=some o)->Q .non H'
def xD:Dr P w K mg base P1 1 t.qL t.kA ["self"] (wN t):=by
 refine T.Kk.okl xf λs H vs Q E I h _=>?_;intro X;obtain⟨a,dx,rfl,ha,q⟩:=h;refine⟨_,(aB<|bh Ca (cn ag) M)
  ,?_⟩
 refine⟨QF _,λl z=>⟨_,M,a,_,dx,[],M,(by rwa[ae (am ha z)]),T.Dp,T.zE,(by show 0<1000;decide),?_⟩⟩;have G:a≠l:=am ha z;exact q _ l ⟨⟨dx,ai⟩,by rw[ae G.symm];exact ai,λe he=>by cases he⟩ z λb o n e=>by rwa[ae n,ae (am e z)]
def wM (t:P5):Sp:=λvs H Q _=>∃(m l:Addr) (es:List RP) (mo:Int) (v:V),vs=[.ref m,.int mo,v]/\RY t H m l es/\es.length<100000/\
 ∀(H':Hp) (p:Addr),RY t H' m l (es++ [⟨p,mo,v⟩])->H p=none->(∀b o,b≠l->H b=some o->H' b=some o)->Q .non H'
def xC:Dr P w K mg base P1 1 t.qK t.kx ["self","moment","value"] (wM t):=by
 refine T.Kj.okl xb λs H vs Q E U h _=>?_;intro X;obtain⟨m,l,es,mo,v,rfl,M',le,q⟩:=h;refine⟨_,(aB<|aM<|dE QN Zy Zz eY (au Ca M)<|ac (bQ<|ac Kc<|ac M2 ag) ag)
  ,?_⟩
 obtain⟨dx,I⟩:=M'.ob;refine⟨_,M,m,_,dx,_,_,M,I,T.Dp,T.zE,M,.inl ⟨M,_,Fz.of M'.li⟩,_,M,_,M,(by show 2<=sizeLine;decide),λp G=>?_⟩;have s1:=ak (o:= .tup [.int mo,v]) G;have pl:p≠l:=λz=>by rw[z,M'.li]at G;cases G
 have O:m≠l:=λz=>by have:=M'.li;rw[<-z,I]at this;cases this
 refine⟨l,_,_,M,M,s1 _ _ M'.li,bg (by rw[Q0];lia),?_⟩;refine q _ p ⟨⟨dx,by rw[ae O];exact s1 _ _ I⟩,by rw[ai,QC];rfl,λe he=>?_⟩ G λb o n e=>by rw[ae n];exact s1 _ _ e
 rcases Q5.mp he with he|he
 .have te:=s1 _ _ (M'.tu e he);rwa[ae (λz=>by rw[z,s1 _ _ M'.li]at te;cases te)]
 .rw[Q7.mp he];rw[ae pl];exact ai
def Pg.notup (h:Pg K t H a F st) (e:H b=some (.tup xs)):¬F b:=λhb=>by
 obtain⟨d,h1,h2,_⟩:=h;obtain⟨dx,I⟩:=h1.obj;have no:∀o,H b=some o->(∀ys,o≠ .tup ys)->False:=λo q n=>by rw[e]at q;exact n _ (W8 q).symm
 rcases(h2 b).mp hb with rfl|rfl|rfl|hb|⟨hs,rfl⟩|hb
 .exact no _ I<|λ_ z=>by cases z
 .exact no _ h1.tbl<|λ_ z=>by cases z
 .exact no _ h1.row0.lst<|λ_ z=>by cases z
 .obtain⟨_,_,_,_,q⟩:=h1.row0.has hb;exact no _ q<|λ_ z=>by cases z
 .have r1:=h1.row1;cases G:st.nxt with
  |none=>rw[G]at hs;cases hs
  |some m=>rw[G]at r1;exact no _ r1.lst<|λ_ z=>by cases z
 .have r1:=h1.row1;cases G:st.nxt with
  |none=>rw[G]at r1;rw[r1.1]at hb;cases hb
  |some m=>
   rw[G]at r1;obtain⟨_,_,_,_,q⟩:=r1.has hb;exact no _ q<|λ_ z=>by cases z
def Qf.notup (h:Qf K t H a F ks) (e:H b=some (.tup xs)):¬F b:=λhb=>by
 obtain⟨L,A,ls,h1,_,_,h2⟩:=h;obtain⟨dx,G⟩:=h1.obj;have no:∀o,H b=some o->(∀ys,o≠ .tup ys)->False:=λo q n=>by rw[e]at q;exact n _ (W8 q).symm
 rcases(h2 b).mp hb with rfl|rfl|hb
 .exact no _ G<|λ_ z=>by cases z
 .exact no _ h1.lst<|λ_ z=>by cases z
 .obtain⟨_,_,_,_,q⟩:=h1.has hb;exact no _ q<|λ_ z=>by cases z
structure Pk where
 k:Int
 m:Addr
 l:Addr
 es:List RP
structure PM where
 now:Int
 fl:Int
 ma:Int
 st:O8
 ks:List Int
 di:List (Addr×List V)
 pa:List Pk
 ho:List (Int×V)
noncomputable def fO:List Pk->Int->List RP
 | [],_=> []
 |e::r,k=>if e.k=k then e.es else fO r k
noncomputable def Qw (pa:List Pk):List (Int×V):=pa.map λe=>(e.k,V.ref e.m)
def Qd (now fl:Int) (s l w:Addr) (mk:Int) (p h:Addr):List (Str×V):=[("now",.int now),("floor",.int fl),("slots",.ref s),("leaves",.ref l),("written",.ref w),("marks",.int mk),("past",.ref p),("holders",.ref h)]
def NoH (m:Str):Prop:=m≠("now":Str)/\m≠("floor":Str)/\m≠("slots":Str)/\m≠("leaves":Str)/\m≠("written":Str)/\m≠("marks":Str)/\m≠("past":Str)/\m≠("holders":Str)
instance {m:Str}:Decidable (NoH m):=by unfold NoH;infer_instance
section
variable {now now' fl mk mk':Int} {s l w h:Addr} {m:Str}
def wx:(Qd now fl s l w mk p h).lookup ("now":Str)=some (.int now):=gR
def Nu:(Qd now fl s l w mk p h).lookup ("floor":Str)=some (.int fl):=by unfold Qd;rw[bM ∅,gR]
def xW:(Qd now fl s l w mk p h).lookup ("slots":Str)=some (.ref s):=by unfold Qd;rw[bM ∅,bM ∅,gR]
def EC:(Qd now fl s l w mk p h).lookup ("leaves":Str)=some (.ref l):=by unfold Qd;rw[bM ∅,bM ∅,bM ∅,gR]
def EA:(Qd now fl s l w mk p h).lookup ("written":Str)=some (.ref w):=by unfold Qd;rw[bM ∅,bM ∅,bM ∅,bM ∅,gR]
def EB:(Qd now fl s l w mk p h).lookup ("marks":Str)=some (.int mk):=by unfold Qd;rw[bM ∅,bM ∅,bM ∅,bM ∅,bM ∅,gR]
def Nt:(Qd now fl s l w mk p h).lookup ("past":Str)=some (.ref p):=by unfold Qd;rw[bM ∅,bM ∅,bM ∅,bM ∅,bM ∅,bM ∅,gR]
def IY (n:NoH m):(Qd now fl s l w mk p h).lookup m=none:=by
 obtain⟨h1,h2,z,G,I,O,U,Y⟩:=n;unfold Qd;rw[bM h1,bM h2,bM z,bM G,bM I,bM O,bM U,bM Y];rfl
def KM:bL ("now":Str) (.int now') (Qd now fl s l w mk p h)=Qd now' fl s l w mk p h:=by unfold Qd;rw[bL,W7 M]
def MU:bL ("marks":Str) (.int mk') (Qd now fl s l w mk p h)=Qd now fl s l w mk' p h:=by
 unfold Qd;rw[bL,W6 ∅,bL,W6 ∅,bL,W6 ∅,bL,W6 ∅,bL,W6 ∅,bL,W7 M]
def Fn:(Qd now fl s l w mk p h).length<1000:=by show 8<1000;decide
end
def Ow (a w p h:Addr) (pa:List Pk):Addr->Prop:=λb=>b=a\/b=w\/b=p\/b=h\/∃e∈pa,b=e.m\/b=e.l
structure Qe (t:P5) (H:Hp) (a s l w p h:Addr) (x:PM):Prop where
 ob:∃dx,H a=some (.ins t.bf dx<|Qd x.now x.fl s l w x.ma p h)
 wr:H w=some (.lst<|x.di.map λe=>V.ref e.1)
 dr:∀e∈x.di,H e.1=some (.tup e.2)
 pa:H p=some (.dK<|az<|Qw x.pa)
 ho:H h=some (.dK<|az x.ho)
 mx:∀e∈x.pa,RY t H e.m e.l e.es
 ph:p≠h
 wl:∀e∈x.pa,e.l≠w
 kd:(x.pa.map (·.k)).Nodup
 md:(x.pa.map (·.m)).Nodup
 ld:(x.pa.map (·.l)).Nodup
def c7 {t u:TS} {D:ub} (M':St->Hp->Prop) (h1:∀nx,(∀z H',M' z H'->nx z H')->t {D with nx:=nx} B H) (h2:∀z H',M' z H'->u D z H'):yC t u D B H:=h1 (u D) h2
def Ak {kvs:List (Int×V)}:kS (az kvs)=(kvs.map (·.1)).map V.int:=by
 unfold kS az;rw[QR,QR];rfl
def bK {g:Str} {x:V} {r:List (Str×V)} (n:g≠f):bL f v ((g,x)::r)=(g,x)::bL f v r:=by rw[bL,W6 n]
def dn {H2:Hp} (s:Ds H H2) (n:H2 p=none):H p=none:=by
 cases e:H p with
 |none=>rfl
 |some o=>rw[s _ _ e]at n;cases n
def Ik {f:α->β} {l:List α} (n:(l.map f).Nodup) {x y:α} (hx:x∈l) (hy:y∈l) (e:f x=f y):x=y:=by
 induction l with
 |nil=>cases hx
 |cons z r I=>
  obtain⟨G,O⟩:=Zn.mp n;rcases QH.mp hx with rfl|hx'<;>rcases QH.mp hy with rfl|hy'
  .rfl
  .exact Wb (Qy.mpr ⟨y,hy',e.symm⟩) G
  .exact Wb (Qy.mpr ⟨x,hx',e⟩) G
  .exact I O hx' hy'
section
variable {s l w h:Addr} {x:PM} {pa:List Pk} {y:RP}
def Qe.dom (A:Qe t H a s l w p h x) (hb:Ow a w p h x.pa b):∃o,H b=some o/\∀ys,o≠ .tup ys:=by
 obtain⟨dx,G⟩:=A.ob;rcases hb with rfl|rfl|rfl|rfl|⟨e,he,rfl|rfl⟩
 .exact⟨_,G,λ_ z=>by cases z⟩
 .exact⟨_,A.wr,λ_ z=>by cases z⟩
 .exact⟨_,A.pa,λ_ z=>by cases z⟩
 .exact⟨_,A.ho,λ_ z=>by cases z⟩
 .obtain⟨O,I⟩:=(A.mx e he).ob;exact⟨_,I,λ_ z=>by cases z⟩
 .exact⟨_,(A.mx e he).li,λ_ z=>by cases z⟩
def Qe.keep (A:Qe t H a s l w p h x) (g:∀b,Ow a w p h x.pa b->H' b=H b) (z:∀b xs,H b=some (.tup xs)->H' b=some (.tup xs)):Qe t H' a s l w p h x:=
 ⟨A.ob.imp λ_ e=>(g a<|.inl M).trans e,(g w<|.inr<|.inl M).trans A.wr,λe he=>z _ _<|A.dr e he,(g p<|.inr<|.inr<|.inl M).trans A.pa,(g h<|.inr<|.inr<|.inr<|.inl M).trans A.ho,
  λe he=>(A.mx e he).keep (g _<|.inr<|.inr<|.inr<|.inr ⟨e,he,.inl M⟩) (g _<|.inr<|.inr<|.inr<|.inr ⟨e,he,.inr M⟩) z,A.ph,A.wl,A.kd,A.md,A.ld⟩
def Qe.same (A:Qe t H a s l w p h x) (m:Ds H H'):Qe t H' a s l w p h x:=A.keep (λb hb=>by
 obtain⟨o,e,_⟩:=A.dom hb;rw[e];exact m _ _ e) λb xs e=>m _ _ e
def Qe.set (A:Qe t H a s l w p h x) {now mk:Int} {fl:Int}:Qe t (upd H a<|.ins t.bf dx<|Qd now fl s l w mk p h) a s l w p h {x with now:=now,fl:=fl,ma:=mk}:=by
 obtain⟨U,I⟩:=A.ob;have n:∀{b:Addr} {o:HO},H b=some o->(∀c d fs,o= .ins c d fs->fs.length=1)->b≠a:=λe i z=>by
  rw[z,I]at e;have:=i _ _ _ (W8 e).symm;cases this
 have G:∀{b:Addr} {o:HO},H b=some o->(∀c d fs,o≠ .ins c d fs)->b≠a:=λe i=>n e λc d fs z=>Wb z (i c d fs);refine⟨⟨dx,ai⟩,by rw[ae (G A.wr λ_ _ _ z=>by cases z)];exact A.wr,λe he=>by rw[ae (G (A.dr e he) λ_ _ _ z=>by cases z)];exact A.dr e he,by rw[ae (G A.pa λ_ _ _ z=>by cases z)];exact A.pa,
  by rw[ae (G A.ho λ_ _ _ z=>by cases z)];exact A.ho,λe he=>?_,A.ph,A.wl,A.kd,A.md,A.ld⟩
 have M':=A.mx e he;obtain⟨Y,O⟩:=M'.ob;exact M'.keep (ae<|n O λ_ _ _ z=>by cases z;rfl) (ae<|G M'.li λ_ _ _ z=>by cases z) λb xs e=>by rwa[ae (G e λ_ _ _ z=>by cases z)]
def Qe.row (A:Qe t H a s l w p h x) (I:H r=some (.tup xs)):Qe t (upd H w<|.lst<|x.di.map (λe=>V.ref e.1)++ [.ref r]) a s l w p h {x with di:=x.di++ [(r,xs)]}:=by
 obtain⟨U,O⟩:=A.ob;have G:∀{b:Addr} {o:HO},H b=some o->(∀ys,o≠ .lst ys)->b≠w:=λe i z=>by
  rw[z,A.wr]at e;exact i _ (W8 e).symm
 refine⟨⟨U,by rwa[ae (G O λ_ z=>by cases z)]⟩,by rw[ai,QC];rfl,λe he=>?_,by rw[ae (G A.pa λ_ z=>by cases z)];exact A.pa,by rw[ae (G A.ho λ_ z=>by cases z)];exact A.ho,λe he=>?_,A.ph,A.wl,A.kd,A.md,A.ld⟩
 .rcases Q5.mp he with he|he
  .rw[ae (G (A.dr e he) λ_ z=>by cases z)];exact A.dr e he
  .rw[Q7.mp he,ae (G I λ_ z=>by cases z)];exact I
 .have M':=A.mx e he;obtain⟨Z,Y⟩:=M'.ob;exact M'.keep (ae<|G Y λ_ z=>by cases z) (ae<|A.wl e he) λb xs e=>by rwa[ae (G e λ_ z=>by cases z)]
noncomputable def R8 (pa:List Pk) (k:Int) (y:RP):List Pk:=pa.map λe=>if e.k=k then{e with es:=e.es++ [y]}else e
def Aa {f:Pk->β} (hf:∀e es,f {e with es:=es}=f e):(R8 pa k y).map f=pa.map f:=by
 unfold R8;rw[QR];refine ZD λe _=>?_;show f (if e.k=k then _ else e)=_;split
 .exact hf _ _
 .rfl
def Bq {e:Pk} (h:e∈R8 pa k y):∃g∈pa,e.k=g.k/\e.m=g.m/\e.l=g.l/\((g.k=k/\e.es=g.es++ [y])\/(g.k≠k/\e.es=g.es)):=by
 obtain⟨g,z,rfl⟩:=Qy.mp h;refine⟨g,z,?_⟩;split
 .rename_i c;exact⟨M,M,M,.inl ⟨c,M⟩⟩
 .rename_i c;exact⟨M,M,M,.inr ⟨c,M⟩⟩
def MY (hb:Ow a w p h (R8 pa k y) b):Ow a w p h pa b:=by
 rcases hb with z|z|z|z|⟨e,he,z⟩
 .exact .inl z
 .exact .inr<|.inl z
 .exact .inr<|.inr (.inl z)
 .exact .inr<|.inr (.inr<|.inl z)
 .obtain⟨g,G,_,e2,I,_⟩:=Bq he;rw[e2,I]at z;exact .inr<|.inr (.inr<|.inr ⟨g,G,z⟩)
def Qe.noted (A:Qe t H a s l w p h x) {e:Pk} (he:e∈x.pa) (ek:e.k=k) (M':RY t H' e.m e.l (e.es++ [y])) (Y:∀b o,b≠e.l->H b=some o->H' b=some o):Qe t H' a s l w p h {x with pa:=R8 x.pa k y}:=by
 obtain⟨dy,ho⟩:=A.ob;have hl:=(A.mx e he).li;have G:∀{b:Addr} {o:HO},H b=some o->(∀ys,o≠ .lst ys)->H' b=some o:=λe i=>Y _ _ (λz=>by
  rw[z,hl]at e;exact i _ (W8 e).symm) e
 refine⟨⟨dy,G ho<|λ_ z=>by cases z⟩,Y _ _ (A.wl e he).symm A.wr,λe he=>G (A.dr e he) (λ_ z=>by cases z),?_,G A.ho (λ_ z=>by cases z),λf hf=>?_,A.ph,λf hf=>?_,?_,?_,?_⟩
 .show H' p=some (.dK<|az<|Qw<|R8 x.pa k y);unfold Qw;rw[Aa λ_ _=>rfl];exact G A.pa λ_ z=>by cases z
 .obtain⟨g,I,e1,e2,O,⟨c,Z⟩|⟨c,Z⟩⟩:=Bq hf
  .have:g=e:=Ik A.kd I he (c.trans ek.symm);subst this;rw[e2,O,Z];exact M'
  .have U:=A.mx g I;obtain⟨dm,hm⟩:=U.ob;rw[e2,O,Z];exact U.keep ((G hm λ_ z=>by cases z).trans hm.symm) ((Y _ _ (λz=>c<|by rwa[Ik A.ld I he z]) U.li).trans U.li.symm) λb xs e=>G e λ_ z=>by cases z
 .obtain⟨g,I,_,_,O,_⟩:=Bq hf;rw[O];exact A.wl g I
 .show((R8 x.pa k y).map (·.k)).Nodup;rw[Aa λ_ _=>rfl];exact A.kd
 .show((R8 x.pa k y).map (·.m)).Nodup;rw[Aa λ_ _=>rfl];exact A.md
 .show((R8 x.pa k y).map (·.l)).Nodup;rw[Aa λ_ _=>rfl];exact A.ld
def E6 (pa:List Pk) (k:Int):(aF (Qw pa) k=none/\k∉pa.map (·.k))\/∃e∈pa,e.k=k/\aF (Qw pa) k=some (.ref e.m)/\fO pa k=e.es:=by
 induction pa with
 |nil=>exact .inl ⟨kK,λz=>by cases z⟩
 |cons e r O=>
  show(aF ((e.k,V.ref e.m)::Qw r) k=none/\_)\/∃g∈e::r,g.k=k/\aF ((e.k,V.ref e.m)::Qw r) k=_/\(if e.k=k then e.es else fO r k)=_;by_cases c:e.k=k
  .exact .inr ⟨e,QB,c,bB c,W7 c⟩
  .rw[bq c,W6 c];rcases O with⟨G,I⟩|⟨g,U,G,I,Y⟩
   .refine .inl ⟨G,λz=>?_⟩;rw[QO]at z;rcases QH.mp z with z|z
    .exact c z.symm
    .exact I z
   .exact .inr ⟨g,QD _ U,G,I,Y⟩
def Ah:∀{pa:List Pk},k∉pa.map (·.k)->fO pa k=[]
 | [],_=>rfl
 |e::r,n=>by
  rw[QO]at n;show(if e.k=k then e.es else fO r k)=[];rw[W6 λz=>n (by rw[z];exact QB)];exact Ah λz=>n (QD _ z)
def sP {j:Int}:∀{pa:List Pk},k∈pa.map (·.k)->fO (R8 pa k y) j=if j=k then fO pa k++ [y]else fO pa j
 |e::r,n=>by
  show(if(if e.k=k then{e with es:=e.es++ [y]}else e:Pk).k=j then(if e.k=k then{e with es:=e.es++ [y]}else e:Pk).es else fO (R8 r k y) j)=if j=k then(if e.k=k then e.es else fO r k)++ [y]else(if e.k=j then e.es else fO r j)
  by_cases c:e.k=k
  .rw[W7 c,W7 c];show(if e.k=j then e.es++ [y]else fO (R8 r k y) j)=_;by_cases d:j=k
   .rw[W7 d,W7 (c.trans d.symm)]
   .rw[W6 d,W6 λz=>d (z.symm.trans c),W6 λz=>d (z.symm.trans c)];by_cases m:k∈r.map (·.k)
    .rw[sP m,W6 d]
    .have:R8 r k y=r:=by
      unfold R8
      conv=>rhs;rw[<-List.map_id r]
      refine ZD λg G=>W6 λz=>m ?_;rw[<-z];exact Qy.mpr ⟨g,G,M⟩
     rw[this]
  .rw[W6 c,W6 c];have m:k∈r.map (·.k):=by
    rw[QO]at n;rcases QH.mp n with z|z
    .exact Wb z.symm c
    .exact z
   rw[sP m];by_cases d:j=k
   .rw[W7 d,W7 d,W6 λz=>c (z.trans d)]
   .rw[W6 d,W6 d]
def xL {e:Pk} {j:Int}:∀{pa:List Pk},e.k∉pa.map (·.k)->fO (pa++ [e]) j=if j=e.k then e.es else fO pa j
 | [],_=>by
  show(if e.k=j then e.es else[])=if j=e.k then e.es else[]
  by_cases c:e.k=j
  .rw[W7 c,W7 c.symm]
  .rw[W6 c,W6 (Ne.symm c)]
 |g::r,n=>by
  rw[QO]at n;show(if g.k=j then g.es else fO (r++ [e]) j)=if j=e.k then e.es else(if g.k=j then g.es else fO r j)
  rw[xL λz=>n (QD _ z)];by_cases c:g.k=j
  .rw[W7 c,W7 c,W6 λz=>n (by rw[<-z,<-c];exact QB)]
  .rw[W6 c,W6 c]
def Qe.newk (A:Qe t H a s l w p h x) {m g:Addr} (nk:k∉x.pa.map (·.k)) (M':RY t H m g []) (n1:¬Ow a w p h x.pa m) (U:¬Ow a w p h x.pa g):Qe t (upd H p<|.dK<|az<|Qw x.pa++ [(k,.ref m)]) a s l w p h {x with pa:=x.pa++ [⟨k,m,g,[]⟩]}:=by
 obtain⟨dy,Y⟩:=A.ob;have G:∀{b:Addr} {o:HO},H b=some o->(∀ys,o≠ .dK ys)->b≠p:=λe i z=>by
  rw[z,A.pa]at e;exact i _ (W8 e).symm
 have Z:∀{m' l':Addr} {es:List RP} {o:HO},RY t H m' l' es->RY t (upd H p o) m' l' es:=λM'=>by
  obtain⟨dm,hm⟩:=M'.ob;exact M'.keep (ae<|G hm λ_ z=>by cases z) (ae<|G M'.li λ_ z=>by cases z) λb xs e=>by rwa[ae (G e λ_ z=>by cases z)]
 refine⟨⟨dy,by rwa[ae (G Y λ_ z=>by cases z)]⟩,by rw[ae (G A.wr λ_ z=>by cases z)];exact A.wr,λe he=>by rw[ae (G (A.dr e he) λ_ z=>by cases z)];exact A.dr e he,?_,by rw[ae A.ph.symm];exact A.ho,λe he=>?_,A.ph,λe he=>?_,?_,?_,?_⟩
 .rw[ai];show _=some (HO.dK<|az<|Qw<|x.pa++ [⟨k,m,g,[]⟩]);unfold Qw;rw[QC];rfl
 .rcases Q5.mp he with he|he
  .exact Z<|A.mx e he
  .rw[Q7.mp he];exact Z M'
 .rcases Q5.mp he with he|he
  .exact A.wl e he
  .rw[Q7.mp he];exact λz=>U (.inr<|.inl z)
 all_goals
  rw[QC];refine VH.mpr ⟨?_,by simp,λu hu v I z=>?_⟩
 .exact A.kd
 .cases Q7.mp I;rw[z]at hu;exact nk hu
 .exact A.md
 .cases Q7.mp I;obtain⟨e,he,O⟩:=Qy.mp hu;exact n1<|.inr (.inr<|.inr<|.inr ⟨e,he,.inl<|z.symm.trans O.symm⟩)
 .exact A.ld
 .cases Q7.mp I;obtain⟨e,he,O⟩:=Qy.mp hu;exact U<|.inr (.inr<|.inr<|.inr ⟨e,he,.inr<|z.symm.trans O.symm⟩)
end
structure yt (pa pa':List Pk) (k:Int) (y:RP):Prop where
 of:∀j,fO pa' j=if j=k then fO pa k++ [y]else fO pa j
 ky:pa'.map (·.k)=if k∈pa.map (·.k)then pa.map (·.k)else pa.map (·.k)++ [k]
structure R4 (K:WN) (t:P5) (H:Hp) (a s l w p h:Addr) (Fs Fl:Addr->Prop) (x:PM):Prop where
 o:Qe t H a s l w p h x
 sl:Pg K t H s Fs x.st
 lv:Qf K t H l Fl x.ks
 a1:∀b,Fs b->¬Fl b
 a2:∀b,Ow a w p h x.pa b->¬Fs b
 a3:∀b,Ow a w p h x.pa b->¬Fl b
def R5 (a w p h:Addr) (Fs Fl:Addr->Prop) (pa:List Pk):Addr->Prop:=λb=>Fs b\/Fl b\/Ow a w p h pa b
section
variable {s l w h:Addr} {Fs Fs' Fl Fl':Addr->Prop} {x:PM}
def R4.slots (WM:R4 K t H a s l w p h Fs Fl x) (S:Pg K t H' s Fs' st) (f:Fr Fs Fs' H H'):R4 K t H' a s l w p h Fs' Fl {x with st:=st}/\Fr (R5 a w p h Fs Fl x.pa) (R5 a w p h Fs' Fl x.pa) H H':=by
 have G:∀b,Fl b->H' b=H b/\¬Fs' b:=λb hb=>by
  obtain⟨o,e⟩:=WM.lv.dom hb;have:=f b o (λz=>WM.a1 b z hb) e;exact⟨this.1.trans e.symm,this.2⟩
 have k2:∀b,Ow a w p h x.pa b->H' b=H b/\¬Fs' b:=λb hb=>by
  obtain⟨o,e,_⟩:=WM.o.dom hb;have:=f b o (WM.a2 b hb) e;exact⟨this.1.trans e.symm,this.2⟩
 have O:=WM.o.keep (H':=H') (λb hb=>(k2 b hb).1) λb xs e=>(f b _ (WM.sl.notup e) e).1;exact⟨⟨⟨O.ob,O.wr,O.dr,O.pa,O.ho,O.mx,O.ph,O.wl,O.kd,O.md,O.ld⟩,S,WM.lv.frame λb hb=>(G b hb).1,λb h1 h2=>(G b h2).2 h1,λb hb=>(k2 b hb).2,WM.a3⟩,λb o n e=>⟨(f b o (λz=>n<|.inl z) e).1,λz=>z.elim (f b o (λz=>n<|.inl z) e).2 λz=>n<|.inr z⟩⟩
def R4.leaves (WM:R4 K t H a s l w p h Fs Fl x) (S:Qf K t H' l Fl' ks) (f:Fr Fl Fl' H H'):R4 K t H' a s l w p h Fs Fl' {x with ks:=ks}/\Fr (R5 a w p h Fs Fl x.pa) (R5 a w p h Fs Fl' x.pa) H H':=by
 have G:∀b,Fs b->H' b=H b/\¬Fl' b:=λb hb=>by
  obtain⟨o,e⟩:=WM.sl.dom hb;have:=f b o (WM.a1 b hb) e;exact⟨this.1.trans e.symm,this.2⟩
 have k2:∀b,Ow a w p h x.pa b->H' b=H b/\¬Fl' b:=λb hb=>by
  obtain⟨o,e,_⟩:=WM.o.dom hb;have:=f b o (WM.a3 b hb) e;exact⟨this.1.trans e.symm,this.2⟩
 have O:=WM.o.keep (H':=H') (λb hb=>(k2 b hb).1) λb xs e=>(f b _ (WM.lv.notup e) e).1;exact⟨⟨⟨O.ob,O.wr,O.dr,O.pa,O.ho,O.mx,O.ph,O.wl,O.kd,O.md,O.ld⟩,WM.sl.frame λb hb=>(G b hb).1,S,λb h1=>(G b h1).2,WM.a2,λb hb=>(k2 b hb).2⟩,λb o n e=>⟨(f b o (λz=>n<|.inr<|.inl z) e).1,λz=>z.elim (λz=>n<|.inl z) λz=>z.elim (f b o (λz=>n<|.inr<|.inl z) e).2 λz=>n<|.inr (.inr z)⟩⟩
def R4.own (WM:R4 K t H a s l w p h Fs Fl x) (O:Qe t H' a s l w p h x') (I:x'.st=x.st) (e2:x'.ks=x.ks) (f:Fr (Ow a w p h x.pa) (Ow a w p h x'.pa) H H'):R4 K t H' a s l w p h Fs Fl x'/\Fr (R5 a w p h Fs Fl x.pa) (R5 a w p h Fs Fl x'.pa) H H':=by
 have G:∀b,Fs b->H' b=H b/\¬Ow a w p h x'.pa b:=λb hb=>by
  obtain⟨o,e⟩:=WM.sl.dom hb;have:=f b o (λz=>WM.a2 b z hb) e;exact⟨this.1.trans e.symm,this.2⟩
 have k2:∀b,Fl b->H' b=H b/\¬Ow a w p h x'.pa b:=λb hb=>by
  obtain⟨o,e⟩:=WM.lv.dom hb;have:=f b o (λz=>WM.a3 b z hb) e;exact⟨this.1.trans e.symm,this.2⟩
 exact⟨⟨O,by rw[I];exact WM.sl.frame λb hb=>(G b hb).1,by rw[e2];exact WM.lv.frame λb hb=>(k2 b hb).1,WM.a1,λb h1 h2=>(G b h2).2 h1,λb h1 h2=>(k2 b h2).2 h1⟩,λb o n e=>⟨(f b o (λz=>n<|.inr<|.inr z) e).1,λz=>z.elim (λz=>n<|.inl z) λz=>z.elim (λz=>n<|.inr<|.inl z) (f b o (λz=>n<|.inr<|.inr z) e).2⟩⟩
def R4.dom (WM:R4 K t H a s l w p h Fs Fl x) (hb:R5 a w p h Fs Fl x.pa b):∃o,H b=some o/\∀ys,o≠ .tup ys:=by
 have no:∀F:Addr->Prop,F b->(∀xs,H b=some (.tup xs)->¬F b)->∀o,H b=some o->∃o,H b=some o/\∀ys,o≠ .tup ys:=λF G n o e=>⟨o,e,λys z=>n ys (by rw[e,z]) G⟩;rcases hb with hb|hb|hb
 .obtain⟨o,e⟩:=WM.sl.dom hb;exact no Fs hb (λxs e=>WM.sl.notup e) o e
 .obtain⟨o,e⟩:=WM.lv.dom hb;exact no Fl hb (λxs e=>WM.lv.notup e) o e
 .exact WM.o.dom hb
def R4.keep (WM:R4 K t H a s l w p h Fs Fl x) (g:∀b,R5 a w p h Fs Fl x.pa b->H' b=H b) (z:∀b xs,H b=some (.tup xs)->H' b=some (.tup xs)):R4 K t H' a s l w p h Fs Fl x:=
 ⟨WM.o.keep (λb hb=>g b<|.inr<|.inr hb) z,WM.sl.frame λb hb=>g b<|.inl hb,WM.lv.frame λb hb=>g b<|.inr<|.inl hb,WM.a1,WM.a2,WM.a3⟩
end
structure Pj (x:PM):Prop where
 ks:∀z,z∈x.ks↔(aF x.st.kv z).isSome=true
 n0:0<=x.now
 m0:0<=x.ma
 dl:(x.di.length:Int)=x.now+x.ma
 pl:(x.pa.length:Int)<=x.now
 el:∀j,((fO x.pa j).length:Int)<=x.now
 sl:(x.st.kv.length:Int)<=x.now
 hn:(x.ho.map (·.1)).Nodup
 hv:∀p∈x.ho,x.fl<=p.1/\p.1<=x.now/\∃n:Int,p.2= .int n/\0<n
 fb:0<=x.fl/\x.fl<=x.now
 up:∀j,(fO x.pa j).Pairwise (λa b=>a.mo<b.mo)/\∀y∈fO x.pa j,y.mo<=x.now
def PN (K:WN) (t:P5) (H:Hp) (a:Addr) (F:Addr->Prop) (x:PM):Prop:=∃s l w p h Fs Fl,R4 K t H a s l w p h Fs Fl x/\Pj x/\∀b,F b↔R5 a w p h Fs Fl x.pa b
section
variable {x:PM}
def PN.ins (A:PN K t H a F x):∃dx fs,H a=some (.ins t.bf dx fs)/\(∀m,NoH m->fs.lookup m=none)/\fs.lookup ("now":Str)=some (.int x.now)/\fs.lookup ("floor":Str)=some (.int x.fl):=by
 obtain⟨s,l,w,p,h,Fs,Fl,WM,_⟩:=A;obtain⟨dx,e⟩:=WM.o.ob;exact⟨dx,_,e,λm z=>IY z,wx,Nu⟩
def PN.ok (A:PN K t H a F x):Pj x:=by
 obtain⟨s,l,w,p,h,Fs,Fl,WM,O,_⟩:=A;exact O
def PN.dom (A:PN K t H a F x) (hb:F b):∃o,H b=some o/\∀ys,o≠ .tup ys:=by
 obtain⟨s,l,w,p,h,Fs,Fl,WM,_,g⟩:=A;exact WM.dom<|(g b).mp hb
def PN.out (A:PN K t H a F x) (e:H b=none):¬F b:=λz=>by
 obtain⟨o,q,_⟩:=A.dom z;rw[q]at e;cases e
def PN.keep (A:PN K t H a F x) (g:∀b,F b->H' b=H b) (z:∀b xs,H b=some (.tup xs)->H' b=some (.tup xs)):PN K t H' a F x:=by
 obtain⟨s,l,w,p,h,Fs,Fl,WM,O,f⟩:=A;exact⟨s,l,w,p,h,Fs,Fl,WM.keep (λb hb=>g b<|(f b).mpr hb) z,O,f⟩
def PN.same (A:PN K t H a F x) (m:Ds H H'):PN K t H' a F x:=A.keep (λb hb=>by
 obtain⟨o,e,_⟩:=A.dom hb;rw[e];exact m _ _ e) λb xs e=>m _ _ e
def PN.upd (A:PN K t H a F x) (n:¬F q) (G:∀xs,H q≠some (.tup xs)):PN K t (L2.upd H q o) a F x:=A.keep (λb hb=>ae λz=>n<|z▸hb) λb xs e=>by rwa[ae λz=>G xs (by rw[<-z];exact e)]
end
def wS (t:P5):Sp:=λvs H Q _=>∃(a s l w p h r:Addr) (k:Int) (x:PM) (v:V) (xs:List V),vs=[.ref a,.ref r,v]/\Qe t H a s l w p h x/\H r=some (.tup xs)/\R9 xs 1=some (.int k)/\x.di.length<50000/\x.pa.length<50000/\(fO x.pa k).length<50000/\
 ∀(H':Hp) (pa':List Pk) (q:Addr),Qe t H' a s l w p h {x with now:=x.now+1,di:=x.di++ [(r,xs)],pa:=pa'}->yt x.pa pa' k ⟨q,x.now+1,v⟩->Fr (Ow a w p h x.pa) (Ow a w p h pa') H H'->Q (.int<|x.now+1) H'
def oN:Dr P w K mg base P1 3 t.qQ t.kF ["self","row","value"] (wS t):=by
 refine T.Kp.okl xk λs H vs Q E hr h _=>?_;intro X;obtain⟨a,s,l,wr,p,h,r,k,x,v,xs,rfl,A,ht,hk,l1,l2,l3,q⟩:=h;refine aj (P7 3<|aP bi Kc af<|λ_ _=>M)
   (aj (iT Ca af xV)
   (aj (aM<|dE QN Zy Zz eY (au Ca M)<|ac Kc ag)
   (aj (aM<|aQ (dE QY VT PySem.F.type_dict_setdefault Gp (au Ca M)<|ac PB<|ac (sH T.OB (xD T) hr.mo {_} T.OE T.J8 .nil ar) ag) T.Dp T.JU (xC T) hr.mo T.J7 .nil ar<|ac (au Ca M)<|ac M2 ag)
   (aC (aD<|au Ca M) ?_))))
 intros
 obtain⟨dx,ho⟩:=A.ob;refine⟨_,M,r,_,_,_,M,M,PX.of ht,hk,?_⟩;refine⟨_,M,a,_,dx,_,_,M,ho,T.aT,T.mi,wx,_,_,M,M,dx,_,ho,Fn,?_⟩;rw[KM];have A1:=A.set (now:=x.now+1) (mk:=x.ma) (fl:=x.fl) (dx:=dx);have o1:∀b o,b≠a->H b=some o->upd H a (.ins t.bf dx<|Qd (x.now+1) x.fl s l wr x.ma p h) b=some o:=λb o n e=>by rwa[ae n]
 have ra:r≠a:=λz=>by rw[z,ho]at ht;cases ht
 have O:=o1 _ _ ra ht;generalize upd H a (.ins t.bf dx<|Qd (x.now+1) x.fl s l wr x.ma p h)=H1 at A1 o1 O⊢;obtain⟨a3,a0⟩:=A1.ob;refine⟨_,M,a,_,a3,_,_,M,a0,T.aT,T.gB,EA,.inl ⟨M,_,Fz.of A1.wr⟩,_,M,wr,_,_,M,M,A1.wr,bg (by rw[Q0];show x.di.length<=_;lia),?_⟩;have U:=A1.row O;have o2:∀b o,¬Ow a wr p h x.pa b->H b=some o->upd H1 wr (.lst<|x.di.map (λe=>V.ref e.1)++ [.ref r]) b=some o:=λb o n e=>by rw[ae λz=>n (.inr<|.inl z)];exact o1 _ _ (λz=>n<|.inl z) e
 generalize upd H1 wr (.lst<|x.di.map (λe=>V.ref e.1)++ [.ref r])=H2 at U o2⊢;obtain⟨a4,a1⟩:=U.ob;refine⟨_,M,a,_,a4,_,_,M,a1,T.aT,T.zF,Nt,.inr<|.inr<|.inl ⟨M,.inl ⟨_,U.pa⟩⟩,_,M,λm dm nm nd a5=>⟨m,dm,M,ai,λH4 g M4 ng o4=>⟨M,?_⟩⟩⟩;have s3:Ds H2 (upd (upd H2 dm<|.own m) m<|.ins t.gT dm []):=bZ (ak nd) nm;have s4:Ds H2 H4:=λb o e=>o4 b o (λz=>by rw[z,nm]at e;cases e) (s3 b o e);have Y:=dn s3 ng;have A4:=U.same s4;have om:¬Ow a wr p h x.pa m:=λz=>by obtain⟨o,e,_⟩:=U.dom z;rw[nm]at e;cases e
 have og:¬Ow a wr p h x.pa g:=λz=>by obtain⟨o,e,_⟩:=U.dom z;rw[Y]at e;cases e
 have o5:∀b o,¬Ow a wr p h x.pa b->H b=some o->H4 b=some o/\b≠m/\b≠g:=λb o n e=>⟨s4 _ _<|o2 b o n e,λz=>(by have:=o2 b o n e;rw[z,nm]at this;cases this),λz=>(by have:=o2 b o n e;rw[z,Y]at this;cases this)⟩;clear s3 s4 o4 o2 o1 A1 U a1 a0 ho A ng nm nd a5 Y O ht;refine⟨p,_,Sum.inl k,.ref m,M,M,A4.pa,(by rw[bz];exact bg<|by show(Qw x.pa).length<=_;unfold Qw;rw[Q0];lia),λu hu=>?A,λZ=>?WM⟩
 case' A=>
  have hu:aF (az<|Qw x.pa) (Sum.inl k:Key)=some u:=hu;rw[O6]at hu;obtain⟨e,he,I,ev,em⟩:∃e∈x.pa,e.k=k/\aF (Qw x.pa) k=some (.ref e.m)/\fO x.pa k=e.es:=by
   rcases E6 x.pa k with⟨z,_⟩|z
   .rw[z]at hu;cases hu
   .exact z
  rw[ev]at hu;cases hu;obtain⟨G,A5,he,N,f5⟩:∃G,Qe t H4 a s l wr p h {x with now:=x.now+1,di:=x.di++ [(r,xs)],pa:=G}/\e∈G/\(∀y,yt x.pa (R8 G k y) k y)/\Fr (Ow a wr p h x.pa) (Ow a wr p h G) H H4:=
   ⟨x.pa,A4,he,λy=>⟨λj=>sP<|Qy.mpr ⟨e,he,I⟩,by rw[Aa λ_ _=>M,W7 (Qy.mpr ⟨e,he,I⟩)]⟩,λb o n e=>⟨(o5 b o n e).1,n⟩⟩
  have le:e.es.length<50000:=by rwa[<-em]
  clear A4 em ev o5
 case' WM=>
  have Z:aF (az<|Qw x.pa) (Sum.inl k:Key)=none:=Z;rw[O6]at Z;have nk:k∉x.pa.map (·.k):=by
   rcases E6 x.pa k with⟨_,z⟩|⟨e,_,_,z,_⟩
   .exact z
   .rw[z]at Z;cases Z
  have ep:bn (az<|Qw x.pa) (Sum.inl k:Key) (.ref m)=az (Qw x.pa++ [(k,.ref m)]):=by
   rw[cN];unfold bn;rw[dw,Z];rfl
  rw[ep];obtain⟨e,ee,I,le⟩:∃e:Pk,e=⟨k,m,g,[]⟩/\e.k=k/\e.es.length<50000:=⟨_,M,M,by show 0<50000;decide⟩;obtain⟨G,A5,he,N,f5⟩:∃G,Qe t (upd H4 p<|.dK<|az<|Qw x.pa++ [(k,.ref m)]) a s l wr p h {x with now:=x.now+1,di:=x.di++ [(r,xs)],pa:=G}/\e∈G/\(∀y,yt x.pa (R8 G k y) k y)/\Fr (Ow a wr p h x.pa) (Ow a wr p h G) H (upd H4 p<|.dK<|az<|Qw x.pa++ [(k,.ref m)]):=by
   refine⟨x.pa++ [e],ee▸A4.newk nk M4 om og,QV _ QB,λy=>⟨λj=>?_,?_⟩,λb o n eb=>⟨?_,λz=>?_⟩⟩
   .have a2:e.k∉x.pa.map (·.k):=by rwa[I]
    rw[sP (by rw[QC];exact QV _<|Q7.mpr I.symm),xL a2,xL a2,W7 I.symm,Ah nk,ee];by_cases c:j=k
    .rw[W7 c,W7 c]
    .rw[W6 c,W6 c,W6 c]
   .rw[Aa λ_ _=>M,W6 nk,QC,<-I];rfl
   .rw[ae λz=>n (.inr<|.inr<|.inl z)];exact(o5 b o n eb).1
   .rcases z with z|z|z|z|⟨e',aa,z⟩
    .exact n<|.inl z
    .exact n<|.inr (.inl z)
    .exact n<|.inr (.inr<|.inl z)
    .exact n<|.inr (.inr<|.inr<|.inl z)
    .rcases Q5.mp aa with y|y
     .exact n<|.inr (.inr<|.inr<|.inr ⟨e',y,z⟩)
     .rw[Q7.mp y,ee]at z;exact z.elim (o5 b o n eb).2.1 (o5 b o n eb).2.2
  have em:V.ref m=V.ref e.m:=by rw[ee]
  clear A4 M4 o5 om og Z nk ep;generalize upd H4 p (.dK<|az<|Qw x.pa++ [(k,.ref m)])=H5 at A5 f5⊢;rw[em]
 all_goals
  have M5:=A5.mx e he;obtain⟨dy,hm⟩:=M5.ob;obtain⟨ab,ah⟩:=A5.ob;refine⟨e.m,dy,_,M,hm,bM ∅,_,M,a,_,ab,_,_,M,ah,T.aT,T.mi,wx,_,M,e.m,e.l,e.es,_,v,M,M5,(),λH6 y M6 ny o6=>?_⟩;have A6:=A5.noted he I M6 o6;obtain⟨an,ax⟩:=A6.ob;refine⟨_,M,a,_,an,_,_,M,ax,T.aT,T.mi,wx,q _ _ y A6 (N _)<|f5.trans λb o n eb=>⟨o6 b o (λz=>n<|.inr<|.inr<|.inr<|.inr ⟨e,he,.inr z⟩) eb,λz=>n<|MY z⟩⟩
def PM.new:PM:=⟨0,0,0,O8.new,[],[],[],[]⟩
def PM.new_ok:Pj PM.new:=⟨λz=>⟨(λy=>by cases y),(λy=>by cases y)⟩,(_),(_),M,(_),λ_=>by show((0:Nat):Int)<=0;decide,(_),Zx,(λ_ z=>by cases z),(_),λ_=>⟨Ws,(λy z=>by cases z)⟩⟩
def cR {nx:Hp->Prop} (k:∀H',H' a=some (.ins C dx<|bL f v fs)->(∀b,b≠a->H' b=H b)->nx H'):nx (upd H a<|.ins C dx<|bL f v fs):=k _ ai λ_ n=>ae n
def mq {m:Nat} (h:Nat.ble (n+1) m=true):n<m:=Nat.le_of_ble_eq_true h
def wQ (K:WN) (t:P5):Sp:=λvs H Q _=>∃(a dx:Addr),vs=[.ref a]/\H a=some (.ins t.bf dx [])/\∀H' F,PN K t H' a F PM.new->Fr (λb=>b=a) F H H'->Q .non H'
def xF:Dr P w K mg base P1 4 t.qO t.kD ["self"] (wQ K t):=by
 refine T.Kn.okl xi λs H vs Q E hr h _=>?_;intro X;obtain⟨a,dx,rfl,ha,q⟩:=h;refine aj (bh Ca af M)
   (aj (bh Ca af M)
   (aj (bh Ca (sH T.OA (xA T) hr.mo {_} T.OD T.J0 .nil ar) M)
   (aj (bh Ca (sH T.NV (vX T) hr.mo {_} T.NW T.JG .nil ar) M)
   (aj (bh Ca (cn ag) M)
   (aj (bh Ca af M)
   (aj (bh Ca fJ M)
   (aC (bh Ca fJ M) ?_)))))))
 intros
 refine⟨_,M,a,_,dx,[],M,ha,T.aT,T.mi,mq (by kernel_rfl),cR λH1 h1 o1=>?_⟩;refine⟨_,M,a,_,dx,_,M,h1,T.aT,T.Il,mq (by kernel_rfl),cR λH2 h2 o2=>?_⟩;refine λs ds ns G a0=>⟨s,ds,M,ai,by rw[ae a0];exact ai,λH3 Fs S3 f3=>⟨M,?_⟩⟩;have k3:∀b o,H2 b=some o->H3 b=some o/\¬Fs b:=λb o e=>f3 b o (λz=>z.elim (λz=>by rw[z,ns]at e;cases e) λz=>by rw[z,G]at e;cases e) (bZ (ak G) ns _ _ e);obtain⟨h3,na⟩:=k3 _ _ h2;refine⟨_,M,a,_,dx,_,M,h3,T.aT,T.dG,mq (by kernel_rfl),cR λH4 h4 o4=>?_⟩;have S4:=S3.frame (H':=H4) λb hb=>o4 b λz=>na (z▸hb);refine λl dl nl I a1=>⟨l,dl,M,ai,by rw[ae a1];exact ai,λH5 Fl L5 f5=>⟨M,?_⟩⟩;have k5:∀b o,H4 b=some o->H5 b=some o/\¬Fl b:=λb o e=>f5 b o (λz=>z.elim (λz=>by rw[z,nl]at e;cases e) λz=>by rw[z,I]at e;cases e) (bZ (ak I) nl _ _ e);obtain⟨h5,nb⟩:=k5 _ _ h4;refine⟨_,M,a,_,dx,_,M,h5,T.aT,T.iq,mq (by kernel_rfl),cR λH6 h6 o6=>?_⟩;have L6:=L5.frame (H':=H6) λb hb=>o6 b λz=>nb (z▸hb);have S6:=(S4.same λb o e=>(k5 b o e).1).frame (H':=H6) λb hb=>o6 b λz=>na (z▸hb);have ap:∀b,Fs b->¬Fl b:=λb hb=>by
  obtain⟨o,e⟩:=S4.dom hb;exact(k5 b o e).2
 have k6:∀b o,b≠a->H b=some o->H6 b=some o/\¬Fs b/\¬Fl b:=λb o n e=>by
  obtain⟨e3,n3⟩:=k3 b o (by rwa[o2 b n,o1 b n]);obtain⟨e5,n5⟩:=k5 b o (by rwa[o4 b n]);exact⟨by rwa[o6 b n],n3,n5⟩
 clear f3 k3 f5 k5 S4 L5 S3 ns G a0 nl I a1 h1 h2 h3 h4 h5 o1 o2 o4 o6;refine⟨QF _,λwr nw=>⟨_,M,a,_,dx,_,M,ak nw _ _ h6,T.aT,T.gB,mq (by kernel_rfl),cR λH7 h7 o7=>?_⟩⟩;refine⟨_,M,a,_,dx,_,M,h7,T.aT,T.jn,mq (by kernel_rfl),cR λH8 h8 o8=>?_⟩;refine λp np=>⟨_,M,a,_,dx,_,M,ak np _ _ h8,T.aT,T.zF,mq (by kernel_rfl),cR λH9 h9 o9=>?_⟩;refine λh nh=>⟨_,M,a,_,dx,_,M,ak nh _ _ h9,T.aT,T.Gn,mq (by kernel_rfl),cR λa2 a4 a3=>?_⟩;have kk:∀{A WM:Hp} {q:Addr} {u:HO},A q=none->(∀b,b≠a->WM b=upd A q u b)->∀b o,b≠a->A b=some o->WM b=some o:=λnq e b o n h=>by rwa[e b n,ae (am h nq)]
 have wa:=(am h6 nw).symm;have pa':=(am h8 np).symm;have U:=(am h9 nh).symm;have e8:∀b o,b≠a->H6 b=some o->H8 b=some o:=λb o n e=>by rw[o8 b n];exact kk nw o7 b o n e
 have e9:=kk np o9;have Y:=kk nh a3;have w8:H8 wr=some (.lst []):=by rw[o8 _ wa,o7 _ wa];exact ai
 have p9:H9 p=some (.dK []):=by rw[o9 _ pa'];exact ai
 have Z:∀b o,b≠a->H6 b=some o->a2 b=some o:=λb o n e=>Y b o n (e9 b o n<|e8 b o n e);have O:Qe t a2 a s l wr p h PM.new:=⟨⟨dx,a4.trans<|by kernel_rfl⟩,Y _ _ wa<|e9 _ _ wa w8,(λe he=>by cases he),Y _ _ pa' p9,by rw[a3 _ U];exact ai,(λe he=>by cases he),am p9 nh,(λe he=>by cases he),Zx,Zx,Zx⟩;have fresh:∀b,(b=wr\/b=p\/b=h)->H6 b=none:=λb hb=>by
  cases e:H6 b with
  |none=>rfl
  |some o=>
   rcases hb with rfl|rfl|rfl
   .rw[nw]at e;cases e
   .rw[e8 _ _ pa' e]at np;cases np
   .rw[e9 _ _ U (e8 _ _ U e)]at nh;cases nh
 have ow:∀b,Ow a wr p h [] b->b=a\/H6 b=none:=λb hb=>by
  rcases hb with z|z|z|z|⟨e,he,_⟩
  .exact .inl z
  .exact .inr<|fresh b (.inl z)
  .exact .inr<|fresh b (.inr<|.inl z)
  .exact .inr<|fresh b (.inr<|.inr z)
  .cases he
 refine q _ (R5 a wr p h Fs Fl []) ⟨s,l,wr,p,h,Fs,Fl,⟨O,S6.frame λb hb=>?_,L6.frame λb hb=>?_,ap,λb hb z=>?_,λb hb z=>?_⟩,PM.new_ok,λ_=>Iff.rfl⟩ λb o n e=>?_
 .obtain⟨o,e⟩:=S6.dom hb;rw[e];exact Z b o (λz=>na<|z▸hb) e
 .obtain⟨o,e⟩:=L6.dom hb;rw[e];exact Z b o (λz=>nb<|z▸hb) e
 .rcases ow b hb with y|y
  .exact na<|y▸z
  .exact S6.out y z
 .rcases ow b hb with y|y
  .exact nb<|y▸z
  .exact L6.out y z
 .obtain⟨c1,c2,c3⟩:=k6 b o n e;refine⟨Z b o n c1,λz=>?_⟩;rcases z with z|z|z
  .exact c2 z
  .exact c3 z
  .rcases ow b z with y|y
   .exact n y
   .rw[c1]at y;cases y
def qX (K:WN) (t:P5):Sp:=λvs H Q _=>∃(a:Addr) (F:Addr->Prop) (x:PM),vs=[.ref a]/\PN K t H a F x/\x.now+x.ma<40000/\
 ∀(H':Hp) (F':Addr->Prop) (r:Addr),PN K t H' a F' {x with ma:=x.ma+1,di:=x.di++ [(r,[.str "mark",.int (x.ma+1)])]}->Fr F F' H H'->Q (.int<|x.ma+1) H'
def jk:Dr P w K mg base P1 1 t.jR t.fX ["self"] (qX K t):=by
 refine T.FM.okl re λs H vs Q E hr h _=>?_;intro X;obtain⟨a,F,x,rfl,A,l1,q⟩:=h;refine aj (iT Ca af xV)
   (aj (aM<|dE QN Zy Zz eY (au Ca M)<|ac (bQ<|ac gy<|ac (au Ca M) ag) ag)
   (aC (aD<|au Ca M) ?_))
 intros
 obtain⟨s,l,wr,p,h,Fs,Fl,WM,O,g⟩:=A;obtain⟨dx,ho⟩:=WM.o.ob;refine⟨_,M,a,_,dx,_,_,M,ho,T.aT,T.jn,EB,_,_,M,M,dx,_,ho,Fn,?_⟩;rw[MU];have A1:=WM.o.set (now:=x.now) (mk:=x.ma+1) (fl:=x.fl) (dx:=dx);have f1:Fr (Ow a wr p h x.pa) (Ow a wr p h x.pa) H (upd H a<|.ins t.bf dx<|Qd x.now x.fl s l wr (x.ma+1) p h):=λb o n e=>⟨by rwa[ae λz=>n (.inl z)],n⟩;generalize upd H a (.ins t.bf dx<|Qd x.now x.fl s l wr (x.ma+1) p h)=H1 at A1 f1⊢;obtain⟨G,I⟩:=A1.ob;have dl:=O.dl;refine⟨_,M,a,_,G,_,_,M,I,T.aT,T.gB,EA,.inl ⟨M,_,Fz.of A1.wr⟩,?_⟩;refine⟨_,M,a,_,G,_,_,M,I,T.aT,T.jn,EB,(by show 2<=sizeLine;decide),λr nr=>?_⟩;have s2:=ak (o:= .tup [.str "mark",.int (x.ma+1)]) nr;have U:=A1.same s2;have f2:=f1.trans (Fr.of_same s2);have ht:upd H1 r (.tup [.str "mark",.int (x.ma+1)]) r=some (.tup [.str "mark",.int (x.ma+1)]):=ai;generalize upd H1 r (.tup [.str "mark",.int (x.ma+1)])=H2 at U f2 ht⊢;refine⟨wr,_,_,M,M,U.wr,bg (by rw[Q0];show x.di.length<=_;lia),?_⟩;have Y:=U.row ht;have f3:Fr (Ow a wr p h x.pa) (Ow a wr p h x.pa) H (upd H2 wr<|.lst<|x.di.map (λe=>V.ref e.1)++ [.ref r]):=λb o n e=>⟨by rw[ae λz=>n (.inr<|.inl z)];exact(f2 b o n e).1,n⟩;generalize upd H2 wr (.lst<|x.di.map (λe=>V.ref e.1)++ [.ref r])=H3 at Y f3⊢;obtain⟨Z,a0⟩:=Y.ob;obtain⟨B3,f4⟩:=WM.own Y M M f3;refine⟨_,M,a,_,Z,_,_,M,a0,T.aT,T.jn,EB,q H3 F r ⟨s,l,wr,p,h,Fs,Fl,B3,⟨O.ks,O.n0,?_,?_,O.pl,O.el,O.sl,O.hn,O.hv,O.fb,O.up⟩,g⟩ ?_⟩
 .have:=O.m0;show 0<=x.ma+1;lia
 .show((x.di++ [(r,_)]).length:Int)=x.now+(x.ma+1);rw[Q8,Zw];lia
 .exact λb o n e=>⟨(f4 b o (λz=>n<|(g b).mpr z) e).1,n⟩
def PN.klen {x:PM} (A:PN K t H a F x):(x.ks.length:Int)<=x.now:=by
 obtain⟨s,l,w,p,h,Fs,Fl,WM,O,_⟩:=A;obtain⟨L,A,ls,_,ok,e,_⟩:=WM.lv;have nd:x.ks.Nodup:=by
  rw[<-e];exact List.Pairwise.imp (λh z=>()) ok.up
 have:=gX (S:=x.st.kv.map (·.1)) nd λz hz=>Kd.mpr ((O.ks z).mp hz);rw[Q0]at this;have:=O.sl;lia
def Pj.noted {x:PM} {y:RP} (O:Pj x) (N:yt x.pa pa' k y):(pa'.length:Int)<=x.now+1/\∀j,((fO pa' j).length:Int)<=x.now+1:=by
 constructor
 .have h1:=O.pl;have h2:=Wr List.length N.ky;rw[Q0]at h2;split at h2
  .rw[Q0]at h2;lia
  .rw[Q8,Q0,Zw]at h2;lia
 .intro j;rw[N.of];split
  .have:=O.el k;rw[Q8,Zw];lia
  .have:=O.el j;lia
def Pj.hv1 {x:PM} (O:Pj x):∀p∈x.ho,x.fl<=p.1/\p.1<=x.now+1/\∃n:Int,p.2= .int n/\0<n:=λp z=>⟨(O.hv p z).1,by have:=(O.hv p z).2.1;lia,(O.hv p z).2.2⟩
def Pj.fb1 {x:PM} (O:Pj x):0<=x.fl/\x.fl<=x.now+1:=⟨O.fb.1,by have:=O.fb.2;lia⟩
def Pj.up1 {x:PM} {y:RP} (O:Pj x) (N:yt x.pa pa' k y) (e:y.mo=x.now+1):∀j,(fO pa' j).Pairwise (λa b=>a.mo<b.mo)/\∀z∈fO pa' j,z.mo<=x.now+1:=λj=>by
 rw[N.of];obtain⟨I,G⟩:=O.up k;split
 .refine⟨QI.mpr ⟨I,ZN _ _,λa ha b hb=>?_⟩,λz hz=>?_⟩
  .rw[Q7.mp hb,e];have:=G a ha;lia
  .rcases Q5.mp hz with hz|hz
   .have:=G z hz;lia
   .rw[Q7.mp hz,e];exact Xa _
 .obtain⟨U,Y⟩:=O.up j;exact⟨U,λz hz=>by have:=Y z hz;lia⟩
def yS (K:WN) (t:P5):Sp:=λvs H Q _=>∃(a:Addr) (k i:Int) (F:Addr->Prop) (x:PM),vs=[.ref a,.int k,.int i]/\PN K t H a F x/\0<=k/\x.now+x.ma<4000/\
 ∀(H':Hp) (F':Addr->Prop) (ks':List Int) (r q:Addr) (pa':List Pk),PN K t H' a F' {x with now:=x.now+1,st:=x.st.put k (.int i),ks:=ks',di:=x.di++ [(r,[.str "put",.int k,.int i])],pa:=pa'}->yt x.pa pa' k ⟨q,x.now+1,.int i⟩->Fr F F' H H'->Q (.int<|x.now+1) H'
def zC:Dr P w K mg base P1 5 t.tU t.mQ ["self","key","value"] (yS K t):=by
 refine T.LI.okl zh λs H vs Q E hr h _=>?_;intro X;obtain⟨a,k,i,F,x,rfl,A,k0,l1,q⟩:=h;refine aj (aO (io<|bV<|aQ (au Ca M) T.aL T.By (qt T) hr.mo T.B6 .nil ar<|ac Kc ag)
    (aB<|aM<|aQ (au Ca M) T.aN T.JV (xE T) hr.mo T.J9 .nil ar<|ac Kc ag)
    aE)
   (aj (aM<|aQ (au Ca M) T.aL T.K5 (zx T) hr.mo T.Lu .nil ar<|ac Kc<|ac M2 ag)
   (aC (aD<|aQ Ca T.aT T.zJ (oN T) hr.mo T.zP .nil ar<|ac (bQ<|ac gy<|ac Kc<|ac M2 ag)<|ac M2 ag) ?_))
 intros
 have kl:=A.klen;obtain⟨s,l,wr,p,h,Fs,Fl,WM,O,g⟩:=A;have n0:=O.n0;have m0:=O.m0;have sl:=O.sl;obtain⟨dx,ho⟩:=WM.o.ob;obtain⟨ds,fs,hs,hm⟩:=WM.sl.ins
 (try dsimp only)
 refine c7 (λB H2=>∃(U G:Addr->Prop) (I:List Int),B=[some (.ref a),some (.int k),some (.int i)]/\R4 K t H2 a s l wr p h U G {x with ks:=I}/\(∀z,z∈I↔z=k\/z∈x.ks)/\Fr (R5 a wr p h Fs Fl x.pa) (R5 a wr p h U G x.pa) H H2) (λnx go=>?_)<|λB H2 w=>?_
 .refine⟨_,M,a,_,dx,_,_,M,ho,T.aT,T.dG,xW,s,ds,fs,M,hs,hm _ ∅,_,M,s,k,Fs,x.st,M,WM.sl,k0,λH1 a0 S1 f1=>?_⟩;obtain⟨B1,g1⟩:=WM.slots S1 f1;obtain⟨a1,a2⟩:=B1.o.ob;obtain⟨dl,fl,hl,a3⟩:=B1.lv.ins;cases ev:(aF x.st.kv k).isSome with
  |true=>
   refine⟨_,M,bP (λc=>?_)<|λ_=>?_⟩
   .cases c
   .exact go _ _ ⟨a0,Fl,x.ks,M,B1,λz=>⟨.inr,λy=>y.elim (λy=>by rw[y];exact(O.ks k).mpr ev) id⟩,g1⟩
  |false=>
   have nk:k∉x.ks:=λz=>by have:=(O.ks k).mp z;rw[ev]at this;cases this
   refine⟨_,M,bP (λ_=>?_)<|λc=>?_⟩
   .refine⟨_,M,a,_,a1,_,_,M,a2,T.aT,T.iq,EC,l,dl,fl,M,hl,a3 _ ∅,_,M,l,k,Fl,x.ks,M,B1.lv,(),λ_ H2 G I L2 mem f2=>?_,λz=>Wb z nk⟩;obtain⟨Z,g2⟩:=B1.leaves L2 f2;exact go _ _ ⟨a0,G,I,M,Z,mem,g1.trans g2⟩
   .exact Wb M c
 .obtain⟨U,G,I,rfl,Z,mem,g2⟩:=w;obtain⟨a4,a5⟩:=Z.o.ob;obtain⟨aa,ab,ah,an⟩:=Z.sl.ins;refine⟨_,M,a,_,a4,_,_,M,a5,T.aT,T.dG,xW,s,aa,ab,M,ah,an _ ∅,_,M,_,M,s,k,i,U,x.st,M,Z.sl,k0,(),λH3 Y S3 f3=>?_⟩;obtain⟨B3,g3⟩:=Z.slots S3 f3;obtain⟨ax,b1⟩:=B3.o.ob;refine⟨_,M,a,ax,_,M,b1,IY ∅,_,M,_,M,(by show 3<=sizeLine;decide),λr nr=>?_⟩;have s4:=ak (o:= .tup [.str "put",.int k,.int i]) nr;have ht:upd H3 r (.tup [.str "put",.int k,.int i]) r=some (.tup [.str "put",.int k,.int i]):=ai;have B4:R4 K t (upd H3 r<|.tup [.str "put",.int k,.int i]) a s l wr p h Y G _:=B3.keep (λb hb=>by
   obtain⟨o,e,_⟩:=B3.dom hb;rw[e];exact s4 _ _ e) λb xs e=>s4 _ _ e
  have g4:=(g2.trans g3).trans (Fr.of_same s4);generalize upd H3 r (.tup [.str "put",.int k,.int i])=H4 at B4 ht g4⊢;have dl:=O.dl;have pl:=O.pl;have el:=O.el k;refine⟨_,M,a,s,l,wr,p,h,r,k,_,.int i,_,M,B4.o,ht,M,by show x.di.length<50000;lia,by show x.pa.length<50000;lia,by show(fO x.pa k).length<50000;lia,λH5 pa' y O5 N f5=>?_⟩;obtain⟨B5,g5⟩:=B4.own O5 M M f5;obtain⟨N1,N2⟩:=O.noted N;have ek:(x.st.put k<|.int i).kv=bn x.st.kv k (.int i):=O8.three_kv;refine q H5 (R5 a wr p h Y G pa') I r y pa' ⟨s,l,wr,p,h,Y,G,B5,⟨λz=>?_,by show 0<=x.now+1;lia,m0,?_,N1,N2,?_,O.hn,O.hv1,O.fb1,O.up1 N M⟩,λ_=>Iff.rfl⟩ N ?_
  .show z∈I↔(aF (x.st.put k<|.int i).kv z).isSome=true;rw[mem,ek,<-Kd,sU,O.ks];split
   .rename_i c
    rw[Kd];exact⟨λy=>y.elim (λy=>y▸c) id,.inr⟩
   .rw[Q5,Q7,Kd];exact⟨λy=>y.elim .inr .inl,λy=>y.elim .inr .inl⟩
  .show((x.di++ [(r,_)]).length:Int)=x.now+1+x.ma;rw[Q8,Zw];lia
  .show((x.st.put k<|.int i).kv.length:Int)<=x.now+1;rw[ek];have:=cu x.st.kv k (.int i);lia
  .exact λb o n e=>(g4.trans g5) b o (λz=>n<|(g b).mpr z) e
def wR (K:WN) (t:P5):Sp:=λvs H Q E=>∃(a:Addr) (k:Int) (F:Addr->Prop) (x:PM),vs=[.ref a,.int k]/\PN K t H a F x/\0<=k/\x.now+x.ma<4000/\
 ((aF x.st.kv k).isSome=true->∀(H':Hp) (F':Addr->Prop) (ks':List Int) (r q:Addr) (pa':List Pk),PN K t H' a F' {x with now:=x.now+1,st:=x.st.drop k,ks:=ks',di:=x.di++ [(r,[.str "drop",.int k])],pa:=pa'}->yt x.pa pa' k ⟨q,x.now+1,.non⟩->Fr F F' H H'->Q (.int<|x.now+1) H')/\
 (aF x.st.kv k=none->False)
def xG:Dr P w K mg base P1 6 t.qP t.kE ["self","key"] (wR K t):=by
 refine T.Ko.okl xj λs H vs Q E Z h _=>?_;intro X;obtain⟨a,k,F,x,rfl,A,k0,l1,q,qx⟩:=h;refine aj (aM<|aQ (au Ca M) T.aL T.JT (xB T) Z.mo T.J6 .nil ar<|ac Kc ag)
   (aj (aM<|aQ (au Ca M) T.aN T.Fe (rD T) Z.mo T.FE .nil ar<|ac Kc ag)
   (aC (aD<|aQ Ca T.aT T.zJ (oN T) Z.mo T.zP .nil ar<|ac (bQ<|ac gy<|ac Kc ag)<|ac a8 ag) ?_))
 intros
 have kl:=A.klen;obtain⟨s,l,wr,p,h,Fs,Fl,WM,O,g⟩:=A;have n0:=O.n0;have m0:=O.m0;have sl:=O.sl;obtain⟨dx,ho⟩:=WM.o.ob;obtain⟨ds,fs,hs,hm⟩:=WM.sl.ins
 (try dsimp only)
 refine⟨_,M,a,_,dx,_,_,M,ho,T.aT,T.dG,xW,s,ds,fs,M,hs,hm _ ∅,_,M,s,k,Fs,x.st,M,WM.sl,k0,λev=>⟨(),λH1 G S1 f1=>?_⟩,λhn=>(qx hn).elim⟩
 .obtain⟨Y,g1⟩:=WM.slots S1 f1;obtain⟨a0,a1⟩:=Y.o.ob;obtain⟨dl,fl,hl,a2⟩:=Y.lv.ins;refine⟨_,M,a,_,a0,_,_,M,a1,T.aT,T.iq,EC,l,dl,fl,M,hl,a2 _ ∅,_,M,l,k,Fl,x.ks,M,Y.lv,(),λ_ H2 I U L2 mem f2=>?_,λz=>Wb ((O.ks k).mpr ev) z⟩;obtain⟨B3,g3⟩:=Y.leaves L2 f2;obtain⟨a3,a4⟩:=B3.o.ob;refine⟨_,M,a,a3,_,M,a4,IY ∅,_,M,(by show 2<=sizeLine;decide),λr nr=>?_⟩;have s4:=ak (o:= .tup [.str "drop",.int k]) nr;have ht:upd H2 r (.tup [.str "drop",.int k]) r=some (.tup [.str "drop",.int k]):=ai;have B4:R4 K t (upd H2 r<|.tup [.str "drop",.int k]) a s l wr p h G I _:=B3.keep (λb hb=>by
   obtain⟨o,e,_⟩:=B3.dom hb;rw[e];exact s4 _ _ e) λb xs e=>s4 _ _ e
  have g4:=(g1.trans g3).trans (Fr.of_same s4);generalize upd H2 r (.tup [.str "drop",.int k])=H4 at B4 ht g4⊢;have dl:=O.dl;have pl:=O.pl;have el:=O.el k;refine⟨a,s,l,wr,p,h,r,k,_,.non,_,M,B4.o,ht,M,by show x.di.length<50000;lia,by show x.pa.length<50000;lia,by show(fO x.pa k).length<50000;lia,λH5 pa' y O5 N f5=>?_⟩;obtain⟨B5,g5⟩:=B4.own O5 M M f5;obtain⟨N1,N2⟩:=O.noted N;have ek:(x.st.drop k).kv=bN x.st.kv k:=O8.three_kv;refine q ev H5 (R5 a wr p h G I pa') U r y pa' ⟨s,l,wr,p,h,G,I,B5,⟨λz=>?_,by show 0<=x.now+1;lia,m0,?_,N1,N2,?_,O.hn,O.hv1,O.fb1,O.up1 N M⟩,λ_=>Iff.rfl⟩ N ?_
  .show z∈U↔(aF (x.st.drop k).kv z).isSome=true;rw[mem,ek,eV,O.ks];by_cases c:z=k
   .rw[W7 c];exact⟨λy=>Wb c y.1,λy=>by cases y⟩
   .rw[W6 c];exact⟨λy=>y.2,λy=>⟨c,y⟩⟩
  .show((x.di++ [(r,_)]).length:Int)=x.now+1+x.ma;rw[Q8,Zw];lia
  .show((x.st.drop k).kv.length:Int)<=x.now+1;rw[ek];have:(bN x.st.kv k).length<=x.st.kv.length:=QK _ _;lia
  .exact λb o n e=>(g4.trans g5) b o (λz=>n<|(g b).mpr z) e
def Jw {f:α->V} {ms:List α} {g:Int} (h:0<=g):qh (ms.map f) (some g) none=(ms.drop g.toNat).map f:=by
 unfold qh HT.sIx;dsimp only;rw[W6 (),XN];rcases Nat.le_total g.toNat (ms.map f).length with c|c
 .rw[ZQ c];exact QT<|by rw[Zf];lia
 .rw[VN c,Ve c,Ve (Q4 _),V6]
def vD (K:WN) (t:P5):Sp:=λvs H Q _=>∃(a:Addr) (lo:Int) (F:Addr->Prop) (x:PM),vs=[.ref a,.int lo]/\PN K t H a F x/\0<=lo/\
 ∀(H':Hp) (r:Addr),Ds H H'->H r=none->H' r=some (.lst<|(x.di.drop lo.toNat).map λe=>V.ref e.1)->Q (.ref r) H'
def ip:Dr P w K mg base P1 1 t.pI t.fY ["self","low"] (vD K t):=by
 have z:=Pr.nd;refine T.JO.ok Pr (λvs H Q E h=>?_)<|λG A outer s H vs Q E Y h=>?_
 .obtain⟨a,lo,F,x,rfl,_⟩:=h;rfl
 .obtain⟨a,lo,F,x,rfl,A,I,q⟩:=h;refine⟨_,(aB<|aD<|dC fu (au Ca M) (dN<|aI (p6 M) {_} T.Hm BS (ac Kc<|ac af ag)) iJ)
   ,?_⟩
  obtain⟨s,l,wr,p,h,Fs,Fl,WM,O,g⟩:=A;obtain⟨dx,U⟩:=WM.o.ob;refine⟨_,M,a,_,dx,_,_,M,U,T.aT,T.gB,EA,?_⟩;have e0:(if(0:Int)>lo then(0:Int)else lo)=lo:=W6 ();refine⟨_,M,_,_,M,lo,by rw[e0],wr,_,M,Fz.of WM.o.wr,λr nr=>q _ r (ak nr) nr ?_⟩;rw[ai,Jw I]
def PN.di {x:PM} (A:PN K t H a F x):∀e∈x.di,H e.1=some (.tup e.2):=by
 obtain⟨s,l,wr,p,h,Fs,Fl,WM,O,g⟩:=A;exact WM.o.dr
def RJ (t:P5) (H:Hp) (p:Addr) (up:Bool) (a e:V):Prop:=∃dx fs,H p=some (.ins (if up=true then t.dQ else t.cr) dx fs)/\zR (if up=true then "up" else "down") fs a e/\if up=true then Qv a e else R1 a e
def ve (up:Bool) (a:V) (ks:List Int):List Int:=match up,a with
 |true,.int i=>ks.filter λz=>decide (i<=z)
 |false,.int i=>ks.reverse.filter (fh<|some i)
 |_,_=>ks.reverse.filter (fh none)
def AX (K:WN) (t:P5):Sp:=λvs H Q _=>∃(l p:Addr) (n:Int) (up:Bool) (a e:V) (F:Addr->Prop) (ks:List Int),vs=[.ref l,.ref p,.int n]/\Qf K t H l F ks/\RJ t H p up a e/\ks.length<4096/\0<=n/\
 ∀(H':Hp) (r:Addr),Ds H H'->H r=none->H' r=some (.lst<|((ve up a ks).take n.toNat).map V.int)->Q (.ref r) H'
def Bt:Dr P w K mg base P1 3 t.vn t.oU ["leaves","token","most"] (AX K t):=by
 refine T.DA.okl Bc λs H vs Q E I h _=>?_;intro X;obtain⟨l,p,n,up,a,e,F,ks,rfl,L,Y,l1,G,q⟩:=h;refine bW (λx=>aO (bV<|aI (mT K M) {_} T.dL cC (ac Kc<|ac (db (v:= .ref t.dQ) {_} T.Iu M) ag)) x aE) ?_;refine aC (aD<|aQ Ca T.aN T.Fd (rC T) I.mo T.FD .nil ar<|ac (au Kc M)<|ac M2 ag) ?_
 intros
 refine aC (aD<|aQ Ca T.aN T.DH (oM T) I.mo T.DL .nil ar<|ac (au Kc M)<|ac M2 ag) ?_
 intros
 obtain⟨dx,fs,z,O,ok⟩:=Y;obtain⟨dl,fl,hl,U⟩:=L.ins;cases up with
 |true=>
  have z:H p=some (.ins t.dQ dx fs):=z;obtain⟨i,rfl,i0,_⟩:=(show Qv a e from ok);exact⟨_,M,_,_,_,_,M,PP.ins z T.g8 T.nO.1 T.nO.2 T.nO.3 T.nO.4,T.IT,_,M,cP ⟨_,M,l,dl,fl,M,hl,U _ ∅,_,M,p,_,dx,fs,_,M,z,T.g8,T.oO,O.at_,_,M,l,i,n,F,ks,M,L,l1,G,q⟩⟩
 |false=>
  have z:H p=some (.ins t.cr dx fs):=z;obtain⟨j,rfl,Z,ha⟩:=(show R1 a e from ok);refine⟨_,M,_,_,_,_,M,PP.ins z T.cy T.fk.1 T.fk.2 T.fk.3 T.fk.4,T.Ey,_,M,cq ⟨_,M,l,dl,fl,M,hl,U _ ∅,_,M,p,_,dx,fs,_,M,z,T.cy,T.gE,O.at_,_,M,?_⟩⟩;rcases ha with rfl|⟨i,rfl,_⟩
  .exact⟨l,none,n,F,ks,M,L,l1,G,q⟩
  .exact⟨l,some i,n,F,ks,M,L,l1,G,q⟩
def vv (t:P5):Sp:=λvs H Q _=>∃(p:Addr) (up:Bool) (a e:V) (k:Int),vs=[.ref p,.int k]/\RJ t H p up a e/\(if up=true then Qv (.int<|k+1) e else R1 (.int<|k-1) e)/\
 ∀(H':Hp) (r:Addr),Ds H H'->H r=none->RJ t H' r up (.int<|if up=true then k+1 else k-1) e->Q (.ref r) H'
def vQ:Dr P w K mg base P1 5 t.pB t.jq ["token","key"] (vv t):=by
 refine T.yv.okl vH λs H vs Q E hr h _=>?_;intro X;obtain⟨p,up,a,e,k,rfl,TK,G,q⟩:=h;refine bW (λx=>aO (bV<|aI (mT K M) {_} T.dL cC (ac Ca<|ac (db (v:= .ref t.dQ) {_} T.Iu M) ag)) x aE) ?_;refine aC (aD<|iK T.Oz (vd T) hr.mo {_} T.Iu T.EK .nil ar (ac (ao bF Kc af)<|ac (au Ca M) ag)) ?_
 intros
 refine aC (aD<|iK T.K0 (qu T) hr.mo {_} T.K2 T.B7 .nil ar (ac (ao ji Kc af)<|ac (au Ca M) ag)) ?_
 intros
 obtain⟨dx,fs,I,tf,ok⟩:=TK;have kp:∀{H1 H':Hp} {r:Addr},Ds H H1->H r=none->Qo r H1 H'->Ds H H':=λs n k b o e=>k b o (s b o e) λz=>by rw[z,n]at e;cases e
 cases up with
 |true=>
  have I:H p=some (.ins t.dQ dx fs):=I;have G:Qv (.int<|k+1) e:=G;have Z:Sc e:=by
   obtain⟨_,_,_,he|⟨j,he,_⟩⟩:=G
   .rw[he];exact Wp
   .rw[he];exact T0 _
  refine⟨_,M,_,_,_,_,M,PP.ins I T.g8 T.nO.1 T.nO.2 T.nO.3 T.nO.4,T.IT,_,M,cP ⟨_,M,_,_,M,M,_,M,p,_,dx,fs,_,M,I,T.g8,T.iV,tf.end_,λr Y nr nd a0=>⟨r,Y,_,_,M,ai,T0 _,Z,λ_ H' fs' O h' U=>⟨M,?_⟩,λz=>Wb G z⟩⟩⟩;exact q H' r (kp (bZ (ak nd) nr) nr O) nr ⟨Y,fs',h',U,G⟩
 |false=>
  have I:H p=some (.ins t.cr dx fs):=I;have G:R1 (.int<|k-1) e:=G;have Z:Sc e:=by
   obtain⟨_,he,_⟩:=G;rw[he];exact T0 _
  refine⟨_,M,_,_,_,_,M,PP.ins I T.cy T.fk.1 T.fk.2 T.fk.3 T.fk.4,T.Ey,_,M,cq ⟨_,M,_,_,M,M,_,M,p,_,dx,fs,_,M,I,T.cy,T.gY,tf.end_,λr Y nr nd a0=>⟨r,Y,_,_,M,ai,T0 _,Z,λ_ H' fs' O h' U=>⟨M,?_⟩,λz=>Wb G z⟩⟩⟩;exact q H' r (kp (bZ (ak nd) nr) nr O) nr ⟨Y,fs',h',U,G⟩
def hK (up:Bool):V->V->Int->Bool:=if up=true then hU else hD
def cw (up:Bool) (a e:V) (ks:List Int):List Int:=(if up=true then ks else ks.reverse).filter (hK up a e)
def jG {α:Type} {h:α->Bool}:∀{xs:List α} {n:Nat},xs.Pairwise (λx y=>h y=true->h x=true)->(xs.take n).filter h=(xs.filter h).take n
 | [],n,_=>by rw[V6,List.filter_nil,V6]
 |x::r,0,_=>rfl
 |x::r,n+1,w=>by
  obtain⟨I,G⟩:=Xh.mp w;rw[Vt];by_cases c:h x=true
  .rw[List.filter_cons_of_pos c,List.filter_cons_of_pos c,Vt,jG G]
  .have z:r.filter h=[]:=XF.mpr λy hy O=>c (I y hy O);rw[List.filter_cons_of_neg c,List.filter_cons_of_neg c,jG G,z,V6,V6]
def Gm {up:Bool} {a:V} (ok:if up=true then Qv a e else R1 a e) (r:du ks):((ve up a ks).take n).filter (hK up a e)=(cw up a e ks).take n:=by
 cases up with
 |true=>
  obtain⟨i,rfl,i0,he⟩:=(show Qv a e from ok);have q:∀z,hU (.int i) e z=true->decide (i<=z)=true:=λz hz=>by
   rcases he with rfl|⟨j,rfl,_⟩
   .exact hz
   .exact(Ze.mp hz).1
  show((ks.filter λz=>decide (i<=z)).take n).filter (hU (.int i) e)=(ks.filter<|hU (.int i) e).take n;rw[jG,List.filter_filter]
  .congr 1;refine VG λz _=>?_;cases c:hU (.int i) e z with
   |true=>rw[q z c];rfl
   |false=>rfl
  .have I:(ks.filter λz=>decide (i<=z)).Pairwise (· < ·):=List.Pairwise.filter _ r;refine List.Pairwise.imp_of_mem (λ{x y} hx hy lt G=>?_) I;have hx:=(QS.mp hx).2;rcases he with rfl|⟨j,rfl,_⟩
   .exact hx
   .refine Ze.mpr ⟨hx,Wf ?_⟩;have:=Wd (Ze.mp G).2;lia
 |false=>
  obtain⟨j,rfl,Z,ha⟩:=(show R1 a e from ok);have U:ks.reverse.Pairwise (λx y=>y<x):=Vk.mpr r;obtain⟨k,Y,O⟩:∃k,ve false a ks=ks.reverse.filter (fh k)/\∀z,hD a (.int j) z=(decide (j<=z)&&fh k z):=by
   rcases ha with rfl|⟨i,rfl,_⟩
   .exact⟨none,M,λz=>(Bool.and_true _).symm⟩
   .exact⟨some i,M,λz=>M⟩
  rw[Y];show((ks.reverse.filter<|fh k).take n).filter (hD a<|.int j)=(ks.reverse.filter<|hD a<|.int j).take n;rw[jG,List.filter_filter]
  .congr 1;refine VG λz _=>?_;rw[O];cases fh k z<;>cases decide (j<=z)<;>rfl
  .have I:(ks.reverse.filter<|fh k).Pairwise (λx y=>y<x):=List.Pairwise.filter _ U;refine List.Pairwise.imp_of_mem (λ{x y} hx hy lt G=>?_) I;have hx:=(QS.mp hx).2;rw[O]at G⊢;refine Ze.mpr ⟨Wf ?_,hx⟩;have:=Wd (Ze.mp G).1;lia
def Gi {up:Bool} {a:V} {k':Int} (ok:if up=true then Qv a e else R1 a e) (r:du ks) (h:(cw up a e ks)[i]?=some k) (h':(cw up a e ks)[i+1]?=some k'):if up=true then Qv (.int<|k+1) e else R1 (.int<|k-1) e:=by
 obtain⟨hi,G⟩:=Q1.mp h;obtain⟨hi',z⟩:=Q1.mp h';have m:=(QS.mp (G▸ZV hi:k∈cw up a e ks)).2;have m':=(QS.mp (z▸ZV hi':k'∈cw up a e ks)).2;cases up with
 |true=>
  obtain⟨i,rfl,i0,he⟩:=(show Qv a e from ok);have lt:k<k':=by
   have:=(Zu.mp<|List.Pairwise.filter (hU (.int i) e) r) _ _ hi hi' (Xd _);rwa[<-G,<-z]
  have m:hU (.int i) e k=true:=m;have m':hU (.int i) e k'=true:=m';rcases he with rfl|⟨j,rfl,_⟩
  .have:=Wd m;exact⟨k+1,M,(),.inl M⟩
  .have:=Wd (Ze.mp m).1;have:=Wd (Ze.mp m').2;exact⟨k+1,M,(),.inr ⟨j,M,()⟩⟩
 |false=>
  obtain⟨j,rfl,I,ha⟩:=(show R1 a e from ok);have O:ks.reverse.Pairwise (λx y=>y<x):=Vk.mpr r;have lt:k'<k:=by
   have:=(Zu.mp<|List.Pairwise.filter (hD a<|.int j) O) _ _ hi hi' (Xd _);rwa[<-G,<-z]
  have m':hD a (.int j) k'=true:=m';have:j<=k':=by
   rcases ha with rfl|⟨i,rfl,_⟩
   .exact Wd m'
   .exact Wd (Ze.mp m').1
  exact⟨j,M,I,.inr ⟨k-1,M,()⟩⟩
def NxK (t:P5) (H H':Hp) (p:Addr) (up:Bool) (e:V) (hs:List Int) (m:Nat) (v:V):Prop:=if hs.length<=m then v= .non else if m=0 then v= .ref p else ∃(q:Addr) (k:Int),hs[m-1]?=some k/\v= .ref q/\H q=none/\RJ t H' q up (.int<|if up=true then k+1 else k-1) e
def Fm {xs:List Int} {x:V} (h:(xs.map V.int)[i]?=some x):∃k:Int,x= .int k/\xs[i]?=some k:=by
 rw[QP]at h;cases e:xs[i]? with
 |none=>rw[e]at h;cases h
 |some k=>rw[e]at h;cases h;exact⟨k,M,M⟩
def Aq {P:Int->Bool} {xs:List Int} (e:xs[i]?=some k):(xs.take<|i+1).filter P=(xs.take i).filter P++(if P k=true then[k]else[]):=by
 rw[QL,e,Z0];by_cases c:P k=true
 .rw[W7 c];simp[c]
 .rw[W6 c];simp[c]
def Jl (P:Int->Bool) (xs:List Int) (i:Nat):((xs.take i).filter P).length<=xs.length:=by
 have h1:=QK P (xs.take i);have h2:(xs.take i).length<=xs.length:=by rw[Q6];lia
 lia
def RJ.same {up:Bool} {a:V} (h:RJ t H p up a e) (s:Ds H H'):RJ t H' p up a e:=by
 obtain⟨dx,fs,z,r⟩:=h;exact⟨dx,fs,s _ _ z,r⟩
def RJ.ok {up:Bool} {a:V} (h:RJ t H p up a e):if up=true then Qv a e else R1 a e:=by
 obtain⟨dx,fs,z,G,ok⟩:=h;exact ok
def Ii {up:Bool} {a:V} {z:Int} (h:z∈ve up a ks):z∈ks:=by
 unfold ve at h;split at h
 .exact(QS.mp h).1
 .exact Xo.mp (QS.mp h).1
 .exact Xo.mp (QS.mp h).1
def Ij {up:Bool} {a:V}:(ve up a ks).length<=ks.length:=by
 unfold ve;split
 .exact QK _ _
 .exact QQ (QK _ _)<|Zr ZF
 .exact QQ (QK _ _)<|Zr ZF
def dHK {up:Bool}:SE (D1 t.dQ<|dM t) (D1 t.cr<|cH t) (if up=true then t.dQ else t.cr) (if up=true then dM t else cH t):=by
 cases up
 .exact .inr ⟨M,M⟩
 .exact .inl ⟨M,M⟩
def Lh {up:Bool} {a:V} {E:XK} (h:H p=some (.ins (if up=true then t.dQ else t.cr) dx fs)) (f:zR (if up=true then "up" else "down") fs a e) (ok:if up=true then Qv a e else R1 a e) (z:0<=k)
  (q:∀H',Ds H H'->Q (.bl<|hK up a e k) H'):(if up=true then dM t else cH t) [.ref p,.int k] H Q E:=by
 cases up
 .exact⟨p,dx,fs,a,e,k,M,h,f,ok,z,q⟩
 .exact⟨p,dx,fs,a,e,k,M,h,f,ok,z,q⟩
def vx (K:WN) (t:P5):Sp:=λvs H Q _=>∃(l p:Addr) (n:Int) (up:Bool) (a e:V) (F:Addr->Prop) (ks:List Int),vs=[.ref l,.ref p,.int n]/\Qf K t H l F ks/\RJ t H p up a e/\ks.length<4096/\(∀k∈ks,0<=k)/\
 ∀(H':Hp) (r g:Addr) (v:V),Ds H H'->H r=none->H g=none->H' r=some (.tup [.ref g,v])->H' g=some (.lst<|((cw up a e ks).take n.toNat).map V.int)->NxK t H H' p up e (cw up a e ks) n.toNat v->Q (.ref r) H'
def vS:Dr P w K mg base P1 6 t.pD t.js ["leaves","token","many"] (vx K t):=by
 refine T.yz.okl Pq λs H vs Q E hr h _=>?_;intro X;obtain⟨l,p,n,up,a,e,F,ks,rfl,L,TK,l1,k0,q⟩:=h;refine aj (P7 3<|aI (p6 M) {_} T.Hm BS (ac M2<|ac af ag))
   (aj (HY (i:=4) M (P6.of (M':=["key"]) (N:=["leaves","token","many","most","held","page"]) (N':=["leaves","token","many","most","held","page"]) (dsc:=al fw) M M ∅) (dO<|aJ (Bt T) hr.mo {_} T.L8 T.DA.kp T.Mh .nil ar (ac Ca<|ac Kc<|ac (ao bF PB af) ag)) (λ_ _ _ _ _=>(bV<|sG (kk:=1) (iP (cx T.g8 T.oP (iN T) T.pf (_))<|cx T.cy T.kg (fK T) T.kH (_)) hr.mo M2<|ac Ca ag)) (λ_ _ _ _ _=>Ca) Pq.nd M M)
   (aj (P7 5<|dC fu Pa iJ<|dN PB)
   (aj (aO (aw bT (aI aH {_} T.bU bp (ac Pa ag)) (aI aH {_} T.bU bp (ac Qi ag))<|ay _)
    (aB<|aD<|bQ<|ac Qi<|ac a8 ag)
    aE)
   (aj (aO (aw bT (aI aH {_} T.bU bp (ac Qi ag)) af<|ay _)
    (aB<|aD<|bQ<|ac Qi<|ac Kc ag)
    aE)
   (aC (aD<|bQ<|ac Qi<|ac (aJ (vQ T) hr.mo {_} T.IA T.yv.kp T.JA .nil ar (ac Kc<|ac (aP aW Qi (Ia DU af)<|λ_ _=>M) ag)) ag) ?_)))))
 intros
 have RK:=L.rise;refine⟨_,M,n,0,M,?_⟩;obtain⟨m,em⟩:∃m:Nat,n.toNat=m:=⟨_,M⟩;have e0:(if(0:Int)>n then(0:Int)else n)=(m:Int):=by
  rw[<-em];split<;>lia
 rw[e0];rw[em]at q;have ok:=TK.ok;refine⟨_,M,_,M,_,M,_,_,M,M,l,p,(m:Int)+1,up,a,e,F,ks,M,L,TK,l1,(),λH1 g1 s1 a3 h1=>?_⟩;rw[show((m:Int)+1).toNat=m+1 by lia]at h1;obtain⟨ns,O⟩:∃ns,(ve up a ks).take (m+1)=ns:=⟨_,M⟩;have fl:=Gm (n:=m+1) ok RK;rw[O]at h1 fl;have nl:ns.length<=4096:=by
  rw[<-O];have h1:=Ij (up:=up) (a:=a) (ks:=ks);rw[Q6];lia
 have n0:∀z∈ns,0<=z:=λz hz=>k0 z (Ii<|Zd<|O▸hz);refine⟨g1,M,⟨_,Fz.of h1⟩,λD hD=>?_⟩;refine mS (K:=K) (a:=g1) (xs:=ns.map V.int) (λi ys H2=>Ds H1 H2/\ys=((ns.take i).filter<|hK up a e).map V.int) ⟨ak hD,M⟩ (λi ys H2 _ w=>Fz.of<|w.1 _ _ h1) (λi x ys H2 hx w G=>?_)<|λys H2 w G=>?_
 .obtain⟨s2,ey⟩:=w;have hi:i<(ns.map V.int).length:=(Q1.mp hx).1;obtain⟨g,rfl,eg⟩:=Fm hx;obtain⟨dx,fs,hp,tf,_⟩:=TK.same (s1.trans s2);have a4:=Jl (hK up a e) ns i;refine⟨_,M,p,_,dx,fs,_,M,hp,tf.ho,dHK,_,M,Lh hp tf ok (n0 g<|Q2 eg) λH3 s3=>⟨_,M,?_⟩⟩;by_cases c:hK up a e g=true
  .rw[c];refine cP ⟨_,M,PY.mk hi (s3 _ _ G) (bg<|by rw[ey,Q0];lia) ⟨bZ (s2.trans s3) hD,?_⟩⟩;rw[ey,Aq eg,W7 c,QC];rfl
  .rw[Zp.mpr c];refine cq<|Pw.mk hi (s3 _ _ G) ⟨s2.trans s3,?_⟩;rw[ey,Aq eg,W6 c,ZB]
 obtain⟨s2,ey⟩:=w;rw[ey,Q0,QX,fl]at G;clear ey h1 O fl nl n0;have U:=s1.trans s2;obtain⟨hs,Y⟩:∃hs,cw up a e ks=hs:=⟨_,M⟩;rw[Y]at G q;refine⟨_,M,_,M,(m:Int),M,D,_,M,Fz.of G,λg ng=>?_⟩;rw[kW (Vu m),<-ZJ,show((m:Int)).toNat=m by lia,Vo,ZQ (ZU m)];have Z:H g=none:=dn U ng;have I:upd H2 g (.lst<|(hs.take m).map V.int) g=some (.lst<|(hs.take m).map V.int):=ai;have a0:upd H2 g (.lst<|(hs.take m).map V.int) D=some (.lst<|(hs.take<|m+1).map V.int):=by rwa[ae (am G ng)]
 have s3:=U.trans (ak (o:= .lst<|(hs.take m).map V.int) ng);generalize upd H2 g (.lst<|(hs.take m).map V.int)=H3 at I a0 s3⊢;clear G ng s2 U s1 hD;refine⟨_,M,D,_,M,.inl<|Fz.of a0,_,M,g,_,M,.inl<|Fz.of I,M,_,M,?_⟩;by_cases c:hs.length<=m
 .refine fj ?_ ⟨_,M,(by show 2<=sizeLine;decide),λr nr=>?_⟩
  .rw[QT (),QT c]
  .refine q _ r g .non (s3.trans<|ak nr) (dn s3 nr) Z ai (by rw[ae (am I nr)];exact I) ?_;unfold NxK;rw[W7 c]
 refine a6 ?_ ?_
 .intro z;have z:=V.int.inj z;rw[Q0,Q0,Q6,Q6]at z;lia
 refine⟨_,M,g,_,M,.inl<|Fz.of I,M,_,M,?_⟩;by_cases d:m=0
 .refine fj ?_ ⟨_,M,_,M,(by show 2<=sizeLine;decide),λr nr=>?_⟩
  .rw[d];rfl
  .refine q _ r g (.ref p) (s3.trans<|ak nr) (dn s3 nr) Z ai (by rw[ae (am I nr)];exact I) ?_;unfold NxK;rw[W6 c,W7 d]
 refine a6 ?_ ?_
 .intro z;have z:=V.int.inj z;rw[Q0,Q6]at z;lia
 obtain⟨k,ek⟩:∃k,hs[m-1]?=some k:=⟨_,Q3 ()⟩;obtain⟨k',a1⟩:∃k',hs[m-1+1]?=some k':=⟨_,Q3 ()⟩;have ob:=Gi ok RK (Y▸ek) (Y▸a1);refine⟨_,M,_,M,_,M,_,M,g,_,_,.int k,M,M,Fz.of I,?_,p,up,a,e,k,M,TK.same s3,ob,λH4 b s4 nb a2=>⟨(by show 2<=sizeLine;decide),λr nr=>?_⟩⟩
 .refine FF (λz=>?_) ?_
  .have:=Wr List.length z;rw[Q6]at this;have:([]:List Int).length=0:=M;lia
  .rwa[Q6,ZQ (),V4 ()]
 refine q _ r g (.ref b) ((s3.trans s4).trans<|ak nr) (dn (s3.trans s4) nr) Z ai (by rw[ae (am (s4 _ _ I) nr)];exact s4 _ _ I) ?_;unfold NxK;rw[W6 c,W6 d];exact⟨b,k,ek,M,dn s3 nb,a2.same<|ak nr⟩
def yT (K:WN) (t:P5):Sp:=λvs H Q _=>∃(a:Addr) (k:Int) (v:V) (F:Addr->Prop) (x:PM),vs=[.ref a,.int k]/\PN K t H a F x/\0<=k/\aF x.st.kv k=some v/\∀H' F',PN K t H' a F' x->Fr F F' H H'->Q v H'
def zD:Dr P w K mg base P1 5 t.tV t.mR ["self","key"] (yT K t):=by
 refine T.LJ.okl zi λs H vs Q E Y h _=>?_;intro X;obtain⟨a,k,v,F,x,rfl,A,k0,U,q⟩:=h;refine⟨_,(aB<|aD<|aQ (au Ca M) T.aL T.K7 (zy T) Y.mo T.Lv .nil ar<|ac Kc ag)
  ,?_⟩
 obtain⟨s,l,wr,p,h,Fs,Fl,WM,O,g⟩:=A;obtain⟨dx,Z⟩:=WM.o.ob;obtain⟨ds,fs,hs,hm⟩:=WM.sl.ins;refine⟨_,M,a,_,dx,_,_,M,Z,T.aT,T.dG,xW,s,ds,fs,M,hs,hm _ ∅,_,M,s,k,Fs,x.st,M,WM.sl,k0,λv' G H1 I S1 f1=>?_,λz=>by rw[U]at z;cases z⟩;rw[U]at G;cases G;obtain⟨B1,g1⟩:=WM.slots S1 f1;exact q H1 (R5 a wr p h I Fl x.pa) ⟨s,l,wr,p,h,I,Fl,B1,O,λ_=>Iff.rfl⟩ λb o n e=>g1 b o (λz=>n<|(g b).mpr z) e
def NxH (t:P5) (H H':Hp) (F':Addr->Prop) (p:Addr) (up:Bool) (e:V) (hs:List Int) (m:Nat) (v:V):Prop:=if hs.length<=m then v= .non else if m=0 then v= .ref p else ∃(q:Addr) (k:Int),hs[m-1]?=some k/\v= .ref q/\H q=none/\¬F' q/\RJ t H' q up (.int<|if up=true then k+1 else k-1) e
def ML (K:WN) (t:P5) (more:List V):Sp:=λvs H Q _=>∃(a p:Addr) (n:Int) (up:Bool) (av e:V) (F:Addr->Prop) (x:PM),vs=[.ref a,.ref p,.int n]++more/\PN K t H a F x/\RJ t H p up av e/\¬F p/\x.ks.length<4096/\(∀k∈x.ks,0<=k)/\
 ∀(H':Hp) (F':Addr->Prop) (r g:Addr) (v:V) (ts:List Tp),PN K t H' a F' x->Fr F F' H H'->PgA H H' F F' r g v ts->ts.map (·.k)=(cw up av e x.ks).take n.toNat->(∀e∈ts,aF x.st.kv e.k=some e.v)->NxH t H H' F' p up e (cw up av e x.ks) n.toNat v->Q (.ref r) H'
def mW (K:WN) (t:P5):Sp:=ML K t []
def PN.lvs {x:PM} (A:PN K t H a F x):∃(dx:Addr) (fs:List (Str×V)) (l:Addr) (Fl:Addr->Prop),H a=some (.ins t.bf dx fs)/\fs.lookup ("leaves":Str)=some (.ref l)/\Qf K t H l Fl x.ks:=by
 obtain⟨s,l,wr,p,h,Fs,Fl,WM,O,g⟩:=A;obtain⟨dx,z⟩:=WM.o.ob;exact⟨dx,_,l,Fl,z,EC,WM.lv⟩
def Jb {up:Bool} {a:V} {z:Int} (h:z∈cw up a e ks):z∈ks:=by
 have h:=(QS.mp h).1;cases up
 .exact Xo.mp h
 .exact h
def Jc {up:Bool} {a:V}:(cw up a e ks).length<=ks.length:=by
 refine QQ (QK _ _) ?_;cases up
 .exact Zr ZF
 .exact Q4 _
def vR:Dr P w K mg base P1 7 t.pC t.jr ["house","token","many"] (mW K t):=by
 refine T.yx.okl vI λs H vs Q E hr h _=>?_;intro X;obtain⟨a,p,n,up,av,e,F,x,rfl,A,TK,np,l1,k0,q⟩:=h;refine aj (P7 3<|aJ (vS T) hr.mo {_} T.IC T.yz.kp T.JC .nil ar (ac (au Ca M)<|ac Kc<|ac M2 ag))
   (aC (aD<|bQ<|ac (pS M (P6.of (M':=["key"]) (N:=["house","token","many","page"]) (N':=["house","token","many","page"]) (dsc:=al fv) M M ∅) (dO<|aP bi PB af<|λ_ _=>M)<|λ_ _ _ _ _=>(bQ<|ac Ca<|ac (aQ Kc T.aT T.La (zD T) hr.mo T.LA .nil ar<|ac Ca ag) ag))<|ac (aP bi PB af<|λ_ _=>M) ag) ?_)
 intros
 obtain⟨dx,fs,l,Fl,ho,hl,L⟩:=A.lvs;refine⟨_,M,a,_,dx,fs,_,M,ho,T.aT,T.iq,hl,_,M,_,M,l,p,n,up,av,e,Fl,x.ks,M,L,TK,l1,k0,λH1 r1 g1 v s1 a4 a5 a1 U nx=>?_⟩;have A1:=A.same s1;have f1:Fr F F H H1:=Fr.of_same s1;clear TK;obtain⟨pk,Y⟩:∃pk,(cw up av e x.ks).take n.toNat=pk:=⟨_,M⟩;have pm:∀z∈pk,z∈x.ks:=λz hz=>Jb (Zd<|Y▸hz);have pl:pk.length<=4096:=by
  have:=Jc (up:=up) (a:=av) (e:=e) (ks:=x.ks);rw[<-Y,Q6];lia
 rw[Y]at U q;refine⟨_,M,r1,_,_,_,M,M,PX.of a1,M,g1,M,⟨_,Fz.of U⟩,λD hD=>?_⟩;refine u0 (K:=K) (a:=g1) (xs:=pk.map V.int) (λi ys H2=>∃(G:Addr->Prop) (ts:List Tp),PN K t H2 a G x/\Fr F G H1 H2/\¬G D/\ys=ts.map (λe=>V.ref e.p)/\ts.map (·.k)=pk.take i/\∀e∈ts,H2 e.p=some (.tup [.int e.k,e.v])/\¬G e.p/\aF x.st.kv e.k=some e.v) ⟨F,[],A1.same<|ak hD,Fr.of_same<|ak hD,A1.out hD,M,M,λe he=>Wb he ZW⟩ (λi ys H2 _ w=>?_) (λi y ys H2 hy w I=>?_)<|λys H2 w I=>?_
 .obtain⟨G,ts,A2,O,_⟩:=w;exact Fz.of (O _ _ (A.out a5) U).1
 .obtain⟨G,ts,A2,O,nD,ey,Z,tu⟩:=w;have hi:i<(pk.map V.int).length:=(Q1.mp hy).1;obtain⟨k,rfl,hk⟩:=Fm hy;have km:=pm k (Q2 hk);obtain⟨v2,a2⟩:=Xs.mp ((A1.ok.ks k).mp km);obtain⟨d2,aa,ab,ah,_⟩:=A2.ins;refine⟨_,M,_,M,a,d2,aa,M,ab,ah _ ∅,_,M,a,k,v2,G,x,M,A2,k0 k km,a2,λH3 F3 A3 f3=>⟨(by show 2<=sizeLine;decide),λb nb=>?_⟩⟩;obtain⟨an,a3⟩:=f3 _ _ nD I;have sb:Ds H3 (upd H3 b<|.tup [.int k,v2]):=ak nb;have hb:upd H3 b (.tup [.int k,v2]) b=some (.tup [.int k,v2]):=ai;generalize upd H3 b (.tup [.int k,v2])=H4 at sb hb⊢;have A4:=A3.same sb;have ax:=A3.out nb;have f4:Fr F F3 H1 H4:=O.trans (f3.trans<|Fr.of_same sb);have a0:=sb _ _ an;have tl:ts.length<=4096:=by
   have:=Wr List.length Z;rw[Q0,Q6]at this;lia
  refine PY.mk hi a0 (bg<|by rw[ey,Q0];lia) ⟨F3,ts++ [⟨b,k,v2⟩],A4.upd a3 (λxs z=>by rw[a0]at z;cases z),λc o n e=>⟨by rw[ae (am e hD)];exact(f4 c o n e).1,(f4 c o n e).2⟩,a3,by rw[ey,QC];rfl,by rw[QC,Z,QL,hk];rfl,λe he=>?_⟩;have key:H4 e.p=some (.tup [.int e.k,e.v])/\¬F3 e.p/\aF x.st.kv e.k=some e.v:=by
   rcases Q5.mp he with he|he
   .obtain⟨t1,t2,t3⟩:=tu e he;obtain⟨t4,t5⟩:=f3 _ _ t2 t1;exact⟨sb _ _ t4,t5,t3⟩
   .rw[Q7.mp he];exact⟨hb,ax,a2⟩
  refine⟨?_,key.2⟩;rw[ae (λz=>by rw[z,a0]at key;cases key.1)];exact key.1
 obtain⟨G,ts,A2,O,nD,ey,Z,tu⟩:=w;rw[ey]at I;rw[Q0,QX]at Z;have b1:=O _ _ (A.out a4) a1;refine⟨_,M,r1,_,_,_,M,M,PX.of b1.1,M,(by show 2<=sizeLine;decide),λr nr=>?_⟩;have s3:Ds H2 (upd H2 r<|.tup [.ref D,v]):=ak nr;have hr:upd H2 r (.tup [.ref D,v]) r=some (.tup [.ref D,v]):=ai;have nF:=A2.out nr;generalize upd H2 r (.tup [.ref D,v])=H3 at s3 hr⊢;have f3:Fr F G H H3:=f1.trans (O.trans<|Fr.of_same s3);refine q H3 G r D v ts (A2.same s3) f3 ⟨hr,s3 _ _ I,λe he=>⟨s3 _ _ (tu e he).1,(tu e he).2.1⟩,⟨λz=>?_,nF⟩,⟨λ_=>dn s1 hD,nD⟩⟩ Z (λe he=>(tu e he).2.2) ?_
 .cases eo:H r with
  |none=>rfl
  |some o=>rw[((f1.trans O) _ _ z eo).1]at nr;cases nr
 .unfold NxK at nx;unfold NxH;by_cases c:(cw up av e x.ks).length<=n.toNat
  .rw[W7 c]at nx⊢;exact nx
  .rw[W6 c]at nx⊢;by_cases d:n.toNat=0
   .rw[W7 d]at nx⊢;exact nx
   .rw[W6 d]at nx⊢;obtain⟨b,k,Z,ev,nb,dy,fy,hy,ry⟩:=nx;obtain⟨h2,n2⟩:=O _ _ (A.out nb) hy;exact⟨b,k,Z,ev,nb,n2,dy,fy,s3 _ _ h2,ry⟩
noncomputable def yD (JK j r:Int):Int:=if j<(r/JK+1)*JK then j else(r/JK+1)*JK
def a7 (JK j i:Int):Nat->Int
 |0=>i
 |n+1=>yD JK j (a7 JK j i n)
def HH {j r:Int} (z:0<JK) (h:r<j):r<yD JK j r/\yD JK j r<=j:=by
 have:=XW r z;unfold yD;split<;>lia
def sF {JK j i:Int} (G:0<JK) (h:i<=j):∀n:Nat,(∀x<n,a7 JK j i x<j)->i<=a7 JK j i n/\a7 JK j i n<=j/\(0<n->yD JK j i<=a7 JK j i n)
 |0,_=>⟨Xa _,h,λz=>Wb z (_)⟩
 |n+1,w=>by
  obtain⟨a,b,c⟩:=sF G h n λx hx=>w x ();obtain⟨d,e⟩:=HH G (w n ());refine⟨show i<=yD JK j (a7 JK j i n) by lia,e,λ_=>?_⟩;cases n with
  |zero=>exact Xa _
  |succ m=>exact Int.le_trans (c ()) (VA d)
structure RF (st:O8) (lo hi:Int) (ps:List (Int×V)):Prop where
 so:ps.Pairwise Ej
 me:∀k v,(k,v)∈ps↔(k,v)∈st.kv/\lo<=PV k/\PV k<hi
def RF.app (h:RF st lo m ps) (g:RF st m hi qs) (l1:lo<=m) (G:m<=hi):RF st lo hi (ps++qs):=by
 refine⟨QI.mpr ⟨h.so,g.so,λx hx y hy=> .inl ?_⟩,λk v=>?_⟩
 .have a:=((h.me x.1 x.2).mp hx).2;have b:=((g.me y.1 y.2).mp hy).2;lia
 .rw[Q5,h.me,g.me];constructor
  .rintro (⟨x,y,z⟩|⟨x,y,z⟩)
   .exact⟨x,y,()⟩
   .exact⟨x,(),z⟩
  .rintro ⟨x,y,z⟩;by_cases d:PV k<m
   .exact .inl ⟨x,y,d⟩
   .exact .inr ⟨x,(),z⟩
def RF.uniq (h:RF st lo hi ps) (g:RF st lo hi qs):ps=qs:=by
 have nd:∀{l:List (Int×V)},l.Pairwise Ej->l.Nodup:=λw=>w.imp λ{a b} z e=>by
  rw[e]at z;unfold Ej at z;lia
 refine List.Perm.eq_of_pairwise (λx y _ _ h1 h2=>?_) h.so g.so<|(W5 (nd h.so)<|nd g.so).mpr λx=>(h.me x.1 x.2).trans (g.me x.1 x.2).symm;unfold Ej at h1 h2;lia
def RF.len (h:RF st lo hi ps):ps.length<=st.kv.length:=by
 refine gX (h.so.imp λ{a b} z e=>?_) λx hx=>((h.me x.1 x.2).mp hx).1;rw[e]at z;unfold Ej at z;lia
structure PgS (st:O8) (i j n:Int) (m:Nat) (ps:List (Int×V)):Prop where
 rw:RF st i (a7 (65536/st.low) j i m) ps
 go:∀x<m,a7 (65536/st.low) j i x<j
 le:∀x,0<x->x<m->∀qs,RF st i (a7 (65536/st.low) j i x) qs->(qs.length:Int)<n/\(x:Int)<4*n
 st:a7 (65536/st.low) j i m=j\/(0<m/\(n<=ps.length\/4*n<=m))
def Rv (t:P5) (H:Hp) (p:Addr) (i j:Int):Prop:=∃(dx:Addr) (fs:List (Str×V)),H p=some (.ins t.aV dx fs)/\zR "slots" fs (.int i) (.int j)/\0<=i/\i<=j/\j<=65536
def Rv.fr {i j:Int} (h:Rv t H p i j) (n:¬F p) (f:Fr F F' H H'):Rv t H' p i j/\¬F' p:=by
 obtain⟨dx,fs,z,r⟩:=h;exact⟨⟨dx,fs,(f _ _ n z).1,r⟩,(f _ _ n z).2⟩
def Ru (t:P5) (H H':Hp) (F F':Addr->Prop) (r j:Int) (v:V):Prop:=if r=j then v= .non else ∃q:Addr,v= .ref q/\(¬F q->H q=none)/\¬F' q/\Rv t H' q r j
def uf (K:WN) (t:P5):Sp:=λvs H Q _=>∃(a p:Addr) (n i j:Int) (F:Addr->Prop) (st:O8),vs=[.ref a,.ref p,.int n]/\Pg K t H a F st/\Rv t H p i j/\¬F p/\1<=n/\n<=1000/\st.kv.length<4096/\(∀p∈st.kv,∃i:Int,p.2= .int i)/\
 ∀(H':Hp) (F':Addr->Prop) (r g:Addr) (v:V) (ts:List Tp) (m:Nat),Pg K t H' a F' st->Fr F F' H H'->PgA H H' F F' r g v ts->PgS st i j n m (ts.map Tp.kv)->Ru t H H' F F' (a7 (65536/st.low) j i m) j v->Q (.ref r) H'
structure Rl (K:WN) (t:P5) (H H':Hp) (a p l:Addr) (F F':Addr->Prop) (st:O8) (i j:Int) (m:Nat) (ts:List Tp):Prop where
 sl:Pg K t H' a F' st
 fr:Fr F F' H H'
 tk:Rv t H' p i j
 np:¬F' p
 ol:¬F' l
 li:H' l=some (.lst<|ts.map λe=>V.ref e.p)
 tu:∀e∈ts,H' e.p=some (.tup [.int e.k,e.v])/\¬F' e.p
 rw:RF st i (a7 (65536/st.low) j i m) (ts.map Tp.kv)
 go:∀x<m,a7 (65536/st.low) j i x<j
def Rl.move {l:Addr} {F1:Addr->Prop} {i j:Int} {m:Nat} (h:Rl K t H H' a p l F F' st i j m ts) (s1:Pg K t H1 a F1 st) (z:Fr F' F1 H' H1):Rl K t H H1 a p l F F1 st i j m ts:=
 ⟨s1,h.fr.trans z,(h.tk.fr h.np z).1,(h.tk.fr h.np z).2,(z _ _ h.ol h.li).2,(z _ _ h.ol h.li).1,λe he=>z _ _ (h.tu e he).2 (h.tu e he).1,h.rw,h.go⟩
def uG:Dr P w K mg base P1 5 t.m9 t.iu ["slots","token","many"] (uf K t):=by
 obtain⟨I,G⟩:=T.g_STRETCHES_A_KEY;refine T.wk.okl Po λs H vs Q E hr h _=>?_;intro X;obtain⟨a,p,n,i,j,F,st,rfl,hA,TK,np,n1,n2,l4,iv,q⟩:=h;refine aj (P7 3<|cn ag)
   (aj (P7 4<|au Kc M)
   (aj (P7 5 af)
   (bW (λx=>(oz Wm (aw eD Pa (au Kc M)<|ay _)
    x)) ?_)))
 refine aj (P7 6<|aI (pZ M) {_} T.Ci u7 (ac (aQ Ca T.aL T.zG (oG T) hr.mo T.zM .nil ar<|ac Pa ag)<|ac (au Kc M) ag))
   (aj (aM<|dE QN Xv Xw pT PB<|ac (aQ Ca T.aL T.JS (xz T) hr.mo T.JZ .nil ar<|ac Pa<|ac RT ag) ag)
   (aj (P7 4 RT)
   (aj (Ei (i:=5) Po.nd M (Or.inl M) af IV)
   (aC (aO (PW.pt<|gU (aw Ac (aI aH {_} T.bU bp (ac PB ag)) M2<|ay _)<|gw<|aw Ac Qi (ao cQ (db (v:= .int 4) {_} G ⟨_,M⟩) M2)<|ay _)
    (aB HZ)
    aE) ?_))))
 intros
 refine aj (aO (aw bT Pa (au Kc M)<|ay _)
    (aB<|aD<|bQ<|ac PB<|ac a8 ag)
    aE)
   (aC (aD<|bQ<|ac PB<|ac (iK T.Er (kO T) hr.mo {_} T.xM T.wg .nil ar (ac Pa<|ac (au Kc M) ag)) ag) ?_)
 intros
 have z:PJ st:=let⟨_,_,_,_,_,z⟩:=hA;z
 obtain⟨s4,Z⟩:=b4 (kh z);obtain⟨_,_,R⟩:=Bl (kh z);have W0:=R.wpos';obtain⟨dx,fs,O,tf,i0,ij,j1⟩:=id TK;refine⟨QF _,λl nl=>?_⟩;have W1:Rl K t H (upd H l<|.lst []) a p l F F st i j 0 []:=⟨hA.new nl,Fr.of_same<|ak nl,⟨dx,fs,by rwa[ae (am O nl)],tf,i0,ij,j1⟩,np,hA.out nl,ai,(λe he=>by cases he),⟨Ws,λk v=>⟨λh=>by(cases h),λh=>by have:=h.2;simp only[a7]at this;lia⟩⟩,λx hx=>Wb hx<|Nat.not_lt_zero x⟩;refine⟨_,M,p,_,dx,fs,_,M,by rwa[ae (am O nl)],T.bH,T.gP,tf.at_,?_⟩
 (try dsimp only)
 generalize upd H l (.lst [])=H1 at W1⊢;clear O tf dx fs;show yC (Hz _ _) _ _ _ H1;refine c7 (λB H'=>∃(F':Addr->Prop) (m:Nat) (ts:List Tp) (Y:Option V),B=[some (.ref a),some (.ref p),some (.int n),some (.ref l),some (.int<|a7 (65536/st.low) j i m),some (.int m),Y]/\Rl K t H H' a p l F F' st i j m ts/\PgS st i j n m (ts.map Tp.kv)) (λnx go=>?_)<|λB H2 w=>?_
 .refine⟨λmm B H'=>∃(F':Addr->Prop) (m:Nat) (ts:List Tp) (Y:Option V),mm=(j-a7 (65536/st.low) j i m).toNat/\B=[some (.ref a),some (.ref p),some (.int n),some (.ref l),some (.int<|a7 (65536/st.low) j i m),some (.int m),Y]/\Rl K t H H' a p l F F' st i j m ts/\(∀x,0<x->x<=m->∀qs,RF st i (a7 (65536/st.low) j i x) qs->(qs.length:Int)<n/\(x:Int)<4*n),⟨_,F,0,[],none,M,M,W1,λx x0 xm=>Wb x0 ()⟩,λmm B H' w=>?_⟩;obtain⟨F',m,ts,Y,rfl,aa,w,lt⟩:=w;subst aa;obtain⟨dx,fs,O,tf,_⟩:=id w.tk;obtain⟨r0,r1,_⟩:=sF W0 ij m w.go;refine⟨_,M,_,M,p,_,dx,fs,_,M,O,T.bH,T.cm,tf.end_,_,_,M,M,_,M,bP (λc=>?_)<|λc=>?_⟩
  .have c:=Wd c;obtain⟨r2,r3⟩:=HH W0 c;refine⟨λa2 H2=>∃(F2:Addr->Prop) (a0:List Tp) (Y:Option V),a2=[some (.ref a),some (.ref p),some (.int n),some (.ref l),some (.int<|a7 (65536/st.low) j i<|m+1),some (.int (m+1:Nat)),Y]/\Rl K t H H2 a p l F F2 st i j (m+1) a0/\(a0.length:Int)<n/\((m+1:Nat):Int)<4*n,λa2 H2 g=>?_,?_⟩
   .obtain⟨F2,a0,Y,e,w2,b1,b2⟩:=g;refine⟨_,?_,F2,m+1,a0,Y,M,e,w2,λx x0 xm qs hq=>?_⟩
    .show(j-yD (65536/st.low) j (a7 (65536/st.low) j i m)).toNat<_;lia
    .rcases Vv xm with xm|rfl
     .exact lt x x0 () qs hq
     .rw[hq.uniq w2.rw,Q0];exact⟨b1,b2⟩
   obtain⟨ab,ah,an,ax⟩:=w.sl.ins;refine⟨_,M,a,ab,ah,M,an,ax _ ∅,_,M,a,_,F',st,M,w.sl,(),(),λH2 F2 s2 f2=>?_⟩;have w2:=w.move s2 f2;obtain⟨b3,b6,b7,b8,_⟩:=id w2.tk;refine⟨_,M,p,_,b3,b6,_,M,b7,T.bH,T.cm,b8.end_,_,_,M,?_⟩
   (try dsimp only)
   change g7 6 (V.int<|a7 (65536/st.low) j i<|m+1) _ _ _;obtain⟨b9,ba,bb,bc⟩:=w2.sl.ins;refine⟨_,M,.inl ⟨M,_,Fz.of w2.li⟩,_,M,a,b9,ba,M,bb,bc _ ∅,_,M,_,M,a,_,_,F2,st,M,w2.sl,l4,iv,λH3 F3 l1 ts1 s3 f3 o3 n3 e3 u3 be bf=>?_⟩;have U:=w2.move s3 f3;have a1:RF st i (a7 (65536/st.low) j i<|m+1) ((ts++ts1).map Tp.kv):=by
    rw[QC];exact U.rw.app ⟨be,bf⟩ r0<|VA r2
   have ln:=a1.len;rw[Q0,Q8]at ln;have a3:∀{p:Addr} {xs:List V},H3 p=some (.tup xs)->p≠l:=λ{p xs} e z=>by rw[z,U.li]at e;cases e
   have w4:Rl K t H (upd H3 l<|.lst<|ts.map (λe=>V.ref e.p)++ts1.map (λe=>V.ref e.p)) a p l F F3 st i j (m+1) (ts++ts1):=by
    refine⟨U.sl.upd U.ol,U.fr.upd_new λ_=>nl,?_,U.np,U.ol,by rw[ai,QC],λe he=>?_,a1,λx hx=>?_⟩
    .obtain⟨dx,fs,O,r⟩:=U.tk;exact⟨dx,fs,by rwa[ae λz=>by rw[z,U.li]at O;cases O],r⟩
    .rcases Q5.mp he with he|he
     .exact⟨by rw[ae (a3 (U.tu e he).1)];exact(U.tu e he).1,(U.tu e he).2⟩
     .exact⟨by rw[ae (a3 (u3 e he).1)];exact(u3 e he).1,(u3 e he).2⟩
    .rcases Vv (Nat.le_of_lt_succ hx)with hx|rfl
     .exact w.go x hx
     .exact c
   refine⟨l,l1,_,_,M,M,U.li,e3,by rw[Q0,Q0];exact Zl<|bg (),?_⟩
   (try dsimp only)
   generalize upd H3 l (.lst<|ts.map (λe=>V.ref e.p)++ts1.map (λe=>V.ref e.p))=H4 at w4⊢;have pg:(n<=((ts++ts1).length:Int)\/4*n<=((m+1:Nat):Int))->PgS st i j n (m+1) ((ts++ts1).map Tp.kv):=λo=>⟨a1,w4.go,λx x0 xm=>lt x x0 (),.inr ⟨Nat.succ_pos m,by rw[Q0];exact o⟩⟩;refine⟨_,M,_,M,_,_,M,M,?_⟩
   (try dsimp only)
   have em:((m:Int)+1)=((m+1:Nat):Int):=();rw[em];refine⟨_,M,l,_,M,.inl<|Fz.of w4.li,_,M,_,_,M,M,_,M,bP (λc1=>?_)<|λc1=>?_⟩
   .have c1:=Wd c1;rw[Q0]at c1;exact cP<|go _ _ ⟨F3,m+1,ts++ts1,_,M,w4,pg<|.inl c1⟩
   refine⟨_,M,_,M,_,_,M,M,.inl ⟨(_),(_)⟩,_,_,M,M,_,M,bP (λc2=>?_)<|λc2=>?_⟩
   .exact go _ _ ⟨F3,m+1,ts++ts1,_,M,w4,pg<|.inr (Wd c2)⟩
   .have c1:¬n<=(((ts++ts1).map λe=>V.ref e.p).length:Int):=λy=>c1 (Wf y);have c2:¬4*n<=((m+1:Nat):Int):=λy=>c2 (Wf y);rw[Q0]at c1;exact⟨F3,ts++ts1,_,M,w4,(),()⟩
  .have c:¬a7 (65536/st.low) j i m<j:=λy=>c (Wf y);exact go _ _ ⟨F',m,ts,Y,M,w,w.rw,w.go,λx x0 xm=>lt x x0 (),.inl ()⟩
 obtain⟨F2,m,ts,Y,rfl,w,pg⟩:=w;obtain⟨r0,r1,_⟩:=sF W0 ij m w.go;obtain⟨dx,fs,O,tf,_⟩:=id w.tk;refine⟨_,M,_,M,p,_,dx,fs,_,M,O,T.bH,T.cm,tf.end_,M,_,M,bP (λc=>?_)<|λc=>?_⟩
 .have c:a7 (65536/st.low) j i m=j:=V.int.inj (Wd c);refine⟨_,M,(by show 2<=sizeLine;decide),λr nr=>?_⟩;have Z:=ak (o:= .tup [.ref l,.non]) nr;refine q _ F2 r l .non ts m (w.sl.new nr) (w.fr.trans<|Fr.of_same Z) ⟨ai,Z _ _ w.li,λe he=>⟨Z _ _ (w.tu e he).1,(w.tu e he).2⟩,⟨λnF=>sY w.fr nF nr,w.sl.out nr⟩,⟨λ_=>nl,w.ol⟩⟩ pg ?_;unfold Ru;rw[W7 c]
 .have c:¬a7 (65536/st.low) j i m=j:=λz=>c (Wf<|by rw[z]);have ok:okS (.int<|a7 (65536/st.low) j i m) (.int j):=⟨_,_,M,M,(),(),j1⟩;refine⟨_,M,_,M,_,M,p,_,dx,fs,_,M,O,T.bH,T.cm,tf.end_,λx dr nx nd bo=>?_⟩;refine⟨x,dr,_,_,M,ai,T0 _,T0 _,λ_ H' fs' a4 h' bl=>⟨M,(by show 2<=sizeLine;decide),λr nr=>?_⟩,λz=>Wb ok z⟩;have Z:Ds H2 (upd H' r<|.tup [.ref l,.ref x]):=(uu nx nd a4).trans (ak nr);have a5:H2 r=none:=dn (uu nx nd a4) nr;have xr:x≠r:=λz=>by rw[z,nr]at h';cases h'
  refine q _ F2 r l (.ref x) ts m (w.sl.same Z) (w.fr.trans<|Fr.of_same Z) ⟨ai,Z _ _ w.li,λe he=>⟨Z _ _ (w.tu e he).1,(w.tu e he).2⟩,⟨λnF=>sY w.fr nF a5,w.sl.out a5⟩,⟨λ_=>nl,w.ol⟩⟩ pg ?_;unfold Ru;rw[W6 c];exact⟨x,M,λnF=>sY w.fr nF nx,w.sl.out nx,dr,fs',by rwa[ae xr],bl,(),(),j1⟩
def R4.newb {s l w h:Addr} {Fs Fs' Fl:Addr->Prop} {x:PM} (WM:R4 K t H a s l w p h Fs Fl x) (n:¬Fs b->H b=none) (n':¬Fs' b):¬R5 a w p h Fs' Fl x.pa b:=λz=>by
 rcases z with z|z|z
 .exact n' z
 .obtain⟨o,e⟩:=WM.lv.dom z;rw[n λy=>WM.a1 b y z]at e;cases e
 .obtain⟨o,e,_⟩:=WM.o.dom z;rw[n (WM.a2 b z)]at e;cases e
noncomputable def RI:V->Int
 | .int i=>i|_=>0
def Rj (st:O8) (ks:List Int) (kd n:Int) (av e:V) (ps:List (Int×V)) (r:Option V):Prop:=
 (kd=0/\∃m,PgS st (RI av) (RI e) n m ps/\r=if a7 (65536/st.low) (RI e) (RI av) m=RI e then none else some (.int<|a7 (65536/st.low) (RI e) (RI av) m))\/
 ∃up:Bool,kd=(if up=true then 1 else 2)/\ps.map (·.1)=(cw up av e ks).take n.toNat/\(∀p∈ps,aF st.kv p.1=some p.2)/\r=if(cw up av e ks).length<=n.toNat then none else((cw up av e ks)[n.toNat-1]?).map λk=> .int (if up=true then k+1 else k-1)
structure ES (t:P5) (H':Hp) (F':Addr->Prop) (st:O8) (kd n:Int) (av e v:V) (ts:List Tp) (a':V) (R:Int->Bool):Prop where
 rest:(v= .non/\R=λ_=>false)\/∃q:Addr,v= .ref q/\Pe t H' q kd a' e/\Qc kd a' e/\¬F' q/\R=hN kd a' e/\(kd=0->RI av<=RI a')
 less:∀k,0<=k->R k=true->hN kd av e k=true
 nd:(ts.map (·.k)).Nodup
 me:∀k v,(k,v)∈ts.map Tp.kv↔(k,v)∈st.kv/\hN kd av e k=true/\R k=false
 tell:∀ks,du ks->(∀z,z∈ks↔(aF st.kv z).isSome=true)->Rj st ks kd n av e (ts.map Tp.kv) (if v= .non then none else some a')
 far:v= .non\/n<=ts.length\/(kd=0/\RI av/(65536/st.low)+4*n<=RI a'/(65536/st.low))
def z6 {JK j i:Int} (z:0<JK):∀m:Nat,(∀x≤m,a7 JK j i x≠j)->a7 JK j i m/JK=i/JK+m
 |0,_=>(Int.add_zero _).symm
 |m+1,h=>by
  have G:=z6 z m λx hx=>h x ();have e:a7 JK j i (m+1)=(a7 JK j i m/JK+1)*JK:=by
   have:=h (m+1) (Q4 _);show yD JK j (a7 JK j i m)=_;change yD JK j (a7 JK j i m)≠j at this;unfold yD at this⊢;split
   .rw[W7 (by assumption)]at this;exact Wb M this
   .rfl
  rw[e,Int.mul_ediv_cancel _ (Zs z),G];lia
def BK {i j:Int}:hN 0 (.int i) (.int j) k=true↔i<=PV k/\PV k<j:=by
 show(decide (i<=tz (k%65536))&&decide (tz (k%65536)<j))=true↔_;rw[Zb,Wn,Wn];exact Iff.rfl
def EL {n i j:Int} {m:Nat} (G:0<65536/st.low) (i0:0<=i) (O:i<=j) (g:PgS st i j n m (ts.map Tp.kv)) (x:Ru t H H' F F' (a7 (65536/st.low) j i m) j v):∃a' R,ES t H' F' st 0 n (.int i) (.int j) v ts a' R:=by
 obtain⟨r1,r2,_⟩:=sF G O m g.go;have nd:(ts.map (·.k)).Nodup:=by
  refine Zm.mpr<|(Zm.mp g.rw.so).imp λ{a b} h e=>?_;have h:PV a.k<PV b.k\/(PV a.k=PV b.k/\a.k<b.k):=h;rw[e]at h;lia
 unfold Ru at x;by_cases ej:a7 (65536/st.low) j i m=j
 .rw[W7 ej]at x;refine⟨.non,λ_=>false,.inl ⟨x,M⟩,λk _ h=>Wb h Qz,nd,λk v=>?_,(λks _ _=> .inl ⟨M,m,g,by rw[W7 x];exact(W7 ej).symm⟩),.inl x⟩;rw[g.rw.me,ej,BK];exact⟨λh=>⟨h.1,h.2,M⟩,λh=>⟨h.1,h.2.1⟩⟩
 .rw[W6 ej]at x;obtain⟨q,I,_,U,dx,fs,hq,Y,Z,q1,q2⟩:=x;refine⟨_,hN 0 (.int<|a7 (65536/st.low) j i m)<|.int j,.inr ⟨q,I,⟨dx,fs,hq,Y⟩,.inl ⟨M,_,_,M,M,Z,q1,q2⟩,U,M,λ_=>r1⟩,λk _ h=>?_,nd,λk v=>?_,(λks _ _=> .inl ⟨M,m,g,by rw[W6 λz=>by rw[I]at z;cases z];exact(W6 ej).symm⟩),?_⟩
  .rw[BK]at h⊢;lia
  .rw[g.rw.me,BK,<-Bool.not_eq_true,BK];constructor
   .rintro ⟨h1,h2,h3⟩;exact⟨h1,⟨h2,()⟩,()⟩
   .rintro ⟨h1,⟨h2,h3⟩,h4⟩;exact⟨h1,h2,()⟩
  .rcases g.st with z|⟨_,z|z⟩
   .exact Wb z ej
   .rw[Q0]at z;exact .inr<|.inl z
   .refine .inr<|.inr ⟨M,?_⟩;have ne:∀x≤m,a7 (65536/st.low) j i x≠j:=λx hx=>by
     rcases Vv hx with h|rfl
     .have:=g.go x h;lia
     .exact ej
    show i/(65536/st.low)+4*n<=a7 (65536/st.low) j i m/(65536/st.low);rw[z6 G m ne];lia
def zl (up:Bool) (x y:Int):Prop:=if up=true then x<y else y<x
def Ja {up:Bool} {a:V} (r:du ks):(cw up a e ks).Pairwise (zl up):=by
 unfold cw zl;cases up
 .exact List.Pairwise.filter _<|Vk.mpr r
 .exact List.Pairwise.filter _ r
def Qt {up:Bool} {a:V} {z:Int}:z∈cw up a e ks↔z∈ks/\hK up a e z=true:=by
 unfold cw;rw[QS];cases up
 .rw[W6 Qz,Xo]
 .rw[W7 M]
def Hw {up:Bool} {l:List Int} {m:Nat} {z:Int} (r:l.Pairwise (zl up)) (h:l[m-1]?=some k) (I:1<=m):z∈l.take m↔z∈l/\(z=k\/zl up z k):=by
 have w:=Zu.mp r;obtain⟨hk,G⟩:=Q1.mp h;have as:∀{x y:Int},zl up x y->¬(y=x\/zl up y x):=λ{x y} h1 h2=>by
  unfold zl at h1 h2;cases up
  .rw[W6 Qz]at h1 h2;lia
  .rw[W7 M]at h1 h2;lia
 constructor
 .intro hz;obtain⟨i,hi,e⟩:=Z1 hz;rw[Q6]at hi;rw[Xk]at e;refine⟨Zd hz,?_⟩;rcases Nat.lt_or_ge i (m-1)with c|c
  .have:=w i (m-1) () hk c;rw[e,G]at this;exact .inr this
  .have:i=m-1:=();subst this;exact .inl<|e.symm.trans G
 .rintro ⟨hz,o⟩;obtain⟨i,hi,rfl⟩:=Z1 hz;rcases Nat.lt_or_ge i m with c|c
  .exact List.mem_take_iff_getElem.mpr ⟨i,(),M⟩
  .have:=w (m-1) i hk hi ();rw[G]at this;exact Wb o<|as this
def Mz {up:Bool} {a:V} (h:RJ t H p up a e):Pe t H p (if up=true then 1 else 2) a e/\Qc (if up=true then 1 else 2) a e:=by
 obtain⟨dx,fs,z,G,ok⟩:=h;cases up
 .exact⟨⟨dx,fs,z,G⟩,.inr<|.inr ⟨M,ok⟩⟩
 .exact⟨⟨dx,fs,z,G⟩,.inr<|.inl ⟨M,ok⟩⟩
def Nv {up:Bool}:hN (if up=true then 1 else 2)=hK up:=by cases up<;>rfl
def yi {up:Bool} {a:V} {z:Int} (ok:if up=true then Qv a e else R1 a e) (hk:hK up a e k=true):hK up (.int<|if up=true then k+1 else k-1) e z=true↔hK up a e z=true/\¬(z=k\/zl up z k):=by
 unfold zl;cases up with
 |true=>
  rw[W7 M,W7 M];obtain⟨i,rfl,i0,he⟩:=(show Qv a e from ok);rcases he with rfl|⟨j,rfl,_⟩
  .have h1:=Wd (show decide (i<=k)=true from hk);show decide (k+1<=z)=true↔decide (i<=z)=true/\_;rw[Wn,Wn];lia
  .have h1:=Wd (Ze.mp<|show(decide (i<=k)&&decide (k<j))=true from hk).1;show(decide (k+1<=z)&&decide (z<j))=true↔(decide (i<=z)&&decide (z<j))=true/\_;rw[Zb,Zb,Wn,Wn,Wn];lia
 |false=>
  rw[W6 Qz,W6 Qz];obtain⟨j,rfl,G,ha⟩:=(show R1 a e from ok);rcases ha with rfl|⟨i,rfl,_⟩
  .show(decide (j<=z)&&decide (z<=k-1))=true↔decide (j<=z)=true/\_;rw[Zb,Wn,Wn];lia
  .have h1:=Wd (Ze.mp<|show(decide (j<=k)&&decide (k<=i))=true from hk).2;show(decide (j<=z)&&decide (z<=k-1))=true↔(decide (j<=z)&&decide (z<=i))=true/\_;rw[Zb,Zb,Wn,Wn,Wn];lia
def G0 {n:Int} {up:Bool} (nd:(st.kv.map (·.1)).Nodup) (r:du ks) (mk:∀z,z∈ks↔(aF st.kv z).isSome=true) (n1:1<=n) (ok:if up=true then Qv av e else R1 av e)
  (Y:ts.map (·.k)=(cw up av e ks).take n.toNat) (Z:∀e∈ts,aF st.kv e.k=some e.v) (x:NxH t H H' F' p up e (cw up av e ks) n.toNat v):∃a' R,ES t H' F' st (if up=true then 1 else 2) n av e v ts a' R:=by
 have ho:=Ja (up:=up) (a:=av) (e:=e) r;have I:(ts.map (·.k)).Nodup:=by
  rw[Y];refine(ho.sublist<|V2 _ _).imp λ{a b} h e=>?_;unfold zl at h;rw[e]at h;split at h<;>lia
 have me:∀(k:Int) (v:V),(k,v)∈ts.map Tp.kv↔(k,v)∈st.kv/\k∈(cw up av e ks).take n.toNat:=λk v=>by
  rw[<-Y,Qy,Qy];constructor
  .rintro ⟨d,hd,h1⟩;have h2:d.k=k:=Wr Prod.fst h1;have O:d.v=v:=Wr Prod.snd h1;have:=bD (Z d hd);rw[h2,O]at this;exact⟨this,d,hd,h2⟩
  .rintro ⟨h1,d,hd,rfl⟩;have:=Z d hd;rw[bC nd h1]at this;exact⟨d,hd,by unfold Tp.kv;rw[W8 this]⟩
 have ik:∀{k:Int} {v:V},(k,v)∈st.kv->k∈ks:=λh=>(mk _).mpr (by rw[bC nd h];rfl);have tl:∀{r:Option V},(r=if(cw up av e ks).length<=n.toNat then none else((cw up av e ks)[n.toNat-1]?).map λk=> .int<|if up=true then k+1 else k-1)->∀G,du G->(∀z,z∈G↔(aF st.kv z).isSome=true)->Rj st G (if up=true then 1 else 2) n av e (ts.map Tp.kv) r:=λ{q} hq G r' mk'=>by
  have e1:G=ks:=CC r' r λz=>(mk' z).trans (mk z).symm;subst e1;refine .inr ⟨up,M,by rwa[QR],λp hp=>?_,hq⟩;obtain⟨d,hd,rfl⟩:=Qy.mp hp;exact Z d hd
 unfold NxH at x;split at x
 .refine⟨.non,λ_=>false,.inl ⟨x,M⟩,λk _ h=>Wb h Qz,I,λk v=>?_,tl (by rw[W7 x,W7 (by assumption)]),.inl x⟩;rw[me,QT (by assumption),Qt,Nv];exact⟨λh=>⟨h.1,h.2.2,M⟩,λh=>⟨h.1,ik h.1,h.2.1⟩⟩
 .rw[W6 ()]at x;obtain⟨q,k0,h0,U,_,nq,TQ⟩:=x;have hk:=(Qt.mp<|Q2 h0).2;obtain⟨t1,t2⟩:=Mz TQ;refine⟨_,hN (if up=true then 1 else 2) (.int<|if up=true then k0+1 else k0-1) e,.inr ⟨q,U,t1,t2,nq,M,λz=>by cases up<;>cases z⟩,λk _ h=>?_,I,λk v=>?_,tl (by rw[W6 (show ¬v= .non from λz=>by rw[U]at z;cases z),W6 (show ¬(cw up av e ks).length<=n.toNat by assumption),h0];rfl),.inr<|.inl ?_⟩
  .rw[Nv]at h⊢;exact((yi ok hk).mp h).1
  .rw[me,Hw ho h0 (),Qt,Nv,<-Bool.not_eq_true,yi ok hk];constructor
   .rintro ⟨h1,⟨_,h2⟩,O⟩;exact⟨h1,h2,λz=>z.2 O⟩
   .rintro ⟨h1,h2,O⟩;exact⟨h1,⟨ik h1,h2⟩,Classical.byContradiction λz=>O ⟨h2,z⟩⟩
  .have:=Wr List.length Y;rw[Q0,Q6]at this;lia
def MK (K:WN) (t:P5):Sp:=λvs H Q _=>∃(a p:Addr) (n kd:Int) (av e:V) (F:Addr->Prop) (x:PM),vs=[.ref a,.ref p,.int n,.non]/\PN K t H a F x/\Pe t H p kd av e/\Qc kd av e/\¬F p/\1<=n/\n<=1000/\x.st.kv.length<4096/\x.ks.length<4096/\(∀k∈x.ks,0<=k)/\(∀p∈x.st.kv,∃i:Int,p.2= .int i)/\
 ∀(H':Hp) (F':Addr->Prop) (r g:Addr) (v:V) (ts:List Tp) (a':V) (R:Int->Bool),PN K t H' a F' x->Fr F F' H H'->PgA H H' F F' r g v ts->ES t H' F' x.st kd n av e v ts a' R->Q (.ref r) H'
def M8:Dr P w K mg base P1 8 t.Mm t.Dk ["house","token","many","sieve"] (MK K t):=by
 have a2:=RW.nd;refine T.OV.ok RW (λvs H Q E h=>?_)<|λa3 A outer s H vs Q E hr h=>?_
 .obtain⟨a,p,n,kd,av,e,F,x,rfl,_⟩:=h;rfl
 .obtain⟨a,p,n,kd,av,e,F,x,rfl,A,TK,Y,np,n1,n2,l4,lk,k0,iv,q⟩:=h;refine Ox (λx y=>aO (bV<|aI (mT K M) {_} T.dL cC (ac Kc<|ac (db (v:= .ref t.aV) {_} T.xM M) ag)) x y) ?_;refine aC (P7 4<|aJ (uG T) hr.mo {_} T.Hb T.wk.kp T.Hd .nil ar (ac (au Ca M)<|ac Kc<|ac M2 ag)) ?_
  intros
  refine aC (P7 4<|aJ (vR T) hr.mo {_} T.IB T.yx.kp T.JB .nil ar (ac Ca<|ac Kc<|ac M2 ag)) ?_
  intros
  refine aj (aO (aw dF PB a8<|ay _)
   (aB<|aD Pa)
   aE)
     (aC eI ?_)
  intros
  obtain⟨dx,fs,G,tf⟩:=id TK;have nd:(x.st.kv.map (·.1)).Nodup:=by
   obtain⟨s,l,wr,p,h,Fs,Fl,WM,O,g⟩:=A;obtain⟨_,_,_,_,nd,_⟩:=WM.sl;exact nd
  have ri:du x.ks:=by
   obtain⟨_,_,_,_,_,_,L⟩:=A.lvs;exact L.rise
  have I:∀(up:Bool) {Q':VK} {E':XK},kd=(if up=true then 1 else 2)->(∀v H',Q v H'->Q' v H')->mW K t [.ref a,.ref p,.int n] H Q' E':=λup Q' E' Z hQ=>by
   have ok:if up=true then Qv av e else R1 av e:=by
    subst Z;cases up
    .exact Y.d
    .exact Y.u
   refine⟨a,p,n,up,av,e,F,x,M,A,⟨dx,fs,?_,?_,ok⟩,np,lk,k0,λH' F' r g v ts A' f' pg ek ev nx=>?_⟩
   .subst Z;cases up<;>exact G
   .subst Z;cases up<;>exact tf
   .obtain⟨a',R,U⟩:=G0 nd ri A.ok.ks n1 ok ek ev nx;rw[<-Z]at U;exact hQ _ _<|q H' F' r g v ts a' R A' f' pg U
  rcases Y.kd with rfl|rfl|rfl
  .have G:H p=some (.ins t.aV dx fs):=G;obtain⟨i,j,rfl,rfl,i0,ij,j1⟩:=Y.s;obtain⟨s,l,wr,pp,h,Fs,Fl,WM,O,g⟩:=A;obtain⟨a0,ho⟩:=WM.o.ob;have W0:0<65536/x.st.low:=by
    have z:PJ x.st:=let⟨_,_,_,_,_,z⟩:=WM.sl;z
    obtain⟨_,_,R⟩:=Bl (kh z);exact R.wpos'
   refine⟨_,M,_,_,_,_,M,PP.ins G T.bH T.qS.1 T.qS.2 T.qS.3 T.qS.4,T.Ez,_,M,cP ⟨_,M,a,_,a0,_,_,M,ho,T.aT,T.dG,xW,_,M,_,M,s,p,n,i,j,Fs,x.st,M,WM.sl,⟨dx,fs,G,tf,i0,ij,j1⟩,λz=>np<|(g p).mpr<|.inl z,n1,n2,l4,iv,λH' Fs' r gg v ts m S' f' pg ps nx=>⟨_,M,M,_,M,fj M ⟨_,M,?_⟩⟩⟩⟩;obtain⟨B1,g1⟩:=WM.slots S' f';have up:∀{b:Addr},¬F b->¬Fs b:=λn z=>n ((g _).mpr<|.inl z);have A':PN K t H' a (R5 a wr pp h Fs' Fl x.pa) x:=⟨s,l,wr,pp,h,Fs',Fl,B1,O,λ_=>Iff.rfl⟩;have a1:Ru t H H' F (R5 a wr pp h Fs' Fl x.pa) (a7 (65536/x.st.low) j i m) j v:=by
    unfold Ru at nx⊢;split
    .rw[W7 (by assumption)]at nx;exact nx
    .rw[W6 (by assumption)]at nx;obtain⟨y,e1,e2,e3,e4⟩:=nx;exact⟨y,e1,λn=>e2<|up n,WM.newb e2 e3,e4⟩
   obtain⟨a',R,U⟩:=EL W0 i0 ij ps a1;refine q H' _ r gg v ts a' R A' (λb o n e=>g1 b o (λz=>n<|(g b).mpr z) e) ⟨pg.tu,pg.li,λe he=>⟨(pg.rw e he).1,λz=>?_⟩,⟨λn=>pg.nr.1<|up n,WM.newb pg.nr.1 pg.nr.2⟩,λn=>pg.ng.1<|up n,WM.newb pg.ng.1 pg.ng.2⟩ U;obtain⟨o,e',n⟩:=A'.dom z;rw[(pg.rw e he).1]at e';exact n _ (W8 e').symm
  .have G:H p=some (.ins t.dQ dx fs):=G;refine⟨_,M,_,_,_,_,M,PP.ins G T.g8 T.nO.1 T.nO.2 T.nO.3 T.nO.4,T.JY,_,M,cq ⟨_,M,_,M,_,M,I true M λv H' h=>⟨_,M,M,_,M,fj M ⟨_,M,h⟩⟩⟩⟩
  .have G:H p=some (.ins t.cr dx fs):=G;refine⟨_,M,_,_,_,_,M,PP.ins G T.cy T.fk.1 T.fk.2 T.fk.3 T.fk.4,T.Hc,_,M,cq ⟨_,M,_,M,_,M,I false M λv H' h=>⟨_,M,M,_,M,fj M ⟨_,M,h⟩⟩⟩⟩
def vB (K:WN):Sp:=λvs H Q _=>∃(a:Addr) (ns:List Int) (k:Int),vs=[.ref a,.int k]/\Fz K H a (ns.map V.int)/\0<=k/\Q (.int<|ns.getD k.toNat 0) H
def vV:Dr P w K mg base P1 1 t.pG t.jv ["_law_script","_law_k"] (vB K):=by
 refine T.gd.okl vL λs H vs Q E I h _=>?_;intro X;obtain⟨a,ns,i,rfl,hS,G,k⟩:=h;refine aj (aO (aw eD Kc (aI aH {_} T.bU bp (ac Ca ag))<|ay _)
    (aB<|aD<|aP aW Ca Kc<|λ_ _=>M)
    aE)
   (aC (aD af) ?_)
 intros
 refine⟨_,M,_,M,a,_,M,.inl hS,_,_,M,M,_,M,?_⟩;refine bP (λc=>?_)<|λc=>?_
 .have c:=Wd c;rw[Q0]at c;exact⟨_,M,_,M,a,_,_,_,M,M,hS,yg G c,k⟩
 .have c:¬i<((ns.map V.int).length:Int):=λz=>c (Wf z);rw[Q0]at c;rw[Jx c]at k;exact k
def FH (x y:Nat):x&&&y=((x/256)&&&(y/256))*256+((x%256)&&&(y%256)):=by
 have h:=Nat.div_add_mod (x&&&y) 256;rw[show(256:Nat)=2^8 from rfl,Nat.and_div_two_pow,Nat.and_mod_two_pow]at h;rw[<-h];show 2^8*_+_=_*2^8+_;rw[XB]
def Qs (p s x:Nat):Nat:=(x&&&p)*s+(x&&&(p*s))/s
def AU {p s:Nat} (h1:∀x<256,Qs p s x<256/\s∣(x&&&(p*s))) (U:p<256) (hq:p*s<256) (hs:0<s) {a b:Nat} (ha:a<256) (hb:b<256):Qs (p*257) s (a*256+b)=Qs p s a*256+Qs p s b:=by
 obtain⟨_,c,hc⟩:=h1 a ha;have d1:(a*256+b)/256=a:=();have z:(a*256+b)%256=b:=();have G:p*257/256=p:=();have e2:p*257%256=p:=();have Y:p*257*s=p*s*256+p*s:=by rw[Nat.mul_right_comm,show(257:Nat)=256+1 from rfl,Nat.mul_add,Nat.mul_one]
 have I:p*257*s/256=p*s:=();have O:p*257*s%256=p*s:=();unfold Qs;rw[FH (a*256+b) (p*257),FH (a*256+b) (p*257*s),d1,z,G,e2,I,O,hc,Nat.mul_div_cancel_left c hs,Nat.mul_assoc s c 256,Nat.add_comm (s*(c*256)),Nat.add_mul_div_left _ _ hs,VP,Nat.mul_right_comm,VP];lia
def LM:∀x<256,Qs 85 2 (Qs 51 4<|Qs 15 16 x)=rv 8 x:=by decide+kernel
def MJ:∀x<256,Qs 15 16 x<256/\16∣(x&&&(15*16)):=by decide+kernel
def MI:∀x<256,Qs 51 4 x<256/\4∣(x&&&(51*4)):=by decide+kernel
def sw85:∀x<256,Qs 85 2 x<256/\2∣(x&&&(85*2)):=by decide+kernel
def Mx (h:n<65536):Qs (85*257) 2 (Qs (51*257) 4<|Qs (15*257) 16<|n%256*256+n/256)=rv 16 n:=by
 have e:rv 16 n=rv 8 n*256+rv 8 (n/256):=sC 8 8 n;have e2:rv 8 (n%256)=rv 8 n:=Eg 8 n;rw[e,<-e2];have a:=Nat.mod_lt n (show 0<256 by decide);have b:n/256<256:=();clear e e2 h;generalize n%256=x at a⊢;generalize n/256=y at b⊢;have z:=(MJ x a).1;have G:=(MJ y b).1;have I:=(MI _ z).1;have O:=(MI _ G).1;rw[<-LM x a,<-LM y b,AU MJ (_) (_) (_) a b];generalize Qs 15 16 x=U at z I⊢;generalize Qs 15 16 y=Y at G O⊢;rw[AU MI (_) (_) (_) z G];generalize Qs 51 4 U=Z at I⊢;generalize Qs 51 4 Y=y2 at O⊢;exact AU sw85 (_) (_) (_) I O
def sw1 (x:Nat):Builtin.bitAnd (x:Int) 3855*16+Builtin.bitAnd (x:Int) 61680/16=((Qs (15*257) 16 x:Nat):Int):=by
 show((x&&&3855:Nat):Int)*16+((x&&&61680:Nat):Int)/16=(((x&&&3855)*16+(x&&&61680)/16:Nat):Int);lia
def sw2 (x:Nat):Builtin.bitAnd (x:Int) 13107*4+Builtin.bitAnd (x:Int) 52428/4=((Qs (51*257) 4 x:Nat):Int):=by
 show((x&&&13107:Nat):Int)*4+((x&&&52428:Nat):Int)/4=(((x&&&13107)*4+(x&&&52428)/4:Nat):Int);lia
def sw3 (x:Nat):Builtin.bitAnd (x:Int) 21845*2+Builtin.bitAnd (x:Int) 43690/2=((Qs (85*257) 2 x:Nat):Int):=by
 show((x&&&21845:Nat):Int)*2+((x&&&43690:Nat):Int)/2=(((x&&&21845)*2+(x&&&43690)/2:Nat):Int);lia
def yI:Sp:=λvs H Q _=>∃k:Int,vs=[.int k]/\Q (.int<|tz<|k%65536) H
def zr:Dr P w K mg base P1 1 t.tK t.mF ["_law_key"] yI:=by
 refine T.tZ.okl y3 λs H vs Q E Y h _=>?_;intro X;obtain⟨n,rfl,q⟩:=h;refine aj (P7 1<|ao aS Ca af)
   (aj (P7 1<|ao bF (ao cQ (ao aS Kc af) af)<|ao aR Kc af)
   (aj (P7 1<|ao bF (ao cQ (ao uE Kc af) af)<|ao aR (ao uE Kc af) af)
   (aj (P7 1<|ao bF (ao cQ (ao uE Kc af) af)<|ao aR (ao uE Kc af) af)
   (aC (aD<|ao bF (ao cQ (ao uE Kc af) af)<|ao aR (ao uE Kc af) af) ?_))))
 intros
 have z:=QA n (show(65536:Int)≠0 by decide);have G:=Qx n (show(0:Int)<65536 by decide);refine⟨_,M,_,_,M,M,(by show(0:Int)<65536;decide),?_⟩
 (try dsimp only)
 obtain⟨m,I⟩:=ZC z;rw[I]at G q⊢;have te:=Mx (n:=m) ();unfold tz at q;rw[Zg,<-te]at q;refine⟨_,M,_,_,M,M,(by show(0:Int)<256;decide),_,_,M,M,.inr ⟨(_),(_)⟩,_,M,_,_,M,M,⟨(_),(_)⟩,_,_,M,M,?_⟩
 (try dsimp only)
 rw[show(m:Int)%256*256+(m:Int)/256=((m%256*256+m/256:Nat):Int) by lia];generalize m%256*256+m/256=O at q⊢
 (try dsimp only)
 refine⟨_,M,_,_,M,M,_,_,M,M,.inr ⟨(_),(_)⟩,_,M,_,_,M,M,_,_,M,M,⟨(_),(_)⟩,_,_,M,M,?_⟩
 (try dsimp only)
 rw[sw1];generalize Qs (15*257) 16 O=U at q⊢
 (try dsimp only)
 refine⟨_,M,_,_,M,M,_,_,M,M,.inr ⟨(_),(_)⟩,_,M,_,_,M,M,_,_,M,M,⟨(_),(_)⟩,_,_,M,M,?_⟩
 (try dsimp only)
 rw[sw2];generalize Qs (51*257) 4 U=Z at q⊢
 (try dsimp only)
 refine⟨_,M,_,_,M,M,_,_,M,M,.inr ⟨(_),(_)⟩,_,M,_,_,M,M,_,_,M,M,⟨(_),(_)⟩,_,_,M,M,?_⟩
 (try dsimp only)
 rw[sw3];exact q
def yK:Sp:=λvs H Q _=>∃c k:Int,vs=[.int c,.int k]/\∀z:Int,0<=z->z<2147483647->Q (.int z) H
def qr:Dr P w K mg base P1 1 t.tM t.mH ["_law_cell","_law_k"] yK:=by
 refine T.t9.okl y7 λs H vs Q E z h _=>?_;intro X;obtain⟨c,k,rfl,q⟩:=h;refine aj (P7 2<|ao aS (ao cQ (ao bF (ao bF Ca<|ao cQ af Kc) af) af) af)
   (aC (aD<|ao aS (ao cQ M2<|ao bF (ao aR M2 af) af) af) ?_)
 intros
 refine⟨_,M,_,M,_,_,M,M,.inl ⟨(_),(_)⟩,_,_,M,M,_,_,M,M,_,_,M,M,.inr ⟨(_),(_)⟩,_,_,M,M,(by show(0:Int)<2147483647;decide),?_⟩;have a:=QA ((c+7919*k+1)*48271) (show(2147483647:Int)≠0 by decide);have b:=Qx ((c+7919*k+1)*48271) (show(0:Int)<2147483647 by decide)
 (try dsimp only)
 generalize (c+7919*k+1)*48271%2147483647=n at a b⊢;refine⟨_,M,_,M,_,_,M,M,⟨(_),(_)⟩,_,_,M,M,_,_,M,M,.inl ⟨(),()⟩,_,_,M,M,(by show(0:Int)<2147483647;decide),?_⟩;exact q _ (QA _ (_))<|Qx _ (_)
def LS (kd:Int) (H:Hp) (Q:VK):Prop:=∀(H':Hp) (p:Addr) (a e:V),Ds H H'->H' p=some (.tup [.int kd,a,e])->Qc kd a e->RB a->RB e->Q (.ref p) H'
def eh {i:Int} (h:i<10^80):RB (.int i):=h
def BU:RB .non:=Wp
def nR:Sp:=λvs H Q _=>∃kd c:Int,vs=[.int kd,.int c]/\0<=kd/\kd<3/\LS kd H Q
def oE:Dr P w K mg base P1 1 t.iE t.dZ ["_law_kind","_law_cell"] nR:=by
 refine T.qk.okl nW λs H vs Q E hr h _=>?_;intro X;obtain⟨kd,c,rfl,d0,d3,q⟩:=h;refine bW (λx=>aO (aw bT Ca af<|ay _) x aE) ?_;refine aj (P7 2<|ao aS Kc af)
   (aC (aD<|bQ<|ac Ca<|ac M2<|ac (ao bF M2<|ao aS (ao aR Kc af)<|ao ji af M2) ag) ?_)
 intros
 refine aj (P7 2<|ao aS (ao aR Kc af)<|ao j8 af af)
   (aj (P7 3<|ao bF M2<|ao aS (ao CJ Kc<|ao cQ af<|ao j8 af af)<|ao j8 af af)
   (aj (aO (PW.pt<|gx (aw bT (ao aS Kc af) af<|ay _)<|eG<|aw bT Ca af<|ay _)
    (aB<|aD<|bQ<|ac Ca<|ac M2<|ac a8 ag)
    aE)
   (aj (aO (aw bT (ao aS Kc af) af<|ay _)
    (aB<|aD<|bQ<|ac Ca<|ac a8<|ac M2 ag)
    aE)
   (aC (aD<|bQ<|ac Ca<|ac (aP aW (cn<|ac M2<|ac PB ag) (ao ji Ca af)<|λ_ _=>M)<|ac (aP aW (cn<|ac PB<|ac M2 ag) (ao ji Ca af)<|λ_ _=>M) ag) ?_))))
 intros
 refine⟨_,M,M,_,M,bP (λz=>?_)<|λz=>?_⟩
 .obtain rfl:kd=0:=V.int.inj (Wd z);have G:=QA c (show(65537:Int)≠0 by decide);have O:=Qx c (show(0:Int)<65537 by decide);refine⟨_,M,_,_,M,M,(by show(0:Int)<65537;decide),?_⟩
  (try dsimp only)
  generalize c%65537=lo at G O⊢;refine⟨_,M,_,M,_,M,_,M,_,_,M,M,⟨(_),(_)⟩,_,M,_,_,M,M,_,_,M,M,(by show(0:Int)<65537-lo;lia),_,_,M,M,(by show 3<=sizeLine;decide),λp I=>?_⟩;have b0:=QA (c/65537) (show(65537-lo:Int)≠0 by lia);have Z:=Qx (c/65537) (show(0:Int)<65537-lo by lia);exact q _ p (.int lo) (.int<|lo+c/65537%(65537-lo)) (ak I) ai (.inl ⟨M,lo,_,M,M,G,(),()⟩) (eh ())<|eh ()
 .have dz:kd≠0:=λe=>z (Wf<|by rw[e]);have G:=QA (c/2) (Zs wE);have O:=Qx (c/2) wE;have b0:=QA (c/(2*10^(39:Int).toNat)) (Zs wE);have Z:=Qx (c/(2*10^(39:Int).toNat)) wE;refine⟨_,M,_,_,M,M,⟨(_),(_)⟩,_,_,M,M,⟨(_),(_),(_)⟩,_,_,M,M,wE,?_⟩
  (try dsimp only)
  generalize c/2%10^(39:Int).toNat=lo at G O⊢;refine⟨_,M,_,M,_,_,M,M,⟨(_),(_),(_)⟩,_,_,M,M,.inl ⟨(_),(_)⟩,_,_,M,M,⟨(_),(_)⟩,_,_,M,M,⟨(_),(_),(_)⟩,_,_,M,M,wE,_,_,M,M,?_⟩
  (try dsimp only)
  generalize c/(2*10^(39:Int).toNat)%10^(39:Int).toNat=hi at b0 Z⊢;have a2:(10:Int)^(39:Int).toNat=10^39:=M;rw[a2]at O Z;have two:(0:Int)<2:=by decide
  have U:3<=sizeLine:=by decide
  have Y:2<=sizeLine:=by decide
  rcases(show kd=1\/kd=2 by lia)with rfl|rfl
  .refine⟨_,M,_,_,M,M,two,M,_,M,bP (λy=>?_)<|λy=>?_⟩
   .refine⟨_,M,M,_,M,fj M ⟨_,M,_,M,U,λp I=>?_⟩⟩;exact q _ p (.int lo) .non (ak I) ai (.inr<|.inl ⟨M,lo,M,G,.inl M⟩) (eh ()) BU
   .refine⟨_,M,_,_,M,M,two,M,_,M,bP (λy2=>Wb y2 y)<|λ_=>?_⟩;refine⟨_,M,_,M,_,M,Y,λp1 n1=>⟨_,M,_,_,M,M,p1,_,_,_,M,M,Fz.of ai,M,_,M,_,M,Y,λp2 n2=>⟨_,M,_,_,M,M,p2,_,_,_,M,M,Fz.of ai,M,U,λp3 n3=>?_⟩⟩⟩;exact q _ p3 (.int lo) (.int<|lo+hi) (((ak n1).trans<|ak n2).trans<|ak n3) ai (.inr<|.inl ⟨M,lo,M,G,.inr ⟨_,M,()⟩⟩) (eh ())<|eh ()
  .refine⟨_,M,_,_,M,M,two,M,_,M,bP (λy=>?_)<|λy=>?_⟩
   .refine⟨_,M,M,_,M,a6 (λe=>by cases e) ⟨_,M,_,_,M,M,two,M,_,M,bP (λ_=>⟨_,M,_,M,U,λp I=>?_⟩)<|λy2=>Wb y y2⟩⟩;exact q _ p .non (.int lo) (ak I) ai (.inr<|.inr ⟨M,lo,M,G,.inl M⟩) BU<|eh ()
   .refine⟨_,M,_,_,M,M,two,M,_,M,bP (λy2=>Wb y2 y)<|λ_=>?_⟩;refine⟨_,M,_,M,_,M,Y,λp1 n1=>⟨_,M,_,_,M,M,p1,_,_,_,M,M,Fz.of ai,M,_,M,_,M,Y,λp2 n2=>⟨_,M,_,_,M,M,p2,_,_,_,M,M,Fz.of ai,M,U,λp3 n3=>?_⟩⟩⟩;exact q _ p3 (.int<|lo+hi) (.int lo) (((ak n1).trans<|ak n2).trans<|ak n3) ai (.inr<|.inr ⟨M,lo,M,G,.inr ⟨_,M,()⟩⟩) (eh ())<|eh ()
def Jf (h:i<ks.length):ks.getD i 0∈ks:=by
 rw[QJ,Q3 h];exact ZV h
def vz (K:WN):Sp:=λvs H Q _=>∃(c:Int) (l:Addr) (ks:List Int),vs=[.int c,.ref l]/\H l=some (.lst<|ks.map V.int)/\(∀k∈ks,0<=k/\k<10^40)/\LS (c%3) H Q
def vT:Dr P w K mg base P1 2 t.pE t.jt ["_law_cell","_law_keys"] (vz K):=by
 refine T.yA.okl vJ λs H vs Q E hr h _=>?_;intro X;obtain⟨c,l,ks,rfl,hS,kb,q⟩:=h;refine aj (P7 2<|ao aS Ca af)
   (bW (λx=>aO (aw bT (ao aS (ao aR Ca af) af) af<|ay _) x aE) ?_)
 refine aC (aD<|aJ (oE T) hr.mo {_} T.DI T.qk.kp T.DJ .nil ar (ac M2<|ac (ao aR Ca af) ag)) ?_
 intros
 refine aj (P7 3<|aJ (qr T) hr.mo {_} T.BD T.t9.kp T.BZ .nil ar (ac (ao aR Ca af)<|ac af ag))
   (bW (λx=>aO (aw bT M2 af<|ay _) x aE) ?_)
 refine aj (P7 4<|ao aS PB af)
   (aj (P7 5<|ao bF Pa<|ao aS (ao aR PB af)<|ao ji af Pa)
   (aC (aD<|bQ<|ac M2<|ac (aP aW (cn<|ac Pa<|ac af ag) (ao aS PB af)<|λ_ _=>M)<|ac (aP aW (cn<|ac Qi<|ac af ag) (ao aS (ao aR PB af) af)<|λ_ _=>M) ag) ?_))
 intros
 refine aj (P7 4<|ao aS PB af)
   (bW (λx=>aO (PW.pt<|gx (aw sJ (aI aH {_} T.bU bp (ac Kc ag)) af<|ay _)<|eG<|aw sJ (ao aS (ao aR PB af) af) af<|ay _) x aE) ?_)
 refine aC (P7 4<|ao bF (aP aW Kc (ao aS (ao aR PB af)<|aI aH {_} T.bU bp (ac Kc ag))<|λ_ _=>M)<|ao aS (ao aR PB af) af) ?_
 intros
 refine aj (P7 5<|ao bF Pa<|aP aW (cn<|ac (ao aS (ao aR PB af) af)<|ac (ao aS (ao aR Ca af)<|ao j8 af af)<|ac (ao aS (ao aR PB af) af) ag) (ao aS (ao aR PB af) af)<|λ_ _=>M)
   (aj (aO (PW.pt<|gx (aw bT (ao aS (ao aR PB af) af) af<|ay _)<|eG<|aw bT M2 af<|ay _)
    (aB<|aD<|bQ<|ac M2<|ac Pa<|ac a8 ag)
    aE)
   (aj (aO (aw bT (ao aS (ao aR PB af) af) af<|ay _)
    (aB<|aD<|bQ<|ac M2<|ac a8<|ac Pa ag)
    aE)
   (aC (aD<|bQ<|ac M2<|ac (aP aW (cn<|ac Pa<|ac Qi ag) (ao ji M2 af)<|λ_ _=>M)<|ac (aP aW (cn<|ac Qi<|ac Pa ag) (ao ji M2 af)<|λ_ _=>M) ag) ?_)))
 intros
 have d0:=QA c (show(3:Int)≠0 by decide);have d3:=Qx c (show(0:Int)<3 by decide);have two:(0:Int)<2:=by decide
 have I:3<=sizeLine:=by decide
 have O:2<=sizeLine:=by decide
 refine⟨_,M,_,_,M,M,(by show(0:Int)<3;decide),?_⟩
 (try dsimp only)
 generalize c%3=kd at d0 d3 q⊢;refine⟨_,M,_,_,M,M,⟨(_),(_)⟩,_,_,M,M,two,M,_,M,bP (λ_=>?_)<|λ_=>?_⟩
 .exact⟨_,M,_,M,_,_,M,M,⟨(_),(_)⟩,kd,_,M,d0,d3,q⟩
 refine⟨_,M,_,_,M,M,⟨(_),(_)⟩,_,_,M,λn n0 n1=>?_⟩;refine⟨_,M,M,_,M,bP (λz=>?_)<|λz=>?_⟩
 .obtain rfl:kd=0:=V.int.inj (Wd z);have G:=QA n (show(65537:Int)≠0 by decide);have U:=Qx n (show(0:Int)<65537 by decide);refine⟨_,M,_,_,M,M,(by show(0:Int)<65537;decide),?_⟩
  (try dsimp only)
  generalize n%65537=lo at G U⊢;have b0:=QA (n/65537) (show(65537-lo:Int)≠0 by lia);have b1:=Qx (n/65537) (show(0:Int)<65537-lo by lia);refine⟨_,M,_,M,_,_,M,M,⟨(_),(_)⟩,_,M,_,_,M,M,_,_,M,M,(by show(0:Int)<65537-lo;lia),_,_,M,M,?_⟩
  (try dsimp only)
  generalize n/65537%(65537-lo)=g at b0 b1⊢;obtain⟨x,hx,x0⟩:=z7 (c:=n) (n:=2) (L:=[.int lo,.int 0]) (P:=λm=>0<=m/\m<=lo) ⟨⟨G,Xa _⟩,⟨Xa _,G⟩,trivial⟩ M two;obtain⟨y,hy,y0⟩:=z7 (c:=n/2) (n:=2) (L:=[.int (lo+g),.int 65536]) (P:=λm=>lo<=m/\m<=65536) ⟨⟨(),()⟩,⟨(),()⟩,trivial⟩ M two;refine⟨_,M,_,M,O,λY a2=>⟨_,M,_,_,M,M,two,Y,_,_,_,M,M,Fz.of ai,hx,_,M,O,λp2 Z=>⟨_,M,_,_,M,M,⟨(_),(_)⟩,_,_,M,M,two,p2,_,_,_,M,M,Fz.of ai,hy,I,λp3 n3=>?_⟩⟩⟩;exact q _ p3 (.int x) (.int y) (((ak a2).trans<|ak Z).trans<|ak n3) ai (.inl ⟨M,x,y,M,M,x0.1,(),y0.2⟩) (eh ())<|eh ()
 .have dz:kd≠0:=λe=>z (Wf<|by rw[e]);have G:=QA n (show(60:Int)≠0 by decide);have U:=Qx n (show(0:Int)<60 by decide);refine⟨_,M,_,_,M,M,(by show(0:Int)<60;decide),?_⟩
  (try dsimp only)
  generalize n%60=lo at G U⊢;refine c7 (λB H'=>H=H'/\∃lo:Int,B=[some (.int c),some (.ref l),some (.int kd),some (.int n),some (.int lo),none]/\0<=lo/\lo<10^41) (λnx go=>?_)<|λB H' w=>?_
  .refine⟨_,M,l,_,M,.inl<|Fz.of hS,_,_,M,M,_,M,bP (λz=>?_)<|λz=>?_⟩
   .have kl:0<ks.length:=by
     have:=Wd z;rw[Q0]at this;lia
    have kl:(0:Int)<(ks.length:Int):=();have z0:=QA (n/180) (Zs kl);have z1:=Qx (n/180) kl;have y0:=QA (n/72000) (show(2:Int)≠0 by decide);have y1:=Qx (n/72000) (show(0:Int)<2 by decide);refine⟨_,M,_,_,M,M,⟨(_),(_)⟩,_,_,M,M,(by show(0:Int)<3;decide),_,_,M,M,_,M,bP (λ_=>?_)<|λ_=>go _ _ ⟨M,lo,M,G,()⟩⟩;refine⟨_,M,_,M,_,_,M,M,⟨(_),(_)⟩,_,M,l,_,M,.inl<|Fz.of hS,_,_,M,M,(by rwa[Q0]),l,_,_,_,M,M,Fz.of hS,(by rw[Q0];exact yg z0 z1),_,M,_,_,M,M,⟨(_),(_)⟩,_,_,M,M,two,_,_,M,M,go _ _ ⟨M,_,M,?_⟩⟩;obtain⟨b0,b1⟩:=kb (ks.getD (n/180%ks.length).toNat 0) (Jf ());constructor<;>lia
   .exact go _ _ ⟨M,lo,M,G,()⟩
  clear G U lo;obtain⟨rfl,lo,rfl,G,U⟩:=w;have a3:(0:Int)<10^(38:Int).toNat:=by decide
  have a4:∀z:Int,0<=z%90/\z%90<10^38:=λz=>⟨QA _ (_),Int.lt_trans (Qx _ (_)) (_)⟩;have a5:∀z:Int,0<=z%10^(38:Int).toNat/\z%10^(38:Int).toNat<10^38:=λz=>⟨QA _ (_),Qx _ (_)⟩;have aa:∀z:Int,0<=z%70000/\z%70000<10^38:=λz=>⟨QA _ (_),Int.lt_trans (Qx _ (_)) (_)⟩;obtain⟨hi,hh,b0,b1⟩:=z7 (c:=n/216000) (n:=3) (L:=[.int (n/7%90),.int (c/11%10^(38:Int).toNat),.int (n/7%70000)]) (P:=λm=>0<=m/\m<10^38) ⟨a4 _,a5 _,aa _,trivial⟩ M (_);refine⟨_,M,_,M,_,_,M,M,⟨(_),(_)⟩,_,_,M,M,(by show(0:Int)<90;decide),_,M,_,_,M,M,⟨(_),(_)⟩,_,_,M,M,⟨(_),(_),(_)⟩,_,_,M,M,a3,_,M,_,_,M,M,⟨(_),(_)⟩,_,_,M,M,(by show(0:Int)<70000;decide),I,λp hp=>?_⟩;refine⟨_,M,_,_,M,M,⟨(_),(_)⟩,_,_,M,M,(by show(0:Int)<3;decide),p,_,_,_,M,M,Fz.of ai,hh,_,_,M,M,?_⟩;have s0:Ds H (upd H p<|.lst [.int (n/7%90),.int (c/11%10^(38:Int).toNat),.int (n/7%70000)]):=ak hp
  (try dsimp only)
  generalize upd H p (.lst [.int (n/7%90),.int (c/11%10^(38:Int).toNat),.int (n/7%70000)])=H1 at s0⊢;have q:=λH' p' a e (s:Ds H1 H')=>q H' p' a e (s0.trans s);have th:(0:Int)<3:=by decide
  have dv:CDiv n 648000:=⟨(_),(_)⟩;rcases(show kd=1\/kd=2 by lia)with rfl|rfl
  .refine⟨_,M,_,_,M,M,dv,_,_,M,M,th,M,_,M,bP (λy=>?_)<|λy=>?_⟩
   .refine⟨_,M,M,_,M,fj M ⟨_,M,_,M,I,λp hp=>?_⟩⟩;exact q _ p (.int lo) .non (ak hp) ai (.inr<|.inl ⟨M,lo,M,G,.inl M⟩) (eh ()) BU
   .refine⟨_,M,_,_,M,M,dv,_,_,M,M,th,M,_,M,bP (λy2=>Wb y2 y)<|λ_=>?_⟩;refine⟨_,M,_,M,_,M,O,λY n1=>⟨_,M,_,_,M,M,Y,_,_,_,M,M,Fz.of ai,M,_,M,_,M,O,λp2 Z=>⟨_,M,_,_,M,M,p2,_,_,_,M,M,Fz.of ai,M,I,λp3 n3=>?_⟩⟩⟩;exact q _ p3 (.int lo) (.int<|lo+hi) (((ak n1).trans<|ak Z).trans<|ak n3) ai (.inr<|.inl ⟨M,lo,M,G,.inr ⟨_,M,()⟩⟩) (eh ())<|eh ()
  .refine⟨_,M,_,_,M,M,dv,_,_,M,M,th,M,_,M,bP (λy=>?_)<|λy=>?_⟩
   .refine⟨_,M,M,_,M,a6 (λe=>by cases e) ⟨_,M,_,_,M,M,dv,_,_,M,M,th,M,_,M,bP (λ_=>⟨_,M,_,M,I,λp hp=>?_⟩)<|λy2=>Wb y y2⟩⟩;exact q _ p .non (.int lo) (ak hp) ai (.inr<|.inr ⟨M,lo,M,G,.inl M⟩) BU<|eh ()
   .refine⟨_,M,_,_,M,M,dv,_,_,M,M,th,M,_,M,bP (λy2=>Wb y2 y)<|λ_=>?_⟩;refine⟨_,M,_,M,_,M,O,λY n1=>⟨_,M,_,_,M,M,Y,_,_,_,M,M,Fz.of ai,M,_,M,_,M,O,λp2 Z=>⟨_,M,_,_,M,M,p2,_,_,_,M,M,Fz.of ai,M,I,λp3 n3=>?_⟩⟩⟩;exact q _ p3 (.int<|lo+hi) (.int lo) (((ak n1).trans<|ak Z).trans<|ak n3) ai (.inr<|.inr ⟨M,lo,M,G,.inr ⟨_,M,()⟩⟩) (eh ())<|eh ()
def Ep {N:Addr} {kd:Str} {ok:V->V->Prop} {a:V} {E:XK} (G:ok a e) (I:Sc a) (O:Sc e) (x dx:Addr) (nx:H x=none) (nd:H dx=none)
  (q:∀H' fs,Ds H H'->H' x=some (.ins C dx fs)->zR kd fs a e->Q .non H'):EX C N kd ok [.ref x,a,e] (upd (upd H dx<|.own x) x<|.ins C dx []) Q E:=
 ⟨x,dx,a,e,M,ai,I,O,λ_ H' fs k h f=>q H' fs (uu nx nd k) h f,λz=>Wb G z⟩
def yG (K:WN) (t:P5):Sp:=λvs H Q _=>∃(n:Addr) (kd:Int) (a e:V),vs=[.ref n]/\PX K H n [.int kd,a,e]/\Qc kd a e/\∀H' p,Ds H H'->H p=none->Pe t H' p kd a e->Q (.ref p) H'
def zp:Dr P w K mg base P1 5 t.tI t.mD ["_law_numbers_here"] (yG K t):=by
 refine T.tY.okl yY λs H vs Q E O h _=>?_;intro X;obtain⟨n,kd,a,e,rfl,G,I,q⟩:=h;refine bW (λx=>aO (aw bT (aP bi Ca af<|λ_ _=>M) af<|ay _) x aE) ?_;refine aC (aD<|iK T.Er (kO T) O.mo {_} T.xM T.wg .nil ar (ac (aP bi Ca af<|λ_ _=>M)<|ac (aP bi Ca af<|λ_ _=>M) ag)) ?_
 intros
 refine bW (λx=>aO (aw bT (aP bi Ca af<|λ_ _=>M) af<|ay _) x aE) ?_;refine aC (aD<|iK T.Oz (vd T) O.mo {_} T.Iu T.EK .nil ar (ac (aP bi Ca af<|λ_ _=>M)<|ac (aP bi Ca af<|λ_ _=>M) ag)) ?_
 intros
 refine aC (aD<|iK T.K0 (qu T) O.mo {_} T.K2 T.B7 .nil ar (ac (aP bi Ca af<|λ_ _=>M)<|ac (aP bi Ca af<|λ_ _=>M) ag)) ?_
 intros
 obtain⟨U,Y⟩:=I.sc;rcases I.kd with rfl|rfl|rfl
 .refine⟨_,M,n,_,_,_,M,M,G,M,M,_,M,fj M ⟨_,M,n,_,_,_,M,M,G,M,_,M,n,_,_,_,M,M,G,M,λx dx nx nd ne=>?_⟩⟩;exact Ep I.s U Y x dx nx nd λH' fs s h f=>⟨M,q H' x s nx ⟨dx,fs,h,f⟩⟩
 .refine⟨_,M,n,_,_,_,M,M,G,M,M,_,M,a6 (λz=>by cases z) ⟨_,M,n,_,_,_,M,M,G,M,M,_,M,fj M ⟨_,M,n,_,_,_,M,M,G,M,_,M,n,_,_,_,M,M,G,M,λx dx nx nd ne=>?_⟩⟩⟩;exact Ep I.u U Y x dx nx nd λH' fs s h f=>⟨M,q H' x s nx ⟨dx,fs,h,f⟩⟩
 .refine⟨_,M,n,_,_,_,M,M,G,M,M,_,M,a6 (λz=>by cases z) ⟨_,M,n,_,_,_,M,M,G,M,M,_,M,a6 (λz=>by cases z) ⟨_,M,n,_,_,_,M,M,G,M,_,M,n,_,_,_,M,M,G,M,λx dx nx nd ne=>?_⟩⟩⟩;exact Ep I.d U Y x dx nx nd λH' fs s h f=>⟨M,q H' x s nx ⟨dx,fs,h,f⟩⟩
def yM (K:WN):Sp:=λvs H Q _=>∃(n:Addr) (kd k:Int) (a e:V),vs=[.ref n,.int k]/\PX K H n [.int kd,a,e]/\Qc kd a e/\Q (.bl<|hN kd a e k) H
def zw:Dr P w K mg base P1 2 t.tO t.mK ["_law_numbers_here","_law_key"] (yM K):=by
 refine T.ua.okl za λs H vs Q E I h _=>?_;intro X;obtain⟨n,kd,k,a,e,rfl,O,G,q⟩:=h;refine aj (xq Ca<|Bm M<|fI (Qu 2)<|fI (Qu 3)<|fI (Qu 4) wt)
   (bW (λx=>aO (aw bT M2 af<|ay _) x aE) ?_)
 refine aC (aD<|gA (bG oC PB (aJ (zr T) I.mo {_} T.BB T.tZ.kp T.BX .nil ar (ac Kc ag))<|ay _)<|dD<|bG eD (aJ (zr T) I.mo {_} T.BB T.tZ.kp T.BX .nil ar (ac Kc ag)) Pa<|ay _) ?_
 intros
 refine bW (λx=>aO (aw bT M2 af<|ay _) x aE) ?_;refine aC (aD<|gA (bG oC PB Kc<|ay _)<|dD<|CG (bG dF Pa a8<|ay _)<|dD<|bG eD Kc Pa<|ay _) ?_
 intros
 refine aC (aD<|gA (bG oC Pa Kc<|ay _)<|dD<|CG (bG dF PB a8<|ay _)<|dD<|bG oC Kc PB<|ay _) ?_
 intros
 refine⟨_,M,n,_,M,O,M,_,_,M,_,_,M,_,_,M,M,?_⟩;rcases G.kd with rfl|rfl|rfl
 .obtain⟨i,j,rfl,rfl,_⟩:=G.s;have q:Q (.bl<|decide (i<=tz (k%65536))&&decide (tz (k%65536)<j)) H:=q;refine⟨_,M,M,_,M,fj M ⟨_,M,_,M,k,M,_,_,M,M,_,M,bP (λc=>⟨_,M,k,M,_,M,_,_,M,M,?_⟩)<|λc=>?_⟩⟩
  .rw[c,XO]at q;exact q
  .rw[Zp.mpr c,Xl]at q;exact q
 .refine⟨_,M,M,_,M,a6 (λz=>by cases z) ⟨_,M,M,_,M,fj M ?_⟩⟩;obtain⟨i,rfl,i0,rfl|⟨j,rfl,_⟩⟩:=G.u
  .have q:Q (.bl<|decide (i<=k)) H:=q;refine⟨_,M,_,M,_,_,M,M,_,M,bP (λc=>⟨_,M,M,_,M,fj M ?_⟩)<|λc=>?_⟩
   .rw[c]at q;exact q
   .rw[Zp.mpr c]at q;exact q
  .have q:Q (.bl<|decide (i<=k)&&decide (k<j)) H:=q;refine⟨_,M,_,M,_,_,M,M,_,M,bP (λc=>⟨_,M,M,_,M,a6 (λz=>by cases z) ⟨_,M,_,M,_,_,M,M,?_⟩⟩)<|λc=>?_⟩
   .rw[c,XO]at q;exact q
   .rw[Zp.mpr c,Xl]at q;exact q
 .refine⟨_,M,M,_,M,a6 (λz=>by cases z) ⟨_,M,M,_,M,a6 (λz=>by cases z) ?_⟩⟩;obtain⟨j,rfl,U,rfl|⟨i,rfl,_⟩⟩:=G.d
  .have q:Q (.bl<|decide (j<=k)) H:=q;refine⟨_,M,_,M,_,_,M,M,_,M,bP (λc=>⟨_,M,M,_,M,fj M ?_⟩)<|λc=>?_⟩
   .rw[c]at q;exact q
   .rw[Zp.mpr c]at q;exact q
  .have q:Q (.bl<|decide (j<=k)&&decide (k<=i)) H:=q;refine⟨_,M,_,M,_,_,M,M,_,M,bP (λc=>⟨_,M,M,_,M,a6 (λz=>by cases z) ⟨_,M,_,M,_,_,M,M,?_⟩⟩)<|λc=>?_⟩
   .rw[c,XO]at q;exact q
   .rw[Zp.mpr c,Xl]at q;exact q
inductive Dw where
 |put (k v:Int)
 |drop (k:Int)
 |mark (i:Int)
noncomputable def Dw.vs:Dw->List V
 | .put k v=> [.str "put",.int k,.int v]
 | .drop k=> [.str "drop",.int k]
 | .mark i=> [.str "mark",.int i]
noncomputable def Dw.key:Dw->Option Int
 | .put k _=>some k
 | .drop k=>some k
 | .mark _=>none
noncomputable def Dw.eff:Dw->Option V
 | .put _ v=>some (.int v)
 |_=>none
structure DR where
 p:Addr
 r:Dw
def ap (WP:List (Int×V)) (e:DR):List (Int×V):=match e.r with
 | .put k v=>bn WP k (.int v)
 | .drop k=>bN WP k
 | .mark _=>WP
def tbl (l:List DR):List (Int×V):=l.foldl ap []
noncomputable def cV (k:Int):List DR->Option DR
 | []=>none
 |e::r=>match cV k r with
  |some x=>some x
  |none=>if e.r.key=some k then some e else none
def B8 {e:DR}:aF (ap WP e) k=if e.r.key=some k then e.r.eff else aF WP k:=by
 unfold ap;cases e.r with
 |put j v=>
  show aF (bn WP j<|.int v) k=if some j=some k then some (V.int v)else _
  rw[eB];by_cases h:k=j
  .rw[W7 h,W7 (by rw[h])]
  .rw[W6 h,W6 λz=>h (W8 z).symm]
 |drop j=>
  show aF (bN WP j) k=if some j=some k then none else _
  rw[eV];by_cases h:k=j
  .rw[W7 h,W7 (by rw[h])]
  .rw[W6 h,W6 λz=>h (W8 z).symm]
 |mark i=>exact(W6 λz=>by cases z).symm
def Mj {e:DR} (h:(WP.map (·.1)).Nodup):((ap WP e).map (·.1)).Nodup:=by
 unfold ap;cases e.r with
 |put j v=>exact xH h
 |drop j=>exact h.sublist<|Xr.map _
 |mark i=>exact h
def NJ {e:DR}:(ap WP e).length<=WP.length+1:=by
 unfold ap;cases e.r with
 |put j v=>exact cu _ _ _
 |drop j=>exact ZO<|Dh _ _
 |mark i=>exact ZU _
def sZ {k:Int}:∀{l:List DR} {WP:List (Int×V)},aF (l.foldl ap WP) k=match cV k l with|some x=>x.r.eff|none=>aF WP k
 | [],_=>rfl
 |e::r,WP=>by
  show aF (r.foldl ap<|ap WP e) k=match (match cV k r with|some x=>some x|none=>if e.r.key=some k then some e else none)with|some x=>x.r.eff|none=>aF WP k
  rw[sZ];cases c:cV k r with
  |some x=>rfl
  |none=>
   show aF (ap WP e) k=_;rw[B8];by_cases h:e.r.key=some k
   .rw[W7 h,W7 h]
   .rw[W6 h,W6 h]
def BM:∀{l:List DR} {WP:List (Int×V)},(WP.map (·.1)).Nodup->((l.foldl ap WP).map (·.1)).Nodup
 | [],_,h=>h
 |e::r,WP,h=>BM (l:=r) (WP:=ap WP e) (Mj h)
def tj:∀{l:List DR} {WP:List (Int×V)},(l.foldl ap WP).length<=WP.length+l.length
 | [],_=>Q4 _
 |e::r,WP=>by
  have h1:=tj (l:=r) (WP:=ap WP e);have h2:=NJ (WP:=WP) (e:=e);show(r.foldl ap<|ap WP e).length<=WP.length+(r.length+1);lia
def DY:((tbl l).map (·.1)).Nodup:=BM Zx
def wn:(tbl l).length<=l.length:=by
 have:=tj (l:=l) (WP:=[]);rwa [XV,XX]at this
def rV {e:DR}:tbl (l++ [e])=ap (tbl l) e:=by
 unfold tbl;rw[XG];rfl
def Kt {m:List DR}:tbl (l++m)=m.foldl ap (tbl l):=XG
def mw {k:Int} {e:DR}:∀{l:List DR},cV k (l++ [e])=if e.r.key=some k then some e else cV k l
 | []=>rfl
 |x::r=>by
  show(match cV k (r++ [e])with|some x=>some x|none=>_)=_;rw[mw];by_cases h:e.r.key=some k
  .rw[W7 h,W7 h]
  .rw[W6 h,W6 h];rfl
def gG {k:Int} {x:DR}:∀{l:List DR},cV k l=some x->x∈l/\x.r.key=some k
 | [],h=>by cases h
 |e::r,h=>by
  change (match cV k r with|some x=>some x|none=>if e.r.key=some k then some e else none)=some x at h;cases c:cV k r with
  |some y=>
   rw[c]at h;cases h;exact⟨QD _ (gG c).1,(gG c).2⟩
  |none=>
   rw[c]at h;by_cases g:e.r.key=some k
   .change (if e.r.key=some k then some e else none)=some x at h;rw[W7 g]at h;cases h;exact⟨QB,g⟩
   .change (if e.r.key=some k then some e else none)=some x at h;rw[W6 g]at h;cases h
def rH {k:Int}:∀{l:List DR},cV k l=none->∀x∈l,x.r.key≠some k
 | [],_,x,hx=>Wb hx ZW
 |e::r,h,x,hx=>by
  change (match cV k r with|some x=>some x|none=>if e.r.key=some k then some e else none)=none at h;cases c:cV k r with
  |some y=>rw[c]at h;cases h
  |none=>
   rw[c]at h;change (if e.r.key=some k then some e else none)=none at h;rcases QH.mp hx with rfl|hx
   .intro g;rw[W7 g]at h;cases h
   .exact rH c x hx
def Cn (h:k∈(tbl l).map (·.1)):∃x∈l,x.r.key=some k:=by
 have h:=Kd.mp h;unfold tbl at h;rw[sZ]at h;cases c:cV k l with
 |none=>rw[c]at h;cases h
 |some x=>exact⟨x,gG c⟩
structure Pl where
 g:Addr
 nd:Addr
 tk:Addr
 ta:V
 fd:Option (Addr×List Tp)
 ah:V
 aa:V
 no:List (Int×DR)
 cl:Option Int
structure PH where
 rv:V
 ra:V
 n:Nat
 cp:List (Int×V)
 pg:Option Pl
def hO (v:V) (kd:Int) (a e:V) (k:Int):Bool:=if v= .non then false else hN kd a e k
def Pl.inp (P:Pl) (kd:Int) (e:V) (k:Int):Bool:=P.fd.isSome&&(hN kd P.ta e k&&!hO P.ah kd P.aa e k)
def PH.cov (X:PH) (kd:Int) (av e:V) (k:Int):Bool:=hN kd av e k&&!hO X.rv kd X.ra e k
noncomputable def Pl.rows (P:Pl):List (Int×V):=match P.fd with
 |some y=>y.2.map Tp.kv
 |none=> []
def Pl.out (P:Pl):List (Int×V):=(P.no.map (·.2)).foldl ap P.rows
def xJ (a b:List (Int×V)):List (Int×V):=b.foldl (λWP p=>bn WP p.1 p.2) a
noncomputable def zj (l:List (Int×DR)) (k:Int) (e:DR):List (Int×DR):=if(l.any λz=>decide (z.1=k))=true then l.map λz=>if z.1=k then(z.1,e)else z else l++ [(k,e)]
def Qp {l:List (Int×DR)} {j:Int} {e x:DR}:(j,x)∈zj l k e↔(j=k/\x=e)\/(j≠k/\(j,x)∈l):=by
 unfold zj;by_cases c:(l.any λz=>decide (z.1=k))=true
 .rw[W7 c,Qy];constructor
  .rintro ⟨z,hz,G⟩;by_cases h:z.1=k
   .rw[W7 h]at G;cases G;exact .inl ⟨h,M⟩
   .rw[W6 h]at G;subst G;exact .inr ⟨h,hz⟩
  .rintro (⟨rfl,rfl⟩|⟨h,hz⟩)
   .obtain⟨z,hz,G⟩:=V8.mp c;have G:=Wd G;exact⟨z,hz,by rw[W7 G,G]⟩
   .exact⟨(j,x),hz,by rw[W6 h]⟩
 .rw[W6 c,Q5];constructor
  .rintro (h|h)
   .refine .inr ⟨λz=>c<|V8.mpr ⟨(j,x),h,Wf z⟩,h⟩
   .cases Q7.mp h;exact .inl ⟨M,M⟩
  .rintro (⟨rfl,rfl⟩|⟨_,h⟩)
   .exact .inr<|Q7.mpr M
   .exact .inl h
def HV {l:List (Int×DR)} {e:DR}:(zj l k e).length<=l.length+1:=by
 unfold zj;split
 .rw[Q0];exact ZU _
 .rw[Q8];exact Q4 _
def HU {l:List (Int×DR)} {e:DR}:(zj l k e).map (λz=>(z.1,V.ref z.2.p))=bn (l.map λz=>(z.1,V.ref z.2.p)) k (.ref e.p):=by
 unfold zj bn;rw[List.any_map];have:(l.any λz=>decide (z.1=k))=l.any ((λkv:Int×V=>decide (kv.1=k))∘λz=>(z.1,V.ref z.2.p)):=M;rw[<-this];split
 .rw[QR,QR];refine ZD λz _=>?_;show((if z.1=k then(z.1,e)else z).1,V.ref (if z.1=k then(z.1,e)else z).2.p)=if z.1=k then(z.1,V.ref e.p)else(z.1,V.ref z.2.p)
  split<;>rfl
 .rw[QC];rfl
def PH.chg (X:PH) (kd:Int) (av e:V) (k:Int) (x:DR):PH:=
 if X.cov kd av e k=true then{X with n:=X.n+1,cp:=ap X.cp x}else match X.pg with
  |none=>{X with n:=X.n+1}
  |some P=>if P.inp kd e k=true then{X with n:=X.n+1,pg:=some {P with no:=zj P.no k x}}else{X with n:=X.n+1}
def PH.mrk (X:PH) (i:Int):PH:=match X.pg with
 |none=>{X with n:=X.n+1}
 |some P=>if P.cl=some i then⟨P.ah,P.aa,X.n+1,xJ X.cp P.out,none⟩else{X with n:=X.n+1}
def bj (kd:Int) (av e:V) (X:PH) (x:DR):PH:=match x.r with
 | .put k _=>X.chg kd av e k x
 | .drop k=>X.chg kd av e k x
 | .mark i=>X.mrk i
def xI {k:Int}:∀{b a:List (Int×V)},(b.map (·.1)).Nodup->aF (xJ a b) k=match aF b k with|some v=>some v|none=>aF a k
 | [],_,_=>rfl
 |p::r,a,h=>by
  obtain⟨h1,h2⟩:=Zn.mp h;show aF (xJ (bn a p.1 p.2) r) k=_;rw[xI h2];by_cases e:p.1=k
  .have:aF r k=none:=by
    cases c:aF r k with
    |none=>rfl
    |some v=>exact Wb (Kd.mpr<|by rw[c];rfl)<|by rwa[<-e]
   rw[this,bB e,eB,W7 e.symm]
  .rw[bq e];cases aF r k with
   |some v=>rfl
   |none=>
    show aF (bn a p.1 p.2) k=aF a k;rw[eB,W6 λz=>e z.symm]
def Fa:∀{b a:List (Int×V)},(a.map (·.1)).Nodup->((xJ a b).map (·.1)).Nodup
 | [],_,h=>h
 |p::r,a,h=>Fa (b:=r) (a:=bn a p.1 p.2) (xH h)
def Ag:∀{b a:List (Int×V)},uL (az a) (az b)=az (xJ a b)
 | [],_=>rfl
 |p::r,a=>by
  show uL (bn (az a) (Sum.inl p.1) p.2) (az r)=az (xJ (bn a p.1 p.2) r);rw[cN,Ag]
structure Rr (kd:Int) (av e:V) (ds:List DR) (X:PH) (P:Pl):Prop where
 rn:X.rv= .ref P.tk
 ra:P.ta=X.ra
 nl:P.no.length<=X.n
 nk:∀z∈P.no,z.2.r.key=some z.1
 un:P.fd=none->P.no=[]/\P.cl=none
 fd:∀y,P.fd=some y->∃nr mr,nr<=X.n/\nr<=mr/\mr<=ds.length/\(y.2.map (·.k)).Nodup/\(∀k v,(k,v)∈y.2.map Tp.kv↔(k,v)∈tbl (ds.take mr)/\hN kd P.ta e k=true/\hO P.ah kd P.aa e k=false)/\(∀k,0<=k->hO P.ah kd P.aa e k=true->hN kd P.ta e k=true)/\(∀k x,(k,x)∈P.no↔P.inp kd e k=true/\cV k ((ds.take X.n).drop nr)=some x)/\∀m,P.cl=some m->∃c x,ds[c]?=some x/\x.r= .mark m/\mr<=c/\X.n<=c
structure Inv (kd:Int) (av e:V) (ds:List DR) (X:PH):Prop where
 le:X.n<=ds.length
 nd:(X.cp.map (·.1)).Nodup
 cp:∀k,0<=k->aF X.cp k=if X.cov kd av e k=true then aF (tbl<|ds.take X.n) k else none
 kp:∀k∈X.cp.map (·.1),0<=k
 su:∀k,0<=k->hO X.rv kd X.ra e k=true->hN kd av e k=true
 pg:∀P,X.pg=some P->Rr kd av e ds X P
structure RL (ds:List DR):Prop where
 kb:∀x∈ds,∀k,x.r.key=some k->0<=k
 un:∀(i j:Nat) (x y:DR) (m:Int),ds[i]?=some x->ds[j]?=some y->x.r= .mark m->y.r= .mark m->i=j
 dr:∀(i:Nat) (x:DR) (k:Int),ds[i]?=some x->x.r= .drop k->(aF (tbl<|ds.take i) k).isSome=true
def wF {x:DR} (h:ds[i]?=some x):tbl (ds.take<|i+1)=ap (tbl<|ds.take i) x:=by
 rw[QL,h];exact rV
def wX {nr:Nat} {x:DR} (h:ds[i]?=some x) (l:nr<=i):(ds.take<|i+1).drop nr=(ds.take i).drop nr++ [x]:=by
 have hi:=(Q1.mp h).1;rw[QL,h,List.drop_append_of_le_length (by rw[Q6];lia)];rfl
def Bb {nr m:Nat} (l:nr<=m):aF (tbl<|ds.take m) k=match cV k ((ds.take m).drop nr)with|some x=>x.r.eff|none=>aF (tbl<|ds.take nr) k:=by
 have e:ds.take m=ds.take nr++(ds.take m).drop nr:=by
  conv=>lhs;rw[<-Zi nr (ds.take m),Vo,ZQ l]
 conv=>lhs;rw[e,Kt,sZ]
def MZ {P:Pl} (h:∀y,P.fd=some y->(y.2.map (·.k)).Nodup):(P.out.map (·.1)).Nodup:=by
 refine BM ?_;unfold Pl.rows;cases c:P.fd with
 |none=>exact Zx
 |some y=>
  show((y.2.map Tp.kv).map (·.1)).Nodup;rw[QR];exact h y c
def KQ {kd:Int} {P:Pl} (I:Rr kd av e ds X P) (Y:P.cl=some m) {x:DR} (D:RL ds) (hx:ds[X.n]?=some x) (xm:x.r= .mark m) (k:Int):aF P.out k=if P.inp kd e k=true then aF (tbl<|ds.take X.n) k else none:=by
 cases U:P.fd with
 |none=>rw[(I.un U).2]at Y;cases Y
 |some y=>
  obtain⟨nr,G,l1,l2,l3,ny,Z,le,no,cl⟩:=I.fd y U;obtain⟨c,x',hc,xc,l4,l5⟩:=cl m Y;have ec:c=X.n:=D.un c X.n x' x m hc hx xc xm;subst ec;have a0:((y.2.map Tp.kv).map (·.1)).Nodup:=by
   rwa[QR]
  have er:P.rows=y.2.map Tp.kv:=by
   unfold Pl.rows;rw[U]
  have ei:P.inp kd e k=(hN kd P.ta e k&&!hO P.ah kd P.aa e k):=by
   unfold Pl.inp;rw[U];rfl
  unfold Pl.out;rw[sZ,er];cases O:cV k (P.no.map (·.2))with
  |some z=>
   obtain⟨hz,kz⟩:=gG O;obtain⟨w,hw,ew⟩:=Qy.mp hz;have kw:=I.nk w hw;rw[ew,kz]at kw;have a1:(k,z)∈P.no:=by
    rwa[W8 kw,<-ew]
   obtain⟨i1,i2⟩:=(no k z).mp a1;rw[W7 i1,Bb l1,i2]
  |none=>
   show aF (y.2.map Tp.kv) k=_;by_cases hi:P.inp kd e k=true
   .rw[W7 hi];have hn:cV k ((ds.take X.n).drop nr)=none:=by
     cases c:cV k ((ds.take X.n).drop nr)with
     |none=>rfl
     |some z=>exact Wb (gG c).2<|rH O z (Qy.mpr ⟨(k,z),(no k z).mpr ⟨hi,c⟩,M⟩)
    have a2:cV k ((ds.take G).drop nr)=none:=by
     cases c:cV k ((ds.take G).drop nr)with
     |none=>rfl
     |some z=>
      obtain⟨z1,z2⟩:=gG c;refine Wb z2<|rH hn z ?_;have:(ds.take G).drop nr=((ds.take X.n).drop nr).take (G-nr):=by
       rw[<-List.drop_take,Vo,ZQ ()]
      rw[this]at z1;exact Zd z1
    rw[Bb (ds:=ds) l1,hn];show _=aF (tbl<|ds.take nr) k;have h1:=Bb (ds:=ds) (k:=k) l2;rw[a2]at h1;change aF (tbl<|ds.take G) k=aF (tbl<|ds.take nr) k at h1;rw[<-h1];rw[ei,Zb,VI]at hi;cases c:aF (tbl<|ds.take G) k with
    |some v=>exact bC a0<|(Z k v).mpr ⟨bD c,hi⟩
    |none=>
     cases c2:aF (y.2.map Tp.kv) k with
     |none=>rfl
     |some v=>
      have h3:=((Z k v).mp<|bD c2).1;rw[bC DY h3]at c;cases c
   .rw[W6 hi];cases c2:aF (y.2.map Tp.kv) k with
    |none=>rfl
    |some v=>
     have h3:=((Z k v).mp<|bD c2).2;rw[ei,Zb,VI]at hi;exact Wb h3 hi
def Rr.more {kd:Int} {more:List DR} {P:Pl} (I:Rr kd av e ds X P) (le:X.n<=ds.length):Rr kd av e (ds++more) X P:=
 ⟨I.rn,I.ra,I.nl,I.nk,I.un,λy hy=>by
  obtain⟨nr,z,l1,G,O,h1,h2,U,Y,Z⟩:=I.fd y hy;refine⟨nr,z,l1,G,by rw[Q8];lia,h1,by rwa[Z2 O],U,by rwa[Z2 le],λm hm=>?_⟩;obtain⟨c,x,hc,hr⟩:=Z m hm;exact⟨c,x,by rwa[Zt (Q1.mp hc).1],hr⟩⟩
def Inv.more {kd:Int} {more:List DR} (I:Inv kd av e ds X):Inv kd av e (ds++more) X:=
 ⟨by rw[Q8];exact QQ I.le<|Nat.le_add_right _ _,I.nd,by rw[Z2 I.le];exact I.cp,I.kp,I.su,λP z=>(I.pg P z).more I.le⟩
def Inv.chg {kd:Int} {x:DR} (I:Inv kd av e ds X) (k0:0<=k) (hx:ds[X.n]?=some x) (hk:x.r.key=some k):Inv kd av e ds (X.chg kd av e k x):=by
 have hn:=(Q1.mp hx).1;have tv:∀j,aF (tbl<|ds.take<|X.n+1) j=if j=k then x.r.eff else aF (tbl<|ds.take X.n) j:=λj=>by
  rw[wF hx,B8,hk];by_cases h:j=k
  .rw[W7 h,W7 (by rw[h])]
  .rw[W6 h,W6 λz=>h (W8 z).symm]
 have Z:∀P,Rr kd av e ds X P->P.inp kd e k=false->∀cp,Rr kd av e ds {X with n:=X.n+1,cp:=cp} P:=λP q hi cp=>by
  refine⟨q.rn,q.ra,ZO q.nl,q.nk,q.un,λy hy=>?_⟩;obtain⟨nr,mr,l1,l2,l3,h1,h2,h3,h4,h5⟩:=q.fd y hy;refine⟨nr,mr,ZO l1,l2,l3,h1,h2,h3,λj z=>?_,λm hm=>?_⟩
  .show _↔_/\cV j ((ds.take<|X.n+1).drop nr)=some z;rw[h4,wX hx l1,mw,hk];by_cases h:some k=some j
   .rw[<-W8 h,hi];constructor<;>(rintro ⟨z,_⟩;cases z)
   .rw[W6 h]
  .obtain⟨c,z,hc,zc,l4,l5⟩:=h5 m hm;have l5:X.n<=c:=l5;refine⟨c,z,hc,zc,l4,Zh l5 λh=>?_⟩;rw[<-h,hx]at hc;cases hc;rw[zc]at hk;cases hk
 have a0:∀P,X.pg=some P->X.cov kd av e k=true->P.inp kd e k=false:=λP U hc=>by
  have q:=I.pg P U;unfold PH.cov at hc;rw[Zb,VI]at hc;have h:=hc.2;unfold hO at h;rw[q.rn,W6 (λz=>by cases z),<-q.ra]at h;unfold Pl.inp;rw[h];cases P.fd.isSome<;>rfl
 unfold PH.chg;by_cases hc:X.cov kd av e k=true
 .rw[W7 hc];refine⟨hn,Mj I.nd,λj j0=>?_,λj Y=>?_,I.su,λP U=>Z P (I.pg P U) (a0 P U hc) _⟩
  .show aF (ap X.cp x) j=if X.cov kd av e j=true then aF (tbl<|ds.take<|X.n+1) j else none
   rw[B8,tv,hk,I.cp j j0];by_cases h:j=k
   .rw[W7 (by rw[h]),W7 h,h,W7 hc]
   .rw[W6 (λz=>h (W8 z).symm),W6 h]
  .have Y:=Kd.mp Y;change (aF (ap X.cp x) j).isSome=true at Y;rw[B8,hk]at Y;by_cases h:some k=some j
   .rwa[<-W8 h]
   .rw[W6 h]at Y;exact I.kp j<|Kd.mpr Y
 .rw[W6 hc];have G:∀j,0<=j->aF X.cp j=if X.cov kd av e j=true then aF (tbl<|ds.take<|X.n+1) j else none:=λj j0=>by
   rw[I.cp j j0,tv];by_cases h:j=k
   .rw[h,W6 hc,W6 hc]
   .rw[W6 h]
  cases hp:X.pg with
  |none=>exact⟨hn,I.nd,G,I.kp,I.su,λP U=>by cases U⟩
  |some P=>
   show Inv kd av e ds (if P.inp kd e k=true then _ else _);have q:=I.pg P hp;by_cases hi:P.inp kd e k=true
   .rw[W7 hi];refine⟨hn,I.nd,G,I.kp,I.su,λP' O=>?_⟩;cases O;refine⟨q.rn,q.ra,QQ HV<|Nat.succ_le_succ q.nl,λz hz=>?_,λh=>?_,λy hy=>?_⟩
    .rcases Qp.mp (show(z.1,z.2)∈zj P.no k x from hz)with⟨h1,h2⟩|⟨_,h⟩
     .rwa[h1,h2]
     .exact q.nk z h
    .unfold Pl.inp at hi;rw[show P.fd=none from h]at hi;cases hi
    .obtain⟨nr,mr,l1,l2,l3,h1,h2,h3,h4,h5⟩:=q.fd y hy;refine⟨nr,mr,ZO l1,l2,l3,h1,h2,h3,λj z=>?_,λm hm=>?_⟩
     .show(j,z)∈zj P.no k x↔P.inp kd e j=true/\cV j ((ds.take<|X.n+1).drop nr)=some z;rw[Qp,h4,wX hx l1,mw,hk];by_cases h:j=k
      .rw[W7 (by rw[h]),h];exact⟨λg=>g.elim (λg=>⟨hi,by rw[g.2]⟩) λg=>Wb M g.1,λg=> .inl ⟨M,(W8 g.2).symm⟩⟩
      .rw[W6 λz=>h (W8 z).symm];exact⟨λg=>g.elim (λg=>Wb g.1 h) λg=>g.2,λg=> .inr ⟨h,g⟩⟩
     .obtain⟨c,z,hc,zc,l4,l5⟩:=h5 m hm;refine⟨c,z,hc,zc,l4,Zh l5 λh=>?_⟩;rw[<-h,hx]at hc;cases hc;rw[zc]at hk;cases hk
   .rw[W6 hi];exact⟨hn,I.nd,G,I.kp,I.su,λP' O=>by
     cases O;have z:=Z P q (by cases h:P.inp kd e k<;>simp_all) X.cp;rw[hp]at z;exact z⟩
def Inv.mrk {kd:Int} {x:DR} (I:Inv kd av e ds X) (D:RL ds) (hx:ds[X.n]?=some x) (U:x.r= .mark m):Inv kd av e ds (X.mrk m):=by
 have hn:=(Q1.mp hx).1;have tv:tbl (ds.take<|X.n+1)=tbl (ds.take X.n):=by
  rw[wF hx];unfold ap;rw[U]
 have Y:∀j,0<=j->aF X.cp j=if X.cov kd av e j=true then aF (tbl<|ds.take<|X.n+1) j else none:=λj j0=>by
  rw[I.cp j j0,tv]
 unfold PH.mrk;cases hp:X.pg with
 |none=>exact⟨hn,I.nd,Y,I.kp,I.su,λP hP=>by cases hP⟩
 |some P=>
  show Inv kd av e ds (if P.cl=some m then _ else _);have q:=I.pg P hp;by_cases O:P.cl=some m
  .rw[W7 O];have ov:=KQ q O D hx U;obtain⟨y,hy⟩:∃y,P.fd=some y:=by
    cases c:P.fd with
    |none=>rw[(q.un c).2]at O;cases O
    |some y=>exact⟨y,M⟩
   obtain⟨nr,mr,l1,l2,l3,h1,h2,h3,h4,h5⟩:=q.fd y hy;have on:(P.out.map (·.1)).Nodup:=MZ λz hz=>by rw[hy]at hz;cases hz;exact h1
   have rk:∀k,hO X.rv kd X.ra e k=hN kd P.ta e k:=λk=>by
    unfold hO;rw[q.rn,W6 (λz=>by cases z),q.ra]
   have ei:∀k,P.inp kd e k=(hN kd P.ta e k&&!hO P.ah kd P.aa e k):=λk=>by
    unfold Pl.inp;rw[hy];rfl
   refine⟨hn,Fa I.nd,λk k0=>?_,λk hk=>?_,λk k0 hk=>I.su k k0 (by rw[rk];exact h3 k k0 hk),λP' G=>by cases G⟩
   .show aF (xJ X.cp P.out) k=if(hN kd av e k&&!hO P.ah kd P.aa e k)=true then aF (tbl<|ds.take<|X.n+1) k else none
    rw[xI on,ov,tv,I.cp k k0];unfold PH.cov;rw[rk,ei];have s1:=I.su k k0;rw[rk]at s1;have s2:=h3 k k0;cases c1:hN kd P.ta e k<;>cases c2:hO P.ah kd P.aa e k<;>cases c3:hN kd av e k<;>simp_all<;>(cases aF (tbl<|ds.take X.n) k<;>rfl)
   .have hk:=Kd.mp hk;change (aF (xJ X.cp P.out) k).isSome=true at hk;rw[xI on]at hk;cases c:aF P.out k with
    |none=>rw[c]at hk;exact I.kp k<|Kd.mpr hk
    |some v=>
     rw[ov]at c;split at c
     .obtain⟨z,hz,kz⟩:=Cn (Kd.mpr<|by rw[c];rfl);exact D.kb z (Zd hz) k kz
     .cases c
  .rw[W6 O];refine⟨hn,I.nd,Y,I.kp,I.su,λP' G=>?_⟩;cases G;refine⟨q.rn,q.ra,ZO q.nl,q.nk,q.un,λy hy=>?_⟩;obtain⟨nr,mr,l1,l2,l3,h1,h2,h3,h4,h5⟩:=q.fd y hy;refine⟨nr,mr,ZO l1,l2,l3,h1,h2,h3,λj z=>?_,λm' Z=>?_⟩
   .show _↔_/\cV j ((ds.take<|X.n+1).drop nr)=some z;rw[h4,wX hx l1,mw,U,W6 λz=>by cases z]
   .obtain⟨c,z,hc,zc,l4,l5⟩:=h5 m' Z;refine⟨c,z,hc,zc,l4,Zh l5 λh=>?_⟩;rw[<-h,hx]at hc;cases hc;rw[zc]at U;cases U;exact O Z
def Inv.step {kd:Int} {x:DR} (I:Inv kd av e ds X) (D:RL ds) (hx:ds[X.n]?=some x):Inv kd av e ds (bj kd av e X x):=by
 have z:=Q2 hx;unfold bj;cases c:x.r with
 |put k v=>exact I.chg (D.kb x z k<|by rw[c];rfl) hx<|by rw[c];rfl
 |drop k=>exact I.chg (D.kb x z k<|by rw[c];rfl) hx<|by rw[c];rfl
 |mark m=>exact I.mrk D hx c
def Me {kd:Int} {x:DR}:(X.chg kd av e k x).n=X.n+1:=by
 unfold PH.chg;split
 .rfl
 .cases X.pg with
  |none=>rfl
  |some P=>
   dsimp only;split<;>rfl
def Oy {i:Int}:(X.mrk i).n=X.n+1:=by
 unfold PH.mrk;cases X.pg with
 |none=>rfl
 |some P=>
  dsimp only;split<;>rfl
def AW {kd:Int} {x:DR}:(bj kd av e X x).n=X.n+1:=by
 unfold bj;cases x.r with
 |put k v=>exact Me
 |drop k=>exact Me
 |mark i=>exact Oy
def R7 (t:P5) (H:Hp) (v:V) (kd:Int) (a e:V):Prop:=v= .non\/∃p,v= .ref p/\Pe t H p kd a e/\Qc kd a e
def R7.same {kd:Int} {a:V} (h:R7 t H v kd a e) (s:Ds H H'):R7 t H' v kd a e:=by
 rcases h with h|⟨p,h1,h2,z⟩
 .exact .inl h
 .exact .inr ⟨p,h1,h2.same s,z⟩
noncomputable def KW:Option (Addr×List Tp)->V
 |some y=> .ref y.1
 |none=> .non
noncomputable def CM:Option Int->V
 |some i=> .int i
 |none=> .non
def oPg:Option Pl->V
 |some P=> .ref P.g
 |none=> .non
structure RA (t:P5) (H:Hp) (kd:Int) (e:V) (P:Pl):Prop where
 ob:∃dx,H P.g=some (.ins t.bR dx [("asked",.ref P.tk),("found",KW P.fd),("ahead",P.ah),("noted",.ref P.nd),("closing",CM P.cl)])
 no:H P.nd=some (.dK<|az<|P.no.map λz=>(z.1,V.ref z.2.p))
 tk:Pe t H P.tk kd P.ta e/\Qc kd P.ta e
 ah:R7 t H P.ah kd P.aa e
 fd:∀y,P.fd=some y->H y.1=some (.lst<|y.2.map λe=>V.ref e.p)/\∀z∈y.2,H z.p=some (.tup [.int z.k,z.v])
 ro:∀z∈P.no,H z.2.p=some (.tup z.2.r.vs)
structure PR (t:P5) (H:Hp) (c a p dd:Addr) (kd:Int) (av e:V) (X:PH):Prop where
 ob:∃dx,H c=some (.ins t.aU dx [("house",.ref a),("first",.ref p),("rest",X.rv),("followed",.int X.n),("copied",.ref dd),("page",oPg X.pg)])
 cp:H dd=some (.dK<|az X.cp)
 tk:Pe t H p kd av e/\Qc kd av e
 rt:R7 t H X.rv kd X.ra e
 pg:∀P,X.pg=some P->RA t H kd e P/\P.nd≠dd
def RA.same {kd:Int} {P:Pl} (h:RA t H kd e P) (s:Ds H H'):RA t H' kd e P:=by
 obtain⟨dx,o⟩:=h.ob;exact⟨⟨dx,s _ _ o⟩,s _ _ h.no,⟨h.tk.1.same s,h.tk.2⟩,h.ah.same s,λy hy=>⟨s _ _ (h.fd y hy).1,λz hz=>s _ _<|(h.fd y hy).2 z hz⟩,λz hz=>s _ _<|h.ro z hz⟩
def PR.same {kd:Int} (h:PR t H c a p dd kd av e X) (s:Ds H H'):PR t H' c a p dd kd av e X:=by
 obtain⟨dx,o⟩:=h.ob;exact⟨⟨dx,s _ _ o⟩,s _ _ h.cp,⟨h.tk.1.same s,h.tk.2⟩,h.rt.same s,λP z=>⟨(h.pg P z).1.same s,(h.pg P z).2⟩⟩
def D6 (t:P5):Sp:=λvs H Q _=>∃(v:V) (kd k:Int) (av e:V),vs=[v,.int k]/\R7 t H v kd av e/\0<=k/\∀H',Ds H H'->Q (.bl<|hO v kd av e k) H'
def xy:Dr P w K mg base P1 4 t.AK t.uY ["token","key"] (D6 t):=by
 refine T.AQ.okl Ee λs H vs Q E U h _=>?_;intro X;obtain⟨v,kd,k,av,e,rfl,TO,k0,q⟩:=h;refine⟨_,(aB<|aD<|gA (bG iM Ca a8<|ay _)<|dD<|sG (kk:=3) (iP (cx T.bH T.kQ (fN T) T.kZ (_))<|iP (cx T.g8 T.oP (iN T) T.pf (_))<|cx T.cy T.kg (fK T) T.kH (_)) U.mo Ca<|ac Kc ag)
  ,?_⟩
 unfold hO at q;rcases TO with rfl|⟨p,rfl,Y,I⟩
 .rw[W7 M]at q;exact⟨_,M,M,_,M,kT M<|q H (Ds.refl _)⟩
 rw[W6 (by intro z;cases z)]at q;obtain⟨Z,fr,G,O⟩:=Y;refine⟨_,M,M,_,M,?_⟩;rw[show decide (V.ref p=V.non)=false from Wj λz=>by cases z];exact cP ⟨_,M,p,_,Z,fr,_,M,G,O.ho,dHN I.kd,_,M,A8 I G O k0 λH2 s2=>q H2 s2⟩
def rZ (t:P5):Sp:=λvs H Q _=>∃(c a p dd:Addr) (kd k:Int) (av e:V) (X:PH),vs=[.ref c,.int k]/\PR t H c a p dd kd av e X/\0<=k/\∀H',Ds H H'->Q (.bl<|X.cov kd av e k) H'
def jJ:Dr P w K mg base P1 5 t.lu t.gK ["self","key"] (rZ t):=by
 refine T.G6.okl ss λs H vs Q E I h _=>?_;intro X;obtain⟨c,a,p,dd,kd,k,av,e,X,rfl,C,k0,q⟩:=h;refine⟨_,(aB<|aD<|gA (sG (kk:=3) (iP (cx T.bH T.kQ (fN T) T.kZ (_))<|iP (cx T.g8 T.oP (iN T) T.pf (_))<|cx T.cy T.kg (fK T) T.kH (_)) I.mo (au Ca M)<|ac Kc ag)<|dD<|Bo<|aJ (xy T) I.mo {_} T.GA T.AQ.kp T.GY .nil ar (ac (au Ca M)<|ac Kc ag))
  ,?_⟩
 obtain⟨dx,O⟩:=C.ob;obtain⟨⟨Z,fr,z,U⟩,Y⟩:=C.tk;unfold PH.cov at q;refine⟨_,M,c,_,dx,_,_,M,O,T.aA,T.vZ,M,p,_,Z,fr,_,M,z,U.ho,dHN Y.kd,_,M,A8 Y z U k0 λH2 G=>⟨_,M,?_⟩⟩;cases hc:hN kd av e k with
 |false=>
  rw[hc]at q;exact cq<|q H2 G
 |true=>
  rw[hc]at q;exact cP ⟨_,M,c,_,dx,_,_,M,G _ _ O,T.aA,T.cK,M,_,M,X.rv,kd,k,X.ra,e,M,C.rt.same G,k0,λH3 s3=>⟨_,M,q H3<|G.trans s3⟩⟩
def rX (t:P5):Sp:=λvs H Q _=>∃(kd k:Int) (e:V) (P:Pl),vs=[.ref P.g,.int k]/\RA t H kd e P/\0<=k/\∀H',Ds H H'->Q (.bl<|P.inp kd e k) H'
def sL:Dr P w K mg base P1 5 t.lh t.gI ["self","key"] (rX t):=by
 refine T.G4.okl sk λs H vs Q E Y h _=>?_;intro X;obtain⟨kd,k,e,G,rfl,C,k0,q⟩:=h;refine⟨_,(aB<|aD<|gA (bG iM (au Ca M) a8<|ay _)<|gA (sG (kk:=3) (iP (cx T.bH T.kQ (fN T) T.kZ (_))<|iP (cx T.g8 T.oP (iN T) T.pf (_))<|cx T.cy T.kg (fK T) T.kH (_)) Y.mo (au Ca M)<|ac Kc ag)<|dD<|Bo<|aJ (xy T) Y.mo {_} T.GA T.AQ.kp T.GY .nil ar (ac (au Ca M)<|ac Kc ag))
  ,?_⟩
 obtain⟨dx,U⟩:=C.ob;obtain⟨⟨dr,fr,I,Z⟩,on⟩:=C.tk;unfold Pl.inp at q;refine⟨_,M,G.g,_,dx,_,_,M,U,T.bE,T.cY,M,M,_,M,?_⟩;cases hf:G.fd with
 |none=>
  rw[hf]at q;exact kT M<|q H (Ds.refl _)
 |some y=>
  rw[hf]at q;refine BI (λz=>by cases z) ?_;refine⟨_,M,G.g,_,dx,_,_,M,U,T.bE,T.qy,M,G.tk,_,dr,fr,_,M,I,Z.ho,dHN on.kd,_,M,A8 on I Z k0 λH2 O=>⟨_,M,?_⟩⟩;cases hc:hN kd G.ta e k with
  |false=>
   rw[hc]at q;exact cq<|q H2 O
  |true=>
   rw[hc]at q;exact cP ⟨_,M,G.g,_,dx,_,_,M,O _ _ U,T.bE,T.kf,M,_,M,G.ah,kd,k,G.aa,e,M,C.ah.same O,k0,λH3 s3=>⟨_,M,q H3<|O.trans s3⟩⟩
def PH.mut (X:PH) (c dd:Addr):Addr->Prop:=λb=>b=c\/b=dd\/∃P,X.pg=some P/\(b=P.g\/b=P.nd)
def PH.adr (X:PH) (c p dd:Addr):Addr->Prop:=λb=>X.mut c dd b\/b=p\/X.rv= .ref b\/∃P,X.pg=some P/\(b=P.tk\/P.ah= .ref b\/∃y,P.fd=some y/\b=y.1)
def Rs (a p:Addr) (rv:V) (n:Int) (dd:Addr) (pg:V):List (Str×V):=[("house",.ref a),("first",.ref p),("rest",rv),("followed",.int n),("copied",.ref dd),("page",pg)]
noncomputable def RV (tk:Addr) (fd ah:V) (nd:Addr) (cl:V):List (Str×V):=[("asked",.ref tk),("found",fd),("ahead",ah),("noted",.ref nd),("closing",cl)]
def cJ {o':HO} (h1:H b=some o) (h2:H q=some o') (n:o≠o'):b≠q:=λz=>by
 rw[z,h2]at h1;exact n (W8 h1).symm
def Pe.ne {d:Addr} {kd:Int} {a:V} (h:Pe t H p kd a e) (hc:H c=some (.ins C d fs)) (n:fs.lookup ("at":Str)=none):p≠c:=λz=>by
 obtain⟨dx,G,h1,h2⟩:=h;rw[z,hc]at h1;have:=h2.at_;rw[<-(HO.ins.inj<|W8 h1).2.2,n]at this;cases this
def Pe.nd {kd:Int} {a:V} (h:Pe t H p kd a e) (hc:H c=some o) (n:∀C d fs,o≠ .ins C d fs):p≠c:=λz=>by
 obtain⟨dx,G,h1,h2⟩:=h;rw[z,hc]at h1;exact n _ _ _<|W8 h1
def Pe.up {kd:Int} {a:V} (h:Pe t H p kd a e) (n:p≠c):Pe t (upd H c o) p kd a e:=by
 obtain⟨dx,z,h1,h2⟩:=h;exact⟨dx,z,by rwa[ae n],h2⟩
def R7.up {kd:Int} {a:V} (h:R7 t H v kd a e) (n:∀p,Pe t H p kd a e->p≠c):R7 t (upd H c o) v kd a e:=by
 rcases h with h|⟨p,h1,h2,z⟩
 .exact .inl h
 .exact .inr ⟨p,h1,h2.up<|n p h2,z⟩
section
variable {kd:Int}
def RA.go {P:Pl} (h:RA t H kd e P) (k:∀b o,H b=some o->(b=P.g\/b=P.nd\/b=P.tk\/P.ah= .ref b\/(∃y,P.fd=some y/\b=y.1)\/∃xs,o= .tup xs)->H' b=some o):RA t H' kd e P:=by
 obtain⟨dx,G⟩:=h.ob;refine⟨⟨dx,k _ _ G<|.inl M⟩,k _ _ h.no<|.inr<|.inl M,⟨?_,h.tk.2⟩,?_,λy hy=>⟨k _ _ (h.fd y hy).1<|.inr<|.inr<|.inr<|.inr<|.inl ⟨y,hy,M⟩,λz hz=>k _ _ ((h.fd y hy).2 z hz)<|.inr (.inr<|.inr<|.inr<|.inr ⟨_,M⟩)⟩,λz hz=>k _ _ (h.ro z hz)<|.inr (.inr<|.inr<|.inr<|.inr ⟨_,M⟩)⟩
 .obtain⟨d,fs,h1,h2⟩:=h.tk.1;exact⟨d,fs,k _ _ h1<|.inr<|.inr<|.inl M,h2⟩
 .rcases h.ah with h|⟨q,h1,⟨d,fs,h2,I⟩,O⟩
  .exact .inl h
  .exact .inr ⟨q,h1,⟨d,fs,k _ _ h2<|.inr<|.inr<|.inr<|.inl h1,I⟩,O⟩
def PR.go (C:PR t H c a p dd kd av e X) (k:∀b o,H b=some o->(X.adr c p dd b\/∃xs,o= .tup xs)->H' b=some o):PR t H' c a p dd kd av e X:=by
 obtain⟨dx,G⟩:=C.ob;refine⟨⟨dx,k _ _ G<|.inl (.inl<|.inl M)⟩,k _ _ C.cp<|.inl<|.inl<|.inr<|.inl M,⟨?_,C.tk.2⟩,?_,λP z=>⟨(C.pg P z).1.go λb o e h=>k b o e ?_,(C.pg P z).2⟩⟩
 .obtain⟨d,fs,h1,h2⟩:=C.tk.1;exact⟨d,fs,k _ _ h1<|.inl<|.inr<|.inl M,h2⟩
 .rcases C.rt with h|⟨q,h1,⟨d,fs,h2,I⟩,O⟩
  .exact .inl h
  .exact .inr ⟨q,h1,⟨d,fs,k _ _ h2<|.inl<|.inr<|.inr<|.inl h1,I⟩,O⟩
 .rcases h with h|h|h|h|h|h
  .exact .inl<|.inl (.inr<|.inr ⟨P,z,.inl h⟩)
  .exact .inl<|.inl (.inr<|.inr ⟨P,z,.inr h⟩)
  .exact .inl<|.inr (.inr<|.inr ⟨P,z,.inl h⟩)
  .exact .inl<|.inr (.inr<|.inr ⟨P,z,.inr<|.inl h⟩)
  .exact .inl<|.inr (.inr<|.inr ⟨P,z,.inr<|.inr h⟩)
  .exact .inr h
def RA.offc {P:Pl} {rv pg:V} {n:Int} (h:RA t H kd e P) (hc:H c=some (.ins t.aU dx<|Rs a p rv n dd pg)):RA t (upd H c o) kd e P:=by
 obtain⟨I,G⟩:=h.ob;refine⟨⟨I,by rwa[ae (cJ G hc λz=>Wb (Wr List.length (HO.ins.inj z).2.2)<|by show ¬5=6;decide)]⟩,by rw[ae (cJ h.no hc λz=>by cases z)];exact h.no,⟨h.tk.1.up<|h.tk.1.ne hc M,h.tk.2⟩,h.ah.up λq hq=>hq.ne hc M,λy hy=>⟨?_,λz hz=>?_⟩,λz hz=>?_⟩
 .have:=(h.fd y hy).1;rwa[ae (cJ this hc λz=>by cases z)]
 .have:=(h.fd y hy).2 z hz;rwa[ae (cJ this hc λz=>by cases z)]
 .have:=h.ro z hz;rwa[ae (cJ this hc λz=>by cases z)]
def RA.offd {P:Pl} {d:Addr} (h:RA t H kd e P) (hd:H d=some (.dK kvs)) (n:P.nd≠d):RA t (upd H d o) kd e P:=by
 obtain⟨I,G⟩:=h.ob;refine⟨⟨I,by rwa[ae (cJ G hd λz=>by cases z)]⟩,by rw[ae n];exact h.no,⟨h.tk.1.up (h.tk.1.nd hd λ_ _ _ z=>by cases z),h.tk.2⟩,h.ah.up (λq hq=>hq.nd hd λ_ _ _ z=>by cases z),λy hy=>⟨?_,λz hz=>?_⟩,λz hz=>?_⟩
 .have:=(h.fd y hy).1;rwa[ae (cJ this hd λz=>by cases z)]
 .have:=(h.fd y hy).2 z hz;rwa[ae (cJ this hd λz=>by cases z)]
 .have:=h.ro z hz;rwa[ae (cJ this hd λz=>by cases z)]
def PR.setc (C:PR t H c a p dd kd av e X) {rv ra:V} {pg:Option Pl} (rt:R7 t H rv kd ra e) (I:∀P,pg=some P->RA t H kd e P/\P.nd≠dd):PR t (upd H c<|.ins t.aU dx<|Rs a p rv n dd<|oPg pg) c a p dd kd av e ⟨rv,ra,n,X.cp,pg⟩:=by
 obtain⟨U,G⟩:=C.ob;exact⟨⟨dx,ai⟩,by rw[ae (cJ C.cp G λz=>by cases z)];exact C.cp,⟨C.tk.1.up<|C.tk.1.ne G M,C.tk.2⟩,rt.up λq hq=>hq.ne G M,λP O=>⟨(I P O).1.offc G,(I P O).2⟩⟩
def PR.setd (C:PR t H c a p dd kd av e X) {kv:List (Int×V)}:PR t (upd H dd<|.dK<|az kv) c a p dd kd av e {X with cp:=kv}:=by
 obtain⟨O,I⟩:=C.ob;exact⟨⟨O,by rw[ae (cJ I C.cp λz=>by cases z)];exact I⟩,ai,⟨C.tk.1.up (C.tk.1.nd C.cp λ_ _ _ z=>by cases z),C.tk.2⟩,C.rt.up (λq hq=>hq.nd C.cp λ_ _ _ z=>by cases z),λP G=>⟨(C.pg P G).1.offd C.cp (C.pg P G).2,(C.pg P G).2⟩⟩
def PR.setn (C:PR t H c a p dd kd av e X) {P:Pl} (O:X.pg=some P) {no:List (Int×DR)} (Z:∀z∈no,H z.2.p=some (.tup z.2.r.vs)):PR t (upd H P.nd<|.dK<|az<|no.map λz=>(z.1,V.ref z.2.p)) c a p dd kd av e {X with pg:=some {P with no:=no}}:=by
 obtain⟨dy,G⟩:=C.ob;obtain⟨R,U⟩:=C.pg P O;obtain⟨dg,Y⟩:=R.ob;rw[O]at G;refine⟨⟨dy,by rwa[ae (cJ G R.no λz=>by cases z)]⟩,by rw[ae U.symm];exact C.cp,⟨C.tk.1.up (C.tk.1.nd R.no λ_ _ _ z=>by cases z),C.tk.2⟩,C.rt.up (λq hq=>hq.nd R.no λ_ _ _ z=>by cases z),λP' I=>?_⟩;cases I;refine⟨⟨⟨dg,by rwa[ae (cJ Y R.no λz=>by cases z)]⟩,ai,⟨R.tk.1.up (R.tk.1.nd R.no λ_ _ _ z=>by cases z),R.tk.2⟩,R.ah.up (λq hq=>hq.nd R.no λ_ _ _ z=>by cases z),λy hy=>⟨?_,λz hz=>?_⟩,λz hz=>?_⟩,U⟩
 .have:=(R.fd y hy).1;rwa[ae (cJ this R.no λz=>by cases z)]
 .have:=(R.fd y hy).2 z hz;rwa[ae (cJ this R.no λz=>by cases z)]
 .have:=Z z hz;rwa[ae (cJ this R.no λz=>by cases z)]
def PR.setg (C:PR t H c a p dd kd av e X) {P:Pl} (U:X.pg=some P) {fd:Option (Addr×List Tp)} {ah aa:V} {cl:Option Int} (hf:∀y,fd=some y->H y.1=some (.lst<|y.2.map λe=>V.ref e.p)/\∀z∈y.2,H z.p=some (.tup [.int z.k,z.v])) (ha:R7 t H ah kd aa e):PR t (upd H P.g<|.ins t.bR dx<|RV P.tk (KW fd) ah P.nd<|CM cl) c a p dd kd av e {X with pg:=some {P with fd:=fd,ah:=ah,aa:=aa,cl:=cl}}:=by
 obtain⟨Y,I⟩:=C.ob;obtain⟨R,Z⟩:=C.pg P U;obtain⟨dg,G⟩:=R.ob;rw[U]at I;have gc:=cJ I G λz=>Wb (Wr List.length (HO.ins.inj z).2.2) (by show ¬6=5;decide);refine⟨⟨Y,by rw[ae gc];exact I⟩,by rw[ae (cJ C.cp G λz=>by cases z)];exact C.cp,⟨C.tk.1.up<|C.tk.1.ne G M,C.tk.2⟩,C.rt.up λq hq=>hq.ne G M,λP' O=>?_⟩;cases O;refine⟨⟨⟨dx,ai⟩,by rw[ae (cJ R.no G λz=>by cases z)];exact R.no,⟨R.tk.1.up<|R.tk.1.ne G M,R.tk.2⟩,ha.up λq hq=>hq.ne G M,λy hy=>⟨?_,λz hz=>?_⟩,λz hz=>?_⟩,Z⟩
 .have:=(hf y hy).1;rwa[ae (cJ this G λz=>by cases z)]
 .have:=(hf y hy).2 z hz;rwa[ae (cJ this G λz=>by cases z)]
 .have:=R.ro z hz;rwa[ae (cJ this G λz=>by cases z)]
end
def Io:∀{more acc:List (Int×V)},((acc++more).map (·.1)).Nodup->uL (az acc) (az more)=az (acc++more)
 | [],acc,_=>by rw[ZB];rfl
 |p::r,acc,h=>by
  have n:aF acc p.1=none:=by
   cases c:aF acc p.1 with
   |none=>rfl
   |some w=>
    rw[QC,VH]at h;exact Wb M (h.2.2 p.1 (Qy.mpr ⟨(p.1,w),bD c,M⟩) p.1 QB)
  show uL (bn (az acc) (Sum.inl p.1) p.2) (az r)=_;rw[cN,xp p.2 n,Io (by rwa[QE]),QE];rfl
def lY {x:V} {r:List (Str×V)}:bL f v ((f,x)::r)=(f,v)::r:=by rw[bL,W7 M]
def FW:Sp:=λvs H Q _=>∃(d:Addr) (D:List (Int×V)) (x:DR) (k:Int),vs=[.ref d,.ref x.p]/\H d=some (.dK<|az D)/\H x.p=some (.tup x.r.vs)/\x.r.key=some k/\D.length<50000/\Q .non (upd H d<|.dK<|az<|ap D x)
def Ad:Dr P w K mg base P1 1 t.Dx t.ye ["table","row"] FW:=by
 refine T.DB.okl F9 λs H vs Q E G h _=>?_;intro X;obtain⟨d,D,x,k,rfl,hd,hx,hk,dl,q⟩:=h;refine mY (λx=>aO (aw bT (aP bi Kc af<|λ_ _=>M) gy<|ay _) (aB<|l9 (jK G) Ca (aP bi Kc af<|λ_ _=>M) (aP bi Kc af<|λ_ _=>M) M) x) ?_;refine aC (aM<|dE QY ZZ XI Im Ca<|ac (aP bi Kc af<|λ_ _=>M)<|ac a8 ag) ?_
 intros
 unfold ap at q;cases G:x.r with
 |put j v=>
  rw[G]at q hx;refine⟨_,M,x.p,_,_,_,M,M,PX.of hx,M,M,_,M,fj M ?_⟩;refine⟨_,M,x.p,_,_,_,M,M,PX.of hx,M,_,M,_,M,x.p,_,_,_,M,M,PX.of hx,M,d,_,M,Qh.k (k:=Sum.inl j) hd (by rw[bz];exact bg ()),?_⟩;rw[cN];exact q
 |drop j=>
  rw[G]at q hx;refine⟨_,M,x.p,_,_,_,M,M,PX.of hx,M,M,_,M,a6 (λz=>Wb (V.str.inj z) ∅) ?_⟩;refine⟨_,M,.inr<|.inr<|.inl ⟨M,.inl ⟨_,hd⟩⟩,_,M,x.p,_,_,_,M,M,PX.of hx,M,d,_,Sum.inl j,.non,M,M,hd,λv _=>?_,λI=>?_⟩
  .rw[mt];exact q
  .rw[O6]at I;have e:bN D j=D:=List.filter_eq_self.mpr λz hz=>Wf λe=>by
    have:=Kd.mp (Xq (f:=(·.1)) hz);rw[e,I]at this;cases this
   have q:Q .non (upd H d<|.dK<|az<|bN D j):=q;rw[e]at q;have u:upd H d (.dK<|az D)=H:=funext λb=>by
    by_cases c:b=d
    .rw[c,ai,hd]
    .rw[ae c]
   rw[u]at q;exact q
 |mark i=>rw[G]at hk;cases hk
def Dw.at1 {r:Dw} (h:r.key=some k):R9 r.vs 1=some (.int k):=by
 cases r with
 |put j v=>cases h;rfl
 |drop j=>cases h;rfl
 |mark i=>cases h
structure CSz (X:PH):Prop where
 cl:X.cp.length<=5000
 pg:∀P,X.pg=some P->P.no.length<=5000/\(∀z∈P.no,∃k,z.2.r.key=some k)/\(P.fd=none->P.cl=none)/\∀y,P.fd=some y->(y.2.map (·.k)).Nodup/\y.2.length<=5000
def Inv.sz {kd:Int} (I:Inv kd av e ds X) (l:ds.length<=5000):CSz X:=by
 refine⟨?_,λP U=>?_⟩
 .have h1:X.cp.length<=((tbl<|ds.take X.n).map (·.1)).length:=OH I.nd λk hk=>by
   have k0:=I.kp k hk;have hk:=Kd.mp hk;rw[I.cp k k0]at hk;split at hk
   .exact Kd.mpr hk
   .cases hk
  have h2:=wn (l:=ds.take X.n);rw[Q0]at h1;rw[Q6]at h2;lia
 .have q:=I.pg P U;have:=I.le;have:=q.nl;refine⟨(),λz hz=>⟨_,q.nk z hz⟩,λh=>(q.un h).2,λy hy=>?_⟩;obtain⟨nr,G,l1,Z,l3,O,Y,_⟩:=q.fd y hy;refine⟨O,?_⟩;have h1:=gX O (S:=(tbl<|ds.take G).map (·.1)) λk hk=>by
   obtain⟨z,hz,rfl⟩:=Qy.mp hk;exact Qy.mpr ⟨_,((Y z.k z.v).mp<|Xq (f:=Tp.kv) hz).1,M⟩
  have h2:=wn (l:=ds.take G);rw[Q0,Q0]at h1;rw[Q6]at h2;lia
def uh (K:WN) (t:P5):Sp:=λvs H Q _=>∃(kd:Int) (e:V) (P:Pl) (y:Addr×List Tp),vs=[.ref P.g]/\RA t H kd e P/\P.fd=some y/\(y.2.map (·.k)).Nodup/\(∀z∈P.no,∃k,z.2.r.key=some k)/\y.2.length<=5000/\P.no.length<=5000/\
 ∀(H':Hp) (r:Addr),Ds H H'->H r=none->H' r=some (.dK<|az P.out)->Q (.ref r) H'
def uH:Dr P w K mg base P1 2 t.nu t.iy ["self"] (uh K t):=by
 refine T.Hg.okl uq λs H vs Q E O h _=>?_;intro X;obtain⟨kd,e,G,y,rfl,R,hy,nt,nk,l1,l2,q⟩:=h;refine aj (P7 1<|dP (EH O.hd) {_} T.wA qa (ac (au Ca M) ag))
   (aj (wq (fH Wm M (KO<|uD QY Xu V7 uK<|au Ca M) (Qu 2)
    (aB<|aM<|aJ (Ad T) O.mo {_} T.ID T.DB.kp T.JD .nil ar (ac Kc<|ac M2 ag))))
   (aC (aD Kc) ?_))
 intros
 obtain⟨dg,hg⟩:=R.ob;obtain⟨hf,tu⟩:=R.fd y hy;have ef:KW G.fd= .ref y.1:=by rw[hy];rfl
 rw[ef]at hg;refine⟨_,M,G.g,_,dg,_,_,M,hg,T.bE,T.cY,M,y.1,y.2.map λu=>(u.p,Sum.inl u.k,u.v),M,by rw[QR];exact Fz.of hf,(λu' a1=>by obtain⟨u,hu,rfl⟩:=Qy.mp a1;exact PX.of<|tu u hu),λr nr=>?_⟩;rw[QR];have el:y.2.map ((λx:Addr×Key×V=>x.2)∘λu:Tp=>(u.p,(Sum.inl u.k:Key),u.v))=az (y.2.map Tp.kv):=by unfold az;rw[QR];rfl
 have er:G.rows=y.2.map Tp.kv:=by unfold Pl.rows;rw[hy]
 rw[el,show uL [] (az<|y.2.map Tp.kv)=_ from Io (acc:=[]) (by rwa[VS,QR]),VS,<-er];have lr:G.rows.length<=5000:=by rwa[er,Q0]
 have s1:=ak (o:= .dK<|az G.rows) nr;have h1:upd H r (.dK<|az G.rows) r=some (.dK<|az G.rows):=ai;generalize upd H r (.dK<|az G.rows)=H1 at s1 h1⊢;have I:=s1 _ _ R.no;have U:r≠G.nd:=λz=>by rw[z,R.no]at nr;cases nr
 refine⟨G.nd,_,I,_,M,G.g,_,dg,_,_,M,s1 _ _ hg,T.bE,T.qw,M,.inr<|.inr<|.inl ⟨M,.inl ⟨_,I⟩⟩,G.nd,_,M,M,I,λZ nv=>⟨Z,G.nd,_,M,ai,ak nv _ _ I,λob=>?_⟩⟩;have s2:=s1.trans (ak (o:=Rc Z G.nd) nv);have h2:=ak (o:=Rc Z G.nd) nv _ _ h1;have a0:=ak (o:=Rc Z G.nd) nv _ _ I;generalize upd H1 Z (Rc Z G.nd)=H2 at s2 h2 a0⊢;refine Ji (ob:=ob) (d:=G.nd) (kvs:=az<|G.no.map λz=>(z.1,V.ref z.2.p)) (λi B H'=>∃u:Option V,B=[some (.ref G.g),some (.ref r),u]/\H' G.nd=some (.frz ob<|.dK<|az<|G.no.map λz=>(z.1,V.ref z.2.p))/\H' r=some (.dK (az (((G.no.map (·.2)).take i).foldl ap G.rows)))/\∀b o,b≠G.nd->b≠r->H2 b=some o->H' b=some o) ?_ (λi B H' _ w=>by obtain⟨u,_,w,_⟩:=w;exact w) (λi k v B H' hk w=>?_)<|λB H' w=>?_
 .exact⟨none,M,ai,by rwa[ae U],λb o n1 n2 e=>by rwa[ae n1]⟩
 .obtain⟨u,rfl,fz,O,kp⟩:=w;obtain⟨z,hz,rfl⟩:∃z,G.no[i]?=some z/\v= .ref z.2.p:=by
   unfold az at hk;rw[QP,QP]at hk;cases c:G.no[i]? with
   |none=>rw[c]at hk;cases hk
   |some z=>rw[c]at hk;cases hk;exact⟨z,M,M⟩
  have hm:=Q2 hz;have hi:=(Q1.mp hz).1;obtain⟨k',kz⟩:=nk z hm;have Y:=s2 _ _ (R.ro z hm);have hx:=kp _ _ (cJ Y a0 λz=>by cases z) (cJ Y h2 λz=>by cases z) Y;have lf:=tj (l:=(G.no.map (·.2)).take i) (WP:=G.rows);rw[Q6]at lf;unfold g7
  (try dsimp only)
  refine⟨_,M,_,M,r,_,z.2,k',M,O,hx,kz,(),?_⟩;refine⟨_,M,by rwa[ae U.symm],?_,λb o n1 n2 e=>by rw[ae n2];exact kp b o n1 n2 e⟩;rw[ai,QL,QP,hz,XG];rfl
 .obtain⟨u,rfl,fz,O,kp⟩:=w;refine⟨ob,fz,?_⟩;rw[bz,Q0,QT (by rw[Q0];exact Q4 _)]at O;refine⟨_,M,q _ r (λb o e=>?_) nr<|by rwa[ae U]⟩;by_cases c:b=G.nd
  .rwa[c,ai,<-R.no,<-c]
  .rw[ae c];exact kp b o c (am e nr)<|s2 _ _ e
def lE (K:WN) (t:P5):Sp:=λvs H Q _=>∃(c a p dd:Addr) (kd m:Int) (av e:V) (X:PH),vs=[.ref c,.int m]/\PR t H c a p dd kd av e X/\CSz X/\
 ∀H',PR t H' c a p dd kd av e {X.mrk m with n:=X.n}->(∀b o,¬X.mut c dd b->H b=some o->H' b=some o)->Q .non H'
def mh:Dr P w K mg base P1 3 t.gj t.c4 ["self","number"] (lE K t):=by
 refine T.Ch.okl lF λs H vs Q E hr h _=>?_;intro X;obtain⟨c,a,p,dd,kd,m,av,e,X',rfl,C,Z,q⟩:=h;refine aj (P7 2<|au Ca M)
   (aj (aO (PW.pt<|gU (aw dF M2 a8<|ay _)<|gw<|aw E7 (au M2 M) Kc<|ay _)
    (aB pR)
    aE)
   (aj (aM<|dE QY PySem.F.slot_dict_update PySem.F.type_dict_update Go (au Ca M)<|ac (aX M2 T.bE T.G9 (uH T) hr.mo T.He .nil ar) ag)
   (aj (bh Ca (au M2 M) M)
   (aC (bh Ca a8 M) ?_))))
 intros
 obtain⟨dx,Y⟩:=C.ob;refine⟨_,M,c,_,dx,_,_,M,Y,T.aA,T.b6,M,?_⟩;cases I:X'.pg with
 |none=>
  have q:=q H;unfold PH.mrk at q;rw[I]at q Y;refine⟨_,M,M,_,M,fj M<|q ?_ λ_ _ _ e=>e⟩;have h:=C;rw[show X'={X' with pg:=none} by rw[<-I]]at h;exact h
 |some G=>
  obtain⟨R,nn⟩:=C.pg G I;obtain⟨z1,z2,z3,z4⟩:=Z.pg G I;obtain⟨dg,hg⟩:=R.ob;unfold PH.mrk at q;rw[I]at q Y
  (try dsimp only at q)
  refine⟨_,M,M,_,M,a6 (λz=>by cases z) ⟨_,M,G.g,_,dg,_,_,M,hg,T.bE,T.eK,M,_,M,?_⟩⟩;by_cases U:G.cl=some m
  case neg=>
   rw[W6 U]at q;have q:=q H (by have h:=C;rw[show X'={X' with pg:=some G} by rw[<-I]]at h;exact h) λ_ _ _ e=>e;cases cc:G.cl with
   |none=>exact⟨M,_,M,cP q⟩
   |some z=>
    refine⟨M,_,M,?_⟩;rw[Wj λh=>U (by rw[cc,V.int.inj h])];exact cP q
  rw[W7 U]at q;rw[U]at hg⊢;obtain⟨y,hy⟩:∃y,G.fd=some y:=by
   cases cf:G.fd with
   |none=>rw[z3 cf]at U;cases U
   |some y=>exact⟨y,M⟩
  obtain⟨ny,ly⟩:=z4 y hy;refine⟨M,_,M,kT M ?_⟩;unfold nQ
  (try dsimp only)
  refine⟨_,M,c,_,dx,_,_,M,Y,T.aA,T.cM,M,.inr<|.inr<|.inl ⟨M,.inl ⟨_,C.cp⟩⟩,_,M,G.g,dg,_,M,hg,{_},kd,e,G,y,M,R,hy,ny,z2,ly,z1,λH2 o s2 no O=>?_⟩;have od:dd≠o:=am C.cp no;have lo:G.out.length<=10000:=by
   have h1:=tj (l:=G.no.map (·.2)) (WP:=G.rows);have h2:G.rows.length=y.2.length:=by unfold Pl.rows;rw[hy];exact Q0 _
   rw[Q0]at h1;show((G.no.map (·.2)).foldl ap G.rows).length<=10000;lia
  have zc:=Z.cl;refine⟨dd,o,_,_,M,M,od,s2 _ _ C.cp,O,(by rw[bz,bz];exact Zl<|bg ()),?_⟩;rw[Ag];have C2:=(C.same s2).setd (kv:=xJ X'.cp G.out);have k2:∀b o,¬X'.mut c dd b->H b=some o->upd H2 dd (.dK<|az<|xJ X'.cp G.out) b=some o:=λb o n e=>by rw[ae λz=>n (.inr<|.inl z)];exact s2 _ _ e
  generalize upd H2 dd (.dK<|az<|xJ X'.cp G.out)=H3 at C2 k2⊢;obtain⟨d2,O⟩:=C2.ob;obtain⟨R2,_⟩:=C2.pg G I;obtain⟨a0,a1⟩:=R2.ob
  (try dsimp only)
  refine⟨_,M,G.g,_,a0,_,_,M,a1,T.bE,T.kf,M,_,M,c,_,d2,_,M,O,T.aA,T.cK,(by show 6<1000;decide),?_⟩;rw[bK ∅,bK ∅,lY];refine⟨_,M,c,_,d2,_,M,ai,T.aA,T.b6,(by show 6<1000;decide),?_⟩;rw[eE,bK ∅,bK ∅,bK ∅,bK ∅,bK ∅,lY];exact q _ (C2.setc (pg:=none) R2.ah λ_ z=>by cases z) λb o n e=>by rw[ae λz=>n (.inl z)];exact k2 b o n e
def jT (K:WN) (t:P5):Sp:=λvs H Q _=>∃(c a p dd:Addr) (kd k:Int) (av e:V) (X:PH) (x:DR),vs=[.ref c,.ref x.p]/\PR t H c a p dd kd av e X/\CSz X/\H x.p=some (.tup x.r.vs)/\x.r.key=some k/\0<=k/\
 ∀H',PR t H' c a p dd kd av e {X.chg kd av e k x with n:=X.n}->(∀b o,¬X.mut c dd b->H b=some o->H' b=some o)->Q .non H'
def j9:Dr P w K mg base P1 6 t.fc t.cO ["self","row"] (jT K t):=by
 refine T.AR.okl jU λs H vs Q E U h _=>?_;intro X;obtain⟨c,a,p,dd,kd,k,av,e,X',x,rfl,C,Z,hx,hk,k0,q⟩:=h;refine aj (P7 2<|aP bi Kc af<|λ_ _=>M)
   (aj (P7 3<|au Ca M)
   (mY (λx=>aO (bV<|aQ Ca T.aA T.uN (jJ T) U.mo T.u8 .nil ar<|ac M2 ag) (aB<|aM<|aJ (Ad T) U.mo {_} T.ID T.DB.kp T.JD .nil ar (ac (au Ca M)<|ac Kc ag)) x) ?_))
 refine aC (aO (PW.pt<|gx (aw iM PB a8<|ay _)<|eG<|bV<|aQ PB T.bE T.Gv (sL T) U.mo T.GZ .nil ar<|ac M2 ag)
    (aB<|l9 (jK U) (au PB M) M2 Kc M)
    aE) ?_
 intros
 obtain⟨dx,ho⟩:=C.ob;refine⟨_,M,x.p,_,_,_,M,M,PX.of hx,Dw.at1 hk,_,M,c,_,dx,_,_,M,ho,T.aA,T.b6,M,?_⟩;refine⟨_,M,c,dx,_,M,ho,{_},_,M,c,a,p,dd,kd,k,av,e,X',M,C,k0,λH1 s1=>⟨_,M,?_⟩⟩;have C1:=C.same s1;have O:=s1 _ _ hx;have a0:=s1 _ _ ho;unfold PH.chg at q;have zc:=Z.cl;cases hc:X'.cov kd av e k with
 |true=>
  rw[W7 hc]at q;refine cP ⟨_,M,c,_,dx,_,_,M,a0,T.aA,T.cM,M,_,M,dd,X'.cp,x,k,M,C1.cp,O,hk,(),?_⟩;exact q _ C1.setd λb o n e=>by rw[ae λz=>n (.inr<|.inl z)];exact s1 _ _ e
 |false=>
  rw[W6 (by rw[hc];exact Qz)]at q;refine cq ?_;cases I:X'.pg with
  |none=>
   rw[I]at q;refine⟨_,M,M,_,M,kT M<|q _ ?_ λb o _ e=>s1 _ _ e⟩;have h:=C1;rw[show X'={X' with pg:=none} by rw[<-I]]at h;exact h
  |some G=>
   obtain⟨R,nn⟩:=C1.pg G I;obtain⟨z1,z2,z3,z4⟩:=Z.pg G I;obtain⟨dg,hg⟩:=R.ob;rw[I]at q
   (try dsimp only at q)
   refine⟨_,M,M,_,M,BI (λz=>by cases z) ⟨_,M,G.g,dg,_,M,hg,{_},_,M,kd,k,e,G,M,R,k0,λH2 Y=>⟨_,M,?_⟩⟩⟩;have C2:=C1.same Y;have a1:=Y _ _ O;cases hi:G.inp kd e k with
   |false=>
    rw[W6 (by rw[hi];exact Qz)]at q;refine cq<|q _ ?_ λb o _ e=>Y _ _ (s1 _ _ e);have h:=C2;rw[show X'={X' with pg:=some G} by rw[<-I]]at h;exact h
   |true=>
    rw[W7 hi]at q;obtain⟨R2,_⟩:=C2.pg G I;obtain⟨a2,a3⟩:=R2.ob;refine cP ⟨_,M,_,M,G.g,_,a2,_,_,M,a3,T.bE,T.qw,M,_,M,G.nd,_,M,Qh.k (k:=Sum.inl k) R2.no (by rw[bz,Q0];exact bg ()),?_⟩;rw[cN,<-HU];refine q _ (C2.setn I λz hz=>?_) λb o n e=>by rw[ae λz=>n (.inr<|.inr ⟨G,I,.inr z⟩)];exact Y _ _<|s1 _ _ e
    rcases Qp.mp (show(z.1,z.2)∈zj G.no k x from hz)with⟨_,h⟩|⟨_,h⟩
    .rwa[h]
    .exact R2.ro z h
section
variable {kd:Int}
def PR.dom (C:PR t H c a p dd kd av e X) (h:X.adr c p dd b):∃o,H b=some o/\∀xs,o≠ .tup xs:=by
 obtain⟨dx,I⟩:=C.ob;have tk:∀{q:Addr} {a':V},Pe t H q kd a' e->∃o,H q=some o/\∀xs,o≠ .tup xs:=λh=>by
  obtain⟨_,_,h,_⟩:=h;exact⟨_,h,λ_ z=>by cases z⟩
 have G:∀{v a':V},R7 t H v kd a' e->v= .ref b->∃o,H b=some o/\∀xs,o≠ .tup xs:=λh z=>by
  rcases h with h|⟨q,h1,h2,_⟩
  .rw[h]at z;cases z
  .rw[h1]at z;cases z;exact tk h2
 rcases h with(rfl|rfl|⟨P,hP,rfl|rfl⟩)|rfl|h|⟨P,hP,rfl|h|⟨y,hy,rfl⟩⟩
 .exact⟨_,I,λ_ z=>by cases z⟩
 .exact⟨_,C.cp,λ_ z=>by cases z⟩
 .obtain⟨U,O⟩:=(C.pg P hP).1.ob;exact⟨_,O,λ_ z=>by cases z⟩
 .exact⟨_,(C.pg P hP).1.no,λ_ z=>by cases z⟩
 .exact tk C.tk.1
 .exact G C.rt h
 .exact tk (C.pg P hP).1.tk.1
 .exact G (C.pg P hP).1.ah h
 .exact⟨_,((C.pg P hP).1.fd y hy).1,λ_ z=>by cases z⟩
def PR.nmut (C:PR t H c a p dd kd av e X) (hb:H b=some o) (z:∀C d fs,o≠ .ins C d fs) (G:∀k,o≠ .dK k):¬X.mut c dd b:=λh=>by
 obtain⟨dx,O⟩:=C.ob;rcases h with rfl|rfl|⟨P,I,rfl|rfl⟩
 .rw[O]at hb;exact z _ _ _ (W8 hb).symm
 .rw[C.cp]at hb;exact G _ (W8 hb).symm
 .obtain⟨Y,U⟩:=(C.pg P I).1.ob;rw[U]at hb;exact z _ _ _ (W8 hb).symm
 .rw[(C.pg P I).1.no]at hb;exact G _ (W8 hb).symm
def PR.fr {x:PM} (C:PR t H c a p dd kd av e X) (n:∀b,X.adr c p dd b->¬F b) (A:PN K t H a F x) (f:Fr F F' H H'):PR t H' c a p dd kd av e X/\∀b,X.adr c p dd b->¬F' b:=
 ⟨C.go λb o G h=>(f b o (h.elim (n b) λ⟨xs,z⟩=>λO=>by
  obtain⟨o',I,U⟩:=A.dom O;rw[G]at I;exact U xs<|by rw[<-W8 I,z]) G).1,λb hb=>by
  obtain⟨o,G,_⟩:=C.dom hb;exact(f b o (n b hb) G).2⟩
def PN.mut {x:PM} (A:PN K t H a F x) (C:PR t H c a p dd kd av e X) (n:∀b,X.adr c p dd b->¬F b) (k:∀b o,¬X.mut c dd b->H b=some o->H' b=some o):PN K t H' a F x:=
 A.keep (λb hb=>by
  obtain⟨o,e,_⟩:=A.dom hb;rw[e];exact k b o (λz=>n b (.inl z) hb) e) λb xs e=>k b _ (C.nmut e (λ_ _ _ z=>by cases z) λ_ z=>by cases z) e
def pe {x:DR}:(X.chg kd av e k x).rv=X.rv/\(X.chg kd av e k x).ra=X.ra/\(∀z,(X.chg kd av e k x).pg=some z->∃P,X.pg=some P/\z={P with no:=z.no})/\(X.chg kd av e k x).pg.isSome=X.pg.isSome:=by
 obtain⟨rv,ra,n,cp,pg⟩:=X;unfold PH.chg;split
 .exact⟨M,M,λz h=>⟨z,h,M⟩,M⟩
 .cases pg with
  |none=>exact⟨M,M,(λz h=>by cases h),M⟩
  |some P=>
   dsimp only;split
   .exact⟨M,M,(λz h=>by cases h;exact⟨P,M,M⟩),M⟩
   .exact⟨M,M,(λz h=>by cases h;exact⟨P,M,M⟩),M⟩
def M9:((X.mrk m).rv=X.rv/\(X.mrk m).ra=X.ra/\(X.mrk m).pg=X.pg/\∀P,X.pg=some P->P.cl≠some m)\/∃P,X.pg=some P/\P.cl=some m/\(X.mrk m).rv=P.ah/\(X.mrk m).ra=P.aa/\(X.mrk m).pg=none:=by
 obtain⟨rv,ra,n,cp,pg⟩:=X;unfold PH.mrk;cases pg with
 |none=>exact .inl ⟨M,M,M,λ_ z=>by cases z⟩
 |some P=>
  dsimp only;by_cases h:P.cl=some m
  .rw[W7 h];exact .inr ⟨P,M,h,M,M,M⟩
  .rw[W6 h];exact .inl ⟨M,M,M,λ_ z=>by cases z;exact h⟩
def pP {x:DR}:((bj kd av e X x).rv=X.rv/\(bj kd av e X x).ra=X.ra/\(∀G,(bj kd av e X x).pg=some G->∃P,X.pg=some P/\G={P with no:=G.no})/\(∀P m,X.pg=some P->x.r= .mark m->P.cl≠some m)/\(bj kd av e X x).pg.isSome=X.pg.isSome)\/∃P m,X.pg=some P/\x.r= .mark m/\P.cl=some m/\(bj kd av e X x).rv=P.ah/\(bj kd av e X x).ra=P.aa/\(bj kd av e X x).pg=none:=by
 unfold bj;cases r:x.r with
 |put k v=>exact .inl ⟨pe.1,pe.2.1,pe.2.2.1,(λ_ _ _ z=>by cases z),pe.2.2.2⟩
 |drop k=>exact .inl ⟨pe.1,pe.2.1,pe.2.2.1,(λ_ _ _ z=>by cases z),pe.2.2.2⟩
 |mark m=>
  rcases M9 (X:=X) (m:=m)with⟨h1,h2,I,O⟩|⟨P,h1,h2,I⟩
  .exact .inl ⟨h1,h2,λG h=>⟨G,I▸h,M⟩,(λP m' U z=>by cases z;exact O P U),by rw[I]⟩
  .exact .inr ⟨P,m,h1,M,h2,I⟩
def Cr {x:DR} (h:(bj kd av e X x).mut c dd b):X.mut c dd b:=by
 rcases h with h|h|⟨G,z,h⟩
 .exact .inl h
 .exact .inr<|.inl h
 .rcases pP (X:=X) (kd:=kd) (av:=av) (e:=e) (x:=x)with⟨_,_,g,_⟩|⟨P,m,_,_,_,_,_,g⟩
  .obtain⟨P,I,O⟩:=g G z;rw[O]at h;exact .inr<|.inr ⟨P,I,h⟩
  .rw[g]at z;cases z
def HI {x:DR} (h:(bj kd av e X x).adr c p dd b):X.adr c p dd b:=by
 rcases h with h|h|h|⟨I,z,h⟩
 .exact .inl<|Cr h
 .exact .inr<|.inl h
 .rcases pP (X:=X) (kd:=kd) (av:=av) (e:=e) (x:=x)with⟨g,_⟩|⟨P,m,G,_,_,g,_⟩
  .rw[g]at h;exact .inr<|.inr (.inl h)
  .rw[g]at h;exact .inr<|.inr (.inr ⟨P,G,.inr<|.inl h⟩)
 .rcases pP (X:=X) (kd:=kd) (av:=av) (e:=e) (x:=x)with⟨_,_,g,_⟩|⟨P,m,_,_,_,_,_,g⟩
  .obtain⟨P,G,O⟩:=g I z;rw[O]at h;exact .inr<|.inr (.inr ⟨P,G,h⟩)
  .rw[g]at z;cases z
end
def Dd {c p dd b:Addr} {kd:Int} {av e:V}:∀{l:List DR} {X:PH},(l.foldl (bj kd av e) X).adr c p dd b->X.adr c p dd b
 | [],_,h=>h
 |x::r,X,h=>HI (Dd (l:=r) (X:=bj kd av e X x) h)
def x6 {c dd b:Addr} {kd:Int} {av e:V}:∀{l:List DR} {X:PH},(l.foldl (bj kd av e) X).mut c dd b->X.mut c dd b
 | [],_,h=>h
 |x::r,X,h=>Cr (x6 (l:=r) (X:=bj kd av e X x) h)
def EE {kd:Int} {av e:V}:∀{l:List DR} {X:PH},(l.foldl (bj kd av e) X).n=X.n+l.length
 | [],_=>rfl
 |x::r,X=>by
  show(r.foldl (bj kd av e)<|bj kd av e X x).n=X.n+(r.length+1);rw[EE,AW];lia
def Rk (x:PM) (ds:List DR):Prop:=x.di=ds.map λd=>(d.p,d.r.vs)
def nset {m:Nat} (h:X.n=m):(⟨X.rv,X.ra,m,X.cp,X.pg⟩:PH)=X:=by
 subst h;rfl
def rY (K:WN) (t:P5):Sp:=λvs H Q _=>∃(c a p dd:Addr) (kd z:Int) (av e:V) (X:PH) (F:Addr->Prop) (x:PM) (ds:List DR),vs=[.ref c,.int z]/\PR t H c a p dd kd av e X/\PN K t H a F x/\Rk x ds/\Inv kd av e ds X/\RL ds/\ds.length<=5000/\0<=z/\
 ∀H' X',X'=((ds.drop X.n).take z.toNat).foldl (bj kd av e) X->PR t H' c a p dd kd av e X'->Inv kd av e ds X'->(∀b o,¬X.mut c dd b->H b=some o->H' b=some o)->Q (.int X'.n) H'
def fL:Dr P w K mg base P1 7 t.lq t.gJ ["self","steps"] (rY K t):=by
 refine T.G5.okl sr λs H vs Q E G h _=>?_;intro X;obtain⟨c,a,p,dd,kd,z,av,e,X',F,x,ds,rfl,C,A,dy,I,D,dl,z0,q⟩:=h;refine aj (P7 2<|dC fu (aQ (au Ca M) T.aT T.oR (ip T) G.mo T.JH .nil ar<|ac (au Ca M) ag) iJ<|dN<|aI (p6 M) {_} T.Hm BS (ac Kc<|ac af ag))
   (bW (λx=>(fH Wm M (dO M2) (Qu 3)
    x)) ?_)
 refine bW (λx=>aO (aw bT (aP bi PB af<|λ_ _=>M) gy<|ay _) x<|aB<|aM<|aQ Ca T.aA T.Ai (j9 T) G.mo T.AF .nil ar<|ac PB ag) ?_;refine aC (aM<|aQ Ca T.aA T.Cf (mh T) G.mo T.Cg .nil ar<|ac (aP bi PB af<|λ_ _=>M) ag) ?_
 intros
 refine aC (iT Ca af xV) ?_
 intros
 refine aC (aD<|au Ca M) ?_
 intros
 obtain⟨dx,ho⟩:=C.ob;obtain⟨da,fa,ha,hm,_⟩:=A.ins;refine⟨_,M,c,_,dx,_,_,M,ho,T.aA,T.eL,M,a,da,fa,M,ha,hm _ ∅,_,M,c,_,dx,_,_,M,ho,T.aA,T.b9,M,a,_,F,x,M,A,(),λH1 r s1 nr G=>?_⟩;refine⟨_,M,_,_,M,_,M,r,_,M,Fz.of G,λp1 a2=>?_⟩;have ez:(if(0:Int)>z then(0:Int)else z)=z:=by rw[W6 ()]
 unfold Rk at dy;rw[ez,kW z0,<-ZJ,dy,<-XN,<-ZJ,QR,Zg];obtain⟨rs,a3⟩:∃rs,(ds.drop X'.n).take z.toNat=rs:=⟨_,M⟩;rw[a3]at q⊢;have a4:∀(i:Nat) (d:DR),rs[i]?=some d->ds[X'.n+i]?=some d:=λi d h=>by
  rw[<-a3,Xz]at h;split at h
  .rwa [Xg]at h
  .cases h
 have rd:∀d∈ds,H1 d.p=some (.tup d.r.vs):=λd hd=>(A.same s1).di (d.p,d.r.vs) (by rw[dy];exact Qy.mpr ⟨d,hd,M⟩);change yC _ _ _ _ (upd H1 p1<|.lst<|rs.map λd=>V.ref d.p);have s2:=s1.trans (ak (o:= .lst<|rs.map λd=>V.ref d.p) a2);have h2:upd H1 p1 (.lst<|rs.map λd=>V.ref d.p) p1=some (.lst<|rs.map λd=>V.ref d.p):=ai;have a1:∀d∈ds,upd H1 p1 (.lst<|rs.map λd=>V.ref d.p) d.p=some (.tup d.r.vs):=λd hd=>ak a2 _ _ (rd d hd);generalize upd H1 p1 (.lst<|rs.map λd=>V.ref d.p)=H2 at s2 h2 a1⊢;have C2:=C.same s2;have pn:=C2.nmut h2 (λ_ _ _ z=>by cases z) (λ_ z=>by cases z);refine⟨_,M,p1,M,⟨_,Fz.of h2⟩,iW (K:=K) (a:=p1) (xs:=rs.map λd=>V.ref d.p) (λi B H'=>∃v3:Option V,B=[some (.ref c),some (.int z),some (.ref p1),v3]/\(∀b o,¬X'.mut c dd b->H2 b=some o->H' b=some o)/\PR t H' c a p dd kd av e ((rs.take i).foldl (bj kd av e) X')/\Inv kd av e ds ((rs.take i).foldl (bj kd av e) X')) ?_ (λi B H' _ w=>by obtain⟨_,_,k,_⟩:=w;exact Fz.of<|k _ _ pn h2) (λi u B H' hu w'=>?_)<|λB H' w'=>?_⟩
 .exact⟨none,M,λ_ _ _ h=>h,C2,I⟩
 .obtain⟨v3,rfl,kp,CI,II⟩:=w';obtain⟨d,rfl,ed⟩:∃d,u=V.ref d.p/\rs[i]?=some d:=by
   rw[QP]at hu;cases c:rs[i]? with
   |none=>rw[c]at hu;cases hu
   |some e=>rw[c]at hu;cases hu;exact⟨e,M,M⟩
  have hi:=(Q1.mp ed).1;have nX:((rs.take i).foldl (bj kd av e) X').n=X'.n+i:=by rw[EE,Q6,ZQ (Zl hi)]
  have eN:(rs.take<|i+1).foldl (bj kd av e) X'=bj kd av e ((rs.take i).foldl (bj kd av e) X') d:=by
   rw[QL,ed,XG];rfl
  have hd:ds[((rs.take i).foldl (bj kd av e) X').n]?=some d:=by rw[nX];exact a4 i d ed
  have O:=Q2 hd;have mI:∀b,((rs.take i).foldl (bj kd av e) X').mut c dd b->X'.mut c dd b:=λb=>x6;have IN:=II.step D hd;have te:H' d.p=some (.tup d.r.vs):=kp _ _ (C2.nmut (a1 d O) (λ_ _ _ z=>by cases z)<|λ_ z=>by cases z) (a1 d O);rw[eN];have sN:=AW (kd:=kd) (av:=av) (e:=e) (X:=(rs.take i).foldl (bj kd av e) X') (x:=d);generalize (rs.take i).foldl (bj kd av e) X'=Y at CI II hd mI IN nX sN⊢;have Z:=II.sz dl;unfold g7
  (try dsimp only)
  refine c7 (λB H3=>B=[some (.ref c),some (.int z),some (.ref p1),some (.ref d.p)]/\(∀b o,¬X'.mut c dd b->H2 b=some o->H3 b=some o)/\PR t H3 c a p dd kd av e {bj kd av e Y d with n:=Y.n}) (λnx go=>?_)<|λB H3 w3=>?_
  .obtain⟨dY,hY⟩:=CI.ob;have kb:=D.kb d O;cases G:d.r with
   |mark m=>
    rw[G]at te;refine⟨_,M,d.p,_,_,_,M,M,PX.of te,M,M,_,M,fj M ⟨_,M,c,dY,_,M,hY,{_},_,M,d.p,_,_,_,M,M,PX.of te,M,c,a,p,dd,kd,m,av,e,Y,M,CI,Z,λH3 U k3=>go _ _ ⟨M,λb o n e=>k3 b o (λz=>n<|mI b z)<|kp b o n e,?_⟩⟩⟩;unfold bj;rwa[G]
   |put k v=>
    have a0:=te;rw[G]at a0;refine⟨_,M,d.p,_,_,_,M,M,PX.of a0,M,M,_,M,a6 (λz=>Wb (V.str.inj z) ∅) ⟨_,M,c,dY,_,M,hY,{_},_,M,?_⟩⟩;exact⟨c,a,p,dd,kd,k,av,e,Y,d,M,CI,Z,te,by rw[G];rfl,kb k (by rw[G];rfl),λH3 U k3=>go _ _ ⟨M,λb o n e=>k3 b o (λz=>n<|mI b z)<|kp b o n e,by unfold bj;rwa[G]⟩⟩
   |drop k=>
    have a0:=te;rw[G]at a0;refine⟨_,M,d.p,_,_,_,M,M,PX.of a0,M,M,_,M,a6 (λz=>Wb (V.str.inj z) ∅) ⟨_,M,c,dY,_,M,hY,{_},_,M,?_⟩⟩;exact⟨c,a,p,dd,kd,k,av,e,Y,d,M,CI,Z,te,by rw[G];rfl,kb k (by rw[G];rfl),λH3 U k3=>go _ _ ⟨M,λb o n e=>k3 b o (λz=>n<|mI b z)<|kp b o n e,by unfold bj;rwa[G]⟩⟩
  obtain⟨rfl,k3,U⟩:=w3;generalize bj kd av e Y d=Z' at U IN sN⊢;obtain⟨d3,h3⟩:=U.ob;refine⟨_,M,c,_,d3,_,_,M,h3,T.aA,T.b9,M,_,_,M,M,d3,_,h3,(by show 6<1000;decide),?_⟩;rw[bK ∅,bK ∅,bK ∅,lY];refine⟨_,M,λb o n e=>by rw[ae λz=>n (.inl z)];exact k3 b o n e,?_,IN⟩;have h:=U.setc (n:=Y.n+1) (pg:=Z'.pg) (dx:=d3) U.rt U.pg;rw[nset sN]at h;exact h
 .obtain⟨v3,rfl,kp,CI,II⟩:=w';rw[Q0,QX]at CI II;obtain⟨d3,h3⟩:=CI.ob;exact⟨_,M,c,_,d3,_,_,M,h3,T.aA,T.b9,M,q H' _ M CI II λb o n e=>kp b o n<|s2 _ _ e⟩
def yR (t:P5):Sp:=λvs H Q _=>∃(g dx tk:Addr),vs=[.ref g,.ref tk]/\H g=some (.ins t.bR dx [])/\
 ∀H' nd,H' g=some (.ins t.bR dx<|RV tk .non .non nd .non)->H' nd=some (.dK [])->H nd=none->(∀b o,b≠g->H b=some o->H' b=some o)->Q .non H'
def zB:Dr P w K mg base P1 1 t.tT t.mP ["self","token"] (yR t):=by
 refine T.LH.okl zg λs H vs Q E hr h _=>?_;intro X;obtain⟨g,dx,tk,rfl,hg,q⟩:=h;refine aj (bh Ca Kc M)
   (aj (bh Ca a8 M)
   (aj (bh Ca a8 M)
   (aj (bh Ca fJ M)
   (aC (bh Ca a8 M) ?_))))
 intros
 refine⟨_,M,_,M,g,_,dx,[],M,hg,T.bE,T.qy,mq (by kernel_rfl),cR λH1 h1 I=>?_⟩;refine⟨_,M,g,_,dx,_,M,h1,T.bE,T.cY,mq (by kernel_rfl),cR λH2 h2 O=>?_⟩;refine⟨_,M,g,_,dx,_,M,h2,T.bE,T.kf,mq (by kernel_rfl),cR λH3 U Y=>λnd z=>?_⟩;refine⟨_,M,g,_,dx,_,M,ak z _ _ U,T.bE,T.qw,mq (by kernel_rfl),cR λH4 h4 Z=>?_⟩;refine⟨_,M,g,_,dx,_,M,h4,T.bE,T.eK,mq (by kernel_rfl),cR λH5 h5 o5=>?_⟩;have G:=(am U z).symm;refine q _ nd (h5.trans<|by kernel_rfl) (by rw[o5 _ G,Z _ G];exact ai) (by rw[Y _ G,O _ G,I _ G]at z;exact z) λb o n e=>?_;rw[o5 b n,Z b n];exact ak z _ _ (by rwa[Y b n,O b n,I b n])
def Rg (g nd q:Addr) (ra:V):Pl:=⟨g,nd,q,ra,none,.non,.non,[],none⟩
def nV (K:WN) (t:P5):Sp:=λvs H Q _=>∃(c a p dd q:Addr) (kd:Int) (av e:V) (X:PH) (F:Addr->Prop) (x:PM),vs=[.ref c]/\PR t H c a p dd kd av e X/\X.pg=none/\X.rv= .ref q/\PN K t H a F x/\(∀b,X.adr c p dd b->¬F b)/\x.now+x.ma<40000/\
 ∀(H':Hp) (F':Addr->Prop) (r g nd:Addr),PN K t H' a F' {x with ma:=x.ma+1,di:=x.di++ [(r,[.str "mark",.int (x.ma+1)])]}->PR t H' c a p dd kd av e {X with pg:=some (Rg g nd q X.ra)}->(∀b,({X with pg:=some (Rg g nd q X.ra)}:PH).adr c p dd b->¬F' b)->H g=none->H nd=none->(∀b o,b≠c->¬F b->H b=some o->H' b=some o/\¬F' b)->Q (.int<|x.ma+1) H'
def gW:Dr P w K mg base P1 3 t.iI t.d9 ["self"] (nV K t):=by
 refine T.DP.okl nZ λs H vs Q E hr h _=>?_;intro X;obtain⟨c,a,p,dd,G,kd,av,e,X',F,x,rfl,C,hp,O,A,Y,l,q⟩:=h;refine aj (aO (aw iM (au Ca M) a8<|ay _)
    (aB eI)
    aE)
   (aj (aO (aw dF (au Ca M) a8<|ay _)
    (aB eI)
    aE)
   (aj (bh Ca (iK T.OX (zB T) hr.mo {_} T.OY T.Lx .nil ar (ac (au Ca M) ag)) M)
   (aC (aD<|aX (au Ca M) T.aT T.sQ (jk T) hr.mo T.tE .nil ar) ?_)))
 intros
 obtain⟨dx,U⟩:=C.ob;rw[hp,O]at U;refine⟨_,M,c,_,dx,_,_,M,U,T.aA,T.b6,M,M,_,M,kT M ?_⟩;unfold nQ
 (try dsimp only)
 refine⟨_,M,c,_,dx,_,_,M,U,T.aA,T.cK,M,M,_,M,a6 (λz=>by cases z) ?_⟩
 (try dsimp only)
 refine⟨_,M,c,_,dx,_,_,M,U,T.aA,T.cK,M,λg dg Z nd aa=>?_⟩;have s1:=bZ (ak (o:= .own g) nd) (o:= .ins t.bR dg []) Z;refine⟨g,dg,G,M,ai,λH2 no a1 a2 nn kp=>⟨M,?_⟩⟩;have s2:Ds H H2:=λb o e=>kp b o (am e Z) (s1 _ _ e);have C2:=C.same s2;have I:=dn s1 nn;have gc:g≠c:=λz=>by rw[z,U]at Z;cases Z
 have a3:Pe t H2 G kd X'.ra e/\Qc kd X'.ra e:=by
  rcases C2.rt with h|⟨z,h1,h2⟩
  .rw[O]at h;cases h
  .rw[O]at h1;cases h1;exact h2
 refine⟨_,M,c,_,dx,_,M,s2 _ _ U,T.aA,T.b6,(by show 6<1000;decide),?_⟩;rw[bK ∅,bK ∅,bK ∅,bK ∅,bK ∅,lY];have C3:=C2.setc (n:=X'.n) (pg:=some<|Rg g no G X'.ra) (dx:=dx) C2.rt λP z=>by
  cases z;exact⟨⟨⟨dg,a1⟩,a2,a3,.inl M,(λ_ z=>by cases z),(λ_ z=>by cases z)⟩,λz=>by rw[show no=dd from z,C.cp]at I;cases I⟩
 have a4:=s2 _ _ U;have nc:¬F c:=Y c (.inl<|.inl M);rw[O]at C3;have A3:=(A.same s2).upd (o:= .ins t.aU dx<|Rs a p (.ref G) X'.n dd<|.ref g) nc λxs z=>by rw[a4]at z;cases z
 have k3:∀b o,b≠c->H2 b=some o->upd H2 c (.ins t.aU dx<|Rs a p (.ref G) X'.n dd<|.ref g) b=some o:=λb o n e=>by rwa[ae n]
 change yC _ _ _ _ (upd H2 c<|.ins t.aU dx<|Rs a p (.ref G) X'.n dd<|.ref g)at*;change PR t (upd H2 c<|.ins t.aU dx<|Rs a p (.ref G) X'.n dd<|.ref g) _ _ _ _ _ _ _ _ at C3;generalize upd H2 c (.ins t.aU dx<|Rs a p (.ref G) X'.n dd<|.ref g)=H3 at C3 A3 k3⊢;obtain⟨da,fa,ha,hm,_⟩:=A3.ins;obtain⟨d3,h3⟩:=C3.ob;refine⟨_,M,c,_,d3,_,_,M,h3,T.aA,T.eL,M,a,da,fa,M,ha,hm _ ∅,a,F,x,M,A3,l,λH4 F4 r A4 f4=>?_⟩;have a5:∀b,PH.adr ⟨.ref G,X'.ra,X'.n,X'.cp,some<|Rg g no G X'.ra⟩ c p dd b->¬F b:=λb hb=>by
  rcases hb with(h|h|⟨P,z,h⟩)|h|h|⟨P,z,h⟩
  .exact Y b<|.inl (.inl h)
  .exact Y b<|.inl (.inr<|.inl h)
  .cases z;rcases h with rfl|rfl
   .exact A.out Z
   .exact A.out I
  .exact Y b<|.inr (.inl h)
  .exact Y b<|.inr (.inr<|.inl<|O.trans h)
  .cases z;rcases h with rfl|h|⟨y,h,_⟩
   .exact Y _<|.inr (.inr<|.inl O)
   .cases h
   .cases h
 obtain⟨C4,a0⟩:=C3.fr a5 A3 f4;have eX:(⟨.ref G,X'.ra,X'.n,X'.cp,some<|Rg g no G X'.ra⟩:PH)={X' with pg:=some (Rg g no G X'.ra)}:=by rw[<-O]
 rw[eX]at C4 a0;exact q H4 F4 r g no A4 C4 a0 Z I λb o n1 n2 e=>f4 b o n2 (k3 b o n1<|s2 _ _ e)
def yQ (K:WN) (t:P5):Sp:=λvs H Q _=>∃(g a tk nd dx:Addr) (n kd:Int) (av e fd ah cl:V) (F:Addr->Prop) (x:PM),vs=[.ref g,.ref a,.int n]/\H g=some (.ins t.bR dx<|RV tk fd ah nd cl)/\¬F g/\PN K t H a F x/\Pe t H tk kd av e/\Qc kd av e/\¬F tk/\1<=n/\n<=1000/\x.st.kv.length<4096/\x.ks.length<4096/\(∀k∈x.ks,0<=k)/\(∀p∈x.st.kv,∃i:Int,p.2= .int i)/\
 ∀(H':Hp) (F':Addr->Prop) (f:Addr) (v:V) (ts:List Tp) (a':V) (R:Int->Bool),PN K t H' a F' x->Fr F F' H H'->¬F' f->H' f=some (.lst<|ts.map λe=>V.ref e.p)->(∀e∈ts,H' e.p=some (.tup [.int e.k,e.v]))->ES t H' F' x.st kd n av e v ts a' R->Q .non (upd H' g<|.ins t.bR dx<|RV tk (.ref f) v nd cl)
def zA:Dr P w K mg base P1 9 t.tS t.mO ["self","house","many"] (yQ K t):=by
 refine T.LG.okl zf λs H vs Q E O h _=>?_;intro X;obtain⟨g,a,tk,nd,dx,n,kd,av,e,fd,ah,cl,F,x,rfl,G,Y,A,Z,on,nt,n1,n2,l4,lk,k0,iv,q⟩:=h;refine aj (P7 3<|aJ (M8 T) O.mo {_} T.O1 T.OV.kp T.NI.choose_spec.1 T.NI.choose_spec.2 ar (ac Kc<|ac (au Ca M)<|ac M2 ag))
   (aj (bh Ca (aP bi PB af<|λ_ _=>M) M)
   (aC (bh Ca (aP bi PB af<|λ_ _=>M) M) ?_))
 intros
 refine⟨_,M,_,M,g,_,dx,_,_,M,G,T.bE,T.qy,M,_,M,a,tk,n,kd,av,e,F,x,M,A,Z,on,nt,n1,n2,l4,lk,k0,iv,λH2 F2 r f v ts a' R A2 I pg U=>?_⟩;obtain⟨h2,a0⟩:=I _ _ Y G;have rg:r≠g:=λz=>by have h:=pg.tu;rw[z,h2]at h;cases h
 unfold RV at h2;refine⟨_,M,r,_,_,_,M,M,PX.of pg.tu,M,_,M,g,_,dx,_,M,h2,T.bE,T.cY,(by show 5<1000;decide),?_⟩;rw[bK ∅,lY];refine⟨_,M,r,_,_,_,M,M,PX.of (by rw[ae rg];exact pg.tu),M,_,M,g,_,dx,_,M,ai,T.bE,T.kf,(by show 5<1000;decide),?_⟩;rw[eE,bK ∅,bK ∅,lY];exact q H2 F2 f v ts a' R A2 I pg.ng.2 pg.li (λu hu=>(pg.rw u hu).1) U
def nU (K:WN) (t:P5):Sp:=λvs H Q _=>∃(c a p dd:Addr) (n kd:Int) (av e:V) (X:PH) (P:Pl) (F:Addr->Prop) (x:PM),vs=[.ref c,.int n]/\PR t H c a p dd kd av e X/\X.pg=some P/\P.fd=none/\PN K t H a F x/\(∀b,X.adr c p dd b->¬F b)/\1<=n/\n<=1000/\x.st.kv.length<4096/\x.ks.length<4096/\(∀k∈x.ks,0<=k)/\(∀p∈x.st.kv,∃i:Int,p.2= .int i)/\
 ∀(H':Hp) (F':Addr->Prop) (f l:Addr) (v:V) (ts:List Tp) (a':V) (R:Int->Bool),PN K t H' a F' x->PR t H' c a p dd kd av e {X with pg:=some {P with fd:=some (f,ts),ah:=v,aa:=a'}}->(∀b,({X with pg:=some {P with fd:=some (f,ts),ah:=v,aa:=a'}}:PH).adr c p dd b->¬F' b)->(∀b o,b≠P.g->¬F b->H b=some o->H' b=some o/\¬F' b)->(∃H1,ES t H1 F' x.st kd n P.ta e v ts a' R)->H' l=some (.lst<|ts.map λe=>V.ref e.p)->¬F' l->l≠f->(∀b o,¬F b->H b=some o->b≠l)->Q (.ref l) H'
def gV:Dr P w K mg base P1 10 t.iH t.cG ["self","many"] (nU K t):=by
 have a3:=Pc.nd;refine T.DO.ok Pc (λvs H Q E h=>?_)<|λa4 A outer s H vs Q E hr h=>?_
 .obtain⟨c,a,p,dd,n,kd,av,e,X,P,F,x,rfl,_⟩:=h;rfl
 .obtain⟨c,a,p,dd,n,kd,av,e,X',G,F,x,rfl,C,Z,a1,A,nF,n1,n2,l4,lk,k0,iv,q⟩:=h;refine aj (P7 2<|au Ca M)
    (aj (aO (PW.pt<|gU (aw dF M2 a8<|ay _)<|gw<|aw iM (au M2 M) a8<|ay _)
   (aB eI)
   aE)
     (aj (aM<|aQ M2 T.bE T.K8 (zA T) hr.mo T.Lw .nil ar<|ac (au Ca M)<|ac Kc ag)
     (aC (aD<|dP BQ {_} T.Ms FA (ac (au M2 M) ag)) ?_)))
  intros
  obtain⟨dx,ho⟩:=C.ob;obtain⟨R0,nn⟩:=C.pg G Z;obtain⟨O,hg⟩:=R0.ob;rw[Z]at ho;rw[a1]at hg;refine⟨_,M,c,_,dx,_,_,M,ho,T.aA,T.b6,M,?_⟩;refine⟨_,M,M,_,M,a6 (λz=>by cases z) ⟨_,M,G.g,_,O,_,_,M,hg,T.bE,T.cY,M,M,_,M,kT M ?_⟩⟩;unfold nQ
  (try dsimp only)
  have ng:¬F G.g:=nF _ (.inl<|.inr<|.inr ⟨G,Z,.inl M⟩);have nt:¬F G.tk:=nF _ (.inr<|.inr<|.inr ⟨G,Z,.inl M⟩);refine⟨_,M,G.g,O,_,M,hg,{_},_,M,c,_,dx,_,_,M,ho,T.aA,T.eL,M,_,M,G.g,a,G.tk,G.nd,O,n,kd,G.ta,e,_,_,_,F,x,M,hg,ng,A,R0.tk.1,R0.tk.2,nt,n1,n2,l4,lk,k0,iv,λH2 F2 f v ts a' R A2 f2 nf hf tu U=>?_⟩;obtain⟨C2,I⟩:=C.fr nF A f2;have a0:=(f2 _ _ ng hg).1;have a2:=(f2 _ _ ng hg).2;have fg:=cJ hf a0 λz=>by cases z
  have C3:=C2.setg Z (fd:=some (f,ts)) (ah:=v) (aa:=a') (cl:=G.cl) (dx:=O) (λy hy=>by cases hy;exact⟨hf,tu⟩) (by
   rcases U.rest with h|⟨q',h1,h2,h3,_⟩
   .exact .inl h.1
   .exact .inr ⟨q',h1,h2,h3⟩)
  have A3:=A2.upd (o:= .ins t.bR O<|RV G.tk (.ref f) v G.nd<|CM G.cl) a2 λxs z=>by rw[a0]at z;cases z
  have k3:∀b o,b≠G.g->H2 b=some o->upd H2 G.g (.ins t.bR O<|RV G.tk (.ref f) v G.nd<|CM G.cl) b=some o:=λb o n e=>by rwa[ae n]
  change PR t (upd H2 G.g<|.ins t.bR O<|RV G.tk (.ref f) v G.nd<|CM G.cl) _ _ _ _ _ _ _ _ at C3;have h3:upd H2 G.g (.ins t.bR O<|RV G.tk (.ref f) v G.nd<|CM G.cl) G.g=some (.ins t.bR O<|RV G.tk (.ref f) v G.nd<|CM G.cl):=ai
  (try dsimp only)
  generalize upd H2 G.g (.ins t.bR O<|RV G.tk (.ref f) v G.nd<|CM G.cl)=H3 at C3 A3 k3 h3⊢;refine⟨_,M,G.g,_,O,_,_,M,h3,T.bE,T.cY,M,f,_,M,.inl<|Fz.of<|k3 _ _ fg hf,λl Y=>?_⟩;have s3:=ak (o:= .lst<|ts.map λe=>V.ref e.p) Y;refine q _ F2 f l v ts a' R (A3.same s3) (C3.same s3) (λb hb=>?_) (λb o n1 n2 e=>⟨s3 _ _<|k3 b o n1 (f2 b o n2 e).1,(f2 b o n2 e).2⟩) ⟨H2,U⟩ ai (A3.out Y) (λz=>by rw[z,k3 _ _ fg hf]at Y;cases Y) λb o n2 e z=>?_
  .rcases hb with(h|h|⟨P,z,h⟩)|h|h|⟨P,z,h⟩
   .exact I b<|.inl (.inl h)
   .exact I b<|.inl (.inr<|.inl h)
   .cases z;exact I b<|.inl (.inr<|.inr ⟨G,Z,h⟩)
   .exact I b<|.inr (.inl h)
   .exact I b<|.inr (.inr<|.inl h)
   .cases z;rcases h with h|h|⟨y,hy,h⟩
    .exact I b<|.inr (.inr<|.inr ⟨G,Z,.inl h⟩)
    .rcases U.rest with g|⟨q',h1,h2,h3,h4,_⟩
     .rw[show v=V.ref b from h]at g;cases g.1
     .rw[show v=V.ref b from h]at h1;cases h1;exact h4
    .cases hy;rwa[h]
  .by_cases c:b=G.g
   .rw[<-z,c,h3]at Y;cases Y
   .rw[<-z,k3 b o c (f2 b o n2 e).1]at Y;cases Y
def nI (K:WN) (t:P5):Sp:=λvs H Q _=>∃(c a p dd:Addr) (kd:Int) (av e:V) (X:PH) (P:Pl) (y:Addr×List Tp) (F:Addr->Prop) (x:PM),vs=[.ref c]/\PR t H c a p dd kd av e X/\X.pg=some P/\P.fd=some y/\P.cl=none/\PN K t H a F x/\(∀b,X.adr c p dd b->¬F b)/\x.now+x.ma<40000/\
 ∀(H':Hp) (F':Addr->Prop) (r:Addr),PN K t H' a F' {x with ma:=x.ma+1,di:=x.di++ [(r,[.str "mark",.int (x.ma+1)])]}->PR t H' c a p dd kd av e {X with pg:=some {P with cl:=some (x.ma+1)}}->(∀b,({X with pg:=some {P with cl:=some (x.ma+1)}}:PH).adr c p dd b->¬F' b)->(∀b o,b≠P.g->¬F b->H b=some o->H' b=some o/\¬F' b)->Q (.int<|x.ma+1) H'
def gh:Dr P w K mg base P1 2 t.hJ t.dI ["self"] (nI K t):=by
 refine T.DF.okl nK λs H vs Q E hr h _=>?_;intro X;obtain⟨c,a,p,dd,kd,av,e,X',G,y,F,x,rfl,C,O,hy,a0,A,nF,l,q⟩:=h;refine aj (P7 1<|au Ca M)
   (aj (aO (PW.pt<|gU (aw dF Kc a8<|ay _)<|gU (aw dF (au Kc M) a8<|ay _)<|gw<|aw iM (au Kc M) a8<|ay _)
    (aB eI)
    aE)
   (aj (bh Kc (aX (au Ca M) T.aT T.sQ (jk T) hr.mo T.tE .nil ar) M)
   (aC (aD<|au Kc M) ?_)))
 intros
 obtain⟨dx,ho⟩:=C.ob;obtain⟨R0,nn⟩:=C.pg G O;obtain⟨U,Z⟩:=R0.ob;rw[O]at ho;rw[hy,a0]at Z;have ng:¬F G.g:=nF _ (.inl<|.inr<|.inr ⟨G,O,.inl M⟩);refine⟨_,M,c,_,dx,_,_,M,ho,T.aA,T.b6,M,?_⟩;refine⟨_,M,M,_,M,a6 (λz=>by cases z) ⟨_,M,G.g,_,U,_,_,M,Z,T.bE,T.cY,M,M,_,M,a6 (λz=>by cases z) ⟨_,M,G.g,_,U,_,_,M,Z,T.bE,T.eK,M,M,_,M,kT M ?_⟩⟩⟩;unfold nQ
 (try dsimp only)
 obtain⟨da,fa,ha,hm,_⟩:=A.ins;refine⟨_,M,c,_,dx,_,_,M,ho,T.aA,T.eL,M,a,da,fa,M,ha,hm _ ∅,a,F,x,M,A,l,λH2 F2 r A2 f2=>?_⟩;obtain⟨Y,a1⟩:=f2 _ _ ng Z;obtain⟨C2,I⟩:=C.fr nF A f2;obtain⟨R2,_⟩:=C2.pg G O;refine⟨_,M,G.g,_,U,_,M,Y,T.bE,T.eK,(by show 5<1000;decide),?_⟩;rw[bK ∅,bK ∅,bK ∅,bK ∅,lY];refine⟨_,M,G.g,_,U,_,_,M,ai,T.bE,T.eK,M,?_⟩;refine q _ F2 r (A2.upd a1 λxs z=>by rw[Y]at z;cases z) (by have h:=C2.setg O (fd:=G.fd) (ah:=G.ah) (aa:=G.aa) (cl:=some<|x.ma+1) (dx:=U) R2.fd R2.ah;rw[show KW G.fd=V.ref y.1 by rw[hy];rfl]at h;exact h) (λb hb=>?_) λb o n1 n2 e=>⟨by rw[ae n1];exact(f2 b o n2 e).1,(f2 b o n2 e).2⟩;rcases hb with(h|h|⟨P,z,h⟩)|h|h|⟨P,z,h⟩
 .exact I b<|.inl (.inl h)
 .exact I b<|.inl (.inr<|.inl h)
 .cases z;exact I b<|.inl (.inr<|.inr ⟨G,O,h⟩)
 .exact I b<|.inr (.inl h)
 .exact I b<|.inr (.inr<|.inl h)
 .cases z;exact I b<|.inr (.inr<|.inr ⟨G,O,h⟩)
def uj (t:P5):Sp:=λvs H Q _=>∃(c a p dd:Addr) (kd:Int) (av e:V) (X:PH),vs=[.ref c]/\PR t H c a p dd kd av e X/\Q (.int X.n) H
def kN:Dr P w K mg base P1 1 t.nB t.iA ["self"] (uj t):=by
 refine T.Hj.okl ut λs H vs Q E G h _=>?_;intro X;obtain⟨c,a,p,dd,kd,av,e,X',rfl,C,q⟩:=h;refine⟨_,(aB<|aD<|au Ca M)
  ,?_⟩
 obtain⟨dx,z⟩:=C.ob;exact⟨_,M,c,_,dx,_,_,M,z,T.aA,T.b9,M,q⟩
def vE (t:P5):Sp:=λvs H Q _=>∃(c a p dd:Addr) (kd:Int) (av e:V) (X:PH),vs=[.ref c]/\PR t H c a p dd kd av e X/\Q X.rv H
def eJ:Dr P w K mg base P1 1 t.pJ t.jz ["self"] (vE t):=by
 refine T.JP.okl vO λs H vs Q E G h _=>?_;intro X;obtain⟨c,a,p,dd,kd,av,e,X',rfl,C,q⟩:=h;refine⟨_,(aB<|aD<|au Ca M)
  ,?_⟩
 obtain⟨dx,z⟩:=C.ob;exact⟨_,M,c,_,dx,_,_,M,z,T.aA,T.cK,M,q⟩
def vG (t:P5):Sp:=λvs H Q _=>∃(c a p dd:Addr) (kd:Int) (av e:V) (X:PH),vs=[.ref c]/\PR t H c a p dd kd av e X/\∀r,H r=none->Q (.ref r) (upd H r<|.dK<|az X.cp)
def mX:Dr P w K mg base P1 1 t.pL t.jA ["self"] (vG t):=by
 refine T.JR.okl vP λs H vs Q E G h _=>?_;intro X;obtain⟨c,a,p,dd,kd,av,e,X',rfl,C,q⟩:=h;refine⟨_,(aB<|aD<|dP jB {_} T.wA qa (ac (au Ca M) ag))
  ,?_⟩
 obtain⟨dx,z⟩:=C.ob;exact⟨_,M,c,_,dx,_,_,M,z,T.aA,T.cM,M,dd,_,M,C.cp,q⟩
def ui (t:P5):Sp:=λvs H Q _=>∃(c a p dd:Addr) (kd:Int) (av e:V) (X:PH) (ns:List Int),vs=[.ref c]/\PR t H c a p dd kd av e X/\X.cp.map (·.2)=ns.map V.int/\∀H',Ds H H'->Q (.int ns.sum) H'
def uI:Dr P w K mg base P1 1 t.nz t.iz ["self"] (ui t):=by
 refine T.Hh.okl ur λs H vs Q E G h _=>?_;intro X;obtain⟨c,a,p,dd,kd,av,e,X',ns,rfl,C,I,q⟩:=h;refine⟨_,(aB<|aD<|aI (Ax G.hd) {_} T.NX Jy (ac (uD QY Xu V7 uK<|au Ca M) ag))
  ,?_⟩
 obtain⟨dx,O⟩:=C.ob;exact⟨_,M,c,_,dx,_,_,M,O,T.aA,T.cM,M,.inr<|.inr<|.inl ⟨M,.inl ⟨_,C.cp⟩⟩,dd,_,M,M,C.cp,λv z=>⟨v,dd,_,ns,M,ai,ak z _ _ C.cp,by unfold az;rw[QR];exact I,q _<|ak z⟩⟩
def OT (t:P5) (H:Hp) (st:V) (p:Addr) (kd:Int) (av e:V) (x:PM) (X:PH):Prop:=X.pg=none/\((st= .non/\X.rv= .ref p/\X.ra=av/\X.n=x.di.length/\X.cp=[])\/∃tp d0:Addr,st= .ref tp/\H tp=some (.tup [X.rv,.int X.n,.ref d0])/\H d0=some (.dK<|az X.cp)/\R7 t H X.rv kd X.ra e)
def vF (K:WN) (t:P5):Sp:=λvs H Q _=>∃(c dx a p:Addr) (kd:Int) (av e st:V) (F:Addr->Prop) (x:PM) (X:PH),vs=[.ref c,.ref a,.ref p,st]/\H c=some (.ins t.aU dx [])/\PN K t H a F x/\Pe t H p kd av e/\Qc kd av e/\OT t H st p kd av e x X/\
 ∀H' dd,PR t H' c a p dd kd av e X->H dd=none->(∀b o,b≠c->H b=some o->H' b=some o)->Q .non H'
def vY:Dr P w K mg base P1 2 t.pK t.f8 ["self","house","token","stopped"] (vF K t):=by
 have a3:=Ps.nd;refine T.JQ.ok Ps (λvs H Q E h=>?_)<|λa4 A outer s H vs Q E hr h=>?_
 .obtain⟨c,dx,a,p,kd,av,e,st,F,x,X,rfl,_⟩:=h;rfl
 .obtain⟨c,dx,a,p,kd,av,e,st,F,x,X',rfl,hc,A,TK,on,hI,q⟩:=h;refine bW (λx=>aO (aw dF PB a8<|ay _) x aE) ?_;refine aC (P7 3<|bQ<|ac M2<|ac (aI aH {_} T.bU bp (ac (aX Kc T.aT T.oR (ip T) hr.mo T.iB.choose_spec.1 T.iB.choose_spec.2 ar) ag))<|ac fJ ag) ?_
  intros
  refine aj (bh Ca Kc M)
    (aj (bh Ca M2 M)
    (aj (bh Ca (aP bi PB af<|λ_ _=>M) M)
    (aj (bh Ca (aP bi PB af<|λ_ _=>M) M)
    (aj (bh Ca (dP jB {_} T.wA qa (ac (aP bi PB af<|λ_ _=>M) ag)) M)
    (aC (bh Ca a8 M) ?_)))))
  intros
  obtain⟨da,fa,hi,hm,_⟩:=A.ins;obtain⟨hp,hI⟩:=hI;refine c7 (λB H'=>∃G d0:Addr,B=[some (.ref c),some (.ref a),some (.ref p),some (.ref G)]/\Ds H H'/\H' G=some (.tup [X'.rv,.int X'.n,.ref d0])/\H' d0=some (.dK<|az X'.cp)/\R7 t H' X'.rv kd X'.ra e) (λnx go=>?_)<|λB H2 w=>?_
  .rcases hI with⟨rfl,h1,h2,Z,h4⟩|⟨G,d0,rfl,h1,h2,Z⟩
   .refine⟨_,M,M,_,M,fj M ⟨_,M,_,M,a,da,fa,M,hi,hm _ ∅,a,0,F,x,M,A,Xa _,λH1 r s1 nr hr=>⟨r,_,M,.inl<|Fz.of hr,λd0 a1=>⟨(by show 3<=sizeLine;decide),λG a0=>?_⟩⟩⟩⟩;rw[Q0,show(0:Int).toNat=0 from rfl,ZM];have U:=(s1.trans<|ak (o:= .dK []) a1).trans (ak (o:= .tup [.ref p,.int x.di.length,.ref d0]) a0);exact go _ _ ⟨G,d0,M,U,by rw[h1,Z];exact ai,by rw[h4];exact ak a0 _ _ ai,.inr ⟨p,h1,by rw[h2];exact⟨TK.same U,on⟩⟩⟩
   .exact⟨_,M,M,_,M,a6 (λz=>by cases z)<|go _ _ ⟨G,d0,M,Ds.refl _,h1,h2,Z⟩⟩
  obtain⟨G,d0,rfl,U,I,Y,a2⟩:=w;have O:=U _ _ hc;have n1:G≠c:=λz=>by rw[z,O]at I;cases I
  have n2:d0≠c:=λz=>by rw[z,O]at Y;cases Y
  refine⟨_,M,_,M,c,_,dx,[],M,O,T.aA,T.eL,mq (by kernel_rfl),cR λH3 Z o3=>?_⟩;refine⟨_,M,_,M,c,_,dx,_,M,Z,T.aA,T.vZ,mq (by kernel_rfl),cR λH4 h4 o4=>?_⟩;refine⟨_,M,G,_,_,_,M,M,PX.of (by rw[o4 _ n1,o3 _ n1];exact I),M,_,M,c,_,dx,_,M,h4,T.aA,T.cK,mq (by kernel_rfl),cR λH5 h5 o5=>?_⟩;have kp:∀{b:Addr},b≠c->H5 b=H2 b:=λn=>by rw[o5 _ n,o4 _ n,o3 _ n]
  refine⟨_,M,G,_,_,_,M,M,PX.of (by rw[kp n1];exact I),M,_,M,c,_,dx,_,M,h5,T.aA,T.b9,mq (by kernel_rfl),cR λH6 h6 o6=>?_⟩;refine⟨_,M,G,_,_,_,M,M,PX.of (by rw[o6 _ n1,kp n1];exact I),M,d0,_,M,by rwa[o6 _ n2,kp n2],λdd nd=>?_⟩;refine⟨_,M,c,_,dx,_,M,ak nd _ _ h6,T.aA,T.cM,mq (by kernel_rfl),cR λH7 h7 o7=>?_⟩;refine⟨_,M,c,_,dx,_,M,h7,T.aA,T.b6,mq (by kernel_rfl),cR λH8 h8 o8=>?_⟩;have nc:=(am h6 nd).symm;have k8:∀b o,b≠c->H2 b=some o->H8 b=some o:=λb o n e=>by
   rw[o8 b n,o7 b n];exact ak nd _ _<|by rwa[o6 b n,kp n]
  have tk:∀{q:Addr} {a':V},Pe t H2 q kd a' e->Pe t H8 q kd a' e:=λh=>by
   obtain⟨dq,fq,h1,h2⟩:=id h;exact⟨dq,fq,k8 _ _ (h.ne O M) h1,h2⟩
  exact q _ dd ⟨⟨dx,by rw[hp];exact h8.trans<|by kernel_rfl⟩,by rw[o8 _ nc,o7 _ nc];exact ai,⟨tk<|TK.same U,on⟩,a2.imp id λ⟨q,g1,g2,g3⟩=>⟨q,g1,tk g2,g3⟩,λ_ z=>by rw[hp]at z;cases z⟩ (dn U<|by rw[o6 _ nc,kp nc]at nd;exact nd) λb o n e=>k8 b o n (U _ _ e)
def qY (t:P5):Sp:=λvs H Q _=>∃(c a p dd:Addr) (kd:Int) (av e:V) (X:PH),vs=[.ref c]/\PR t H c a p dd kd av e X/\∀(H':Hp) (tp d0:Addr),Ds H H'->H tp=none->H d0=none->H' tp=some (.tup [X.rv,.int X.n,.ref d0])->H' d0=some (.dK<|az X.cp)->Q (.ref tp) H'
def rE:Dr P w K mg base P1 1 t.jS t.f7 ["self"] (qY t):=by
 refine T.FN.okl rf λs H vs Q E O h _=>?_;intro X;obtain⟨c,a,p,dd,kd,av,e,X',rfl,C,q⟩:=h;refine⟨_,(aB<|aD<|bQ<|ac (au Ca M)<|ac (au Ca M)<|ac (dP jB {_} T.wA qa (ac (au Ca M) ag)) ag)
  ,?_⟩
 obtain⟨dx,G⟩:=C.ob;refine⟨_,M,c,_,dx,_,_,M,G,T.aA,T.cK,M,_,M,c,_,dx,_,_,M,G,T.aA,T.b9,M,_,M,c,_,dx,_,_,M,G,T.aA,T.cM,M,dd,_,M,C.cp,λd0 nd=>⟨(by show 3<=sizeLine;decide),λI z=>?_⟩⟩;exact q _ I d0 ((ak nd).trans<|ak z) (dn (ak nd) z) nd ai<|ak z _ _ ai
def zV:(0:Int)<10^(38:Int).toNat:=by decide
def L3 {i:Int} (G:0<=i) (h1:i<=11) (z:0<=m) (I:m<=65536):0<=i*m/\i*m<=720896:=⟨V1 G z,Int.le_trans (Int.mul_le_mul h1 I z (_)) (_)⟩
def KD (H:Hp) (c n way:Int):St->Hp->Prop:=λB H'=>H=H'/\∃st:Int,B=[some (.int c),some (.int st),some (.int n),some (.int way),none]/\0<=st/\st<=10^38
def Cu:Sp:=λvs H Q _=>∃c:Int,vs=[.int c]/\∀(H':Hp) (r:Addr) (rs:List Int),Ds H H'->H r=none->H' r=some (.lst<|rs.map V.int)->rs.length<=12->(∀k∈rs,0<=k/\k<10^39)->Q (.ref r) H'
def CL:Dr P w K mg base P1 2 t.yo t.rM ["_law_cell"] Cu:=by
 refine T.EO.okl PF λs H vs Q E hr h _=>?_;intro X;obtain⟨c,rfl,q⟩:=h;refine bW (λx=>aO (aw bT (ao aS Ca af) af<|ay _) x aE) ?_;refine aj (oA (i:=1) PF.nd M (Or.inr M)<|ao aS (ao aR Ca af)<|ao j8 af af)
   (aC (aD<|pS M (P6.of (M':=["_law_k"]) (N:=["_law_cell","_law_start","_law_number","_law_way","_law_step"]) (N':=["_law_cell","_law_start","_law_number","_law_way","_law_step"]) (dsc:=al i5) M M ∅) (iU {_} T.pO (ac (ao bF af<|ao aS (ao aR Ca af) af) ag))<|λ_ _ _ _ _=>(ao bF M2<|ao cQ Ca<|aP (IU K M) (cn<|ac af<|ac af<|ac af<|ac af<|ac af ag) (ao aS (ao aR Kc af) af)<|λ_ _=>M)) ?_)
 intros
 refine aj (P7 2<|aJ (qr T) hr.mo {_} T.BD T.t9.kp T.BZ .nil ar (ac Ca<|ac af ag))
   (aj (P7 3<|ao aS M2 af)
   (aj (oA (i:=1) PF.nd M (Or.inr M)<|ao aS (ao aR M2 af) af)
   (aj (aO (aw bT PB af<|ay _)
    (aB<|oA (i:=1) PF.nd M (Or.inr M)<|ao aS (ao aR Ca af)<|ao j8 af af)
    aE)
   (aj (aO (aw bT PB af<|ay _)
    (aB<|oA (i:=1) PF.nd M (Or.inr M)<|ao cQ af<|ao aS (ao aR M2 af) af)
    aE)
   (bW (λx=>aO (aw bT PB af<|ay _) x aE) ?_)))))
 refine aC (oA (i:=1) PF.nd M (Or.inr M)<|ao bF (ao cQ af<|ao aS (ao aR M2 af) af)<|ao aS (ao aR M2 af) af) ?_
 intros
 refine aj (aO (aw bT PB af<|ay _)
    (aB<|oA (i:=1) PF.nd M (Or.inr M)<|ao aS (ao aR M2 af) af)
    aE)
   (aj (oA (i:=4) PF.nd M (Or.inr M)<|aP aW (cn<|ac af<|ac af<|ac af<|ac af<|ac af ag) (ao aS (ao aR M2 af) af)<|λ_ _=>M)
   (aC (aD<|pS M (P6.of (M':=["_law_k"]) (N:=["_law_cell","_law_start","_law_number","_law_way","_law_step"]) (N':=["_law_cell","_law_start","_law_number","_law_way","_law_step"]) (dsc:=al i5) M M ∅) (iU {_} T.pO (ac (ao bF af<|ao aS (ao aR M2 af) af) ag))<|λ_ _ _ _ _=>(ao bF M2<|ao cQ Ca Qi)) ?_))
 intros
 have two:(0:Int)<2:=by decide
 have a2:(10:Int)^(38:Int).toNat=10^38:=M;refine⟨_,M,_,_,M,M,two,M,_,M,bP (λz=>?_)<|λz=>?_⟩
 .have G:=QA (c/120) (Zs zV);have s1:=Qx (c/120) zV;refine⟨_,M,_,_,M,M,⟨(_),(_)⟩,_,_,M,M,⟨(_),(_),(_)⟩,_,_,M,M,zV,?_⟩
  (try dsimp only)
  generalize c/120%10^(38:Int).toNat=st at G s1⊢;rw[a2]at s1;have b0:=QA (c/2) (show(12:Int)≠0 by decide);have b1:=Qx (c/2) (show(0:Int)<12 by decide);refine⟨_,M,_,_,M,M,⟨(_),(_)⟩,_,_,M,M,(by show(0:Int)<12;decide),_,_,M,M,?_⟩
  (try dsimp only)
  generalize c/2%12=m at b0 b1⊢;refine⟨1+m,M,(),(),λD hD=>rN (n:=(1+m).toNat) (lo:=0) (λi ys H2=>Ds H H2/\∃rs:List Int,ys=rs.map V.int/\rs.length=i/\∀k∈rs,0<=k/\k<10^39) ⟨ak hD,[],M,M,λ_ z=>Wb z ZW⟩ (λi ys H2 hi w I=>?_)<|λys H2 w I=>?_⟩
  .obtain⟨U,rs,rfl,lr,hb⟩:=w;obtain⟨sp,Y,p0,p1⟩:=z7 (c:=c/24) (n:=5) (L:=[.int 1,.int 3,.int 256,.int 65536,.int 5000]) (P:=λm=>0<=m/\m<=65536) ⟨⟨(_),(_)⟩,⟨(_),(_)⟩,⟨(_),(_)⟩,⟨(_),(_)⟩,⟨(_),(_)⟩,trivial⟩ M (_);refine⟨_,M,_,M,(by show 5<=sizeLine;decide),λp np=>⟨_,M,_,_,M,M,⟨(_),(_)⟩,_,_,M,M,(by show(0:Int)<5;decide),p,_,_,_,M,M,Fz.of ai,Y,_,_,M,M,.inr ⟨(),()⟩,_,_,M,M,?_⟩⟩;have O:=ak (o:= .lst [.int 1,.int 3,.int 256,.int 65536,.int 5000]) np
   (try dsimp only)
   generalize upd H2 p (.lst [.int 1,.int 3,.int 256,.int 65536,.int 5000])=H3 at O⊢;obtain⟨x0,x1⟩:=L3 (i:=0+(i:Int)) () () p0 p1;generalize (0+(i:Int))*sp=x at x0 x1⊢;refine PY.mk hi (O _ _ I) (cX<|by rw[Q0];lia) ⟨bZ (U.trans O) hD,rs++ [st+x],by rw[QC];rfl,by rw[Q8,lr];rfl,λk hk=>?_⟩;rcases Q5.mp hk with hk|hk
   .exact hb k hk
   .rw[Q7.mp hk];constructor<;>lia
  .obtain⟨U,rs,rfl,lr,hb⟩:=w;exact q H2 D rs U hD I () hb
 clear z;refine⟨_,M,c,1,M,λn n0 n1=>?_⟩;refine⟨_,M,_,_,M,M,(by show(0:Int)<5;decide),?_⟩
 (try dsimp only)
 generalize n%5=way;have G:=QA (n/5) (show(50:Int)≠0 by decide);have s1:=Qx (n/5) (show(0:Int)<50 by decide);refine⟨_,M,_,_,M,M,⟨(_),(_)⟩,_,_,M,M,(by show(0:Int)<50;decide),?_⟩
 (try dsimp only)
 generalize n/5%50=st at G s1⊢;refine c7 (KD H c n way) (λnx go=>?_)<|λZ H1 w=>?_
 .refine⟨_,M,M,_,M,bP (λz=>?_)<|λz=>go _ _ ⟨M,st,M,G,()⟩⟩;have a0:=QA (c/5) (Zs zV);have a1:=Qx (c/5) zV;refine⟨_,M,_,_,M,M,⟨(_),(_)⟩,_,_,M,M,⟨(_),(_),(_)⟩,_,_,M,M,zV,go _ _ ⟨M,_,M,a0,?_⟩⟩;rw[a2]at a1⊢;lia
 clear G s1 st;obtain⟨rfl,st,rfl,G,s1⟩:=w;refine c7 (KD H c n way) (λnx go=>?_)<|λZ H1 w=>?_
 .refine⟨_,M,M,_,M,bP (λz=>?_)<|λz=>go _ _ ⟨M,st,M,G,s1⟩⟩;have a0:=QA (n/5) (show(40:Int)≠0 by decide);have a1:=Qx (n/5) (show(0:Int)<40 by decide);exact⟨_,M,_,_,M,M,⟨(_),(_)⟩,_,_,M,M,(by show(0:Int)<40;decide),_,_,M,M,.inl ⟨(_),(_)⟩,go _ _ ⟨M,_,M,(),()⟩⟩
 clear G s1 st;obtain⟨rfl,st,rfl,G,s1⟩:=w;refine c7 (KD H c n way) (λnx go=>?_)<|λZ H1 w=>?_
 .refine⟨_,M,M,_,M,bP (λz=>?_)<|λz=>go _ _ ⟨M,st,M,G,s1⟩⟩;have a0:=QA (n/5) (show(9:Int)≠0 by decide);have a1:=Qx (n/5) (show(0:Int)<9 by decide);have b0:=QA (n/45) (show(7:Int)≠0 by decide);have b1:=Qx (n/45) (show(0:Int)<7 by decide);exact⟨_,M,_,_,M,M,⟨(_),(_)⟩,_,_,M,M,(by show(0:Int)<9;decide),_,_,M,M,.inl ⟨(_),(_)⟩,_,M,_,_,M,M,⟨(_),(_)⟩,_,_,M,M,(by show(0:Int)<7;decide),_,_,M,M,go _ _ ⟨M,_,M,(),()⟩⟩
 clear G s1 st;obtain⟨rfl,st,rfl,G,s1⟩:=w;refine c7 (KD H c n way) (λnx go=>?_)<|λZ H1 w=>?_
 .refine⟨_,M,M,_,M,bP (λz=>?_)<|λz=>go _ _ ⟨M,st,M,G,s1⟩⟩;have a0:=QA (n/5) (show(3000:Int)≠0 by decide);have a1:=Qx (n/5) (show(0:Int)<3000 by decide);exact⟨_,M,_,_,M,M,⟨(_),(_)⟩,_,_,M,M,(by show(0:Int)<3000;decide),go _ _ ⟨M,_,M,(),()⟩⟩
 clear G s1 st;obtain⟨rfl,st,rfl,G,s1⟩:=w;obtain⟨sp,Y,p0,p1⟩:=z7 (c:=n/20000) (n:=5) (L:=[.int 1,.int 3,.int 256,.int 65536,.int 5000]) (P:=λm=>0<=m/\m<=65536) ⟨⟨(_),(_)⟩,⟨(_),(_)⟩,⟨(_),(_)⟩,⟨(_),(_)⟩,⟨(_),(_)⟩,trivial⟩ M (_);refine⟨(by show 5<=sizeLine;decide),λp np=>⟨_,M,_,_,M,M,⟨(_),(_)⟩,_,_,M,M,(by show(0:Int)<5;decide),p,_,_,_,M,M,Fz.of ai,Y,?_⟩⟩;have O:=ak (o:= .lst [.int 1,.int 3,.int 256,.int 65536,.int 5000]) np
 (try dsimp only)
 generalize upd H p (.lst [.int 1,.int 3,.int 256,.int 65536,.int 5000])=H3 at O⊢;have b0:=QA (n/100000) (show(12:Int)≠0 by decide);have b1:=Qx (n/100000) (show(0:Int)<12 by decide);refine⟨_,M,_,_,M,M,⟨(_),(_)⟩,_,_,M,M,(by show(0:Int)<12;decide),_,_,M,M,?_⟩
 (try dsimp only)
 generalize n/100000%12=m at b0 b1⊢;refine⟨1+m,M,(),(),λD hD=>rN (n:=(1+m).toNat) (lo:=0) (λi ys H2=>Ds H3 H2/\∃rs:List Int,ys=rs.map V.int/\rs.length=i/\∀k∈rs,0<=k/\k<10^39) ⟨ak hD,[],M,M,λ_ z=>Wb z ZW⟩ (λi ys H2 hi w I=>?_)<|λys H2 w I=>?_⟩
 .obtain⟨U,rs,rfl,lr,hb⟩:=w;obtain⟨x0,x1⟩:=L3 (i:=0+(i:Int)) () () p0 p1;refine⟨_,M,_,M,_,M,_,_,M,M,.inr ⟨(),()⟩,_,_,M,M,?_⟩
  (try dsimp only)
  generalize (0+(i:Int))*sp=x at x0 x1⊢;refine PY.mk hi I (cX<|by rw[Q0];lia) ⟨bZ U hD,rs++ [st+x],by rw[QC];rfl,by rw[Q8,lr];rfl,λk hk=>?_⟩;rcases Q5.mp hk with hk|hk
  .exact hb k hk
  .rw[Q7.mp hk];constructor<;>lia
 .obtain⟨U,rs,rfl,lr,hb⟩:=w;exact q H2 D rs (O.trans U) (dn O hD) I () hb
def Wh (F:Addr->Prop) (d:Addr):Addr->Prop:=λb=>F b\/b=d
def Fr.wh {d:Addr} (f:Fr F F' H H'):Fr (Wh F d) (Wh F' d) H H':=λb o n G=>⟨(f b o (λz=>n<|.inl z) G).1,λz=>z.elim (f b o (λz=>n<|.inl z) G).2 λz=>n<|.inr z⟩
def Fr.wd {d:Addr}:Fr (Wh F d) (Wh F d) H (upd H d o):=λb o n G=>⟨by rwa[ae λz=>n (.inr z)],n⟩
structure Jd (K:WN) (t:P5) (H:Hp) (a d:Addr) (F:Addr->Prop) (x:PM) (ds:List DR):Prop where
 A:PN K t H a F x
 di:H d=some (.dK<|az x.st.kv)
 nd:¬F d
 kb:∀k∈x.st.kv.map (·.1),0<=k/\k<10^40
 iv:∀p∈x.st.kv,∃i:Int,p.2= .int i
 le:x.st.kv.length<=400
 dy:Rk x ds
 D:RL ds
 tb:tbl ds=x.st.kv
 mx:∀y∈ds,∀m,y.r= .mark m->m<=x.ma
 fl:x.fl=0
 ho:x.ho=[]
def HS {kv:List (Int×V)} {i:Int} (h:∀p∈kv,∃i:Int,p.2= .int i):∀p∈bn kv k (.int i),∃i:Int,p.2= .int i:=λp z=>by
 unfold bn at z;split at z
 .obtain⟨q,hq,rfl⟩:=Qy.mp z;by_cases c:q.1=k
  .exact⟨i,by rw[W7 c]⟩
  .rw[W6 c];exact h q hq
 .rcases Q5.mp z with y|y
  .exact h p y
  .rw[Q7.mp y];exact⟨i,M⟩
def RL.snoc {y:DR} (D:RL ds) (k0:∀k,y.r.key=some k->0<=k) (O:∀m,y.r= .mark m->∀z∈ds,z.r≠ .mark m) (d0:∀k,y.r= .drop k->(aF (tbl ds) k).isSome=true):RL (ds++ [y]):=by
 have at_:∀(i:Nat) (z:DR),(ds++ [y])[i]?=some z->ds[i]?=some z\/(i=ds.length/\z=y):=λi z h=>by
  rcases Nat.lt_trichotomy i ds.length with c|c|c
  .rw[Zt c]at h;exact .inl h
  .rw[c,Zq (Q4 _),Nat.sub_self]at h;exact .inr ⟨c,(W8 h).symm⟩
  .rw[Vh (by rw[Q8,Zw];lia)]at h;cases h
 refine⟨λz hz k hk=>?_,λi j u v m hu Y G I=>?_,λi z k hz U=>?_⟩
 .rcases Q5.mp hz with h|h
  .exact D.kb z h k hk
  .rw[Q7.mp h]at hk;exact k0 k hk
 .rcases at_ i u hu with h1|⟨h1,rfl⟩<;>rcases at_ j v Y with h2|⟨h2,rfl⟩
  .exact D.un i j u v m h1 h2 G I
  .exact Wb G<|O m I u (Q2 h1)
  .exact Wb I<|O m G v (Q2 h2)
  .rw[h1,h2]
 .rcases at_ i z hz with h1|⟨h1,rfl⟩
  .rw[Z2 (Zl (Q1.mp h1).1)];exact D.dr i z k h1 U
  .rw[h1,Z2 (Q4 _),QX];exact d0 k U
def Rk.snoc {x:PM} {y:DR} (h:Rk x ds) (e:x'.di=x.di++ [(y.p,y.r.vs)]):Rk x' (ds++ [y]):=by
 unfold Rk at h⊢;rw[e,h,QC];rfl
section
variable {d:Addr} {x:PM} {i:Int}
def Jd.fr (J:Jd K t H a d F x ds) (A:PN K t H' a F' x) (f:Fr F F' H H'):Jd K t H' a d F' x ds:=⟨A,(f _ _ J.nd J.di).1,(f _ _ J.nd J.di).2,J.kb,J.iv,J.le,J.dy,J.D,J.tb,J.mx,J.fl,J.ho⟩
def Jd.same (J:Jd K t H a d F x ds) (s:Ds H H'):Jd K t H' a d F x ds:=J.fr (J.A.same s) (Fr.of_same s)
def Jd.put (J:Jd K t H a d F x ds) (A:PN K t H' a F' x') (f:Fr F F' H H') (e:x'.st=x.st.put k (.int i)) (m:x'.ma=x.ma) (e2:x'.di=x.di++ [(r,[.str "put",.int k,.int i])]) (O:x'.fl=x.fl) (U:x'.ho=x.ho) (k0:0<=k/\k<10^40) (l:x.st.kv.length<=399):Jd K t (L2.upd H' d<|.dK<|az<|bn x.st.kv k<|.int i) a d F' x' (ds++ [⟨r,.put k i⟩]):=by
 obtain⟨d1,I⟩:=f _ _ J.nd J.di;have G:x'.st.kv=bn x.st.kv k (.int i):=by rw[e];exact O8.three_kv
 refine⟨A.upd I (λxs z=>by rw[d1]at z;cases z),by rw[G];exact ai,I,λz hz=>?_,by rw[G];exact HS J.iv,?_,J.dy.snoc e2,J.D.snoc (λz hz=>by cases hz;exact k0.1) (λ_ z=>by cases z) (λ_ z=>by cases z),?_,λy hy z hz=>?_,O.trans J.fl,U.trans J.ho⟩
 .rw[G,sU]at hz;split at hz
  .exact J.kb z hz
  .rcases Q5.mp hz with y|y
   .exact J.kb z y
   .rwa[Q7.mp y]
 .rw[G];have:=cu x.st.kv k (.int i);lia
 .rw[rV,J.tb,G];rfl
 .rw[m];rcases Q5.mp hy with h|h
  .exact J.mx y h z hz
  .rw[Q7.mp h]at hz;cases hz
def Jd.drop (J:Jd K t H a d F x ds) (A:PN K t H' a F' x') (f:Fr F F' H H') (e:x'.st=x.st.drop k) (m:x'.ma=x.ma) (e2:x'.di=x.di++ [(r,[.str "drop",.int k])]) (U:x'.fl=x.fl) (Y:x'.ho=x.ho) (k0:0<=k) (hs:(aF x.st.kv k).isSome=true):Jd K t (L2.upd H' d<|.dK<|az<|bN x.st.kv k) a d F' x' (ds++ [⟨r,.drop k⟩]):=by
 obtain⟨d1,O⟩:=f _ _ J.nd J.di;have G:x'.st.kv=bN x.st.kv k:=by rw[e];exact O8.three_kv
 have sub:∀p∈bN x.st.kv k,p∈x.st.kv:=λp I=>(QS.mp I).1;refine⟨A.upd O (λxs z=>by rw[d1]at z;cases z),by rw[G];exact ai,O,λz hz=>?_,by rw[G];exact λp I=>J.iv p<|sub p I,?_,J.dy.snoc e2,J.D.snoc (λz hz=>by cases hz;exact k0) (λ_ z=>by cases z) (λz hz=>by cases hz;rwa[J.tb]),?_,λy hy z hz=>?_,U.trans J.fl,Y.trans J.ho⟩
 .rw[G]at hz;obtain⟨p,I,rfl⟩:=Qy.mp hz;exact J.kb _<|Qy.mpr ⟨p,sub p I,M⟩
 .rw[G];exact QQ (QK _ _) J.le
 .rw[rV,J.tb,G];rfl
 .rw[m];rcases Q5.mp hy with h|h
  .exact J.mx y h z hz
  .rw[Q7.mp h]at hz;cases hz
def Jd.mark (J:Jd K t H a d F x ds) (A:PN K t H' a F' x') (h1:H' d=some (.dK<|az x.st.kv)) (h2:¬F' d) (e:x'.st=x.st) (m:x'.ma=x.ma+1) (e2:x'.di=x.di++ [(r,[.str "mark",.int (x.ma+1)])]) (G:x'.fl=x.fl) (I:x'.ho=x.ho):Jd K t H' a d F' x' (ds++ [⟨r,.mark<|x.ma+1⟩]):=by
 refine⟨A,by rwa[e],h2,by rw[e];exact J.kb,by rw[e];exact J.iv,by rw[e];exact J.le,J.dy.snoc e2,J.D.snoc (λz hz=>by cases hz) (λz hz y hy h=>?_) (λ_ z=>by cases z),?_,λy hy z hz=>?_,G.trans J.fl,I.trans J.ho⟩
 .cases hz;have:=J.mx y hy _ h;lia
 .rw[rV,J.tb,e];rfl
 .rw[m];rcases Q5.mp hy with h|h
  .have:=J.mx y h z hz;lia
  .rw[Q7.mp h]at hz;cases hz;lia
def Jd.len (J:Jd K t H a d F x ds):(ds.length:Int)=x.now+x.ma:=by
 have:=J.A.ok.dl;rw[J.dy,Q0]at this;exact this
end
def A7 (K:WN) (t:P5):Sp:=λvs H Q _=>∃(a d:Addr) (c:Int) (F:Addr->Prop) (x:PM) (ds:List DR) (N:Nat),vs=[.ref a,.ref d,.int c]/\Jd K t H a d F x ds/\x.now+x.ma<3900/\x.st.kv.length<=N/\300<=N/\N<=390/\
 ∀(H':Hp) (F':Addr->Prop) (x':PM) (more:List DR),Jd K t H' a d F' x' (ds++more)->x'.now<=x.now+12->x'.ma=x.ma->x'.st.kv.length<=N->Fr (Wh F d) (Wh F' d) H H'->Q .non H'
def mf:Dr P w K mg base P1 7 t.vq t.oX ["_law_house_here","_law_kept","_law_cell"] (A7 K t):=by
 refine T.pN.okl Bg λs H vs Q E U h _=>?_;intro X;obtain⟨a,d,c,F,x,ds,N,rfl,J,l1,l0,N1,N2,q⟩:=h;refine aj (P7 3<|aJ (CL T) U.mo {_} T.Nb T.EO.kp T.NH .nil ar (ac (ao aR M2 af) ag))
   (mY (λx=>(fH Wm M (iU {_} T.pO (ac (aI aH {_} T.bU bp (ac PB ag)) ag)) (Qu 4)
    x)) ?_)
 refine LZ (λx y=>aO (aw bT (ao aS M2 af) af<|ay _) x y) ?_;refine mY (λx=>aO (Eh<|El (jK U) (aP aW PB Pa<|λ_ _=>M) Kc) x aE) ?_;refine aj (aM<|aQ Ca T.aT T.JW (xG T) U.mo T.Kb .nil ar<|ac (aP aW PB Pa<|λ_ _=>M) ag)
   (aC (aM<|dE QY ZZ XI Bw Kc<|ac (aP aW PB Pa<|λ_ _=>M) ag) ?_)
 intros
 refine mY (λx=>aO (aw eD (aI GU {_} T.bU bp (ac Kc ag)) af<|ay _) x aE) ?_;refine aj (P7 5<|ao cQ (ao aS (ao bF (ao aR M2 af) Pa)<|ao j8 af af)<|aP aW (cn<|ac af<|ac (Ia DU af) ag) (ao aS (ao aR M2 af) af)<|λ_ _=>M)
   (bW (λx=>aO (aw bT (ao aS (ao aR M2 af) af) af<|ay _) x aE) ?_)
 refine aC (P7 5<|ao ji (ao aS (ao bF (ao CJ M2<|ao cQ af<|ao j8 af af) Pa)<|ao cQ af<|ao j8 af af)<|ao j8 af af) ?_
 intros
 refine aj (aM<|aQ Ca T.aT T.K9 (zC T) U.mo T.Lz .nil ar<|ac (aP aW PB Pa<|λ_ _=>M)<|ac Qi ag)
   (aC (l9 (jK U) Kc (aP aW PB Pa<|λ_ _=>M) Qi M) ?_)
 intros
 refine⟨_,M,_,_,M,M,⟨(_),(_)⟩,_,M,λH1 r rs s1 nr U lr rb=>?_⟩;have J1:=J.same s1;have nF:¬F r:=J.A.out nr;have a2:r≠d:=am J.di nr|>.symm;refine⟨_,M,r,_,M,.inl<|Fz.of U,?_⟩;rw[Q0];refine⟨(rs.length:Int),M,(),(),xY (n:=(rs.length:Int).toNat) (λi B H'=>∃(F':Addr->Prop) (x':PM) (more:List DR) (v4 v5:Option V),B=[some (.ref a),some (.ref d),some (.int c),some (.ref r),v4,v5]/\Jd K t H' a d F' x' (ds++more)/\x'.now<=x.now+i/\x'.ma=x.ma/\x'.st.kv.length<=N/\Fr (Wh F d) (Wh F' d) H1 H') ⟨F,x,[],none,none,M,(by rwa[ZB]),(),M,l0,Fr.refl⟩ (λi B H2 hi w=>?_)<|λB H2 w=>?_⟩
 .obtain⟨Z,G,mo,v4,v5,rfl,I,l2,m2,e2,Y⟩:=w;obtain⟨O,a0⟩:=Y _ _ (λz=>z.elim nF a2) U;have hi':i<rs.length:=();obtain⟨k,ek⟩:∃k,rs[i]?=some k:=⟨_,Q3 hi'⟩;obtain⟨k0,k1⟩:=rb k (Q2 ek);have at1:R9 (rs.map V.int) (0+(i:Int))=some (.int k):=by
   rw[Int.zero_add];refine wz ?_;rw[QP,ek];rfl
  obtain⟨a3,a4,a5,aa,_⟩:=I.A.ins;refine⟨_,M,_,_,M,M,(by show(0:Int)<4;decide),M,_,M,bP (λz=>?_)<|λz=>?_⟩
  .refine⟨_,M,_,M,r,_,_,_,M,M,Fz.of O,at1,_,M,d,_,M,Pu.k (k:=Sum.inl k) I.di,_,M,?_⟩;rw[O6];cases ev:aF G.st.kv k with
   |none=>exact cq ⟨Z,G,mo,_,_,M,I,(),m2,e2,Y⟩
   |some v=>
    refine cP ⟨_,M,a,a3,a4,M,a5,aa _ ∅,_,M,_,M,r,_,_,_,M,M,Fz.of O,at1,a,k,Z,G,M,I.A,k0,(),λ_ H3 F3 b6 r3 q3 b7 A3 N3 f3=>?_,λz=>by rw[ev]at z;cases z⟩;obtain⟨d3,n3⟩:=f3 _ _ I.nd I.di;obtain⟨ab,b8⟩:=f3 _ _ (λz=>a0<|.inl z) O;refine⟨_,M,.inr<|.inr<|.inl ⟨M,.inl ⟨_,d3⟩⟩,_,M,_,M,r,_,_,_,M,M,Fz.of ab,at1,d,_,Sum.inl k,v,M,M,d3,O6.trans ev,?_⟩;rw[mt];have J3:=I.drop A3 f3 M M M M M k0 (by rw[ev];rfl);rw[QE]at J3;exact⟨F3,_,_,_,_,M,J3,by show G.now+1<=_;lia,m2,by rw[show(G.st.drop k).kv=bN G.st.kv k from O8.three_kv];exact QQ (QK _ _) e2,(Y.trans f3.wh).trans Fr.wd⟩
  .refine⟨_,M,d,_,M,I.di,_,_,M,M,_,M,bP (λy=>?_)<|λy=>⟨Z,G,mo,_,_,M,I,(),m2,e2,Y⟩⟩;have y:=Wd y;rw[bz]at y;refine c7 (λB H'=>∃v:Int,B=[some (.ref a),some (.ref d),some (.int c),some (.ref r),some (.int<|0+(i:Int)),some (.int v)]/\Ds H2 H') (λnx go=>?_)<|λB H3 w=>?_
   .obtain⟨sg,ah,g0⟩:=z7 (c:=c/16) (n:=2) (L:=[.int 1,.int (-1)]) (P:=λm=> -2<m/\m<2) ⟨⟨(_),(_)⟩,⟨(_),(_)⟩,trivial⟩ M (_);exact⟨_,M,_,_,M,M,⟨(_),(_)⟩,_,M,_,_,M,M,_,_,M,M,⟨(_),(_),(_)⟩,_,_,M,M,wE,_,M,(by show 2<=sizeLine;decide),λp np=>⟨_,M,_,_,M,M,⟨(_),(_)⟩,_,_,M,M,(by show(0:Int)<2;decide),p,_,_,_,M,M,Fz.of ai,ah,_,_,M,M,.inr ⟨(),()⟩,go _ _ ⟨_,M,ak np⟩⟩⟩
   obtain⟨v,rfl,s3⟩:=w;refine c7 (λB H'=>∃v:Int,B=[some (.ref a),some (.ref d),some (.int c),some (.ref r),some (.int<|0+(i:Int)),some (.int v)]/\Ds H2 H') (λnx go=>?_)<|λB H4 w=>?_
   .refine⟨_,M,_,_,M,M,⟨(_),(_)⟩,_,_,M,M,(by show(0:Int)<2;decide),M,_,M,bP (λ_=>?_)<|λ_=>go _ _ ⟨v,M,s3⟩⟩;exact⟨_,M,_,_,M,M,⟨(_),(_),(_)⟩,_,_,M,M,.inl ⟨(_),(_)⟩,_,_,M,M,⟨(_),(_)⟩,_,M,_,_,M,M,_,_,M,M,⟨(_),(_),(_)⟩,_,_,M,M,.inl ⟨(_),(_)⟩,_,_,M,M,(by show(0:Int)<2*10^(39:Int).toNat;decide),_,_,M,M,⟨(_),(_),(_)⟩,_,_,M,M,go _ _ ⟨_,M,s3⟩⟩
   clear s3 v;obtain⟨v,rfl,s4⟩:=w;have J4:=I.same s4;obtain⟨an,ax,b1,b2,_⟩:=J4.A.ins;have a1:=s4 _ _ O;refine⟨_,M,a,an,ax,M,b1,b2 _ ∅,_,M,_,M,r,_,_,_,M,M,Fz.of a1,at1,_,M,a,k,v,Z,G,M,J4.A,k0,(),λH5 F5 b9 r5 q5 ba A5 N5 f5=>?_⟩;obtain⟨d5,n5⟩:=f5 _ _ J4.nd J4.di;obtain⟨b3,bb⟩:=f5 _ _ (λz=>a0<|.inl z) a1;refine⟨_,M,_,M,_,M,_,M,r,_,_,_,M,M,Fz.of b3,at1,d,_,M,Qh.k (k:=Sum.inl k) d5 (by rw[bz];exact bg ()),?_⟩;rw[cN];have J5:=J4.put A5 f5 M M M M M ⟨k0,()⟩ ();rw[QE]at J5;exact⟨F5,_,_,_,_,M,J5,by show G.now+1<=_;lia,m2,by rw[show(G.st.put k<|.int v).kv=bn G.st.kv k (.int v) from O8.three_kv];have:=cu G.st.kv k (.int v);lia,(Y.trans<|(Fr.of_same s4).trans f5.wh).trans Fr.wd⟩
 .obtain⟨Z,G,mo,v4,v5,rfl,I,l2,m2,e2,Y⟩:=w;exact q H2 Z G mo I () m2 e2<|(Fr.of_same s1).trans Y
def yL (K:WN) (t:P5):Sp:=λvs H Q _=>∃(l:Addr) (cs:List Int),vs=[.ref l]/\H l=some (.lst<|cs.map V.int)/\cs.length<=63/\
 ∀(H':Hp) (r a d:Addr) (F:Addr->Prop) (x:PM) (ds:List DR),H r=none->¬F r->H' r=some (.tup [.ref a,.ref d])->Jd K t H' a d F x ds->x.now<=12*cs.length->x.ma=0->x.st.kv.length<=300->(∀b o,H b=some o->H' b=some o/\¬Wh F d b)->Q (.ref r) H'
def zu:Dr P w K mg base P1 8 t.tN t.mJ ["_law_cells"] (yL K t):=by
 refine T.Ce.okl y9 λs H vs Q E hr h _=>?_;intro X;obtain⟨l,cs,rfl,hl,ll,q⟩:=h;refine aj (P7 1<|sH T.OC (xF T) hr.mo {_} T.OF T.Ka .nil ar)
   (aj (P7 2 fJ)
   (bW (λx=>(fH Wm M (dO Ca) (Qu 3)
    x)) ?_))
 refine aC (aM<|aJ (mf T) hr.mo {_} T.vg T.pN.kp T.vk .nil ar (ac Kc<|ac M2<|ac PB ag)) ?_
 intros
 refine aC (aD<|bQ<|ac Kc<|ac M2 ag) ?_
 intros
 refine λa dx na nd a0=>⟨a,dx,M,ai,λH1 F1 A1 f1=>⟨M,λd I=>?_⟩⟩;have O:∀b o,H b=some o->H1 b=some o/\¬F1 b:=λb o e=>f1 b o (am e na) (by rwa[ae (am e na),ae (am e nd)]);have J2:Jd K t (upd H1 d<|.dK []) a d F1 PM.new []:=⟨A1.same<|ak I,ai,A1.out I,(λ_ z=>by cases z),(λ_ z=>by cases z),(_),M,⟨(λ_ z=>by cases z),(λi j x y m h=>by rw[List.getElem?_nil]at h;cases h),(λi x k h=>by rw[List.getElem?_nil]at h;cases h)⟩,M,(λ_ z=>by cases z),M,M⟩;have Z:∀b o,H b=some o->upd H1 d (.dK []) b=some o/\¬Wh F1 d b:=λb o e=>⟨by rw[ae (am (O b o e).1 I)];exact(O b o e).1,λz=>z.elim (O b o e).2<|am (O b o e).1 I⟩;show yC _ _ _ _ (upd H1 d<|.dK []);generalize upd H1 d (.dK [])=H2 at J2 Z⊢;refine⟨_,M,l,M,⟨_,Fz.of (Z _ _ hl).1⟩,iW (K:=K) (a:=l) (xs:=cs.map V.int) (λi B H'=>∃(F':Addr->Prop) (x':PM) (ds:List DR) (U:Option V),B=[some (.ref l),some (.ref a),some (.ref d),U]/\Jd K t H' a d F' x' ds/\x'.now<=12*i/\x'.ma=0/\x'.st.kv.length<=300/\∀b o,H b=some o->H' b=some o/\¬Wh F' d b) ⟨F1,_,[],none,M,J2,(_),M,(_),Z⟩ (λi B H' _ w=>?_) (λi z B H' hz w=>?_)<|λB H' w=>?_⟩
 .obtain⟨F',x',ds,U,rfl,G,l',m',Y,o'⟩:=w;exact Fz.of (o' _ _ hl).1
 .obtain⟨F',x',ds,U,rfl,G,l',m',Y,o'⟩:=w;have hi:=(Q1.mp hz).1;rw[Q0]at hi;obtain⟨c,hc,rfl⟩:=Qy.mp (Q2 hz);exact⟨_,M,_,M,_,M,a,d,c,F',x',ds,300,M,G,(),Y,(_),(_),λH3 F3 x3 mo J3 l3 m3 e3 f3=>⟨F3,x3,ds++mo,_,M,J3,(),m3.trans m',e3,λb o e=>f3 b o (o' b o e).2 (o' b o e).1⟩⟩
 .obtain⟨F',x',ds,U,rfl,G,l',m',Y,o'⟩:=w;rw[Q0]at l';refine⟨_,M,_,M,(by show 2<=sizeLine;decide),λr nr=>?_⟩;refine q _ r a d F' x' ds ?_ (G.A.out nr) ai (G.same<|ak nr) () m' Y λb o e=>⟨by rw[ae (am (o' b o e).1 nr)];exact(o' b o e).1,(o' b o e).2⟩;cases e:H r with
  |none=>rfl
  |some o=>rw[(o' _ _ e).1]at nr;cases nr
def tkF {kd:Int} (T:Txt K mg t) (h:kd=0\/kd=1\/kd=2):Qj K (RO t kd)/\Fy K (RO t kd) "at"/\Fy K (RO t kd) "end":=by
 rcases h with rfl|rfl|rfl
 .exact⟨T.bH,T.gP,T.cm⟩
 .exact⟨T.g8,T.oO,T.iV⟩
 .exact⟨T.cy,T.gE,T.gY⟩
def vA (K:WN) (t:P5):Sp:=λvs H Q _=>∃(n:Addr) (kd k:Int) (av e rv ra:V),vs=[.ref n,rv,.int k]/\H n=some (.tup [.int kd,av,e])/\Qc kd av e/\R7 t H rv kd ra e/\∀H',Ds H H'->Q (.bl<|hN kd av e k&&!hO rv kd ra e k) H'
def vU:Dr P w K mg base P1 3 t.pF t.ju ["_law_begun","_law_rest","_law_key"] (vA K t):=by
 refine T.yB.okl vK λs H vs Q E I h _=>?_;intro X;obtain⟨n,kd,k,av,e,a0,ra,rfl,O,on,TO,q⟩:=h;refine aj (aO (io<|bV<|aJ (zw T) I.mo {_} T.BE T.ua.kp T.B0 .nil ar (ac Ca<|ac M2 ag))
    (aB<|aD oB)
    aE)
   (aC (aD<|CG (bG dF Kc a8<|ay _)<|dD<|Bo<|aJ (zw T) I.mo {_} T.BE T.ua.kp T.B0 .nil ar (ac (bQ<|ac (aP bi Ca af<|λ_ _=>M)<|ac (au Kc M)<|ac (au Kc M) ag)<|ac M2 ag)) ?_)
 intros
 refine⟨_,M,_,M,n,kd,k,av,e,M,PX.of O,on,_,M,?_⟩;cases c:hN kd av e k with
 |false=>
  rw[c]at q;exact cP<|q _ (Ds.refl _)
 |true=>
  rw[c]at q;refine cq ?_;unfold hO at q;rcases TO with rfl|⟨p,rfl,⟨U,fr,G,Y⟩,Z⟩
  .rw[W7 M]at q;exact⟨_,M,M,_,M,fj M<|q _ (Ds.refl _)⟩
  rw[W6 (by intro z;cases z)]at q;obtain⟨c1,c2,c3⟩:=tkF T Z.kd;refine⟨_,M,M,_,M,a6 (λz=>by cases z) ⟨_,M,n,_,_,_,M,M,PX.of O,M,_,M,p,_,U,fr,_,M,G,c1,c2,Y.at_,_,M,p,_,U,fr,_,M,G,c1,c3,Y.end_,(by show 3<=sizeLine;decide),λm nm=>?_⟩⟩;exact⟨_,M,m,kd,k,ra,e,M,PX.of ai,Z,_,M,q _<|ak nm⟩
def yH (K:WN):Sp:=λvs H Q _=>∃(l:Addr) (ds:List DR),vs=[.ref l]/\H l=some (.lst<|ds.map λd=>V.ref d.p)/\(∀d∈ds,H d.p=some (.tup d.r.vs))/\(∀(i:Nat) (x:DR) (k:Int),ds[i]?=some x->x.r= .drop k->(aF (tbl<|ds.take i) k).isSome=true)/\ds.length<=5000/\
 ∀(H':Hp) (r:Addr),Ds H H'->H r=none->H' r=some (.dK<|az<|tbl ds)->Q (.ref r) H'
def zq:Dr P w K mg base P1 1 t.tJ t.mE ["_law_rows"] (yH K):=by
 refine T.Cd.okl yZ λs H vs Q E G h _=>?_;intro X;obtain⟨l,ds,rfl,hl,tu,dr,ln,q⟩:=h;refine aj (P7 1 fJ)
   (bW (λx=>(fH Wm M (dO Ca) (Qu 2)
    x)) ?_)
 refine aj (aO (aw bT (aP bi M2 af<|λ_ _=>M) gy<|ay _)
    (aB<|l9 (jK G) Kc (aP bi M2 af<|λ_ _=>M) (aP bi M2 af<|λ_ _=>M) M)
    aE)
   (mY (λx=>aO (aw bT (aP bi M2 af<|λ_ _=>M) gy<|ay _) x aE) ?_)
 refine aC (aM<|dE QY ZZ XI Bw Kc<|ac (aP bi M2 af<|λ_ _=>M) ag) ?_
 intros
 refine aC (aD Kc) ?_
 intros
 refine λr nr=>?_;have s1:=ak (o:= .dK []) nr;have h1:upd H r (.dK []) r=some (.dK []):=ai;generalize upd H r (.dK [])=H1 at s1 h1⊢;have lr:l≠r:=am hl nr;refine⟨_,M,l,M,⟨_,Fz.of<|s1 _ _ hl⟩,iW (K:=K) (a:=l) (xs:=ds.map λd=>V.ref d.p) (λi B H'=>∃Y:Option V,B=[some (.ref l),some (.ref r),Y]/\(∀b o,b≠r->H1 b=some o->H' b=some o)/\H' r=some (.dK<|az<|tbl<|ds.take i)) ⟨none,M,λ_ _ _ h=>h,h1⟩ (λi B H' _ w=>by obtain⟨_,_,k,_⟩:=w;exact Fz.of<|k _ _ lr<|s1 _ _ hl) (λi u B H' hu w'=>?_)<|λB H' w'=>?_⟩
 .obtain⟨Y,rfl,O,G⟩:=w';obtain⟨d,rfl,U⟩:∃d,u=V.ref d.p/\ds[i]?=some d:=by
   rw[QP]at hu;cases c:ds[i]? with
   |none=>rw[c]at hu;cases hu
   |some e=>rw[c]at hu;cases hu;exact⟨e,M,M⟩
  have Z:=tu d (Q2 U);have te:=O _ _ (am Z nr) (s1 _ _ Z);have I:=wF U;have hi:=(Q1.mp U).1;have lt:=wn (l:=ds.take i);rw[Q6]at lt;have a0:=dr i d;unfold g7
  (try dsimp only)
  unfold ap at I;cases hd:d.r with
  |mark m=>
   rw[hd]at te I;refine⟨_,M,d.p,_,_,_,M,M,PX.of te,M,M,_,M,a6 (λz=>Wb (V.str.inj z) ∅) ⟨_,M,d.p,_,_,_,M,M,PX.of te,M,M,_,M,a6 (λz=>Wb (V.str.inj z) ∅) ⟨_,M,O,?_⟩⟩⟩;rwa[I]
  |put k v=>
   rw[hd]at te I;refine⟨_,M,d.p,_,_,_,M,M,PX.of te,M,M,_,M,fj M ⟨_,M,d.p,_,_,_,M,M,PX.of te,M,_,M,_,M,d.p,_,_,_,M,M,PX.of te,M,r,_,M,Qh.k (k:=Sum.inl k) G (by rw[bz];exact bg ()),?_⟩⟩;rw[cN];have a1:d.p≠r:=am Z nr;refine⟨_,M,d.p,_,_,_,M,M,PX.of (by rwa[ae a1]),M,M,_,M,a6 (λz=>Wb (V.str.inj z) ∅) ⟨_,M,λb o n e=>by rw[ae n];exact O b o n e,?_⟩⟩;rw[I];exact ai
  |drop k=>
   rw[hd]at te I;obtain⟨v,hv⟩:=Xs.mp (a0 k U hd);refine⟨_,M,d.p,_,_,_,M,M,PX.of te,M,M,_,M,a6 (λz=>Wb (V.str.inj z) ∅) ⟨_,M,d.p,_,_,_,M,M,PX.of te,M,M,_,M,fj M ⟨_,M,.inr<|.inr<|.inl ⟨M,.inl ⟨_,G⟩⟩,_,M,d.p,_,_,_,M,M,PX.of te,M,r,_,Sum.inl k,v,M,M,G,O6.trans hv,?_⟩⟩⟩;rw[mt];refine⟨_,M,λb o n e=>by rw[ae n];exact O b o n e,?_⟩;rw[I];exact ai
 .obtain⟨Y,rfl,O,G⟩:=w';rw[Q0,QX]at G;exact⟨_,M,q _ r (λb o e=>O b o (am e nr)<|s1 _ _ e) nr G⟩
def DZ:∀{l:List DR} {WP:List (Int×V)},(∀p∈WP,∃i:Int,p.2= .int i)->∀p∈l.foldl ap WP,∃i:Int,p.2= .int i
 | [],_,h=>h
 |d::r,WP,h=>DZ (l:=r) (WP:=ap WP d) λp z=>by
  unfold ap at z;cases c:d.r with
  |put k v=>rw[c]at z;exact HS h p z
  |drop k=>rw[c]at z;exact h p (QS.mp z).1
  |mark m=>rw[c]at z;exact h p z
def Le {a b:List (Int×V)} (G:(a.map (·.1)).Nodup) (I:(b.map (·.1)).Nodup) (h:∀k,aF a k=aF b k):a.Perm b:=by
 refine(W5 ((Zm.mp G).imp λh e=>h<|by rw[e])<|(Zm.mp I).imp λh e=>h<|by rw[e]).mpr λp=>⟨λz=>?_,λz=>?_⟩
 .have:=bC G (k:=p.1) (v:=p.2) z;rw[h]at this;exact bD this
 .have:=bC I (k:=p.1) (v:=p.2) z;rw[<-h]at this;exact bD this
def HF {a b:List Int} (h:a.Perm b):a.sum=b.sum:=by
 induction h with
 |nil=>rfl
 |cons x _ z=>rw[V5,V5,z]
 |swap x y l=>simp only[V5];lia
 |trans _ _ G I=>exact G.trans I
def RL.key (D:RL ds) (h:k∈(tbl<|ds.take n).map (·.1)):0<=k:=by
 obtain⟨z,hz,G⟩:=Cn h;exact D.kb z (Zd hz) k G
def NA (X:PH) (kd:Int) (av e:V) (ds:List DR):List (Int×V):=(tbl<|ds.take X.n).filter λp=>X.cov kd av e p.1
def x9 {kv:List (Int×V)} {f:Int->Bool} (nd:(kv.map (·.1)).Nodup):aF (kv.filter λp=>f p.1) k=if f k=true then aF kv k else none:=by
 have z:((kv.filter λp=>f p.1).map (·.1)).Nodup:=nd.sublist (Xr.map _);by_cases c:f k=true
 .rw[W7 c];cases h:aF kv k with
  |some v=>exact bC z<|QS.mpr ⟨bD h,c⟩
  |none=>
   cases h2:aF (kv.filter λp=>f p.1) k with
   |none=>rfl
   |some v=>
    have:=bC nd (QS.mp<|bD h2).1;rw[h]at this;cases this
 .rw[W6 c];cases h2:aF (kv.filter λp=>f p.1) k with
  |none=>rfl
  |some v=>exact Wb (QS.mp<|bD h2).2 c
def Inv.due {kd:Int} (I:Inv kd av e ds X) (D:RL ds):X.cp.Perm (NA X kd av e ds):=by
 have z:=DY (l:=ds.take X.n);refine Le I.nd (z.sublist<|Xr.map _) λk=>?_;unfold NA;rw[x9 z];by_cases k0:0<=k
 .exact I.cp k k0
 .have h1:aF X.cp k=none:=by
   cases c:aF X.cp k with
   |none=>rfl
   |some v=>exact Wb (I.kp k<|Kd.mpr<|by rw[c];rfl) k0
  have h2:aF (tbl<|ds.take X.n) k=none:=by
   cases c:aF (tbl<|ds.take X.n) k with
   |none=>rfl
   |some v=>exact Wb (D.key<|Kd.mpr<|by rw[c];rfl) k0
  rw[h1,h2,ite_self]
def Mb {kv:List (Int×V)} (h:∀p∈kv,∃i:Int,p.2= .int i):kv.map (·.2)=(kv.map λp=>RI p.2).map V.int:=by
 rw[QR];refine ZD λp z=>?_;obtain⟨i,G⟩:=h p z;show p.2=V.int (RI p.2);rw[G];rfl
def Jo {P:Int->Bool} {xs:List (Int×V)} {p:Int×V} (e:xs[i]?=some p):(xs.take<|i+1).filter (λp=>P p.1)=(xs.take i).filter (λp=>P p.1)++(if P p.1=true then[p]else[]):=by
 rw[QL,e,Z0];by_cases c:P p.1=true
 .rw[W7 c];simp[c]
 .rw[W6 c];simp[c]
def Lm {P:Int->Bool} {xs:List (Int×V)} {y:Int} (nd:(xs.map (·.1)).Nodup) (e:xs[i]?=some (y,v)):aF ((xs.take i).filter<|λp=>P p.1) y=none:=by
 cases c:aF ((xs.take i).filter<|λp=>P p.1) y with
 |none=>rfl
 |some w=>
  exfalso;have h:=(QS.mp<|bD c).1;obtain⟨G,I,z⟩:=Z1 h;rw[Q6]at I;rw[Xk]at z;obtain⟨hi,O⟩:=Q1.mp e;have w:=Zu.mp nd G i (by rw[Q0];lia) (by rwa[Q0]) ();rw[List.getElem_map,List.getElem_map,z,O]at w;exact w M
def ug (K:WN) (t:P5):Sp:=λvs H Q _=>∃(c a p dd n:Addr) (kd:Int) (av e:V) (X:PH) (F:Addr->Prop) (x:PM) (ds:List DR),vs=[.ref c,.ref a,.ref n]/\PR t H c a p dd kd av e X/\PN K t H a F x/\Rk x ds/\Inv kd av e ds X/\RL ds/\ds.length<=5000/\H n=some (.tup [.int kd,av,e])/\∀H',Ds H H'->Q (.bl true) H'
def kM:Dr P w K mg base P1 6 t.ni t.iw ["_law_copier","_law_house_here","_law_begun"] (ug K t):=by
 refine T.nE.okl uo λs H vs Q E G h _=>?_;intro X;obtain⟨c,a,p,dd,n,kd,av,e,X',F,x,ds,rfl,C,A,dy,I,D,dl,hn,q⟩:=h;refine aj (P7 3<|aX Kc T.aT T.oR (ip T) G.mo T.iB.choose_spec.1 T.iB.choose_spec.2 ar)
   (aj (P7 4<|aX Ca T.aA T.mZ (kN T) G.mo T.m6 .nil ar)
   (aj (P7 5<|aX Ca T.aA T.fP (eJ T) G.mo T.f9 .nil ar)
   (aj (aO (PW.pt<|gU (io<|bV<|aI jM {_} T.dL cC (ac Pa<|ac (wu (v:= .ty "int") {_} T.NY Jz M) ag))<|gU (bV<|aI jM {_} T.dL cC (ac Pa<|ac (wu (v:= .ty "bool") {_} T.Mt FB M) ag))<|gU (aw eD Pa af<|ay _)<|gw<|aw sJ Pa (aI aH {_} T.bU bp (ac PB ag))<|ay _)
    (aB<|aD oB)
    aE)
   (aj (P7 6<|aJ (zq T) G.mo {_} T.Lc T.Cd.kp T.Lr .nil ar (ac (dC fu PB iJ<|dN Pa) ag))
   (aj (P7 7 fJ)
   (bW (λx=>(wq (fH Wm M (KP RT) (Qu 8)
    x))) ?_))))))
 refine aC (aO (bV<|aJ (vU T) G.mo {_} T.IF T.yB.kp T.JF .nil ar (ac M2<|ac Qi<|ac Ra ag))
    (aB<|l9 (jK G) Rp Ra (E5 (jK G) RT Ra<|λ_ _=>M) M)
    aE) ?_
 intros
 refine bW (λx=>(fH Wm M (dO<|dC fu (dP (EG G.hd) {_} T.Ms FA (ac RT ag)) iJ<|dN af) (Qu 8)
    x)) ?_
 refine aj (P7 9<|aQ Ca T.aA T.uN (jJ T) G.mo T.u8 .nil ar<|ac Ra ag)
   (aC (aO (PW.pt<|gU (PW.pt<|gx (aw Ab pv9 oB<|ay _)<|eG<|aw Ab pv9 oB<|ay _)<|gw<|aw E7 pv9 (Ic<|El (jK G) Ra Rp)<|ay _)
    (aB<|aD oB)
    aE) ?_)
 intros
 refine aC (aD<|gA (bG (E8 G.u20) (aX Ca T.aA T.fQ (mX T) G.mo T.gb .nil ar) Rp<|ay _)<|dD<|bG bT (aX Ca T.aA T.Ha (uI T) G.mo T.Hf .nil ar) (aI (Ax G.hd) {_} T.NX Jy (ac (uD QY Xu V7 uK Rp) ag))<|ay _) ?_
 intros
 obtain⟨da,fa,ha,hm,_⟩:=A.ins;refine⟨_,M,a,da,fa,M,ha,hm _ ∅,a,0,F,x,M,A,Xa _,λH1 r s1 nr G=>?_⟩;unfold Rk at dy;rw[show(0:Int).toNat=0 from rfl,ZM,dy,QR]at G;have G:H1 r=some (.lst<|ds.map λd=>V.ref d.p):=G;have C1:=C.same s1;obtain⟨d1,h1⟩:=C1.ob;have b3:∀d∈ds,H1 d.p=some (.tup d.r.vs):=λd hd=>(A.same s1).di (d.p,d.r.vs) (by rw[dy];exact Qy.mpr ⟨d,hd,M⟩);have bc:=s1 _ _ hn;have il:=I.le;refine⟨_,M,c,d1,_,M,h1,{_},c,a,p,dd,kd,av,e,X',M,C1,_,M,c,d1,_,M,h1,{_},c,a,p,dd,kd,av,e,X',M,C1,?_⟩;refine⟨_,M,_,_,_,_,M,PP.int _,IR,_,M,cq ⟨_,M,_,_,_,_,M,PP.int _,IS,_,M,cq ⟨_,M,_,_,M,M,_,M,?_⟩⟩⟩;rw[Wj (show ¬(X'.n:Int)<0 by lia)];refine cq ⟨_,M,_,M,r,_,M,.inl<|Fz.of G,_,_,M,M,_,M,?_⟩;rw[Q0,Wj (show ¬(X'.n:Int)>(ds.length:Int) by lia)];refine cq ?_;unfold nQ
 (try dsimp only)
 refine⟨_,M,_,M,_,M,r,_,M,Fz.of G,λl nl=>?_⟩;rw[kW (),<-ZJ,Zg];have s2:=ak (o:= .lst<|(ds.take X'.n).map λd=>V.ref d.p) nl;have h2:upd H1 l (.lst<|(ds.take X'.n).map λd=>V.ref d.p) l=some (.lst<|(ds.take X'.n).map λd=>V.ref d.p):=ai;generalize upd H1 l (.lst<|(ds.take X'.n).map λd=>V.ref d.p)=H2 at s2 h2⊢;refine⟨l,ds.take X'.n,M,h2,λd hd=>s2 _ _<|b3 d<|Zd hd,λi x k hx hk=>?_,by rw[Q6];lia,λH3 tb s3 bw Y=>?_⟩
 .rw[Xz]at hx;split at hx
  .rename_i hi
   rw[Vo,ZQ (Zl hi)];exact D.dr i x k hx hk
  .cases hx
 have s4:=(s1.trans s2).trans s3;have C3:=C.same s4;have a2:=s4 _ _ hn;have nt:=DY (l:=ds.take X'.n);have tl:=wn (l:=ds.take X'.n);have b6:∀k∈(tbl<|ds.take X'.n).map (·.1),0<=k:=λk hk=>D.key hk;have b7:∀p∈tbl (ds.take X'.n),∃i:Int,p.2= .int i:=DZ λ_ z=>by cases z
 have pm:=I.due D;unfold NA at pm;rw[Q6]at tl;have be:tb≠n:=λz=>by rw[z,a2]at Y;cases Y
 clear s1 s2 s3 h2 b3 G h1 C1 bc nl nr ha hm dy;generalize tbl (ds.take X'.n)=kv at Y nt tl b6 b7 pm;refine λb nb=>?_;have a3:b≠tb:=λz=>by rw[z,Y]at nb;cases nb
 have sb:=ak (o:= .dK []) nb;have a0:upd H3 b (.dK []) b=some (.dK []):=ai;have U:=sb _ _ Y;have s5:=s4.trans sb;generalize upd H3 b (.dK [])=b8 at sb a0 U s5⊢;refine⟨tb,_,U,_,M,tb,_,M,U,λob=>GM (ob:=ob) (d:=tb) (kvs:=az kv) (λi B H'=>∃v9:Option V,B=[some (.ref c),some (.ref a),some (.ref n),some (.ref r),some (.int X'.n),some X'.rv,some (.ref tb),some (.ref b),v9,none]/\(∀c o,c≠b->c≠tb->b8 c=some o->H' c=some o)/\H' tb=some (.frz ob<|.dK<|az kv)/\H' b=some (.dK<|az<|(kv.take i).filter λp=>X'.cov kd av e p.1)) ?_ (λi B H' _ w=>?_) (λi k v B H' hk w=>?_)<|λB H' w=>?_⟩
 .exact⟨_,M,λc o _ n2 h=>by rwa[ae n2],ai,by rwa[ae a3]⟩
 .obtain⟨_,_,_,h,_⟩:=w;exact h
 .obtain⟨v9,rfl,kp,Z,O⟩:=w;obtain⟨y,rfl,eg⟩:=uO hk;have ym:=Q2 eg;have n1:n≠b:=λz=>by have h:=sb _ _ a2;rw[z,a0]at h;cases h
  have bf:=kp _ _ n1 (Ne.symm be) (sb _ _ a2);have st:=Jo (P:=λz=>X'.cov kd av e z) eg;have bl:R7 t H' X'.rv kd X'.ra e:=by
   rcases(C3.same sb).rt with h|⟨q',h1,⟨dx,fs,h2,h3⟩,h4⟩
   .exact .inl h
   .exact .inr ⟨q',h1,⟨dx,fs,kp _ _ (cJ h2 a0 λz=>by cases z) (cJ h2 U λz=>by cases z) h2,h3⟩,h4⟩
  unfold g7
  (try dsimp only)
  refine⟨_,M,_,M,_,M,n,kd,y,av,e,X'.rv,X'.ra,M,bf,C.tk.2,bl,λH2 s2=>⟨_,M,?_⟩⟩;have b9:∀c o,c≠b->c≠tb->b8 c=some o->H2 c=some o:=λc o h1 h2 h3=>s2 _ _ (kp c o h1 h2 h3);cases cc:X'.cov kd av e y with
  |false=>
   rw[cc]at st;have cc:(hN kd av e y&&!hO X'.rv kd X'.ra e y)=false:=cc;rw[cc];exact cq ⟨_,M,b9,s2 _ _ Z,by rw[s2 _ _ O,st];simp⟩
  |true=>
   have c2:(hN kd av e y&&!hO X'.rv kd X'.ra e y)=true:=cc;rw[c2];have g2:Pu H2 tb (.int y) (some v):= .inl ⟨_,Sum.inl y,.inr ⟨ob,s2 _ _ Z⟩,M,by rw[O6,bC nt ym]⟩;have p2:=Qh.k (k:=Sum.inl y) (v:=v) (s2 _ _ O) (by rw[bz];have h1:=QK (λp:Int×V=>X'.cov kd av e p.1) (kv.take i);rw[Q6]at h1;exact bg ());rw[cN,xp v (Lm (P:=λz=>X'.cov kd av e z) nt eg),show[(y,v)]=(if X'.cov kd av e y=true then[(y,v)]else[]) by rw[cc];rfl,<-st]at p2;refine cP ⟨_,M,_,M,tb,_,M,g2,_,M,_,M,b,_,M,p2,?_⟩;exact⟨_,M,λc o h1 h2 h3=>by rw[ae h1];exact b9 c o h1 h2 h3,by rw[ae (Ne.symm a3)];exact s2 _ _ Z,ai⟩
 obtain⟨v9,rfl,kp,Z,O⟩:=w;refine⟨ob,Z,?_⟩;rw[bz,QX]at O;have a1:upd H' tb (.dK<|az kv) tb=some (.dK<|az kv):=ai;have a4:upd H' tb (.dK<|az kv) b=some (.dK<|az<|kv.filter λp=>X'.cov kd av e p.1):=by rwa[ae a3]
 have s6:Ds H3 (upd H' tb<|.dK<|az kv):=λz o ez=>by
  by_cases c:z=tb
  .rwa[c,ai,<-Y,<-c]
  .rw[ae c];exact kp z o (am ez nb) c<|sb _ _ ez
 generalize upd H' tb (.dK<|az kv)=H6 at a1 a4 s6⊢;have s7:=s4.trans s6;clear kp Z O s5 sb a0 U
 (try dsimp only)
 refine⟨_,M,tb,_,M,.inl a1,λl6 a5=>?_⟩;rw[show kS (az kv)=(kv.map (·.1)).map V.int from Ak];have h6:upd H6 l6 (.lst ((kv.map (·.1)).map V.int)) l6=some (.lst ((kv.map (·.1)).map V.int)):=ai;have s8:=s7.trans (ak (o:= .lst ((kv.map (·.1)).map V.int)) a5);have aa:=ak (o:= .lst ((kv.map (·.1)).map V.int)) a5 _ _ a4;generalize upd H6 l6 (.lst ((kv.map (·.1)).map V.int))=H8 at h6 s8 aa⊢;refine⟨_,M,l6,_,M,Fz.of h6,λl7 ab=>?_⟩;rw[kW (_),<-ZJ];obtain⟨ks,ah⟩:∃ks,(kv.map (·.1)).take (12:Int).toNat=ks:=⟨_,M⟩;have bo:∀k∈ks,k∈kv.map (·.1):=λk hk=>Zd (ah▸hk);rw[ah];have h9:upd H8 l7 (.lst<|ks.map V.int) l7=some (.lst<|ks.map V.int):=ai;have s9:=s8.trans (ak (o:= .lst<|ks.map V.int) ab);have an:=ak (o:= .lst<|ks.map V.int) ab _ _ aa;generalize upd H8 l7 (.lst<|ks.map V.int)=H9 at h9 s9 an⊢;have C9:=C.same s9;clear s8 aa h6 s7 s6 a4 a1 s4 a5 ab ah;refine⟨l7,M,⟨_,Fz.of h9⟩,iW (K:=K) (a:=l7) (xs:=ks.map V.int) (λi B H'=>∃u1 u2:Option V,B=[some (.ref c),some (.ref a),some (.ref n),some (.ref r),some (.int X'.n),some X'.rv,some (.ref tb),some (.ref b),u1,u2]/\Ds H9 H') ⟨_,_,M,Ds.refl _⟩ (λi B H' _ w=>by obtain⟨_,_,_,s⟩:=w;exact Fz.of<|s _ _ h9) (λi z B H' hz w'=>?_)<|λB H' w'=>?_⟩
 .obtain⟨u1,u2,rfl,s⟩:=w';obtain⟨k,br,rfl⟩:=Qy.mp (Q2 hz);have km:=bo k br;have C':=C9.same s;obtain⟨d3,ax⟩:=C'.ob;unfold g7
  (try dsimp only)
  refine⟨_,M,c,d3,_,M,ax,{_},_,M,c,a,p,dd,kd,k,av,e,X',M,C',b6 k km,λH3 s3=>?_⟩;have fin:Ds H9 H3:=s.trans s3;have dg:Pu H3 b (.int k) (if X'.cov kd av e k=true then aF kv k else none):=by
   have:=Pu.k (k:=Sum.inl k) (fin _ _ an);rw[O6,x9 nt]at this;exact this
  have bt:=Kd.mp km;cases bb:X'.cov kd av e k with
  |true=>
   rw[bb,W7 M]at dg;refine⟨_,M,_,_,M,M,_,M,cq ⟨_,M,_,M,_,M,b,_,M,dg,?_⟩⟩;rw[bt];exact⟨M,_,M,kT M ⟨_,_,M,fin⟩⟩
  |false=>
   rw[bb,W6 Qz]at dg;exact⟨_,M,_,_,M,M,_,M,cP ⟨_,M,_,_,M,M,_,M,cq ⟨_,M,_,M,_,M,b,_,M,dg,M,_,M,kT M ⟨_,_,M,fin⟩⟩⟩⟩
 obtain⟨u1,u2,rfl,s⟩:=w';have C':=C9.same s;obtain⟨d3,ax⟩:=C'.ob;have O:=s _ _ an;have nf:((kv.filter λp=>X'.cov kd av e p.1).map (·.1)).Nodup:=nt.sublist (Xr.map _);have b1:∀p∈kv.filter λp=>X'.cov kd av e p.1,∃i:Int,p.2= .int i:=λp hp=>b7 p (QS.mp hp).1;refine⟨_,M,c,d3,_,M,ax,{_},c,a,p,dd,kd,av,e,X',M,C',λr6 n6=>?_⟩;have s6:=ak (o:= .dK<|az X'.cp) n6;have ba:upd H' r6 (.dK<|az X'.cp) r6=some (.dK<|az X'.cp):=ai;generalize upd H' r6 (.dK<|az X'.cp)=H7 at s6 ba⊢;refine⟨_,M,r6,b,_,_,M,M,ba,s6 _ _ O,by rw[bz,bz];exact pm.length_eq,λz hz=>?_,_,M,cP ?_⟩
 .unfold az at hz;obtain⟨w,hw,rfl⟩:=Qy.mp hz;have hw:=pm.mem_iff.mp hw;obtain⟨i,ei⟩:=b1 w hw;exact⟨by show Fl w.2;rw[ei];exact Wp,by show aF (az _) (Sum.inl w.1)=_;rw[O6];exact bC nf hw⟩
 have C7:=C'.same s6;obtain⟨d7,bv⟩:=C7.ob;have b2:=s6 _ _ O;refine⟨_,M,c,d7,_,M,bv,{_},c,a,p,dd,kd,av,e,X',_,M,C7,Mb λp hp=>b1 p<|pm.mem_iff.mp hp,λH8 s8=>?_⟩;refine⟨_,M,.inr<|.inr<|.inl ⟨M,.inl ⟨_,s8 _ _ b2⟩⟩,b,_,M,M,s8 _ _ b2,λvw nv=>⟨vw,b,_,_,M,ai,ak nv _ _<|s8 _ _ b2,(by unfold az;rw[QR];exact Mb b1),M,?_⟩⟩;rw[HF (pm.map _),Wf M];exact q _<|(((s9.trans s).trans s6).trans s8).trans (ak nv)
def ED {kd:Int} {a:V}:hO (.ref q) kd a e k=hN kd a e k:=by
 unfold hO;rw[W6 λz=>by cases z]
section
variable {kd:Int}
def Inv.begin:Inv kd av e ds ⟨.ref p,av,ds.length,[],none⟩:=by
 refine⟨Q4 _,Zx,λk _=>?_,(λ_ z=>by cases z),λk _ h=>?_,(λ_ z=>by cases z)⟩
 .rw[W6]
  .exact kK
  .unfold PH.cov;show ¬(hN kd av e k&&!hO (.ref p) kd av e k)=true;rw[ED];cases hN kd av e k<;>simp
 .have h:hO (.ref p) kd av e k=true:=h;rwa [ED]at h
def Inv.open {g nd:Addr} (I:Inv kd av e ds X) (G:X.rv= .ref q):Inv kd av e ds {X with pg:=some (Rg g nd q X.ra)}:=
 ⟨I.le,I.nd,I.cp,I.kp,I.su,λP h=>by
  cases h;exact⟨G,M,QF _,(λ_ z=>by cases z),λ_=>⟨M,M⟩,λ_ z=>by cases z⟩⟩
def Inv.read {P:Pl} {f:Addr} (I:Inv kd av e ds X) (U:X.pg=some P) (hf:P.fd=none) (Y:(ts.map (·.k)).Nodup) (Z:∀k v,(k,v)∈ts.map Tp.kv↔(k,v)∈tbl ds/\hN kd P.ta e k=true/\R k=false) (G:∀k,0<=k->R k=true->hN kd P.ta e k=true) (O:∀k,R k=hO v kd a' e k):Inv kd av e ds {X with pg:=some {P with fd:=some (f,ts),ah:=v,aa:=a'}}:=by
 have q:=I.pg P U;obtain⟨h1,h2⟩:=q.un hf;refine⟨I.le,I.nd,I.cp,I.kp,I.su,λP' h=>?_⟩;cases h;refine⟨q.rn,q.ra,q.nl,q.nk,(λz=>by cases z),λy hy=>?_⟩;cases hy;refine⟨X.n,ds.length,Q4 _,I.le,Q4 _,Y,λk w=>?_,λk k0 h=>G k k0<|(O k).trans h,λk x=>?_,λm hm=>?_⟩
 .rw[Z k w,QX,O]
 .show(k,x)∈P.no↔_/\cV k ((ds.take X.n).drop X.n)=some x;rw[h1,Ve (by rw[Q6];lia)];exact⟨(λz=>by cases z),(λz=>by cases z.2)⟩
 .rw[show P.cl=some m from hm]at h2;cases h2
def Inv.close {P:Pl} {y:Addr×List Tp} {z:DR} (I:Inv kd av e ds X) (O:X.pg=some P) (hy:P.fd=some y) (Z:z.r= .mark m):Inv kd av e (ds++ [z]) {X with pg:=some {P with cl:=some m}}:=by
 have J:=I.more (more:=[z]);have q:=J.pg P O;refine⟨J.le,J.nd,J.cp,J.kp,J.su,λP' h=>?_⟩;cases h;refine⟨q.rn,q.ra,q.nl,q.nk,(λh=>by rw[show P.fd=none from h]at hy;cases hy),λU hy'=>?_⟩;obtain⟨nr,mr,l1,l2,Y,h1,h2,h3,h4,h5⟩:=(I.pg P O).fd U hy';obtain⟨a0,a1,_⟩:=q.fd U hy';refine⟨nr,mr,l1,l2,by rw[Q8];lia,h1,by rwa[Z2 Y],h3,by rwa[Z2 I.le],λm' G=>?_⟩;cases G;exact⟨ds.length,z,by rw[Zq (Q4 _),Nat.sub_self];rfl,Z,Y,I.le⟩
def Rb (av:V) (p:Addr) (v a':V) (m:Int) (ds:List DR) (X:PH):Prop:=(X.rv= .ref p/\X.ra=av/\∃P,X.pg=some P/\P.ah=v/\P.aa=a'/\P.cl=some m)\/(X.pg=none/\X.rv=v/\X.ra=a'/\∃(j:Nat) (x:DR),j<X.n/\ds[j]?=some x/\x.r= .mark m)
def Rb.step {x:DR} (h:Rb ta p v a' m ds X) (hx:ds[X.n]?=some x):Rb ta p v a' m ds (bj kd av e X x):=by
 have sn:=AW (kd:=kd) (av:=av) (e:=e) (X:=X) (x:=x);rcases h with⟨h1,h2,P,O,h4,Z,h6⟩|⟨h1,h2,O,j,y,h4,Z,h6⟩
 .rcases pP (X:=X) (kd:=kd) (av:=av) (e:=e) (x:=x)with⟨z,U,G,g4,g5⟩|⟨I,m',z,U,G,g4,g5,g6⟩
  .refine .inl ⟨z.trans h1,U.trans h2,?_⟩;cases c:(bj kd av e X x).pg with
   |some I=>
    obtain⟨P2,Y,e2⟩:=G I c;rw[O]at Y;cases Y;exact⟨I,M,by rwa[e2],by rwa[e2],by rwa[e2]⟩
   |none=>
    rw[c,O]at g5;cases g5
  .rw[O]at z;cases z;rw[h6]at G;cases G;exact .inr ⟨g6,g4.trans h4,g5.trans Z,X.n,x,(),hx,U⟩
 .rcases pP (X:=X) (kd:=kd) (av:=av) (e:=e) (x:=x)with⟨z,U,G,g4⟩|⟨I,m',z,_⟩
  .refine .inr ⟨?_,z.trans h2,U.trans O,j,y,(),Z,h6⟩;cases c:(bj kd av e X x).pg with
   |none=>rfl
   |some I=>
    obtain⟨P2,Y,_⟩:=G I c;rw[h1]at Y;cases Y
  .rw[h1]at z;cases z
end
def Rb.fold {kd:Int} {ta av e:V} {p:Addr} {v a':V} {m:Int} {ds:List DR}:∀{l:List DR} {X:PH},Rb ta p v a' m ds X->(∀(i:Nat) (x:DR),l[i]?=some x->ds[X.n+i]?=some x)->Rb ta p v a' m ds (l.foldl (bj kd av e) X)
 | [],_,h,_=>h
 |x::r,X,h,g=>Rb.fold (l:=r) (X:=bj kd av e X x) (h.step<|g 0 x M) λi y hy=>by
  rw[AW,Nat.add_assoc,Nat.add_comm 1 i];exact g (i+1) y hy
def PN.rise {x:PM} (A:PN K t H a F x):du x.ks:=by
 obtain⟨_,_,_,_,_,_,L⟩:=A.lvs;exact L.rise
def PN.notup {x:PM} (A:PN K t H a F x) (e:H b=some (.tup xs)):¬F b:=λz=>by
 obtain⟨o,G,n⟩:=A.dom z;rw[e]at G;exact n _ (W8 G).symm
def Rj.bd {kd n:Int} (h:Rj st ks kd n av e ps (some a')) (hk:∀k∈ks,k<10^40) (O:Qc kd a' e):RB a':=by
 rcases h with⟨k0,m,g,G⟩|⟨up,Y,Z,v1,G⟩
 .rcases O with⟨_,i,j,rfl,rfl,h1,h2,h3⟩|⟨z,_⟩|⟨z,_⟩
  .show i<10^80;lia
  .lia
  .lia
 .split at G
  .cases G
  .cases c:(cw up av e ks)[n.toNat-1]? with
   |none=>rw[c]at G;cases G
   |some k=>
    rw[c]at G;cases G;have I:=Q2 c;unfold cw at I;have I:=(QS.mp I).1;have U:k<10^40:=hk k (by split at I;exact I;exact Xo.mp I);show(if up=true then k+1 else k-1)<10^80;split<;>lia
def Ot (F:Addr->Prop) (X:PH) (c dd d:Addr):Addr->Prop:=λb=>F b\/X.mut c dd b\/b=d
structure Pm (K:WN) (t:P5) (H:Hp) (sc a d c p dd n:Addr) (F:Addr->Prop) (x:PM) (ds:List DR) (X:PH) (kd:Int) (av e:V) (ns:List Int):Prop where
 J:Jd K t H a d F x ds
 C:PR t H c a p dd kd av e X
 nF:∀b,X.adr c p dd b->¬F b
 nm:¬X.mut c dd d
 hn:H n=some (.tup [.int kd,av,e])
 I:Inv kd av e ds X
 cS:RD K (Ot F X c dd d) H sc (ns.map V.int)
section
variable {sc d n:Addr} {x:PM} {kd:Int}
def PR.nadr (C:PR t H c a p dd kd av e X) (hb:H b=some (.dK kvs)) (I:¬X.mut c dd b):¬X.adr c p dd b:=λh=>by
 have tk:∀{q:Addr} {a':V},Pe t H q kd a' e->q≠b:=λh=>h.nd hb λ_ _ _ z=>by cases z
 rcases h with h|h|h|⟨P,G,h|h|⟨y,hy,h⟩⟩
 .exact I h
 .exact tk C.tk.1 h.symm
 .rcases C.rt with g|⟨q,h1,h2,_⟩
  .rw[g]at h;cases h
  .rw[h1]at h;cases h;exact tk h2 M
 .exact tk (C.pg P G).1.tk.1 h.symm
 .rcases(C.pg P G).1.ah with g|⟨q,h1,h2,_⟩
  .rw[g]at h;cases h
  .rw[h1]at h;cases h;exact tk h2 M
 .have:=((C.pg P G).1.fd y hy).1;rw[<-h,hb]at this;cases this
def Pm.same (S:Pm K t H sc a d c p dd n F x ds X kd av e ns) (s:Ds H H'):Pm K t H' sc a d c p dd n F x ds X kd av e ns:=
 ⟨S.J.same s,S.C.same s,S.nF,S.nm,s _ _ S.hn,S.I,S.cS.fr<|Fr.of_same s⟩
def Pm.go (S:Pm K t H sc a d c p dd n F x ds X kd av e ns) {more:List DR} (J:Jd K t H' a d F' x' (ds++more)) (f:Fr (Wh F d) (Wh F' d) H H'):Pm K t H' sc a d c p dd n F' x' (ds++more) X kd av e ns/\Fr (Ot F X c dd d) (Ot F' X c dd d) H H':=by
 have fo:Fr (Ot F X c dd d) (Ot F' X c dd d) H H':=λb o O G=>by
  obtain⟨h1,h2⟩:=f b o (λz=>O<|z.elim .inl λz=> .inr<|.inr z) G;exact⟨h1,λz=>z.elim (λz=>h2<|.inl z) λz=>z.elim (λz=>O<|.inr<|.inl z) λz=>h2<|.inr z⟩
 have nd:=S.C.nadr S.J.di S.nm;have U:∀b,X.adr c p dd b->∀o,H b=some o->H' b=some o/\¬F' b:=λb hb o G=>by
  obtain⟨h1,h2⟩:=f b o (λz=>z.elim (S.nF b hb) λz=>nd<|z▸hb) G;exact⟨h1,λz=>h2<|.inl z⟩
 have tu:∀b xs,H b=some (.tup xs)->H' b=some (.tup xs):=λb xs G=>(f b _ (λz=>z.elim (S.J.A.notup G) λz=>by rw[z,S.J.di]at G;cases G) G).1;refine⟨⟨J,S.C.go λb o G h=>?_,λb hb=>?_,S.nm,tu _ _ S.hn,S.I.more,S.cS.fr fo⟩,fo⟩
 .rcases h with h|⟨xs,h⟩
  .exact(U b h o G).1
  .rw[h]at G⊢;exact tu b xs G
 .obtain⟨o,G,_⟩:=S.C.dom hb;exact(U b hb o G).2
def Pm.fo (S:Pm K t H sc a d c p dd n F x ds X kd av e ns) (G:X'=l.foldl (bj kd av e) X) (C:PR t H' c a p dd kd av e X') (I:Inv kd av e ds X') (k:∀b o,¬X.mut c dd b->H b=some o->H' b=some o):Pm K t H' sc a d c p dd n F x ds X' kd av e ns/\Fr (Ot F X c dd d) (Ot F X' c dd d) H H':=by
 have O:∀b,X'.mut c dd b->X.mut c dd b:=λb h=>by rw[G]at h;exact x6 h
 have fo:Fr (Ot F X c dd d) (Ot F X' c dd d) H H':=λb o U Y=>⟨k b o (λz=>U<|.inr<|.inl z) Y,λz=>U<|z.imp id λz=>z.imp (O b) id⟩;have A:=S.J.A.mut S.C S.nF k;exact⟨⟨⟨A,k _ _ S.nm S.J.di,S.J.nd,S.J.kb,S.J.iv,S.J.le,S.J.dy,S.J.D,S.J.tb,S.J.mx,S.J.fl,S.J.ho⟩,C,λb h=>S.nF b (by rw[G]at h;exact Dd h),λz=>S.nm<|O d z,k _ _ (S.C.nmut S.hn (λ_ _ _ z=>by cases z) λ_ z=>by cases z) S.hn,I,S.cS.fr fo⟩,fo⟩
def Pm.wr (S:Pm K t H sc a d c p dd n F x ds X kd av e ns) (hb:H b=some (.dK kvs)) (G:¬Ot F X c dd d b):Pm K t (upd H b o) sc a d c p dd n F x ds X kd av e ns:=by
 have U:=S.C.nadr hb λz=>G (.inr<|.inl z);have J:=S.J;refine⟨⟨J.A.upd (λz=>G<|.inl z) (λxs z=>by rw[hb]at z;cases z),by rw[ae λz=>G (.inr<|.inr z.symm)];exact J.di,J.nd,J.kb,J.iv,J.le,J.dy,J.D,J.tb,J.mx,J.fl,J.ho⟩,S.C.go λz o' O h=>?_,S.nF,S.nm,?_,S.I,S.cS.put hb⟩
 .rw[ae λy=>?_]
  .exact O
  .rcases h with h|⟨xs,h⟩
   .exact U<|y▸h
   .rw[y,hb,h]at O;cases O
 .rw[ae λy=>by have h:=S.hn;rw[y,hb]at h;cases h];exact S.hn
def Pm.turn (S:Pm K t H sc a d c p dd n F x ds X kd av e ns) {g:Addr} {G:List DR} (U:X.mut c dd g) (J:H' d=some (.dK<|az x.st.kv)->¬F' d->Jd K t H' a d F' x' G) (C:PR t H' c a p dd kd av e X') (nF:∀b,X'.adr c p dd b->¬F' b) (I:Inv kd av e G X') (Y:∀b o,H b=some o->X'.mut c dd b->X.mut c dd b) (k:∀b o,b≠g->¬F b->H b=some o->H' b=some o/\¬F' b):Pm K t H' sc a d c p dd n F' x' G X' kd av e ns/\Fr (Ot F X c dd d) (Ot F' X' c dd d) H H':=by
 have fo:Fr (Ot F X c dd d) (Ot F' X' c dd d) H H':=λb o O Z=>by
  obtain⟨h1,h2⟩:=k b o (λz=>O<|.inr<|.inl<|z▸U) (λz=>O<|.inl z) Z;exact⟨h1,λz=>z.elim h2 λz=>z.elim (λz=>O<|.inr<|.inl<|Y b o Z z) λz=>O<|.inr (.inr z)⟩
 obtain⟨d1,d2⟩:=k d _ (λz=>S.nm<|z▸U) S.J.nd S.J.di;exact⟨⟨J d1 d2,C,nF,λz=>S.nm<|Y d _ S.J.di z,(k n _ (λz=>S.C.nmut S.hn (λ_ _ _ z=>by cases z) (λ_ z=>by cases z)<|z▸U) (S.J.A.notup S.hn) S.hn).1,I,S.cS.fr fo⟩,fo⟩
def L4 {P G:Pl} (O:X.pg=some P) (I:X'.pg=some G) (U:G.g=P.g) (e2:G.nd=P.nd) (z:X'.mut c dd b):X.mut c dd b:=by
 rcases z with z|z|⟨Y,z,h⟩
 .exact .inl z
 .exact .inr<|.inl z
 .rw[I]at z;cases z;rw[U,e2]at h;exact .inr<|.inr ⟨P,O,h⟩
def U_hO (U:ES t H1 F st kd m ta e v ts a' R) (z:Int):R z=hO v kd a' e z:=by
 rcases U.rest with⟨h1,h2⟩|⟨q,h1,_,_,_,h2,_⟩
 .rw[h1,h2];unfold hO;rw[W7 M]
 .rw[h1,h2,ED]
end
def NB {m:Nat}:∀(i:Nat) (x:DR),((ds.drop n).take m)[i]?=some x->ds[n+i]?=some x:=λi d h=>by
 rw[Xz]at h;split at h
 .rwa [Xg]at h
 .cases h
section
variable {sc d n:Addr} {x:PM} {kd:Int}
def Pm.off (S:Pm K t H sc a d c p dd n F x ds X kd av e ns) (hb:H b=some o) (I:∀C d fs,o≠ .ins C d fs) (G:∀k,o≠ .dK k) (O:¬F b):¬Ot F X c dd d b:=λz=>by
 rcases z with z|z|z
 .exact O z
 .exact S.C.nmut hb I G z
 .rw[z,S.J.di]at hb;exact G _ (W8 hb).symm
def Pm.new (S:Pm K t H sc a d c p dd n F x ds X kd av e ns) (hb:H b=none):¬Ot F X c dd d b:=λz=>by
 rcases z with z|z|z
 .exact S.J.A.out hb z
 .obtain⟨o,G,_⟩:=S.C.dom (.inl z);rw[hb]at G;cases G
 .rw[z,S.J.di]at hb;cases hb
def Jd.kl (J:Jd K t H a d F x ds):x.ks.length<=400:=by
 have G:x.ks.Nodup:=J.A.rise.imp λh=>Int.ne_of_lt h;have:=gX G (S:=x.st.kv.map (·.1)) λz hz=>Kd.mpr ((J.A.ok.ks z).mp hz);rw[Q0]at this;exact QQ this J.le
def Jd.k0 (J:Jd K t H a d F x ds):∀k∈x.ks,0<=k/\k<10^40:=λk hk=>J.kb k (Kd.mpr<|(J.A.ok.ks k).mp hk)
end
def Bd (X:PH):Prop:=(X.rv≠ .non->RB X.ra)/\∀P,X.pg=some P->P.ah≠ .non->RB P.aa
def Bd.step {kd:Int} {x:DR} (b:Bd X):Bd (bj kd av e X x):=by
 rcases pP (X:=X) (kd:=kd) (av:=av) (e:=e) (x:=x)with⟨z,G,I,_⟩|⟨P,m,z,G,I,U,Y,Z⟩
 .refine⟨by rw[z,G];exact b.1,λO h=>?_⟩;obtain⟨P,e1,e2⟩:=I O h;rw[e2];exact b.2 P e1
 .refine⟨by rw[U,Y];exact b.2 P z,λO h=>by rw[Z]at h;cases h⟩
def Bd.fold {kd:Int} {av e:V}:∀{l:List DR} {X:PH},Bd X->Bd (l.foldl (bj kd av e) X)
 | [],_,h=>h
 |x::r,X,h=>Bd.fold (l:=r) (X:=bj kd av e X x) h.step
section
variable {sc d n:Addr} {x:PM} {kd:Int}
def Pm.opn (S:Pm K t H sc a d c p dd n F x ds X kd av e ns) {g nd:Addr} (U:X.rv= .ref q) (A:PN K t H' a F' {x with ma:=x.ma+1,di:=x.di++ [(r,[.str "mark",.int (x.ma+1)])]}) (C:PR t H' c a p dd kd av e {X with pg:=some (Rg g nd q X.ra)}) (Y:∀b,({X with pg:=some (Rg g nd q X.ra)}:PH).adr c p dd b->¬F' b) (Z:H g=none) (nn:H nd=none) (k:∀b o,b≠c->¬F b->H b=some o->H' b=some o/\¬F' b):
  ∃(G:PM) (mo:List DR) (X2:PH) (P:Pl),Pm K t H' sc a d c p dd n F' G (ds++mo) X2 kd av e ns/\Fr (Ot F X c dd d) (Ot F' X2 c dd d) H H'/\G.now=x.now/\G.ma=x.ma+1/\G.st=x.st/\X2.pg=some P/\P.fd=none/\P.cl=none/\(Bd X->Bd X2):=by
 obtain⟨S2,f2⟩:=S.turn (.inl M) (λh1 h2=>S.J.mark A h1 h2 M M M M M) C Y (S.I.open U).more (λb o O z=>by
  rcases z with z|z|⟨P,z,h⟩
  .exact .inl z
  .exact .inr<|.inl z
  .cases z;rcases h with h|h
   .rw[show b=g from h,Z]at O;cases O
   .rw[show b=nd from h,nn]at O;cases O) k
 exact⟨_,_,_,_,S2,f2,M,M,M,M,M,M,λb=>⟨b.1,λP z h=>by cases z;exact Wb M h⟩⟩
def Pm.rd (S:Pm K t H sc a d c p dd n F x ds X kd av e ns) {P:Pl} {f:Addr} (G:X.pg=some P) (hf:P.fd=none) (hc:P.cl=none) (A:PN K t H' a F' x) (C:PR t H' c a p dd kd av e {X with pg:=some {P with fd:=some (f,ts),ah:=v,aa:=a'}}) (Y:∀b,({X with pg:=some {P with fd:=some (f,ts),ah:=v,aa:=a'}}:PH).adr c p dd b->¬F' b) (k:∀b o,b≠P.g->¬F b->H b=some o->H' b=some o/\¬F' b) (U:∃H1,ES t H1 F' x.st kd m P.ta e v ts a' R):
  ∃(X2:PH) (O:Pl) (y:Addr×List Tp),Pm K t H' sc a d c p dd n F' x ds X2 kd av e ns/\Fr (Ot F X c dd d) (Ot F' X2 c dd d) H H'/\X2.pg=some O/\O.fd=some y/\O.cl=none/\(Bd X->Bd X2):=by
 obtain⟨H1,U⟩:=U;obtain⟨Z,f2⟩:=S.turn (.inr<|.inr ⟨_,G,.inl M⟩) (λh1 h2=>⟨A,h1,h2,S.J.kb,S.J.iv,S.J.le,S.J.dy,S.J.D,S.J.tb,S.J.mx,S.J.fl,S.J.ho⟩) C Y (S.I.read G hf U.nd (by rw[S.J.tb];exact U.me) U.less<|U_hO U) (λb o _=>L4 G M M M) k;refine⟨_,_,_,Z,f2,M,M,hc,λb=>⟨b.1,λP z h=>?_⟩⟩;cases z;have h1:=U.tell x.ks A.rise A.ok.ks;rw[W6 h]at h1;rcases U.rest with z|⟨q',_,_,o,_⟩
 .exact Wb z.1 h
 .exact h1.bd (λk hk=>(S.J.k0 k hk).2) o
def Pm.cls (S:Pm K t H sc a d c p dd n F x ds X kd av e ns) {P:Pl} {y:Addr×List Tp} (G:X.pg=some P) (hy:P.fd=some y) (A:PN K t H' a F' {x with ma:=x.ma+1,di:=x.di++ [(r,[.str "mark",.int (x.ma+1)])]}) (C:PR t H' c a p dd kd av e {X with pg:=some {P with cl:=some (x.ma+1)}}) (Y:∀b,({X with pg:=some {P with cl:=some (x.ma+1)}}:PH).adr c p dd b->¬F' b) (k:∀b o,b≠P.g->¬F b->H b=some o->H' b=some o/\¬F' b):
  ∃(O:PM) (mo:List DR) (X2:PH),Pm K t H' sc a d c p dd n F' O (ds++mo) X2 kd av e ns/\Fr (Ot F X c dd d) (Ot F' X2 c dd d) H H'/\O.now=x.now/\O.ma=x.ma+1/\O.st=x.st/\(Bd X->Bd X2)/\∃(ta v a':V) (q:Addr) (m:Int),Rb ta q v a' m (ds++mo) X2:=by
 obtain⟨Z,f2⟩:=S.turn (.inr<|.inr ⟨_,G,.inl M⟩) (λh1 h2=>S.J.mark A h1 h2 M M M M M) C Y (S.I.close G hy M) (λb o _=>L4 G M M M) k;have U:=S.I.pg P G;exact⟨_,_,_,Z,f2,M,M,M,(λb=>⟨b.1,λP' z h=>by cases z;exact b.2 P G h⟩),P.ta,P.ah,P.aa,P.tk,x.ma+1,.inl ⟨U.rn,U.ra.symm,_,M,M,M,M⟩⟩
def Rb.fin (WP:Rb ta q v a' m ds X) (I:Inv kd av e ds X) (Z:ds.length<=X.n):X.pg=none:=by
 rcases WP with⟨_,_,P,h1,_,_,h2⟩|⟨h,_⟩
 .exfalso;have G:=I.pg P h1;cases O:P.fd with
  |none=>rw[(G.un O).2]at h2;cases h2
  |some y=>
   obtain⟨nr,mr,_,_,_,_,_,_,_,cl⟩:=G.fd y O;obtain⟨j,z,U,_,_,Y⟩:=cl m h2;have:=(Q1.mp U).1;lia
 .exact h
end
def yF (t:P5):Sp:=λvs H Q _=>∃(v av e:V) (kd:Int),vs=[v]/\R7 t H v kd av e/\(v≠ .non->RB av/\RB e)/\∀H',Ds H H'->Q (.str<|if v= .non then "end" else Hs (Ro kd) av e) H'
def zo:Dr P w K mg base P1 3 t.tH t.mC ["_law_token_here"] (yF t):=by
 refine T.tX.okl yX λs H vs Q E Y h _=>?_;intro X;obtain⟨v,av,e,kd,rfl,TO,bd,q⟩:=h;refine aj (aO (aw dF Ca a8<|ay _)
    (aB<|aD gy)
    aE)
   (aC (aD<|Gg (kk:=2) (iP (cx T.bH T.Gw (vW T) T.pj (_))<|iP (cx T.g8 T.L7 (vW T) T.pj (_))<|cx T.cy T.JX (vW T) T.pj (_)) Y.mo Ca) ?_)
 intros
 rcases TO with rfl|⟨p,rfl,Z,I⟩
 .exact⟨_,M,M,_,M,fj M<|q H (Ds.refl _)⟩
 obtain⟨ba,be⟩:=bd λz=>by cases z
 refine⟨_,M,M,_,M,a6 (λz=>by cases z) ?_⟩;obtain⟨O,fr,G,U⟩:=Z;exact⟨_,M,p,_,O,fr,_,M,G,U.wo,dWN I.kd,p,O,kd,fr,av,e,M,G,U,I,ba,be,λH2 s2=>q H2 s2⟩
def yJ (K:WN) (t:P5):Sp:=λvs H Q _=>∃(sc a d c p dd n:Addr) (F:Addr->Prop) (x:PM) (ds:List DR) (X:PH) (kd m z:Int) (av e:V) (ns:List Int),vs=[.ref c,.ref a,.ref n,.int m,.int z]/\Pm K t H sc a d c p dd n F x ds X kd av e ns/\X.pg=none/\Bd X/\0<=m/\m<=9/\1<=z/\z<=30/\x.now+x.ma<=1900/\
 ∀(H':Hp) (F':Addr->Prop) (x':PM) (mo:List DR) (X':PH),Pm K t H' sc a d c p dd n F' x' (ds++mo) X' kd av e ns->Fr (Ot F X c dd d) (Ot F' X' c dd d) H H'->X'.pg=none->Bd X'->x'.now=x.now->x'.ma<=x.ma+2*m->x'.st=x.st->Q (.bl true) H'
def zt:Dr P w K mg base P1 11 t.tL t.mG ["_law_copier","_law_house_here","_law_begun","_law_most","_law_many"] (yJ K t):=by
 refine T.t7.okl y6 λs H vs Q E hr h _=>?_;intro X;obtain⟨sc,a,d,c,p,dd,n,F,x,ds,X',kd,m,z,av,e,ns,rfl,S,hp,bd,m0,m1,z0,z1,l,q⟩:=h;refine bW (λx=>(fH Wm M (iU {_} T.pO (ac PB ag)) (Qu 5)
    x)) ?_
 refine mY (λx=>aO (aw iM (aX Ca T.aA T.fP (eJ T) hr.mo T.f9 .nil ar) a8<|ay _) x aE) ?_;refine aj (aM<|aX Ca T.aA T.qg (gW T) hr.mo T.qj .nil ar)
   (aj (aM<|aQ Ca T.aA T.qf (gV T) hr.mo T.qi .nil ar<|ac Pa ag)
   (aj (aM<|aX Ca T.aA T.oS (gh T) hr.mo T.pA .nil ar)
   (aj (aM<|aQ Ca T.aA T.kP (fL T) hr.mo T.kY .nil ar<|ac af ag)
   (aC (aO (io<|bV<|aJ (kM T) hr.mo {_} T.wc T.nE.kp T.wf .nil ar (ac Ca<|ac Kc<|ac M2 ag))
    (aB<|aD oB)
    aE) ?_))))
 intros
 refine aC (aD oB) ?_
 intros
 refine⟨_,M,m,M,(),(),xY (n:=m.toNat) (λi B H'=>∃(F':Addr->Prop) (x':PM) (mo:List DR) (X2:PH) (u:Option V),B=[some (.ref c),some (.ref a),some (.ref n),some (.int m),some (.int z),u]/\Pm K t H' sc a d c p dd n F' x' (ds++mo) X2 kd av e ns/\Fr (Ot F X' c dd d) (Ot F' X2 c dd d) H H'/\X2.pg=none/\Bd X2/\x'.now=x.now/\x'.ma<=x.ma+2*i/\x'.st=x.st) ⟨F,x,[],X',none,M,by rw[ZB];exact S,Fr.refl,hp,bd,M,(),M⟩ (λi B H2 hi w=>?_)<|λB H2 w=>?_⟩
 .clear S hp bd;obtain⟨F1,x1,mo,X1,u,rfl,S,f1,hp,bd,l1,l2,l3⟩:=w;obtain⟨dc,hc⟩:=S.C.ob;unfold g7
  (try dsimp only)
  refine⟨_,M,c,dc,_,M,hc,{_},c,a,p,dd,kd,av,e,X1,M,S.C,M,_,M,?_⟩;rcases S.C.rt with hv|⟨q1,hv,_,_⟩
  .rw[hv];exact kT M ⟨F1,x1,mo,X1,_,M,S,f1,hp,bd,l1,(),l3⟩
  rw[hv];refine BI (λz=>by cases z) ?_;refine⟨_,M,c,dc,_,M,hc,{_},c,a,p,dd,q1,kd,av,e,X1,F1,x1,M,S.C,hp,hv,S.J.A,S.nF,(),λH3 F3 r g nd A3 C3 a1 ng nn k3=>?_⟩;obtain⟨x3,U,X3,P3,G,f3,b1,b2,b3,p3,Y,a2,bo⟩:=S.opn hv A3 C3 a1 ng nn k3;have f3:=f1.trans f3;clear S A3 C3 a1 ng nn k3 hc f1;obtain⟨ax,a3⟩:=G.C.ob;have kl:=G.J.kl;have le:=G.J.le
  (try dsimp only)
  refine⟨_,M,c,ax,_,M,a3,{_},_,M,c,a,p,dd,z,kd,av,e,X3,P3,F3,x3,M,G.C,p3,Y,G.J.A,G.nF,(),(),(),(),λk hk=>(G.J.k0 k hk).1,G.J.iv,λH4 F4 f l v ts a' R A4 C4 a4 k4 E4 _ _ _ _=>?_⟩;obtain⟨X4,P4,y4,S4,f4,p4,Z,aa,br⟩:=G.rd p3 Y a2 A4 C4 a4 k4 E4;have f4:=f3.trans f4;clear G A4 C4 a4 k4 E4 a3 f3 p3 Y a2;obtain⟨b6,ab⟩:=S4.C.ob
  (try dsimp only)
  refine⟨_,M,c,b6,_,M,ab,{_},c,a,p,dd,kd,av,e,X4,P4,y4,F4,x3,M,S4.C,p4,Z,aa,S4.J.A,S4.nF,(),λH5 F5 r5 A5 C5 ah k5=>?_⟩;obtain⟨x5,a0,X5,O,f5,d1,d2,d3,bc,ta,v5,a5,q5,m5,T5⟩:=S4.cls p4 Z A5 C5 ah k5;have f5:=f4.trans f5;clear S4 A5 C5 ah k5 ab f4 p4 Z aa;have dl:=O.J.len;obtain⟨b7,an⟩:=O.C.ob
  (try dsimp only)
  refine⟨_,M,c,b7,_,M,an,{_},c,a,p,dd,kd,2000,av,e,X5,F5,x5,_,M,O.C,O.J.A,O.J.dy,O.I,O.J.D,(),(_),λH6 X6 e6 C6 I6 k6=>?_⟩;obtain⟨S6,f6⟩:=O.fo e6 C6 I6 k6;have T6:=T5.fold (kd:=kd) (av:=av) (e:=e) (l:=(((ds++mo++U)++a0).drop X5.n).take (2000:Int).toNat) NB;rw[<-e6]at T6;have n6:((ds++mo++U)++a0).length<=X6.n:=by
   rw[e6,EE,Q6,Zf,show(2000:Int).toNat=2000 from rfl];have:=O.I.le;lia
  have b8:=T6.fin I6 n6;have b9:Bd X6:=by rw[e6];exact(bc<|br<|bo bd).fold
  have f6:=f5.trans f6;clear O C6 I6 k6 an f5 T5 T6 n6
  (try dsimp only)
  refine⟨_,M,_,M,_,M,c,a,p,dd,n,kd,av,e,X6,F5,x5,_,M,S6.C,S6.J.A,S6.J.dy,S6.I,S6.J.D,(),S6.hn,λH7 s7=>⟨_,M,cq ?_⟩⟩;exact⟨F5,x5,mo++U++a0,X6,_,M,by rw[<-QE,<-QE];exact S6.same s7,f6.trans<|Fr.of_same s7,b8,b9,(),(),by rw[d3,b3,l3]⟩
 .obtain⟨F1,x1,mo,X1,u,rfl,S1,f1,ba,bb,l1,l2,l3⟩:=w;exact q H2 F1 x1 mo X1 S1 f1 ba bb l1 () l3
def AZ (K:WN) (t:P5):Sp:=λvs H Q _=>∃(sc a d c p dd n:Addr) (F:Addr->Prop) (x:PM) (ds:List DR) (X:PH) (kd w z:Int) (av e:V) (ns:List Int),vs=[.ref c,.ref a,.ref d,.int w,.int z]/\Pm K t H sc a d c p dd n F x ds X kd av e ns/\X.pg=none/\Bd X/\1<=z/\z<=30/\x.now+x.ma<=1900/\x.st.kv.length<=300/\
 ∀(H':Hp) (F':Addr->Prop) (x':PM) (mo:List DR) (X':PH),Pm K t H' sc a d c p dd n F' x' (ds++mo) X' kd av e ns->Fr (Ot F X c dd d) (Ot F' X' c dd d) H H'->Bd X'->x'.now<=x.now+12->x'.ma<=x.ma+2->x'.st.kv.length<=300->Q .non H'
def Bu:Dr P w K mg base P1 11 t.vp t.oW ["_law_copier","_law_house_here","_law_kept","_law_cell","_law_many"] (AZ K t):=by
 refine T.DD.okl Bf λs H vs Q E hr h _=>?_;intro X;obtain⟨sc,a,d,c,p,dd,n,F,x,ds,X',kd,w,z,av,e,ns,rfl,S,hp,bd,z0,z1,l,l0,q⟩:=h;refine mY (λx=>aO (aw iM (aX Ca T.aA T.fP (eJ T) hr.mo T.f9 .nil ar) a8<|ay _) x aE) ?_;refine aj (aO (aw sJ (ao aS PB af) af<|ay _)
    (aB<|aM<|aX Ca T.aA T.qg (gW T) hr.mo T.qj .nil ar)
    aE)
   (aj (aO (aw sJ (ao aS PB af) af<|ay _)
    (aB<|aM<|aQ Ca T.aA T.qf (gV T) hr.mo T.qi .nil ar<|ac Pa ag)
    aE)
   (aj (aM<|aJ (mf T) hr.mo {_} T.vg T.pN.kp T.vk .nil ar (ac Kc<|ac M2<|ac (ao aR PB af) ag))
   (aj (aO (aw sJ (ao aS PB af) af<|ay _)
    (aB<|aM<|aX Ca T.aA T.oS (gh T) hr.mo T.pA .nil ar)
    aE)
   (aC (aM<|aQ Ca T.aA T.kP (fL T) hr.mo T.kY .nil ar<|ac (ao aS (ao aR PB af) af) ag) ?_))))
 intros
 obtain⟨dc,hc⟩:=S.C.ob;refine⟨_,M,c,dc,_,M,hc,{_},c,a,p,dd,kd,av,e,X',M,S.C,M,_,M,?_⟩;rcases S.C.rt with hv|⟨q1,hv,_,_⟩
 .rw[hv];exact kT M<|q H F x [] X' (by rw[ZB];exact S) Fr.refl bd () () l0
 rw[hv];refine BI (λz=>by cases z) ?_;refine c7 (λB H2=>B=[some (.ref c),some (.ref a),some (.ref d),some (.int w),some (.int z)]/\∃(F2:Addr->Prop) (Y:PM) (mo:List DR) (X2:PH),Pm K t H2 sc a d c p dd n F2 Y (ds++mo) X2 kd av e ns/\Fr (Ot F X' c dd d) (Ot F2 X2 c dd d) H H2/\Y.now=x.now/\Y.ma<=x.ma+1/\Y.st=x.st/\Bd X2/\(w%4>0->∃P,X2.pg=some P/\P.fd=none/\P.cl=none)) (λnx go=>?_)<|λB H2 w1=>?_
 .refine⟨_,M,_,_,M,M,(by show(0:Int)<4;decide),_,_,M,M,_,M,bP (λy=>?_)<|λy=>go _ _ ⟨M,F,x,[],X',by rw[ZB];exact S,Fr.refl,M,(),M,bd,λh=>Wb (Wf h) y⟩⟩;refine⟨_,M,c,dc,_,M,hc,{_},c,a,p,dd,q1,kd,av,e,X',F,x,M,S.C,hp,hv,S.J.A,S.nF,(),λH3 F3 r g nd A3 C3 a4 ng nn k3=>?_⟩;obtain⟨x3,a5,Z,P3,S3,f3,b1,b2,b3,p3,aa,ab,bo⟩:=S.opn hv A3 C3 a4 ng nn k3;exact go _ _ ⟨M,F3,x3,a5,Z,S3,f3,b1,(),b3,bo bd,λ_=>⟨P3,p3,aa,ab⟩⟩
 clear S hp hv hc bd;obtain⟨rfl,F2,Y,mo,X2,S,f2,b1,b2,b3,bd,ph⟩:=w1;refine c7 (λB H3=>B=[some (.ref c),some (.ref a),some (.ref d),some (.int w),some (.int z)]/\∃(F3:Addr->Prop) (Z:PH),Pm K t H3 sc a d c p dd n F3 Y (ds++mo) Z kd av e ns/\Fr (Ot F X' c dd d) (Ot F3 Z c dd d) H H3/\Bd Z/\(w%4>1->∃P y,Z.pg=some P/\P.fd=some y/\P.cl=none)) (λnx go=>?_)<|λB H3 w1=>?_
 .refine⟨_,M,_,_,M,M,(by show(0:Int)<4;decide),_,_,M,M,_,M,bP (λy=>?_)<|λy=>go _ _ ⟨M,F2,X2,S,f2,bd,λh=>Wb (Wf h) y⟩⟩;have y:=Wd y;obtain⟨P2,p2,G,a0⟩:=ph ();obtain⟨a1,a2⟩:=S.C.ob;have kl:=S.J.kl;have le:=S.J.le;refine⟨_,M,c,a1,_,M,a2,{_},_,M,c,a,p,dd,z,kd,av,e,X2,P2,F2,Y,M,S.C,p2,G,S.J.A,S.nF,(),(),(),(),λk hk=>(S.J.k0 k hk).1,S.J.iv,λH4 F4 f l v ts a' R A4 C4 ah k4 E4 _ _ _ _=>?_⟩;obtain⟨X4,P4,y4,S4,f4,p4,an,ax,br⟩:=S.rd p2 G a0 A4 C4 ah k4 E4;exact go _ _ ⟨M,F4,X4,S4,f2.trans f4,br bd,λ_=>⟨P4,y4,p4,an,ax⟩⟩
 clear S f2 ph bd;obtain⟨rfl,F3,Z,S,f3,bd,ph⟩:=w1;have b6:Y.st.kv.length<=300:=by rwa[b3]
 (try dsimp only)
 refine⟨_,M,_,M,_,M,_,_,M,M,⟨(_),(_)⟩,a,d,_,F3,Y,_,300,M,S.J,(),b6,(_),(_),λH4 F4 x4 a3 J4 l4 m4 e4 f4=>?_⟩;obtain⟨S4,fo⟩:=S.go J4 f4;have f4:=f3.trans fo;clear S J4 f3 fo
 (try dsimp only)
 show yC _ _ _ _ _;refine c7 (λB H5=>B=[some (.ref c),some (.ref a),some (.ref d),some (.int w),some (.int z)]/\∃(F5:Addr->Prop) (x5:PM) (O:List DR) (X5:PH),Pm K t H5 sc a d c p dd n F5 x5 (ds++O) X5 kd av e ns/\Fr (Ot F X' c dd d) (Ot F5 X5 c dd d) H H5/\Bd X5/\x5.now<=x.now+12/\x5.ma<=x.ma+2/\x5.st.kv.length<=300) (λnx go=>?_)<|λB H5 w1=>?_
 .refine⟨_,M,_,_,M,M,(by show(0:Int)<4;decide),_,_,M,M,_,M,bP (λy=>?_)<|λy=>go _ _ ⟨M,F4,x4,mo++a3,Z,by rwa[<-QE],f4,bd,(),(),e4⟩⟩;have y:=Wd y;obtain⟨P2,y2,p2,G,a0⟩:=ph ();obtain⟨a1,a2⟩:=S4.C.ob;refine⟨_,M,c,a1,_,M,a2,{_},c,a,p,dd,kd,av,e,Z,P2,y2,F4,x4,M,S4.C,p2,G,a0,S4.J.A,S4.nF,(),λH5 F5 r5 A5 C5 b7 k5=>?_⟩;obtain⟨x5,O,X5,U,f5,d1,d2,d3,bc,_⟩:=S4.cls p2 G A5 C5 b7 k5;exact go _ _ ⟨M,F5,x5,mo++a3++O,X5,by rwa[<-QE,<-QE],f4.trans f5,bc bd,(),(),by rwa[d3]⟩
 clear S4 f4 ph bd;obtain⟨rfl,F5,x5,O,X5,U,f5,bd,d1,d2,d3⟩:=w1;have dl:=U.J.len;obtain⟨b8,b9⟩:=U.C.ob;have y0:=QA (w/8) (show(2:Int)≠0 by decide)
 (try dsimp only)
 refine⟨_,M,c,b8,_,M,b9,{_},_,M,_,_,M,M,⟨(_),(_)⟩,_,_,M,M,(by show(0:Int)<2;decide),c,a,p,dd,kd,_,av,e,X5,F5,x5,_,M,U.C,U.J.A,U.J.dy,U.I,U.J.D,(),y0,λH6 X6 e6 C6 I6 k6=>?_⟩;obtain⟨S6,f6⟩:=U.fo e6 C6 I6 k6;exact q H6 F5 x5 O X6 S6 (f5.trans f6) (by rw[e6];exact bd.fold) d1 d2 d3
def Inv.self {kd:Int} (I:Inv kd av e ds X) (D:RL ds):∀z∈az X.cp,Fl z.2/\aF (az X.cp) z.1=some z.2:=λz hz=>by
 unfold az at hz;obtain⟨w,hw,rfl⟩:=Qy.mp hz;obtain⟨i,G⟩:=DZ (l:=ds.take X.n) (λ_ z=>by cases z) w (QS.mp<|(I.due D).mem_iff.mp hw).1;exact⟨by show Fl w.2;rw[G];exact Wp,by show aF (az _) (Sum.inl w.1)=_;rw[O6];exact bC I.nd hw⟩
def Inv.stop {kd:Int} (I:Inv kd av e ds X):Inv kd av e ds {X with pg:=Option.none}:=⟨I.le,I.nd,I.cp,I.kp,I.su,λ_ z=>by cases z⟩
structure RS (t:P5) (H:Hp) (c a p dd:Addr) (kd:Int) (av e:V) (X:PH) (E:Addr->Prop):Prop where
 C:PR t H c a p dd kd av e X
 n:∀b,X.adr c p dd b->¬E b
def RS.fr {kd:Int} {E':Addr->Prop} (h:RS t H c a p dd kd av e X E) (f:Fr E E' H H') (tu:∀b xs,H b=some (.tup xs)->¬E b):RS t H' c a p dd kd av e X E':=
 ⟨h.C.go λb o G hb=>(f b o (hb.elim (h.n b) λ⟨xs,z⟩=>tu b xs<|z▸G) G).1,λb hb=>by
  obtain⟨o,G,_⟩:=h.C.dom hb;exact(f b o (h.n b hb) G).2⟩
def RS.same {kd:Int} (h:RS t H c a p dd kd av e X E) (s:Ds H H'):RS t H' c a p dd kd av e X E:=⟨h.C.same s,h.n⟩
def RS.wr {kd:Int} (h:RS t H c a p dd kd av e X E) (hb:H b=some (.dK kvs)) (I:¬X.adr c p dd b):RS t (upd H b o) c a p dd kd av e X E:=
 ⟨h.C.go λz o' G hz=>(by
  rw[ae λy=>?_]
  .exact G
  .rcases hz with hz|⟨xs,hz⟩
   .exact I<|y▸hz
   .rw[y,hb,hz]at G;cases G),h.n⟩
def Pm.tu {sc d n:Addr} {x:PM} {kd:Int} (S:Pm K t H sc a d c p dd n F x ds X kd av e ns):∀b xs,H b=some (.tup xs)->¬Ot F X c dd d b:=λb xs hb=>S.off hb (λ_ _ _ z=>by cases z) (λ_ z=>by cases z) (S.J.A.notup hb)
def HK (K:WN):Sp:=λvs H Q _=>∃(a:Addr) (ns:List Int),vs=[.ref a]/\Fz K H a (ns.map V.int)/\ns.length<=63/\∀H',Q (.bl true) H'
def M7:Dr P w K mg base P1 12 t.Ml t.Fx ["_law_script"] (HK K):=by
 refine T.OU.okl MN λs H vs Q E U h _=>?_;intro X;obtain⟨sc,ns,rfl,hS,cf,q⟩:=h;refine aj (xq (aJ (zu T) U.mo {_} T.Ld T.Ce.kp T.Ls .nil ar (ac (dC fu Ca (dN af)<|dN af) ag))<|Bm M<|fI (Qu 1)<|fI (Qu 2) wt)
   (aj (P7 3<|aJ (vT T) U.mo {_} T.IE T.yA.kp T.JE .nil ar (ac (aJ (vV T) U.mo {_} T.jp T.gd.kp T.jC .nil ar (ac Ca<|ac af ag))<|ac (aI (BP U.hd) {_} T.Hl Az (ac M2 ag)) ag))
   (aj (P7 4<|ao bF af<|ao aS (aJ (vV T) U.mo {_} T.jp T.gd.kp T.jC .nil ar (ac Ca<|ac af ag)) af)
   (aj (P7 5<|iK T.Gs (vY T) U.mo {_} T.Gu T.wj.choose_spec.1 T.wj.choose_spec.2 ar (ac Kc<|ac (aJ (zp T) U.mo {_} T.BA T.tY.kp T.BW .nil ar (ac PB ag)) ag))
   (aj (aO (io<|bV<|aJ (zt T) U.mo {_} T.BC T.t7.kp T.BY .nil ar (ac Qi<|ac Kc<|ac PB<|ac (ao aS (ao aR (aJ (vV T) U.mo {_} T.jp T.gd.kp T.jC .nil ar (ac Ca<|ac af ag)) af) af)<|ac Pa ag))
    (aB<|aD oB)
    aE)
   (aj (aM<|aJ (Bu T) U.mo {_} T.L9 T.DD.kp T.Mi .nil ar (ac Qi<|ac Kc<|ac M2<|ac (aJ (vV T) U.mo {_} T.jp T.gd.kp T.jC .nil ar (ac Ca<|ac af ag))<|ac Pa ag))
   (aj (P7 6<|aX Qi T.aA T.sR (rE T) U.mo T.tF .nil ar)
   (aj (P7 7<|dP jB {_} T.wA qa (ac (aP bi RT af<|λ_ _=>M) ag))
   (aj (P7 8<|iK T.Gs (vY T) U.mo {_} T.Gu T.JI .nil ar (ac Kc<|ac (aJ (zp T) U.mo {_} T.BA T.tY.kp T.BW .nil ar (ac PB ag))<|ac RT ag))
   (aj (aM<|uD QY PySem.F.slot_dict_clear PySem.F.type_dict_clear Gr<|aP bi RT af<|λ_ _=>M)
   (aj (aO (PW.pt<|gU (aw (Br U.u20) (aX Ra T.aA T.fQ (mX T) U.mo T.gb .nil ar) Rp<|ay _)<|gU (aw (Br U.u20) (aX Ra T.aA T.fQ (mX T) U.mo T.gb .nil ar) (aX Qi T.aA T.fQ (mX T) U.mo T.gb .nil ar)<|ay _)<|gw<|aw E7 (aX Ra T.aA T.mZ (kN T) U.mo T.m6 .nil ar) (aX Qi T.aA T.mZ (kN T) U.mo T.m6 .nil ar)<|ay _)
    (aB<|aD oB)
    aE)
   (aj (aO (PW.pt<|gU (aw E7 (aJ (zo T) U.mo {_} T.Bz T.tX.kp T.BV .nil ar (ac (aX Ra T.aA T.fP (eJ T) U.mo T.f9 .nil ar) ag)) (aJ (zo T) U.mo {_} T.Bz T.tX.kp T.BV .nil ar (ac (aX Qi T.aA T.fP (eJ T) U.mo T.f9 .nil ar) ag))<|ay _)<|gw<|io<|bV<|aJ (kM T) U.mo {_} T.wc T.nE.kp T.wf .nil ar (ac Ra<|ac Kc<|ac PB ag))
    (aB<|aD oB)
    aE)
   (bW (λx=>(fH Wm M (dO<|dC fu Ca (dN af)<|dN af) (Qu 9)
    x)) ?_))))))))))))
 refine aC (aM<|aJ (mf T) U.mo {_} T.vg T.pN.kp T.vk .nil ar (ac Kc<|ac M2<|ac pv9 ag)) ?_
 intros
 refine aj (aO (PW.pt<|gU (io<|bV<|aJ (zt T) U.mo {_} T.BC T.t7.kp T.BY .nil ar (ac Ra<|ac Kc<|ac PB<|ac af<|ac Pa ag))<|gw<|aw (Br U.u20) (aX Qi T.aA T.fQ (mX T) U.mo T.gb .nil ar) Rp<|ay _)
    (aB<|aD oB)
    aE)
   (aj (P7 10<|aX Qi T.aA T.sR (rE T) U.mo T.tF .nil ar)
   (aj (P7 11<|dP jB {_} T.wA qa (ac (aP bi pv10 af<|λ_ _=>M) ag))
   (aj (aM<|aQ Qi T.aA T.kP (fL T) U.mo T.kY .nil ar<|ac af ag)
   (aC (aD<|bG (E8 U.u20) (aP bi pv10 af<|λ_ _=>M) pv11<|ay _) ?_))))
 intros
 obtain⟨cs,d7,sb⟩:=Dn ns (some 3) (some 13);refine⟨_,M,_,M,_,M,sc,_,M,hS,λp1 d8=>?_⟩;rw[d7];have eu:cs.length<=63:=QQ sb.length_le cf;have cS:=(RD.of (F:=λ_=>False) hS λ_ _ z=>z).new (o:= .lst<|cs.map V.int) d8;have h1:upd H p1 (.lst<|cs.map V.int) p1=some (.lst<|cs.map V.int):=ai
 (try dsimp only)
 generalize upd H p1 (.lst<|cs.map V.int)=H1 at cS h1⊢;refine⟨p1,cs,M,h1,eu,λH2 r2 a d F x ds ax d9 da J l2 fa e2 o2=>?_⟩;have cS:=cS.fr (F':=Wh F d) (H':=H2) λb o _ e=>o2 b o e;refine⟨r2,_,M,PX.of da,M,_,_,M,_,_,M,M,?_⟩;clear hS h1 o2 d8 d7 sb da ax d9;obtain⟨c1,ev⟩:∃c:Int,ns.getD (1:Int).toNat 0=c:=⟨_,M⟩;obtain⟨c2,df⟩:∃c:Int,ns.getD (2:Int).toNat 0=c:=⟨_,M⟩;obtain⟨c0,ew⟩:∃c:Int,ns.getD (0:Int).toNat 0=c:=⟨_,M⟩;refine⟨_,M,sc,ns,1,M,cS.sq,(_),?_⟩;rw[ev];refine⟨_,M,d,_,x.st.kv.map (·.1),M,.inl J.di,Ak,λl ms nl pm pw=>?_⟩;have s3:=ak (o:= .lst<|ms.map V.int) nl;have h3:upd H2 l (.lst<|ms.map V.int) l=some (.lst<|ms.map V.int):=ai
 (try dsimp only)
 generalize upd H2 l (.lst<|ms.map V.int)=H3 at s3 h3⊢;refine⟨_,l,ms,M,h3,λk hk=>J.kb k<|pm.mem_iff.mp hk,?_⟩;intro H4 n av e s4 hn on ba be;obtain⟨kd,ey⟩:∃kd:Int,c1%3=kd:=⟨_,M⟩;rw[ey]at hn on;have cj:=s3.trans s4;have J4:=J.same cj;have ck:=cS.fr (Fr.of_same cj);clear s3 s4 h3 nl pm pw cS J;have z0:=QA c2 (show(30:Int)≠0 by decide);have z1:=Qx c2 (show(0:Int)<30 by decide);refine⟨_,M,sc,ns,2,M,ck.sq,(_),?_⟩;rw[df];refine⟨_,_,M,M,(by show(0:Int)<30;decide),_,_,M,M,?_⟩
 (try dsimp only)
 obtain⟨z,ez⟩:∃z,1+c2%30=z:=⟨_,M⟩;rw[ez];refine⟨_,M,_,M,n,kd,av,e,M,PX.of hn,on,λH5 p s5 np TK=>?_⟩;have J5:=J4.same s5;have cm:¬F p:=J4.A.out np;have dg:=ck.fr (Fr.of_same s5);have dh:=s5 _ _ hn;clear np s5 cj hn ck J4;refine λc dx nc dm f0=>?_;have bl:=bZ (ak (o:= .own c) dm) (o:= .ins t.aU dx []) nc;refine⟨c,dx,a,p,kd,av,e,.non,F,x,⟨.ref p,av,ds.length,[],none⟩,M,ai,J5.A.same bl,TK.same bl,on,⟨M,.inl ⟨M,M,M,by show ds.length=x.di.length;rw[J5.dy,Q0],M⟩⟩,λH6 dd C b6 kp=>⟨M,?_⟩⟩;have s6:Ds H5 H6:=λb o e=>kp b o (am e nc) (bl _ _ e);have bo:H5 dd=none:=dn bl b6;have S6:Pm K t H6 sc a d c p dd n F x ds ⟨.ref p,av,ds.length,[],none⟩ kd av e ns:=by
  refine⟨J5.same s6,C,λb hb=>?_,λz=>?_,s6 _ _ dh,Inv.begin,(dg.fr (F':=Ot F ⟨.ref p,av,ds.length,[],none⟩ c dd d) λb o nb eb=>⟨s6 _ _ eb,λz=>?_⟩)⟩
  .rcases hb with(rfl|rfl|⟨P,z,_⟩)|rfl|h|⟨P,z,_⟩
   .exact J5.A.out nc
   .exact J5.A.out bo
   .cases z
   .exact cm
   .cases h;exact cm
   .cases z
  .rcases z with z|z|⟨P,z,_⟩
   .rw[<-z,J5.di]at nc;cases nc
   .rw[<-z,J5.di]at bo;cases bo
   .cases z
  .rcases z with z|(z|z|⟨P,z,_⟩)|z
   .exact nb<|.inl z
   .rw[z,nc]at eb;cases eb
   .rw[z,bo]at eb;cases eb
   .cases z
   .exact nb (.inr z)
 clear kp s6 bl J5 TK dh dg cm b6 bo nc dm f0 C;have w0:=QA (c2/30) (show(4:Int)≠0 by decide);have w1:=Qx (c2/30) (show(0:Int)<4 by decide);refine⟨_,M,_,M,_,M,_,M,sc,ns,2,M,S6.cS.sq,(_),?_⟩;rw[df];refine⟨_,_,M,M,⟨(_),(_)⟩,_,_,M,M,(by show(0:Int)<4;decide),_,M,sc,a,d,c,p,dd,n,F,x,ds,_,kd,_,z,av,e,ns,M,S6,M,⟨λ_=>ba,λ_ z=>by cases z⟩,w0,(),(),(),(),λH7 F7 x7 f1 X7 S7 _ p7 b7 l7 m7 k7=>⟨_,M,cq ?_⟩⟩;clear S6;unfold nQ
 (try dsimp only)
 have f2:x7.st.kv.length<=300:=by rwa[k7]
 refine⟨_,M,_,M,_,M,_,M,sc,ns,0,M,S7.cS.sq,(_),?_⟩;rw[ew];refine⟨_,M,sc,a,d,c,p,dd,n,F7,x7,_,X7,kd,c0,z,av,e,ns,M,S7,p7,b7,(),(),(),f2,λH8 F8 x8 mo8 X8 S8 _ b8 l8 m8 k8=>?_⟩;clear S7 p7 b7;have q8:∃b9,b9=ds++f1++mo8:=⟨_,M⟩;obtain⟨b9,dp⟩:=q8;rw[<-dp]at S8;clear dp;obtain⟨dc,hc⟩:=S8.C.ob
 (try dsimp only)
 refine⟨_,M,c,dc,_,M,hc,{_},c,a,p,dd,kd,av,e,X8,M,S8.C,λH9 tp d0 s9 f4 b6 a4 a0=>?_⟩;have S9:=S8.same s9;have br:=S8.new b6;have dq:¬X8.adr c p dd d0:=λz=>by obtain⟨o,eo,_⟩:=S8.C.dom z;rw[b6]at eo;cases eo
 clear S8 hc f4 b6 s9
 (try dsimp only)
 refine⟨_,M,tp,_,_,_,M,M,PX.of a4,M,d0,_,M,a0,λd1 c9=>?_⟩;have bt:=ak (o:= .dK<|az X8.cp) c9;have co:upd H9 d1 (.dK<|az X8.cp) d1=some (.dK<|az X8.cp):=ai;have bb:=S9.new c9;have f5:d0≠d1:=am a0 c9
 (try dsimp only)
 generalize upd H9 d1 (.dK<|az X8.cp)=fb at bt co⊢;have ah:=S9.same bt;have a4:=bt _ _ a4;have a0:=bt _ _ a0;clear S9 bt c9;refine⟨_,M,_,M,n,kd,av,e,M,PX.of ah.hn,on,λcr p2 bv dr dt=>⟨_,M,?_⟩⟩;have a5:=ah.same bv;have cg:¬F8 p2:=ah.J.A.out dr;have a4:=bv _ _ a4;have a0:=bv _ _ a0;have ct:=bv _ _ co;clear ah dr bv co;refine λO dv aa ci dz=>?_;have an:=bZ (ak (o:= .own O) ci) (o:= .ins t.aU dv []) aa;refine⟨O,dv,a,p2,kd,av,e,.ref tp,F8,x8,{X8 with pg:=none},M,ai,a5.J.A.same an,dt.same an,on,⟨M,.inr ⟨tp,d0,M,an _ _ a4,an _ _ a0,a5.C.rt.same an⟩⟩,λH12 a1 C2 e0 e1=>⟨M,?_⟩⟩;have bc:Ds cr H12:=λb o e=>e1 b o (am e aa) (an _ _ e);have a2:cr a1=none:=dn an e0;have S1:=a5.same bc;have S2:Pm K t H12 sc a d O p2 a1 n F8 x8 b9 {X8 with pg:=none} kd av e ns:=by
  refine⟨S1.J,C2,λb hb=>?_,λz=>?_,S1.hn,S1.I.stop,(a5.cS.fr (F':=Ot F8 {X8 with pg:=none} O a1 d) λb o nb eb=>⟨bc _ _ eb,λz=>?_⟩)⟩
  .rcases hb with(rfl|rfl|⟨P,z,_⟩)|rfl|h|⟨P,z,_⟩
   .exact a5.J.A.out aa
   .exact a5.J.A.out a2
   .cases z
   .exact cg
   .exact S1.nF b<|.inr (.inr<|.inl h)
   .cases z
  .rcases z with z|z|⟨P,z,_⟩
   .rw[<-z,a5.J.di]at aa;cases aa
   .rw[<-z,a5.J.di]at a2;cases a2
   .cases z
  .rcases z with z|(z|z|⟨P,z,_⟩)|z
   .exact nb<|.inl z
   .rw[z,aa]at eb;cases eb
   .rw[z,a2]at eb;cases eb
   .cases z
   .exact nb<|.inr (.inr z)
 have bw:∀b o,cr b=some o->¬Ot F8 X8 c dd d b->¬Ot F8 {X8 with pg:=none} O a1 d b:=λb o eb nb z=>by
  rcases z with z|(z|z|⟨P,z,_⟩)|z
  .exact nb<|.inl z
  .rw[z,aa]at eb;cases eb
  .rw[z,a2]at eb;cases eb
  .cases z
  .exact nb<|.inr (.inr z)
 have br:=bw _ _ a0 br;have bb:=bw _ _ ct bb;have Z:RS t H12 c a p dd kd av e X8 (Ot F8 {X8 with pg:=none} O a1 d):=⟨S1.C,λb hb z=>by
  obtain⟨o,eb,_⟩:=a5.C.dom hb;rcases z with z|(z|z|⟨P,z,_⟩)|z
  .exact S1.nF b hb z
  .rw[z,aa]at eb;cases eb
  .rw[z,a2]at eb;cases eb
  .cases z
  .exact S1.C.nadr S1.J.di S1.nm<|z▸hb⟩
 have I1:=S1.I;have a4:=bc _ _ a4;have a0:=bc _ _ a0;have e4:=bc _ _ ct;clear S1 a5 C2 dt cg e0 e1 an bc a2 aa ci dz bw ct;have bX:Bd {X8 with pg:=none}:=⟨b8.1,λ_ z=>by cases z⟩;obtain⟨X2,b1⟩:∃X2:PH,X2={X8 with pg:=none}:=⟨_,M⟩;have e5:X2.cp=X8.cp:=by rw[b1]
 have en:X2.n=X8.n:=by rw[b1]
 have e6:X2.rv=X8.rv:=by rw[b1]
 have e8:X2.ra=X8.ra:=by rw[b1]
 have f6:X2.pg=none:=by rw[b1]
 rw[<-b1]at S2 Z br bb bX;clear b1
 (try dsimp only)
 refine⟨_,M,tp,_,_,_,M,M,PX.of a4,M,.inr<|.inr<|.inl ⟨M,.inl ⟨_,a0⟩⟩,d0,_,M,M,a0,?_⟩;have S3:=S2.wr (o:= .dK []) a0 br;have Z3:=Z.wr (o:= .dK []) a0 dq;have ca:upd H12 d0 (.dK []) d1=some (.dK<|az X8.cp):=by rwa[ae f5.symm]
 (try dsimp only)
 generalize upd H12 d0 (.dK [])=e9 at S3 Z3 ca⊢;clear S2 Z e4 a0 a4 br dq;have sf:=I1.self S3.J.D;obtain⟨bf,ab⟩:=S3.C.ob;refine⟨_,M,O,bf,_,M,ab,{_},O,a,p2,a1,kd,av,e,X2,M,S3.C,λr1 c3=>?_⟩;rw[e5];have G:=ak (o:= .dK<|az X8.cp) c3;have b2:upd e9 r1 (.dK<|az X8.cp) r1=some (.dK<|az X8.cp):=ai
 (try dsimp only)
 generalize upd e9 r1 (.dK<|az X8.cp)=ea at G b2⊢;refine⟨_,M,r1,d1,_,_,M,M,b2,G _ _ ca,M,sf,_,M,cq ?_⟩;have S4:=S3.same G;have Z4:=Z3.same G;have ec:=G _ _ ca;clear S3 Z3 ca b2 G c3 ab;obtain⟨bf,ab⟩:=S4.C.ob;refine⟨_,M,O,bf,_,M,ab,{_},O,a,p2,a1,kd,av,e,X2,M,S4.C,λr1 c3=>?_⟩;rw[e5];have G:=ak (o:= .dK<|az X8.cp) c3;have b2:upd ea r1 (.dK<|az X8.cp) r1=some (.dK<|az X8.cp):=ai
 (try dsimp only)
 generalize upd ea r1 (.dK<|az X8.cp)=ed at G b2⊢;have S5:=S4.same G;have Z5:=Z4.same G;have ee:=G _ _ ec;clear S4 Z4 ec G c3 ab;obtain⟨a3,Y⟩:=Z5.C.ob;refine⟨_,M,c,a3,_,M,Y,{_},c,a,p,dd,kd,av,e,X8,M,Z5.C,λr2 ax=>?_⟩;have G:=ak (o:= .dK<|az X8.cp) ax;have b3:upd ed r2 (.dK<|az X8.cp) r2=some (.dK<|az X8.cp):=ai
 (try dsimp only)
 generalize upd ed r2 (.dK<|az X8.cp)=fc at G b3⊢;refine⟨r1,r2,_,_,M,M,G _ _ b2,b3,M,sf,_,M,cq ?_⟩;have S6:=S5.same G;have Z6:=Z5.same G;have ef:=G _ _ ee;clear S5 Z5 ee G ax Y b2 b3;obtain⟨a3,Y⟩:=Z6.C.ob;obtain⟨bf,ab⟩:=S6.C.ob;refine⟨_,M,O,bf,_,M,ab,{_},O,a,p2,a1,kd,av,e,X2,M,S6.C,_,M,c,a3,_,M,Y,{_},c,a,p,dd,kd,av,e,X8,M,Z6.C,?_⟩;rw[en];refine⟨M,_,M,kT M ?_⟩;unfold nQ
 (try dsimp only)
 have eg:X8.rv≠ .non->RB X8.ra/\RB e:=λh=>⟨b8.1 h,be⟩;have dl:=S6.J.len;refine⟨_,M,O,bf,_,M,ab,{_},O,a,p2,a1,kd,av,e,X2,M,S6.C,X2.rv,X2.ra,e,kd,M,S6.C.rt,by rwa[e6,e8],λfe cb=>?_⟩;rw[e6,e8];have S7:=S6.same cb;have Z7:=Z6.same cb;have ei:=cb _ _ ef;clear S6 Z6 ef cb Y ab;obtain⟨a3,Y⟩:=Z7.C.ob;refine⟨_,M,c,a3,_,M,Y,{_},c,a,p,dd,kd,av,e,X8,M,Z7.C,X8.rv,X8.ra,e,kd,M,Z7.C.rt,eg,λff cc=>⟨M,_,M,kT M ?_⟩⟩;have S8:=S7.same cc;have Z8:=Z7.same cc;have ej:=cc _ _ ei;clear S7 Z7 ei cc Y;refine⟨_,M,_,M,_,M,O,a,p2,a1,n,kd,av,e,X2,F8,x8,b9,M,S8.C,S8.J.A,S8.J.dy,S8.I,S8.J.D,(),S8.hn,λek cd=>⟨_,M,cq ?_⟩⟩;unfold nQ
 (try dsimp only)
 have S9:=S8.same cd;have Z9:=Z8.same cd;have el:=cd _ _ ej;clear S8 Z8 ej cd;obtain⟨c5,em,eq⟩:=Dn ns (some 23) (some 28);refine⟨_,M,_,M,_,M,sc,_,M,S9.cS.sq,λp5 cy=>?_⟩;rw[em];have fg:c5.length<=63:=QQ eq.length_le cf;have s9:=ak (o:= .lst<|c5.map V.int) cy;have h9:upd ek p5 (.lst<|c5.map V.int) p5=some (.lst<|c5.map V.int):=ai;have n9:=S9.new cy
 (try dsimp only)
 generalize upd ek p5 (.lst<|c5.map V.int)=fi at s9 h9⊢;have ah:=S9.same s9;have cz:=Z9.same s9;have d2:=s9 _ _ el;clear S9 Z9 el s9 cy em eq;refine⟨p5,M,⟨_,Fz.of h9⟩,iW (K:=K) (a:=p5) (xs:=c5.map V.int) (λi B H'=>∃(F':Addr->Prop) (x':PM) (mo:List DR) (u:Option V),B=[some (.ref sc),some (.ref a),some (.ref d),some (.ref n),some (.int z),some (.ref c),some (.ref tp),some (.ref d1),some (.ref O),u,none,none]/\Pm K t H' sc a d O p2 a1 n F' x' (b9++mo) X2 kd av e ns/\RS t H' c a p dd kd av e X8 (Ot F' X2 O a1 d)/\H' d1=some (.dK<|az X8.cp)/\¬Ot F' X2 O a1 d d1/\x'.now<=x8.now+12*i/\x'.ma=x8.ma/\x'.st.kv.length<=300/\H' p5=some (.lst<|c5.map V.int)/\¬Ot F' X2 O a1 d p5) ⟨F8,x8,[],none,M,by rwa[ZB],cz,d2,bb,(),M,k8,h9,n9⟩ (λi B H' _ w=>by obtain⟨_,_,_,_,_,_,_,_,_,_,_,_,h,_⟩:=w;exact Fz.of h) (λi y B H' hy w=>?_)<|λB H' w=>?_⟩
 .clear ah cz d2 bb h9 n9;obtain⟨F',x',mo,u,rfl,S,Z,h1,o1,l1,m1,k1,h2,n2⟩:=w;have hi:=(Q1.mp hy).1;rw[Q0]at hi;obtain⟨y',_,rfl⟩:=Qy.mp (Q2 hy);unfold g7
  (try dsimp only)
  refine⟨_,M,_,M,_,M,a,d,_,F',x',_,300,M,S.J,(),k1,(_),(_),λH3 F3 x3 d5 J3 l3 m3 e3 f3=>?_⟩;obtain⟨S3,fo⟩:=S.go J3 f3;obtain⟨g1,g2⟩:=fo _ _ o1 h1;obtain⟨g3,g4⟩:=fo _ _ n2 h2;exact⟨F3,x3,mo++d5,_,M,by rwa[<-QE],Z.fr fo S.tu,g1,g2,(),m3.trans m1,e3,g3,g4⟩
 clear ah cz d2 bb h9 n9;obtain⟨F',x',mo,u,rfl,S,Z,h1,o1,l1,m1,k1,_,_⟩:=w;rw[Q0]at l1;refine⟨_,M,_,M,_,M,_,M,sc,a,d,O,p2,a1,n,F',x',_,X2,kd,9,z,av,e,ns,M,S,f6,bX,(_),(_),(),(),(),λH3 F3 x3 d5 X3 S3 f3 _ _ l3 m3 k3=>⟨_,M,cq ?_⟩⟩;have Z3:=Z.fr f3 S.tu;obtain⟨g1,g2⟩:=f3 _ _ o1 h1;clear S Z h1 o1 f3;obtain⟨a3,Y⟩:=Z3.C.ob
 (try dsimp only)
 refine⟨_,M,c,a3,_,M,Y,{_},c,a,p,dd,kd,av,e,X8,M,Z3.C,λr2 ax=>?_⟩;have G:=ak (o:= .dK<|az X8.cp) ax;have b3:upd H3 r2 (.dK<|az X8.cp) r2=some (.dK<|az X8.cp):=ai
 (try dsimp only)
 generalize upd H3 r2 (.dK<|az X8.cp)=H4 at G b3⊢;refine⟨_,M,r2,d1,_,_,M,M,b3,G _ _ g1,M,sf,_,M,cq ?_⟩;unfold nQ
 (try dsimp only)
 have S4:=S3.same G;have Z4:=Z3.same G;clear S3 Z3 g1 g2 G ax b3 Y;obtain⟨a3,Y⟩:=Z4.C.ob;refine⟨_,M,c,a3,_,M,Y,{_},c,a,p,dd,kd,av,e,X8,M,Z4.C,λH5 tq d3 s5 _ er c4 ce=>?_⟩;have f7:¬X8.mut c dd d3:=λz=>by obtain⟨o,eo,_⟩:=Z4.C.dom (.inl z);rw[er]at eo;cases eo
 have S5:=S4.same s5;have Z5:=Z4.same s5;clear S4 Z4 Y er s5
 (try dsimp only)
 refine⟨_,M,tq,_,_,_,M,M,PX.of c4,M,d3,_,M,ce,λd4 d6=>?_⟩;have f8:¬X8.mut c dd d4:=λz=>by obtain⟨o,eo,_⟩:=Z5.C.dom (.inl z);rw[d6]at eo;cases eo
 have s6:=ak (o:= .dK<|az X8.cp) d6;have h6:upd H5 d4 (.dK<|az X8.cp) d4=some (.dK<|az X8.cp):=ai
 (try dsimp only)
 generalize upd H5 d4 (.dK<|az X8.cp)=H6 at s6 h6⊢;have S6:=S5.same s6;have Z6:=Z5.same s6;have c4:=s6 _ _ c4;have ce:=s6 _ _ ce;clear S5 Z5 s6 d6;have dl:=S6.J.len;obtain⟨a3,Y⟩:=Z6.C.ob;have I6:Inv kd av e (b9++mo++d5) X8:=I1.more.more;refine⟨_,M,c,a3,_,M,Y,{_},c,a,p,dd,kd,2000,av,e,X8,F3,x3,_,M,Z6.C,S6.J.A,S6.J.dy,I6,S6.J.D,(),(_),λH7 X7 e7 C7 I7 k7=>?_⟩;have et:=k7 _ _ (Z6.C.nmut c4 (λ_ _ _ z=>by cases z) λ_ z=>by cases z) c4
 (try dsimp only)
 exact⟨_,M,tq,_,_,_,M,M,PX.of et,M,_,M,d3,d4,_,_,M,M,k7 _ _ f7 ce,k7 _ _ f8 h6,M,sf,q _⟩
end
end SW
namespace ZK
open PySem PySem.W SW L2
def fM {P:Params} {x qual:Str} {st:Stmt} {a:Addr} {kV G I z ct:Value} {O:Option Addr} (l:(K P).lookup a=some (f<|D x qual st N kV G I O z ct):=by kernel_rfl) (c:codeIn (K P) z qual=true:=by kernel_rfl) (k:keepIn (K P) (.ref a)=true:=by kernel_rfl):PD (K P) x qual st a (D x qual st N kV G I O z ct):=Nw l c k
def nA {P:Params} {C:Addr} {x:Str} (h:findIn (K P) (.ref C) x=some none:=by kernel_rfl):Fy (K P) C x:=h
def fT {P:Params} {x qual:Str} {st:Stmt} {a b:Addr} {kV G I z ct:Value} {O:Option Addr} (l:(K P).lookup a=some (f<|D x qual st (R b) kV G I O z ct):=by kernel_rfl) (c:codeIn (K P) z qual=true:=by kernel_rfl) (k:keepIn (K P) (.ref a)=true:=by kernel_rfl):NR (K P) x qual st b a (D x qual st (R b) kV G I O z ct):=Fo l c k
def fU {P:Params} {x qual:Str} {st:Stmt} {a b:Addr} {kV G I z ct:Value} {O:Option Addr} (l:(K P).lookup a=some (f<|D x qual st (R b) kV G I O z ct):=by kernel_rfl) (c:codeIn (K P) z qual=true:=by kernel_rfl) (k:keepIn (K P) (.ref a)=true:=by kernel_rfl):Qq (K P) x qual st a (D x qual st (R b) kV G I O z ct):=(Fo l c k).1
def NO {P:Params}:(K P).lookup 233=some ⟨(T "tuple"),none,.seq #[(.int 0 479),(.int 65536 480)] 0, #[]⟩:=by kernel_rfl
def NN {P:Params}:(K P).lookup 260=some ⟨(T "tuple"),none,.seq #[(.int 0 514),N] 0, #[]⟩:=by kernel_rfl
def NM {P:Params}:(K P).lookup 287=some ⟨(T "tuple"),none,.seq #[N,(.int 0 548)] 0, #[]⟩:=by kernel_rfl
def NL {P:Params}:(K P).lookup 307=some ⟨(T "tuple"),none,.seq #[(.int 10 574),N] 0, #[]⟩:=by kernel_rfl
def T407 {P:Params}:(K P).lookup 407=some ⟨(T "tuple"),none,.seq #[N] 0, #[]⟩:=by kernel_rfl
def T422 {P:Params}:(K P).lookup 422=some ⟨(T "tuple"),none,.seq #[(.int 10 730)] 0, #[]⟩:=by kernel_rfl
def T815 {P:Params}:(K P).lookup 815=some ⟨(T "tuple"),none,.seq #[(.int 0 1241)] 0, #[]⟩:=by kernel_rfl
end ZK
namespace SW
open PySem L2
set_option maxHeartbeats 0
variable {α:Type} {YP:World->Heap->Prop}
def SD {us:List α} (hl:us.length=1):∃z,us=[z]:=by rcases us with _|⟨z,_|⟨y,t⟩⟩<;>first|exact⟨_,M⟩|simp at hl
def Rn {us:List α} (hl:us.length=2):∃z G,us=[z,G]:=by rcases us with _|⟨z,_|⟨G,_|⟨y,t⟩⟩⟩<;>first|exact⟨_,_,M⟩|simp at hl
def Rx {us:List α} (hl:us.length=3):∃z G I,us=[z,G,I]:=by rcases us with _|⟨z,_|⟨G,_|⟨I,_|⟨y,t⟩⟩⟩⟩<;>first|exact⟨_,_,_,M⟩|simp at hl
def us4 {us:List α} (hl:us.length=4):∃z G I O,us=[z,G,I,O]:=by rcases us with _|⟨z,_|⟨G,_|⟨I,_|⟨O,_|⟨y,t⟩⟩⟩⟩⟩<;>first|exact⟨_,_,_,_,M⟩|simp at hl
def us5 {us:List α} (hl:us.length=5):∃z G I O U,us=[z,G,I,O,U]:=by rcases us with _|⟨z,_|⟨G,_|⟨I,_|⟨O,_|⟨U,_|⟨y,t⟩⟩⟩⟩⟩⟩<;>first|exact⟨_,_,_,_,_,M⟩|simp at hl
open ZK in
def txt {P:Params} {h:Heap} {mg:Str->Option Value} (X:(ZK.K P).In h) (G:h.Ns mainGlobals mg):Txt (ZK.K P) mg ZK.t:=by
 constructor
 case g_BITS=>exact⟨348,Xi X G<|by kernel_rfl⟩
 case g_PLACES=>exact⟨350,Xi X G<|by kernel_rfl⟩
 case g_STRETCHES_A_KEY=>exact⟨572,Xi X G<|by kernel_rfl⟩
 case g_MOST_IN_LEAF=>exact⟨836,Xi X G<|by kernel_rfl⟩
 case g_LEAST_IN_TWO=>exact⟨838,Xi X G<|by kernel_rfl⟩
 case g_LEAST_SIZE=>exact⟨1012,Xi X G<|by kernel_rfl⟩
 case g_GREATEST_SIZE=>exact⟨1014,Xi X G<|by kernel_rfl⟩
 all_goals first
  |exact ZK.fM
  |exact⟨(by kernel_rfl),(by kernel_rfl),(by kernel_rfl)⟩
  |exact Xi X G<|by kernel_rfl
  |exact .all λus hl=>by obtain⟨_,_,rfl⟩:=Rn hl;rfl
  |exact ZK.nA
  |exact .all λus hl=>by obtain⟨_,rfl⟩:=SD hl;rfl
  |exact⟨(by kernel_rfl),(by kernel_rfl),(by kernel_rfl),(by kernel_rfl)⟩
  |exact IQ (by kernel_rfl) (by kernel_rfl) (by kernel_rfl)<|λz=>Wb z (_)
  |exact .all λus hl=>by obtain⟨_,_,_,rfl⟩:=Rx hl;rfl
  |exact PySem.W.mg_none_of X G<|by kernel_rfl
  |exact ZK.fU
  |exact⟨⟨_,_,_,_,_,_,_,_,_,_,_,_,_,_,{_}⟩,⟨[ZK.t.cz],M⟩,(by kernel_rfl),(by kernel_rfl),(by kernel_rfl),(by kernel_rfl)⟩
  |exact .all λus hl=>by obtain⟨_,_,_,_,_,rfl⟩:=us5 hl;rfl
  |exact IQ (by kernel_rfl) (by kernel_rfl) (by kernel_rfl)<|λ_=>M
  |exact .all λus hl=>by obtain⟨_,_,_,_,rfl⟩:=us4 hl;rfl
  |exact c6 (ds:=[]) 2 M (fT (a:=429)) T422 λ_ _ _ _ _ _ us hl=>by obtain⟨_,_,rfl⟩:=Rn hl;exact⟨_,M,M⟩
  |exact c6 (ds:=[]) 2 M (fT (a:=822)) T815 λ_ _ _ _ _ _ us hl=>by obtain⟨_,_,rfl⟩:=Rn hl;exact⟨_,M,M⟩
  |exact c6 (ds:=[]) 3 M (fT (a:=240)) NO λ_ _ _ _ _ _ us hl=>by obtain⟨_,_,_,rfl⟩:=Rx hl;exact⟨_,M,M⟩
  |exact c6 (ds:=[]) 3 M (fT (a:=267)) NN λ_ _ _ _ _ _ us hl=>by obtain⟨_,_,_,rfl⟩:=Rx hl;exact⟨_,M,M⟩
  |exact c6 (ds:=[]) 3 M (fT (a:=294)) NM λ_ _ _ _ _ _ us hl=>by obtain⟨_,_,_,rfl⟩:=Rx hl;exact⟨_,M,M⟩
  |exact c6 (ds:=[]) 4 M (fT (a:=312)) NL λ_ _ _ _ _ _ us hl=>by obtain⟨_,_,_,_,rfl⟩:=us4 hl;exact⟨_,M,M⟩
  |exact c6 (ds:=[]) 4 M (fT (a:=414)) T407 λ_ _ _ _ _ _ us hl=>by obtain⟨_,_,_,_,rfl⟩:=us4 hl;exact⟨_,M,M⟩
  |exact⟨_,c6 (ds:=[(.int 0 1241)]) 1 M (fT (a:=822)) T815 λ_ _ _ _ _ _ us hl=>by obtain⟨_,rfl⟩:=SD hl;exact⟨_,M,M⟩,(.cons ⟨_,M⟩ .nil)⟩
  |exact⟨_,c6 (ds:=[(.int 0 479),(.int 65536 480)]) 1 M (fT (a:=240)) NO λ_ _ _ _ _ _ us hl=>by obtain⟨_,rfl⟩:=SD hl;exact⟨_,M,M⟩,(.cons ⟨_,M⟩<|.cons ⟨_,M⟩ .nil)⟩
  |exact⟨_,c6 (ds:=[(.int 0 514),N]) 1 M (fT (a:=267)) NN λ_ _ _ _ _ _ us hl=>by obtain⟨_,rfl⟩:=SD hl;exact⟨_,M,M⟩,(.cons ⟨_,M⟩<|.cons M .nil)⟩
  |exact⟨_,c6 (ds:=[(.int 0 548)]) 2 M (fT (a:=294)) NM λ_ _ _ _ _ _ us hl=>by obtain⟨_,_,rfl⟩:=Rn hl;exact⟨_,M,M⟩,(.cons ⟨_,M⟩ .nil)⟩
  |exact⟨_,c6 (ds:=[(.int 10 574),N]) 2 M (fT (a:=312)) NL λ_ _ _ _ _ _ us hl=>by obtain⟨_,_,rfl⟩:=Rn hl;exact⟨_,M,M⟩,(.cons ⟨_,M⟩<|.cons M .nil)⟩
  |exact⟨_,c6 (ds:=[(.int 10 730)]) 1 M (fT (a:=429)) T422 λ_ _ _ _ _ _ us hl=>by obtain⟨_,rfl⟩:=SD hl;exact⟨_,M,M⟩,(.cons ⟨_,M⟩ .nil)⟩
  |exact⟨_,c6 (ds:=[(.int 65536 480)]) 2 M (fT (a:=240)) NO λ_ _ _ _ _ _ us hl=>by obtain⟨_,_,rfl⟩:=Rn hl;exact⟨_,M,M⟩,(.cons ⟨_,M⟩ .nil)⟩
  |exact⟨_,c6 (ds:=[N,(.int 0 548)]) 1 M (fT (a:=294)) NM λ_ _ _ _ _ _ us hl=>by obtain⟨_,rfl⟩:=SD hl;exact⟨_,M,M⟩,(.cons M<|.cons ⟨_,M⟩ .nil)⟩
  |exact⟨_,c6 (ds:=[N]) 2 M (fT (a:=267)) NN λ_ _ _ _ _ _ us hl=>by obtain⟨_,_,rfl⟩:=Rn hl;exact⟨_,M,M⟩,(.cons M .nil)⟩
  |exact⟨_,c6 (ds:=[N]) 3 M (fT (a:=312)) NL λ_ _ _ _ _ _ us hl=>by obtain⟨_,_,_,rfl⟩:=Rx hl;exact⟨_,M,M⟩,(.cons M .nil)⟩
  |exact⟨_,c6 (ds:=[N]) 3 M (fT (a:=414)) T407 λ_ _ _ _ _ _ us hl=>by obtain⟨_,_,_,rfl⟩:=Rx hl;exact⟨_,M,M⟩,(.cons M .nil)⟩
  |exact⟨⟨_,_,_,_,_,_,_,_,_,_,_,_,_,_,{_}⟩,⟨[],M⟩,(by kernel_rfl),(by kernel_rfl),(by kernel_rfl),(by kernel_rfl)⟩
def walk {l:PySem.W.OpenLaw} {q:Program} {loose:List Str} {XP:(Str->Option Value)->Heap->Prop} {d:DefRec} {K:Params->WN} (U:l.most=some 63) (I:d.params.defaults=[])
  (Y:∀(w:World) (h:Heap),YP w h->(K w.params).In h) (hd:d.name="law")
  (F:∀(w:World) (mg:Str->Option Value) (h:Heap),(K w.params).In h->h.Ns mainGlobals mg->∃t,Txt (K w.params) mg t):
  PySem.W.WalkO q loose XP YP l.row.toRowW d [] (λf vs=>PySem.call f vs):=by
 refine L2.walk_of (n:=63) (k:=12) (x:="_law_script") (CX:=λ_=>P1) (sp:=λw=>HK<|K w.params) U (_) I ⟨M,(_),(_)⟩ Y (λw mg fa h Z G O=>?_) (λ_ _ a ns hl _ hS=>⟨a,ns,M,hS,hl,λ_=>M⟩) λ_ _ _ _ _ z=>z;obtain⟨t,T⟩:=F w mg h Z G;have e:=O.symm.trans ((Wr mg hd).trans T.O0);cases e;obtain⟨oc,od,kV,a0,pm,an,a1,ct,a2,e1,lk,a3⟩:=T.OU.ex;refine⟨t.Fx,λs u=>?_,λbase _ _=>M7 T⟩;rw[e1];exact .of_eq M
end SW
open PySem PySem.W PyProof.Rows
set_option maxRecDepth 100000 in
set_option maxHeartbeats 0 in
theorem PySem.Challenge.cw_staywalk_k55_stopped_and_gone_on_holds : PySem.Challenge.rw_staywalk_k55_stopped_and_gone_on.Holds := by
 w_on
 refine holds_law ZK.said λsaid=>?_;refine holds_open (q:=ZK.q) (loose:=["BySlots","Up","Down","ask"]) (Xt:=λs=>xlAt ZK.q [] s&&recOk (RowW.records<|OpenRow.toRowW<|OpenLaw.row PySem.Challenge.rw_staywalk_k55_stopped_and_gone_on) s) (XP:=XL ZK.q []) (Yf:=Hook.obs ZK.H) (Ya:=Hook.val ZK.H) (YP:=Hook.says ZK.H) ZK.left (Hook.of ZK.H) (Hook.keeps ZK.H) (λs e=>xl_of s (Ze.mp e).1) XL.keeps {_} {_} {_} (λs e=>recFacts_of (Ze.mp e).2) {_} (by first|assumption|decide+kernel) ∅ ⟨M,M,M,M,M,∅⟩ ?hw ?hc
 (case hw=>w_witness2)
 exact SW.walk (l:=PySem.Challenge.rw_staywalk_k55_stopped_and_gone_on) M M (λw h Y=>kIn_of Y) M λw mg h KX G=>⟨_,SW.txt KX G⟩
#print axioms PySem.Challenge.cw_staywalk_k55_stopped_and_gone_on_holds
